import PyProof.Rows.All
import Wide.All
import OpenK.AllK
import Wide.FinOn
import HandS.Conv
import HandS.Deep
import HandS.DictComp
import HandS.DictTup
import HandS.Evl
import HandS.ExcInit
import HandS.FStr
import HandS.ForExc
import HandS.ForMost
import HandS.HeadHook3
import HandS.IsInst
import HandS.Iter
import HandS.ListItems
import HandS.More
import HandS.Nested
import HandS.RaiseMore
import HandS.SortInts
import HandS.SortRule
import HandS.Star
import HandS.StrMore
import HandS.Style
import HandS.Text
import HandS.TryMany
import HandS.TryOnly
import HandS.TupAny
import HandS.TupLen
import HandS.TupSets
import HandS.Walk
import HandS.WideBits
import HandS.WrittenGet
import KE.KDictList
import KE.KDictWalk
import KE.KDictZip
import KE.KExcSuper
import KE.KIntText
import KE.KSuper
import KE.KTurns
import PyProof.ReprRoads
import PyProof.Rows.ChunkEnd
import PyProof.StrOps2
import PySem.Challenge.RW_keptbywitness_k45_events_written_and_rea
set_option Elab.async false
set_option linter.all false
set_option maxRecDepth 100000
/-! G: a def's promise for calls under which no repr is under way; repr of data; the end of a row by such a promise. -/
namespace Gd
open PySem PySem.Spec PyProof.Rows L2

/-- like FnOk, for the arounds in which no guarded builtin runs -/
structure FnG (P : Program) (w : World) (K : PySem.W.Frag) (mg : Str → Option Value) (base : Heap) (k : Nat)
    (f : Addr) (fd : FuncData) (ps : List Str) (sp : Sp) : Prop where
  len : ∀ vs H Q E, sp vs H Q E → vs.length = ps.length
  run : ∀ (A : Around) (out : List Env) (s : Shared) (H : Hp) (ar : Args) (us : List Value) (vs : List V) (Q : VK) (E : XK),
    A.guards = some [] → Room k A → Env0 P w K mg base A out s H → BindsTo s fd ar (ps.zip us) → Vals vs us → sp vs H Q E →
    codeAny (model P w) A (.call (.ref f) ar) (CR CX0 out P w H s Q E) s

theorem FnG.of {P : Program} {w : World} {K : PySem.W.Frag} {mg : Str → Option Value} {base : Heap} {k : Nat}
    {f : Addr} {fd : FuncData} {ps : List Str} {sp : Sp} (F : FnOk P w K mg base CX0 k f fd ps sp) : FnG P w K mg base k f fd ps sp :=
  ⟨F.len, fun A out s H ar us vs Q E _ r e b v h => F.run A out s H ar us vs Q E r e b v h⟩

section
variable {X : Cx} {k : Nat} {f : Addr} {fd : FuncData} {ps : List Str} {sp : Sp} {dvs : List V} {ds : List Value} {E : XK} {x : Str}
  {p pos : Pos} {e : Expr} {es : List Expr} {t : TA}

theorem runG {pins : List (Addr × Obj)} {σ : L2.St} {H : Hp} {s : Shared} {Q : VK} {us : List Value} {vs : List V}
    (F : FnG X.prog X.w X.K X.mg X.base k f fd ps sp) (hgd : X.A.guards = some []) (hr : Room k X.A) (hb : Binds X.K fd ps ds) (hd : Vals dvs ds)
    (I : Inv X pins σ H s) (r : Vals vs us) (h : sp (vs ++ dvs) H Q E) :
    wpAny (model X.prog X.w) X.A (call (.ref f) us) (EP X pins σ Q) X.xe s := by
  have rr : Vals (vs ++ dvs) (us ++ ds) := r.append hd
  have ln : (us ++ ds).length = ps.length := rr.length.symm.trans (F.len _ _ _ _ h)
  have c := F.run X.A X.stack s H ⟨us, []⟩ (us ++ ds) (vs ++ dvs) Q E hgd hr I.env0 (hb s us I.kIn ln) rr h
  refine wpAny_call (codeAny_mono c ?_)
  intro res s' hq
  match res, hq with
  | .error _, hq => exact False.elim hq
  | .ok (.ret u), hq => exact I.after hq
  | .ok .next, hq => exact False.elim hq
  | .ok .brk, hq => exact False.elim hq
  | .ok .cont, hq => exact False.elim hq

theorem pe_callG (F : FnG X.prog X.w X.K X.mg X.base k f fd ps sp) (hgd : X.A.guards = some []) (hr : Room k X.A) (hg : Gl X x)
    (hm : X.mg x = some (.ref f)) (hk : PySem.W.keepIn X.K (.ref f) = true) (hb : Binds X.K fd ps ds) (hd : Vals dvs ds)
    (ha : PA X (e :: es) t) (hdb : (x == ("__debug__" : Str)) = false := by decide)
    (hse : starEach (e :: es) X.env = (false, eval e X.env) :: starEach es X.env := by rfl)
    (hpl : (backTo pos (starEach es X.env)).any (·.1) = false := by rfl) :
    PE X (.Call (.Name x p) (e :: es) [] pos) (tCall sp dvs (fun _ _ _ => False) t) := by
  constructor
  intro pins s σ H Q I h
  refine wpAny_Call_Name_kw (ld_glob I hg hm (PySem.W.callWith_K (h₀ := X.base) I.ok.mod.kin hk ?_ hse hpl) hdb)
  exact thn (ha.run pos pins s σ H _ I h) fun us s1 ⟨vs, H1, J, r, q⟩ => ⟨J.kIn, runG F hgd hr hb hd J r q⟩
end

theorem fn_G {P : Program} {w : World} {K : PySem.W.Frag} {mg : Str → Option Value} {base : Heap} {k : Nat} {f : Addr} {nm qual : Str} {st : Stmt} {fd : FuncData}
    {N ps : List Str} {sp : Sp} (F : Fun K nm qual st f fd) (S : FnScope N ps (defScope st)) (len : ∀ vs H Q E, sp vs H Q E → vs.length = ps.length)
    (body : ∀ (cdv : Value) (A : Around) (out : List Env) (s : Shared) (H : Hp) (vs : List V) (Q : VK) (E : XK), A.guards = some [] →
      Room k (A.deeper (envOfC qual (defScope st) s.heap.objs.size f cdv)) → sp vs H Q E →
      ∃ t, PSs (cxOf CX0 P w K mg base N qual (defScope st) f cdv A out s H E).nox (defBody st) t ∧ t { nx := fun _ H' => Q .non H', rt := Q } (start N vs) H) :
    FnG P w K mg base (k + 1) f fd ps sp := by
  obtain ⟨oc, od, kV, doc, pm, an, cdv, ct, osl, rfl, lk, hcd⟩ := F.ex
  refine ⟨len, ?_⟩
  intro A out s H ar us vs Q E hgd hr e0 hb r hsp
  have kin : K.In s.heap := e0.mod.kin.keeps fun b o z => (e0.bs b o z).1
  have lim : s.heap.NoLimit := e0.mod.nolimit.keeps fun b o z => (e0.bs b o z).1
  have kinds : ∀ y ∈ ps.zip us, (defScope st).names.lookup y.1 = some .local ∨
      ((defScope st).names.lookup y.1 = some .cell ∧ ((cellsFrom (s.heap.objs.size + 1) (defScope st).names []).lookup y.1).isSome = true) := by
    rintro ⟨n, v⟩ hy
    exact (S.par n (List.of_mem_zip hy).1).imp id fun q => ⟨q, PySem.W.cellsFrom_some _ _ _ (.inl q)⟩
  refine codeAny_call_function hr.depth (kin _ _ lk) rfl S.co S.gen rfl (PySem.W.codeRec_of kin hcd) (hb _ _ _ _ ?_)
  refine wpAny_newFunctionEnv_cells S.kind kinds ?_
  intro env he s1 x
  subst he
  refine ⟨lim.keeps x.toInCall.keep, codeAny_func ?_⟩
  obtain ⟨t, ht, hq⟩ := body cdv A out s H vs Q E hgd (hr.deeper _) hsp
  have I := inv_start (CX := CX0) (qual := qual) (f := f) (cd := cdv) (E := E) (w := w) S hr.hd e0 (len _ _ _ _ hsp) r x
  refine wpAny_mono (ht.nox.run [] s1 (start N vs) H _ I hq) ?_ fun _ _ z => z
  intro fl s' hs
  have fin : ∀ {σ' : L2.St} {H' : Hp} {v : V} {u : Value}, Inv (cxOf CX0 P w K mg base N qual (defScope st) f cdv A out s H E) [] σ' H' s' →
      RelV v u → Q v H' → CE out P w H s Q u s' := fun J rv q => ⟨_, _, J.os, J.bare, J.base, J.hok, rv, q⟩
  match fl, hs with
  | .ret u, ⟨v, σ', H', J, rv, q⟩ => exact fin J rv q
  | .next, ⟨σ', H', J, q⟩ => exact fin (v := V.non) (u := Value.none) J rfl q
  | .brk, ⟨_, _, _, q⟩ => exact False.elim q
  | .cont, ⟨_, _, _, q⟩ => exact False.elim q

/-! ### repr of data -/
def rRepr (K : PySem.W.Frag) : List V → Hp → VK → Prop := fun xs H Q => ∃ (a : Addr) (d : PyData), xs = [.ref a] ∧ Dp K H (.ref a) d ∧
  d.showable = true ∧ d.hasDict = false ∧ d.depth ≤ 60 ∧ d.shown.length ≤ sizeLine ∧ Q (.str d.shown) H
theorem call_reprG {X : Cx} (hgd : X.A.guards = some []) (hu : X.A.units + 64 < cLine) : CallR X (.builtin "repr") (rRepr X.K) := by
  intro pins s σ H xs us Q I r h
  obtain ⟨a, d, rfl, hD, hs, hn, hdp, hz, q⟩ := h
  obtain ⟨u, rfl, rx⟩ := vals1 r
  obtain rfl : u = Value.ref a := rx
  obtain ⟨as, rd⟩ := Dp.reads I d (.ref a) (.ref a) hD rfl
  refine repr_of_reads' rd hs (fun z => ?_) hgd (by omega) (fun _ _ z => z) (fun h' v tk keep => ?_) hz
  · rw [hn] at z
    cases z
  · exact ⟨.str d.shown, H, I.kept keep, ⟨_, rfl⟩, q⟩

/-! ### l.extend(t), t a tuple -/
def rExtT (K : PySem.W.Frag) : V → List V → Hp → VK → Prop := fun x vs H Q => ∃ (l b : Addr) (xs zs : List V), x = .ref l ∧ vs = [.ref b] ∧
  H l = some (.lst xs) ∧ SqT K H b zs ∧ xs.length + zs.length ≤ sizeLine ∧ Q .non (upd H l (.lst (xs ++ zs)))
theorem ext_meets (l : Addr) (its : Array Value) (n : Nat) (b : Addr) (more : Array Value) (m : Nat) (dd : Option Addr) (sl : Array (Option Value))
    (h0 : ¬(!its.isEmpty && Builtin.List.listTooLong (its.size + more.size)) = true) (h1 : its.size ≤ sizeLine) (h2 : its.size + more.size ≤ sizeLine + 1) :
    Meets (Builtin.«list.extend» ⟨[.ref l, .ref b], []⟩) (fun _ R s =>
      s.heap.get? l = some { cls := .type "list", dict := none, data := .seq its n, slots := #[] } ∧
      s.heap.get? b = some { cls := .type "tuple", dict := dd, data := .seq more m, slots := sl } ∧
      R (.ok (.ret Value.none)) { s with heap := s.heap.update l (Obj.mapSeq fun x => x ++ more), toks := s.toks }) := by
  refine .of_wp fun prog w A R s h => ?_
  obtain ⟨hp, g, d, tk, os⟩ := s
  obtain ⟨hl, hb, h⟩ := h
  have f1 := AutoSeq1.idx_int
  have f2 := AutoSeq1.sub_tuple_tuple
  have f3 := AutoSeq1.sub_list_list
  have f4 := AutoSeq1.sub_tuple_list
  have f5 := AutoSeq1.sub_list_tuple
  have hz : (its ++ more).size ≤ sizeLine + 1 := by
    rw [Array.size_append]
    exact h2
  wp_walk using (wpAny_updateSeq hl rfl (hz := h1) (_hz' := hz)), AutoSeq1.wpAny_loadPart' hl, AutoSeq1.wpAny_loadPart' hb
  exact ⟨_, rfl, h⟩
theorem mt_extT {X : Cx} : MtM X "list.extend" (rExtT X.K) := by
  intro pins s σ H x vs v us Q I rx rv h
  obtain ⟨l, b, xs, zs, rfl, rfl, hH, hB, hz, q⟩ := h
  cases rx
  obtain ⟨u, rfl, ru⟩ := rv.one
  cases ru
  obtain ⟨z, its, n, r, hl, e⟩ := I.lstM hH
  obtain ⟨its2, r2, ⟨o, e2, hc, m, hd⟩, z2⟩ := I.tuple hB
  have l2 := r2.length
  obtain ⟨cls, dd, dat, sl⟩ := o
  cases hc
  cases hd
  have sz : its.toArray.size + its2.toArray.size ≤ sizeLine := by
    rw [List.size_toArray, List.size_toArray]
    omega
  refine call_meets F.slot_list_extend ⟨_, e, rfl⟩ F.entry_list_extend (F.args_list_extend_2 _ _)
    (ext_meets l its.toArray n b its2.toArray m dd sl (by rw [notLongL sz, Bool.and_false]; exact Bool.false_ne_true) (by omega) (by omega)) ⟨e, e2, ?_⟩
  refine ⟨.non, _, I.lset (its' := its ++ its2) hH e (by simp) (r.append r2) ?_, rfl, q⟩
  rw [List.length_append]
  omega

/-! ### the end of a row -/
section
variable {P : Program} {w : World} {K : PySem.W.Frag} {mg mb : Str → Option Value} {k : Nat} {fa a : Addr} {fd : FuncData} {x : Str} {sp : Sp} {s1 : Shared}
  {vs : List Value} {ns : List Int} {H : Hp}

theorem coreG (KX : K.In s1.heap) (hns : s1.heap.Ns mainGlobals mg) (hb : s1.heap.Ns builtinsNs mb) (hbb : ∀ x : Str, x ≠ "__name__" → mb x = bootBuiltins x)
    (hlim : s1.heap.NoLimit) (hg : s1.gens = #[]) (ha : s1.heap.get? a = some { cls := .type "list", data := .seq vs.toArray }) (hr : Room k callerA)
    (F : ∀ base : Heap, K.In base → base.Ns mainGlobals mg → FnG P w K mg base k fa fd [x] sp)
    (hbind : ∀ (s : Shared) (u : Value), BindsTo s fd ⟨[u], []⟩ [(x, u)])
    (hO : Only H) (hok : HOk P w H s1.heap) (one : ∀ b, H b ≠ none → b = a) (apart : H a ≠ none → K.lookup a = none)
    (hsp : sp [.ref a] H (fun v _ => v = .bl true) fun _ _ _ => False) :
    codeAny (model P w) callerA (.call (.ref fa) ⟨[.ref a], []⟩)
      (fun r s' => r = .ok (.ret (.bool true)) ∧ OldK s1.heap s'.heap ∧ s'.os = s1.os ∧ AllBare s'.gens) s1 := by
  have un : ∀ {b : Addr} {o : Obj}, s1.heap.get? b = some o → (b = a → False) → H b = none := fun {b o} _ h => by
    cases q : H b with
    | none => rfl
    | some u => exact (h (one b (by rw [q]; exact fun z => nomatch z))).elim
  have nd : ∀ {b : Addr} {o : Obj} {es : Array DictEntry} {ep : Nat}, s1.heap.get? b = some o → o.data = .dict es ep → H b = none := fun {b o es ep} e d =>
    un e fun z => by
      subst z
      rw [ha] at e
      cases e
      exact nomatch (d : Data.seq vs.toArray _ = Data.dict es ep)
  have ns' : ∀ {b : Addr} {m : Str → Option Value}, s1.heap.Ns b m → (hidT s1.heap H).Ns b m := fun {b m} h => by
    obtain ⟨o, es, ep, e, d, r⟩ := h
    exact ⟨o, es, ep, hidT_get e (nd e d), d, r⟩
  have kin : K.In (hidT s1.heap H) := fun b o e => by
    refine hidT_get (KX b o e) ?_
    cases q : H b with
    | none => rfl
    | some u =>
      have eb : b = a := one b (by rw [q]; exact fun z => nomatch z)
      subst eb
      have z := apart (by rw [q]; exact fun z => nomatch z)
      rw [z] at e
      cases e
  obtain ⟨mc, l1, l2⟩ := hlim
  have hM : Mod K mg (hidT s1.heap H) := ⟨kin, ns' hns, ⟨mb, ns' hb, hbb⟩, ⟨mc, ns' l1, l2⟩⟩
  have e0 : Env0 P w K mg (hidT s1.heap H) callerA [] s1 H :=
    { frames := rfl, mod := hM, bs := fun b o z => of_hidT z, bsz := Nat.le_of_eq (hidT_size _ _), funs := trivial, frf := fun b z => (List.not_mem_nil (show b ∈ ([] : List Addr) from z)).elim, hok := hok, bare := .of_eq hg }
  have run := (F _ kin (ns' hns)).run callerA [] s1 H ⟨[.ref a], []⟩ [.ref a] [.ref a] _ _ rfl hr e0 (hbind s1 (.ref a)) (.cons rfl .nil) hsp
  refine codeAny_mono run fun r s' h => ?_
  match r, h with
  | .error _, h => exact False.elim h
  | .ok .next, h => exact False.elim h
  | .ok .brk, h => exact False.elim h
  | .ok .cont, h => exact False.elim h
  | .ok (.ret u), ⟨v, H', os, bare, u2, hok', r', q⟩ =>
    obtain rfl : v = .bl true := q
    obtain rfl : u = Value.bool true := r'
    refine ⟨rfl, OldK.of_keep fun b o e => ?_, os, bare⟩
    cases q : H b with
    | none => exact u2.keep b o e q (fun z => nomatch z) (fun z => nomatch z)
    | some y =>
      rcases hO b with z | ⟨ob, xs, z⟩
      · rw [q] at z
        cases z
      · obtain ⟨e1, _⟩ := hok b _ z
        obtain ⟨e2, _⟩ := hok' b _ (u2.frzs b ob _ z)
        rw [e] at e1
        cases e1
        exact e2

theorem lawG (KX : K.In s1.heap) (hns : s1.heap.Ns mainGlobals mg) (hb : s1.heap.Ns builtinsNs mb) (hbb : ∀ x : Str, x ≠ "__name__" → mb x = bootBuiltins x)
    (hlim : s1.heap.NoLimit) (hg : s1.gens = #[]) (ha : s1.heap.get? a = some { cls := .type "list", data := .seq vs.toArray }) (hi : IntsAre vs ns)
    (hl : ns.length ≤ sizeLine) (hr : Room k callerA)
    (F : ∀ base : Heap, K.In base → base.Ns mainGlobals mg → FnG P w K mg base k fa fd [x] sp)
    (hbind : ∀ (s : Shared) (u : Value), BindsTo s fd ⟨[u], []⟩ [(x, u)])
    (hsp : ∀ H : Hp, Only H → SqL K H a (ns.map V.int) → sp [.ref a] H (fun v _ => v = .bl true) fun _ _ _ => False) :
    codeAny (model P w) callerA (.call (.ref fa) ⟨[.ref a], []⟩)
      (fun r s' => r = .ok (.ret (.bool true)) ∧ OldK s1.heap s'.heap ∧ s'.os = s1.os ∧ AllBare s'.gens) s1 := by
  have rv := vals_ints hi
  have lv := hi.length
  cases hk : K.lookup a with
  | some o =>
    have e := KX a o hk
    rw [ha] at e
    cases e
    have S : SqL K (fun _ => none) a (ns.map V.int) := .inr ⟨_, vs.toArray, _, hk, rfl, rfl, rfl, by rw [List.size_toArray, lv]; exact hl, rv⟩
    have O : Only (fun _ => none) := fun _ => .inl rfl
    exact coreG (H := fun _ => none) KX hns hb hbb hlim hg ha hr F hbind O (fun b u z => nomatch (z : (none : Option HO) = some u)) (fun b z => absurd rfl z) (fun z => absurd rfl z) (hsp _ O S)
  | none =>
    let o : Obj := { cls := .type "list", data := .seq vs.toArray }
    let G : Hp := fun b => if b = a then some (.frz o (.lst (ns.map V.int))) else none
    have Ga : G a = some (.frz o (.lst (ns.map V.int))) := if_pos rfl
    have Gn : ∀ b, b ≠ a → G b = none := fun b h => if_neg h
    have O : Only G := fun b => by
      by_cases q : b = a
      · subst q
        exact .inr ⟨_, _, Ga⟩
      · exact .inl (Gn b q)
    have ok : HOk P w G s1.heap := fun b u z => by
      by_cases q : b = a
      · subst q
        rw [Ga] at z
        cases z
        exact ⟨ha, by rw [List.length_map]; exact hl, vs, _, rv, ha⟩
      · rw [Gn b q] at z
        cases z
    refine coreG (H := G) KX hns hb hbb hlim hg ha hr F hbind O ok (fun b z => ?_) (fun _ => hk) (hsp G O (.inl (.inr ⟨o, Ga⟩)))
    by_cases q : b = a
    · exact q
    · exact absurd (Gn b q) z
end

theorem walkG {l : PySem.W.OpenLaw} {n k : Nat} {q : Program} {loose : List Str} {XP : (Str → Option Value) → Heap → Prop} {YP : World → Heap → Prop} {d : DefRec}
    {K : Params → PySem.W.Frag} {sp : World → Sp} {x : Str} (hn : l.most = some n) (hn2 : n ≤ sizeLine) (hdf : d.params.defaults = []) (hr : Room k callerA)
    (hY : ∀ (w : World) (h : Heap), YP w h → (K w.params).In h)
    (F : ∀ (w : World) (mg : Str → Option Value) (fa : Addr) (h : Heap), (K w.params).In h → h.Ns mainGlobals mg → mg d.name = some (.ref fa) →
      ∃ fd : FuncData, (∀ (s : Shared) (u : Value), BindsTo s fd ⟨[u], []⟩ [(x, u)]) ∧
        ∀ base : Heap, (K w.params).In base → base.Ns mainGlobals mg → FnG l.prog w (K w.params) mg base k fa fd [x] (sp w))
    (hsp : ∀ (w : World) (H : Hp) (a : Addr) (ns : List Int), ns.length ≤ n → Only H → SqL (K w.params) H a (ns.map V.int) →
      sp w [.ref a] H (fun v _ => v = .bl true) fun _ _ _ => False) :
    PySem.W.WalkO q loose XP YP l.row.toRowW d [] (fun f vs => PySem.call f vs) := by
  refine Att.attach_call hn hdf ?_
  intro w s0 s1 mg mb fa o pm cd doc a vs ns G Y ho hd hcd hmg hobj hints hlen hg
  have KX := hY w _ Y
  obtain ⟨fd, hb, hF⟩ := F w mg fa _ KX G.T.g hmg
  exact lawG KX G.T.g G.T.b G.T.builtins G.T.nolimit hg hobj hints (Nat.le_trans hlen hn2) hr hF hb fun H hO hS => hsp w H a ns hlen hO hS
end Gd
set_option Elab.async false
set_option linter.all false
set_option maxRecDepth 100000
/-! G2: small data: what repr and == ask of it. -/
namespace Gd
open PySem PySem.Spec PyProof.Rows L2
structure Sh (dp wt : Nat) (d : PyData) : Prop where
  s : d.showable = true
  n : d.hasDict = false
  dl : d.depth ≤ dp
  l : d.leavesShort 13 = true
  c : d.canLay0 = true
  w : d.weight ≤ wt
theorem Sh.none : Sh 0 64 .none := ⟨rfl, rfl, by simp [PyData.depth], rfl, rfl, by simp [PyData.weight]⟩
theorem Sh.bool (b : Bool) : Sh 0 64 (.bool b) := ⟨rfl, rfl, by simp [PyData.depth], rfl, rfl, by simp [PyData.weight]⟩
theorem log_lt {n k : Nat} (h : n < 2 ^ k) (hk : 0 < k) : n.log2 < k := PySem.Flt.log2_lt_of hk h
theorem Sh.int {i : Int} (h : i.natAbs < 10 ^ 12) : Sh 0 64 (.int i) := by
  have h63 : i.natAbs < 2 ^ 63 := by omega
  have lg := log_lt h63 (by decide)
  refine ⟨?_, rfl, by simp [PyData.depth], ?_, ?_, ?_⟩
  · simp only [PyData.showable]
    exact decide_eq_true (by omega)
  · simp only [PyData.leavesShort]
    exact decide_eq_true (PyData.shown_int_le h)
  · rfl
  · simp only [PyData.weight]
    split <;> omega
theorem Sh.str {x : Str} (h : ∀ c ∈ x.cps.toList, c < 0x110000) (hz : x.cps.size ≤ 64) : Sh 0 64 (.str x) := by
  have hc : PyData.canLay0 (.str x) = true := by
    simp only [PyData.canLay0, PyData.strOk]
    refine Array.all_eq_true_iff_forall_mem.mpr fun c hm => decide_eq_true (h c (Array.mem_toList_iff.mpr hm))
  refine ⟨rfl, rfl, by simp [PyData.depth], PyData.leavesShort_of_canLay0 13 _ hc rfl, hc, ?_⟩
  simp only [PyData.weight]
  exact hz
theorem Sh.mono {a b a' b' : Nat} {d : PyData} (h : Sh a b d) (h1 : a ≤ a') (h2 : b ≤ b') : Sh a' b' d := ⟨h.s, h.n, Nat.le_trans h.dl h1, h.l, h.c, Nat.le_trans h.w h2⟩
theorem Sh.all {dp wt : Nat} : ∀ {ds : List PyData}, (∀ d ∈ ds, Sh dp wt d) → PyData.showableAll ds = true ∧ PyData.hasDictAll ds = false ∧ PyData.depthAll ds ≤ dp ∧ PyData.leavesShortAll 13 ds = true ∧ PyData.canLayAll0 ds = true ∧ PyData.weightAll ds ≤ (wt + 1) * ds.length
  | [], _ => ⟨rfl, rfl, by simp [PyData.depthAll], rfl, rfl, by simp [PyData.weightAll]⟩
  | d :: ds, h => by
    obtain ⟨a1, a2, a3, a4, a5, a6⟩ := Sh.all (ds := ds) fun e he => h e (List.mem_cons_of_mem _ he)
    have x := h d List.mem_cons_self
    refine ⟨?_, ?_, ?_, ?_, ?_, ?_⟩
    · simp only [PyData.showableAll, a1, x.s, Bool.and_self]
    · simp only [PyData.hasDictAll, a2, x.n, Bool.or_self]
    · have := x.dl
      simp only [PyData.depthAll]
      omega
    · simp only [PyData.leavesShortAll, a4, x.l, Bool.and_self]
    · simp only [PyData.canLayAll0, a5, x.c, Bool.and_self]
    · have := x.w
      simp only [PyData.weightAll, List.length_cons, Nat.mul_succ]
      omega
theorem Sh.list {dp wt : Nat} {ds : List PyData} (h : ∀ d ∈ ds, Sh dp wt d) : Sh (dp + 1) ((wt + 1) * ds.length) (.list ds) := by
  obtain ⟨a1, a2, a3, a4, a5, a6⟩ := Sh.all h
  refine ⟨?_, ?_, ?_, ?_, ?_, ?_⟩
  · simp only [PyData.showable]; exact a1
  · simp only [PyData.hasDict]; exact a2
  · simp only [PyData.depth]; omega
  · simp only [PyData.leavesShort]; exact a4
  · simp only [PyData.canLay0]; exact a5
  · simp only [PyData.weight]; exact a6
theorem Sh.tup {dp wt : Nat} {ds : List PyData} (h : ∀ d ∈ ds, Sh dp wt d) : Sh (dp + 1) ((wt + 1) * ds.length) (.tuple ds) := by
  obtain ⟨a1, a2, a3, a4, a5, a6⟩ := Sh.all h
  refine ⟨?_, ?_, ?_, ?_, ?_, ?_⟩
  · simp only [PyData.showable]; exact a1
  · simp only [PyData.hasDict]; exact a2
  · simp only [PyData.depth]; omega
  · simp only [PyData.leavesShort]; exact a4
  · simp only [PyData.canLay0]; exact a5
  · simp only [PyData.weight]; exact a6
theorem Sh.fits {dp wt : Nat} {d : PyData} (h : Sh dp wt d) (h1 : dp ≤ 60 := by omega) (h2 : wt ≤ 1000000 := by omega) : d.showable = true ∧ d.hasDict = false ∧ d.depth ≤ 60 ∧ d.shown.length ≤ sizeLine :=
  ⟨h.s, h.n, Nat.le_trans h.dl h1, PyData.shown_fits (B := 13) (by decide) (by decide) h.l (Nat.le_trans (Nat.le_trans h.w h2) (by decide))⟩
theorem Sh.shaped {dp wt : Nat} {d : PyData} (h : Sh dp wt d) (h1 : dp ≤ 60 := by omega) : SeqAt.shaped d = true := by
  have := h.dl
  unfold SeqAt.shaped
  rw [h.c, decide_eq_true (by omega)]
  rfl
/-- a list of ints as data -/
theorem dp_ints {K : PySem.W.Frag} {H : Hp} : ∀ ns : List Int, DpAll K H (ns.map V.int) (ns.map PyData.int)
  | [] => .nil
  | n :: ns => .cons (.int n) (dp_ints ns)
theorem sh_ints {ns : List Int} (h : ∀ n ∈ ns, n.natAbs < 10 ^ 12) : Sh 1 (65 * ns.length) (.list (ns.map PyData.int)) := by
  have := Sh.list (dp := 0) (wt := 64) (ds := ns.map PyData.int) fun d hd => by
    obtain ⟨n, hn, rfl⟩ := List.mem_map.mp hd
    exact Sh.int (h n hn)
  rw [List.length_map] at this
  exact this
end Gd
set_option Elab.async false
set_option linter.all false
set_option maxRecDepth 100000
set_option maxHeartbeats 4000000
/-! Com: what several laws share: heaps that grow, the box of draws, references. -/
namespace Com
open PySem PySem.Spec PyProof.Rows L2 Gd
variable {K : PySem.W.Frag}
inductive Rf where
  | ob (i : Int)
  | im (o e : Int)
  deriving DecidableEq
theorem lt_size {n : Nat} (h : n ≤ 1000000) : n < sizeLine := Nat.lt_of_le_of_lt h (by decide)
theorem same_new {H H' : Hp} {p : Addr} {o : HO} (s : Same H H') (h : H' p = none) : Same H (upd H' p o) := fun b x e => by
  rw [upd_ne (ne_of_none (s b x e) h)]
  exact s b x e
theorem same_mut {H H' : Hp} {p : Addr} {o : HO} (s : Same H H') (h : H p = none) : Same H (upd H' p o) := fun b x e => by
  rw [upd_ne (ne_of_none e h)]
  exact s b x e
def Bx (H : Hp) (b dg : Addr) (ds : List Int) : Prop := ∃ n : Nat, H b = some (.lst [.ref dg, .int (n : Int)]) ∧ H dg = some (.lst (ds.map V.int))
/-- all stays but b -/
def Fx (b : Addr) (H H' : Hp) : Prop := ∀ c o, c ≠ b → H c = some o → H' c = some o
theorem Fx.refl (b : Addr) (H : Hp) : Fx b H H := fun _ _ _ h => h
theorem Fx.trans {b : Addr} {H H1 H2 : Hp} (a : Fx b H H1) (c : Fx b H1 H2) : Fx b H H2 := fun x o n h => c x o n (a x o n h)
theorem Fx.new {b p : Addr} {H H1 : Hp} {o : HO} (a : Fx b H H1) (h : H1 p = none) : Fx b H (upd H1 p o) := fun x u n e => by
  have := a x u n e
  rw [upd_ne (ne_of_none this h)]
  exact this
theorem Fx.mut {b p : Addr} {H H1 : Hp} {o : HO} (a : Fx b H H1) (h : H p = none) : Fx b H (upd H1 p o) := fun x u n e => by
  rw [upd_ne (ne_of_none e h)]
  exact a x u n e
theorem Bx.new {H : Hp} {b dg p : Addr} {ds : List Int} {o : HO} (B : Bx H b dg ds) (h : H p = none) : Bx (upd H p o) b dg ds := by
  obtain ⟨n, h1, h2⟩ := B
  exact ⟨n, by rw [upd_ne (ne_of_none h1 h)]; exact h1, by rw [upd_ne (ne_of_none h2 h)]; exact h2⟩
theorem Bx.upd {H : Hp} {b dg p : Addr} {ds : List Int} {o : HO} (B : Bx H b dg ds) (h1 : p ≠ b) (h2 : p ≠ dg) : Bx (upd H p o) b dg ds := by
  obtain ⟨n, e1, e2⟩ := B
  exact ⟨n, by rw [upd_ne h1.symm]; exact e1, by rw [upd_ne h2.symm]; exact e2⟩
theorem Bx.nb {H : Hp} {b dg p : Addr} {ds : List Int} (B : Bx H b dg ds) (h : H p = none) : p ≠ b ∧ p ≠ dg := by
  obtain ⟨n, e1, e2⟩ := B
  exact ⟨(ne_of_none e1 h).symm, (ne_of_none e2 h).symm⟩
theorem Fx.none {b p : Addr} {H H1 : Hp} (a : Fx b H H1) {dg : Addr} {ds : List Int} (B : Bx H b dg ds) (h : H1 p = Option.none) (B1 : Bx H1 b dg ds) : H p = Option.none := by
  cases e : H p with
  | none => rfl
  | some o =>
    have := a p o (B1.nb h).1 e
    rw [h] at this
    cases this
def RfV (H : Hp) : Option Rf → V → Prop
  | none, v => v = .non
  | some (.ob i), v => ∃ a, v = .ref a ∧ H a = some (.tup [.str "object", .int i])
  | some (.im o e), v => ∃ a, v = .ref a ∧ H a = some (.tup [.str "import", .int o, .int e])
abbrev RfAll (H : Hp) : List (Option Rf) → List V → Prop := Paired (RfV H)
/-- tuples stay -/
def TupS (H H' : Hp) : Prop := ∀ c xs, H c = some (.tup xs) → H' c = some (.tup xs)
theorem RfV.mono {H H' : Hp} (s : TupS H H') : ∀ {r : Option Rf} {v : V}, RfV H r v → RfV H' r v
  | none, _, h => h
  | some (.ob _), _, ⟨a, e, h⟩ => ⟨a, e, s _ _ h⟩
  | some (.im _ _), _, ⟨a, e, h⟩ => ⟨a, e, s _ _ h⟩
theorem RfAll.mono {H H' : Hp} (s : TupS H H') {rs : List (Option Rf)} {vs : List V} (h : RfAll H rs vs) : RfAll H' rs vs := Paired.mapP h fun _ _ x => x.mono s
theorem TupS.of_same {H H' : Hp} (s : Same H H') : TupS H H' := fun c xs e => s c _ e
theorem TupS.of_fx {H H' : Hp} {b dg : Addr} {ds : List Int} (f : Fx b H H') (B : Bx H b dg ds) : TupS H H' := fun c xs e => by
  obtain ⟨n, h1, _⟩ := B
  exact f c _ (ne_of e h1 (fun z => nomatch z)) e
theorem TupS.trans {H H1 H2 : Hp} (a : TupS H H1) (b : TupS H1 H2) : TupS H H2 := fun c xs e => b c xs (a c xs e)
theorem TupS.new {H H1 : Hp} {p : Addr} {o : HO} (a : TupS H H1) (h : H1 p = none) : TupS H (upd H1 p o) := fun c xs e => by
  have := a c xs e
  rw [upd_ne (ne_of_none this h)]
  exact this
theorem TupS.mut {H H1 : Hp} {p : Addr} {o u : HO} (a : TupS H H1) (h : H1 p = some u) (hu : ∀ xs, u ≠ .tup xs) : TupS H (upd H1 p o) := fun c xs e => by
  have := a c xs e
  rw [upd_ne (ne_of this h (fun z => hu xs z.symm))]
  exact this
theorem paired_app {α β : Type} {F : α → β → Prop} : ∀ {xs xs' : List α} {ys ys' : List β}, Paired F xs ys → Paired F xs' ys' → Paired F (xs ++ xs') (ys ++ ys')
  | _, _, _, _, .nil, h => h
  | _, _, _, _, .cons r t, h => .cons r (paired_app t h)
theorem paired_one {α β : Type} {F : α → β → Prop} {a : α} {b : β} (h : F a b) : Paired F [a] [b] := .cons h .nil
theorem valV_none {κ : Type} [DecidableEq κ] {kvs : List (κ × V)} {k : κ} (h : k ∉ kvs.map (·.1)) : valV kvs k = none := by
  unfold valV
  rw [Option.map_eq_none_iff, List.find?_eq_none]
  intro p hp z
  exact h (List.mem_map.mpr ⟨p, hp, of_decide_eq_true z⟩)
theorem nobimp : ¬ V.str "object" = V.str "import" := fun z => absurd (V.str.inj z) (by decide +kernel)
theorem nimpob : ¬ V.str "import" = V.str "object" := fun z => absurd (V.str.inj z) (by decide +kernel)
def rfD : Option Rf → PyData
  | none => .none
  | some (.ob i) => .tuple [.str "object", .int i]
  | some (.im o e) => .tuple [.str "import", .int o, .int e]
theorem rf_dp {H : Hp} : ∀ {r : Option Rf} {v : V}, RfV H r v → Dp K H v (rfD r)
  | none, v, h => by
    have e : v = .non := h
    subst e
    exact .non
  | some (.ob i), v, ⟨a, e, h⟩ => by
    subst e
    exact .tup (SqT.of h) (.cons (.str _) (.cons (.int _) .nil))
  | some (.im o e), v, ⟨a, e2, h⟩ => by
    subst e2
    exact .tup (SqT.of h) (.cons (.str _) (.cons (.int _) (.cons (.int _) .nil)))
theorem rf_dps {H : Hp} : ∀ {rs : List (Option Rf)} {vs : List V}, RfAll H rs vs → DpAll K H vs (rs.map rfD)
  | _, _, .nil => .nil
  | _, _, .cons h t => .cons (rf_dp h) (rf_dps t)
theorem rf_lay (r : Option Rf) : (rfD r).canLay0 = true := by
  rcases r with _ | ⟨i⟩ | ⟨o, e⟩ <;> simp [rfD, PyData.canLay0, PyData.canLayAll0] <;> decide +kernel
theorem rf_depth (r : Option Rf) : (rfD r).depth ≤ 1 := by
  rcases r with _ | ⟨i⟩ | ⟨o, e⟩ <;> simp [rfD, PyData.depth, PyData.depthAll]
theorem rfs_lay : ∀ rs : List (Option Rf), PyData.canLayAll0 (rs.map rfD) = true
  | [] => by simp [PyData.canLayAll0]
  | r :: rs => by simp [PyData.canLayAll0, rf_lay r, rfs_lay rs]
theorem rfs_depth : ∀ rs : List (Option Rf), PyData.depthAll (rs.map rfD) ≤ 1
  | [] => by simp [PyData.depthAll]
  | r :: rs => by
    have h1 := rfs_depth rs
    have h2 := rf_depth r
    simp only [List.map_cons, PyData.depthAll]
    omega
theorem rf_shaped (r : Option Rf) : SeqAt.shaped (rfD r) = true := by
  have h := rf_depth r
  unfold SeqAt.shaped
  rw [rf_lay r, decide_eq_true (by omega)]
  rfl
theorem rfs_shaped (rs : List (Option Rf)) : SeqAt.shaped (.list (rs.map rfD)) = true := by
  have h := rfs_depth rs
  have e : PyData.canLay0 (.list (rs.map rfD)) = true := by
    simp only [PyData.canLay0]
    exact rfs_lay rs
  have d : PyData.depth (.list (rs.map rfD)) ≤ 64 := by
    simp only [PyData.depth]
    omega
  unfold SeqAt.shaped
  rw [e, decide_eq_true d]
  rfl
theorem rf_eqv (r q : Option Rf) : PyData.eqv (rfD r) (rfD q) = decide (r = q) := by
  by_cases h : r = q
  · subst h
    rw [decide_eq_true rfl]
    exact SeqAt.eqv_refl _ (rf_lay r)
  · rw [decide_eq_false h]
    have s1 : (Str.ofString "object" == Str.ofString "import") = false := by decide +kernel
    have s2 : (Str.ofString "import" == Str.ofString "object") = false := by decide +kernel
    have s3 : ((Str.ofString "object").cps == (Str.ofString "import").cps) = false := by decide +kernel
    have s4 : ((Str.ofString "import").cps == (Str.ofString "object").cps) = false := by decide +kernel
    rcases r with _ | ⟨i⟩ | ⟨o, e⟩ <;> rcases q with _ | ⟨j⟩ | ⟨o', e'⟩ <;> simp [rfD, PyData.eqv, PyData.eqvAll] at h ⊢ <;> first | done | exact h | (intro z; exact h z) | (decide +kernel)
theorem rf_any (r : Rf) (G : List Rf) : ((G.map some).map rfD).any (fun z => PyData.eqv z (rfD (some r))) = decide (r ∈ G) := by
  induction G with
  | nil => simp
  | cons g G ih =>
    rw [List.map_cons, List.map_cons, List.any_cons, ih, rf_eqv]
    by_cases h : g = r
    · subst h; simp
    · simp [h, Ne.symm h]
theorem paired_back {α β : Type} {F : α → β → Prop} : ∀ {xs : List α} {ys : List β}, Paired F xs ys → ∀ {i : Nat} {y : β}, ys[i]? = some y → ∃ x, xs[i]? = some x ∧ F x y
  | _, _, .nil, _, _, h => by simp at h
  | _, _, .cons r t, 0, _, h => by simp at h; subst h; exact ⟨_, rfl, r⟩
  | _, _, .cons r t, i + 1, _, h => by
    obtain ⟨x, h1, h2⟩ := paired_back t (i := i) (by simpa using h)
    exact ⟨x, by simpa using h1, h2⟩
theorem take_fm {st : List (Option Rf)} {i : Nat} {r : Option Rf} (h : st[i]? = some r) : (st.take (i + 1)).filterMap id = (st.take i).filterMap id ++ r.toList := by
  rw [List.take_add_one, h, List.filterMap_append]
  cases r <;> rfl
theorem take_map {α β : Type} (f : α → Option β) {l : List α} {i : Nat} {x : α} (h : l[i]? = some x) : (l.take (i + 1)).filterMap f = (l.take i).filterMap f ++ (f x).toList := by
  rw [List.take_add_one, h, List.filterMap_append]
  show _ ++ List.filterMap f [x] = _
  cases e : f x with
  | none => rw [List.filterMap_cons_none e]; rfl
  | some y => rw [List.filterMap_cons_some e]; rfl
theorem filterMap_nodup {α β : Type} {f : α → Option β} (inj : ∀ a b y, f a = some y → f b = some y → a = b) : ∀ {l : List α}, l.Nodup → (l.filterMap f).Nodup
  | [], _ => .nil
  | x :: l, h => by
    have h1 := List.nodup_cons.mp h
    cases e : f x with
    | none => rw [List.filterMap_cons_none e]; exact filterMap_nodup inj h1.2
    | some y =>
      rw [List.filterMap_cons_some e, List.nodup_cons]
      refine ⟨fun m => ?_, filterMap_nodup inj h1.2⟩
      obtain ⟨a, ha, e2⟩ := List.mem_filterMap.mp m
      exact h1.1 (inj _ _ _ e2 e ▸ ha)
def prD (x : Int × Int) : PyData := .tuple [.int x.1, .int x.2]
end Com
set_option Elab.async false
set_option linter.all false
set_option maxRecDepth 100000
set_option maxHeartbeats 4000000
/-! B1: records in pieces, by plain lists; a text times a number. -/
namespace Bk
open PySem PySem.Spec PyProof.Rows L2

def mkS (cs : List Nat) : Str := ⟨cs.toArray⟩
theorem mkS_len (cs : List Nat) : (mkS cs).length = cs.length := by
  show cs.toArray.size = _
  simp
theorem mkS_cps (cs : List Nat) : (mkS cs).cps.toList = cs := by simp [mkS]
theorem mkS_app (a b : List Nat) : mkS a ++ mkS b = mkS (a ++ b) := by
  show (⟨a.toArray ++ b.toArray⟩ : Str) = ⟨(a ++ b).toArray⟩
  simp
theorem mkS_one (c : Nat) : (⟨#[c]⟩ : Str) = mkS [c] := rfl

def rRepS : R2 := fun x y H Q => ∃ (c : Nat) (k : Nat), x = .str ⟨#[c]⟩ ∧ y = .int (k : Int) ∧ 1 ≤ k ∧ k ≤ 100000 ∧ Q (.str (mkS (List.replicate k c))) H
theorem foldl_rep (c : Nat) : ∀ (k : Nat) (a : Array Nat), (List.replicate k #[c]).foldl (· ++ ·) a = a ++ (List.replicate k c).toArray
  | 0, a => by simp
  | k + 1, a => by
    rw [List.replicate_succ, List.foldl_cons, foldl_rep c k, List.replicate_succ]
    apply Array.ext'
    simp
theorem op_repS {X : Cx} : OpR X (binaryOp .Mult) rRepS := by
  intro pins s σ H x y v u Q I rx ry h
  obtain ⟨c, k, rfl, rfl, h1, h2, q⟩ := h
  obtain ⟨t, rfl⟩ := rx
  obtain ⟨t', rfl⟩ := ry
  have hl : (⟨#[c]⟩ : Str).length = 1 := rfl
  refine PySem.P.mul_str ?_ (fun _ _ => ?_) (fun _ _ => ?_) ?_
  · rw [decide_eq_false (by omega), decide_eq_false (by omega)]
    rfl
  · rw [hl]
    have : (2 ^ 63 - 1 : Int) / (k : Int) ≥ 1 := by
      rw [ge_iff_le, Int.le_ediv_iff_mul_le (by omega)]
      omega
    show ¬ ((1 : Int) > _)
    omega
  · rw [hl]
    unfold Builtin.Str.tooLong
    rw [decide_eq_false]
    have := sizeLine_eq
    omega
  · rw [if_neg (by omega)]
    by_cases e : k = 1
    · subst e
      rw [if_pos (by rfl)]
      exact ⟨.str _, H, I, ⟨t, rfl⟩, q⟩
    · have e2 : (((k : Int) == 1) || (⟨#[c]⟩ : Str).length == 0) = false := by
        rw [hl]
        have : ((k : Int) == 1) = false := by
          rw [beq_eq_false_iff_ne]
          omega
        rw [this]
        rfl
      rw [e2, if_neg (by decide), foldl_rep, Int.toNat_natCast]
      have e3 : (⟨#[] ++ (List.replicate k c).toArray⟩ : Str) = mkS (List.replicate k c) := by
        unfold mkS
        congr 1
        apply Array.ext'
        simp
      rw [e3]
      refine ⟨?_, .str _, H, I.tok _, ⟨_, rfl⟩, q⟩
      rw [mkS_len, List.length_replicate]
      have := sizeLine_eq
      omega

/-! ### the signs of texts -/
def SG : Str := " !\"#$&'()*+,-./0123456789:;<=>?@ABCDEFGHIJKLMNOPQRSTUVWXYZ[\\]^_`abcdefghijklmnopqrstuvwxyz{|}~"
def sgL : List Nat := List.range' 32 5 ++ List.range' 38 89
theorem SG_eq : SG = mkS sgL := by decide +kernel
theorem sgL_nodup : sgL.Nodup := by decide +kernel
theorem sgL_len : sgL.length = 94 := by decide +kernel
theorem mem_sgL {c : Nat} : c ∈ sgL ↔ 32 ≤ c ∧ c ≤ 126 ∧ c ≠ 37 := by
  unfold sgL
  rw [List.mem_append, List.mem_range'_1, List.mem_range'_1]
  omega
def kvOf (c : Nat) : Key × V := (.inl (c : Int), .str ⟨#[c]⟩)
theorem kv_get (x : Int) : ∀ l : List Nat, valV (l.map kvOf) (.inl x) = if 0 ≤ x ∧ x.toNat ∈ l then some (.str ⟨#[x.toNat]⟩) else none
  | [] => by
    rw [if_neg (fun z => nomatch z.2)]
    rfl
  | c :: l => by
    by_cases h : (c : Int) = x
    · subst h
      rw [List.map_cons, valV_pos (p := kvOf c) (by rfl), if_pos ⟨by omega, by rw [Int.toNat_natCast]; exact List.mem_cons_self⟩, Int.toNat_natCast]
      rfl
    · rw [List.map_cons, valV_neg (p := kvOf c) (fun z => h (Sum.inl.inj z)), kv_get x l]
      by_cases h2 : 0 ≤ x ∧ x.toNat ∈ l
      · rw [if_pos h2, if_pos ⟨h2.1, List.mem_cons_of_mem _ h2.2⟩]
      · rw [if_neg h2, if_neg (fun z => h2 ⟨z.1, by
          rcases List.mem_cons.mp z.2 with e | e
          · exact absurd (by omega) h
          · exact e⟩)]
def sgB (x : Int) : Bool := decide (32 ≤ x ∧ x ≤ 126 ∧ x ≠ 37)
theorem sg_get (x : Int) : valV (sgL.map kvOf) (.inl x) = if sgB x = true then some (.str ⟨#[x.toNat]⟩) else none := by
  rw [kv_get]
  unfold sgB
  by_cases h : 32 ≤ x ∧ x ≤ 126 ∧ x ≠ 37
  · rw [if_pos ⟨by omega, mem_sgL.mpr (by omega)⟩, if_pos (decide_eq_true h)]
  · rw [if_neg (fun z => h (by have := mem_sgL.mp z.2; omega)), decide_eq_false h, if_neg (by decide)]

/-! ### slices -/
theorem drop_take {α : Type} (l : List α) {a b n : Nat} (hn : n = l.length) (h : a ≤ b) : (l.drop (min a n)).take (min b n - min a n) = (l.drop a).take (b - a) := by
  subst hn
  by_cases h1 : a ≤ l.length
  · rw [Nat.min_eq_left h1]
    by_cases h2 : b ≤ l.length
    · rw [Nat.min_eq_left h2]
    · rw [Nat.min_eq_right (by omega), List.take_of_length_le (by rw [List.length_drop]; omega), List.take_of_length_le (by rw [List.length_drop]; omega)]
  · rw [List.drop_of_length_le (by omega), List.drop_of_length_le (by omega)]
    simp
theorem cutS_nat (cs : List Nat) {a b : Nat} (h : a ≤ b) : cutS (mkS cs) (some (a : Int)) (some (b : Int)) = mkS ((cs.drop a).take (b - a)) := by
  unfold cutS
  rw [HT.sIx_nat, HT.sIx_nat, mkS_cps, drop_take cs (mkS_len cs) h]
  rfl
theorem cutV_nat (l : List V) {a b : Nat} (h : a ≤ b) : cutV l (some (a : Int)) (some (b : Int)) = (l.drop a).take (b - a) := by
  unfold cutV
  rw [HT.sIx_nat, HT.sIx_nat, drop_take l rfl h]
def part (cs : List Nat) (k : Nat) : List Nat := (cs.drop (24 * k)).take 24
theorem cut_part (cs : List Nat) (k : Nat) : cutS (mkS cs) (some (24 * (k : Int))) (some (24 * (k : Int) + 24)) = mkS (part cs k) := by
  have e1 : (24 * (k : Int)) = ((24 * k : Nat) : Int) := by omega
  have e2 : (((24 * k : Nat) : Int) + 24) = ((24 * k + 24 : Nat) : Int) := by omega
  rw [e1, e2, cutS_nat cs (by omega)]
  unfold part
  rw [show 24 * k + 24 - 24 * k = 24 by omega]
theorem part_le (cs : List Nat) (k : Nat) : (part cs k).length ≤ 24 := by
  unfold part
  rw [List.length_take]
  omega
def nP (cs : List Nat) : Nat := (cs.length + 23) / 24
theorem part_pos {cs : List Nat} {k : Nat} (h : k < nP cs) : 1 ≤ (part cs k).length := by
  unfold nP at h
  unfold part
  rw [List.length_take, List.length_drop]
  omega
theorem part_mem {cs : List Nat} {k c : Nat} (h : c ∈ part cs k) : c ∈ cs := List.mem_of_mem_drop (List.mem_of_mem_take h)
/-- the block of one piece -/
def blkI (k many number : Nat) (p : List Nat) : List Int :=
  [75, (k : Int), (many : Int), (number : Int) / 256, (number : Int) % 256, (p.length : Int)] ++ p.map (fun c : Nat => (c : Int)) ++ List.replicate (25 - p.length) 0 ++ [75]
def blks (number : Nat) (cs : List Nat) : List (List Int) := (List.range (nP cs)).map fun k => blkI k (nP cs) number (part cs k)
theorem rep_flat (k : Nat) (x : V) : (List.replicate k [x]).flatten = List.replicate k x := by
  induction k with
  | zero => rfl
  | succ k ih => rw [List.replicate_succ, List.flatten_cons, ih, List.replicate_succ]; rfl
theorem blkI_v (k many number : Nat) (p : List Nat) : (blkI k many number p).map V.int =
    [.int 75, .int (k : Int), .int (many : Int), .int ((number : Int) / 256), .int ((number : Int) % 256), .int (p.length : Int)] ++ p.map (fun c : Nat => V.int (c : Int)) ++ List.replicate (25 - p.length) (.int 0) ++ [.int 75] := by
  unfold blkI
  rw [List.map_append, List.map_append, List.map_append, List.map_map, List.map_replicate]
  rfl
theorem blkI_len {k many number : Nat} {p : List Nat} (h : p.length ≤ 24) : (blkI k many number p).length = 32 := by
  unfold blkI
  simp
  omega

/-! ### what a block tells -/
structure Pc where
  b0 : Int
  b1 : Int
  b2 : Int
  b3 : Int
  b4 : Int
  b5 : Int
  m : List Int
  z : Int
def Pc.row (x : Pc) : List Int := [x.b0, x.b1, x.b2, x.b3, x.b4, x.b5] ++ (x.m ++ [x.z])
def Pc.is (x : Pc) : Bool := (decide (x.b0 = 75) && decide (x.z = 75) && decide (x.b1 < x.b2) && decide (1 ≤ x.b5) && decide (x.b5 ≤ 24)) && ((x.m.take x.b5.toNat).all sgB && (x.m.drop x.b5.toNat).all fun c => decide (c = 0))
def Pc.text (x : Pc) : List Nat := (x.m.take x.b5.toNat).map Int.toNat
theorem row_pc : ∀ (b : List Int), b.length = 32 → ∃ x : Pc, x.row = b ∧ x.m.length = 25
  | b0 :: b1 :: b2 :: b3 :: b4 :: b5 :: r, h => by
    have hr : r.length = 26 := by
      simp only [List.length_cons] at h
      omega
    have hne : r ≠ [] := fun z => by rw [z] at hr; cases hr
    refine ⟨⟨b0, b1, b2, b3, b4, b5, r.dropLast, r.getLast hne⟩, ?_, by simp [hr]⟩
    show [b0, b1, b2, b3, b4, b5] ++ (r.dropLast ++ [r.getLast hne]) = _
    rw [List.dropLast_concat_getLast]
    rfl
  | [], h | [_], h | [_, _], h | [_, _, _], h | [_, _, _, _], h | [_, _, _, _, _], h => by simp at h
def pcOf (k many number : Nat) (p : List Nat) : Pc := ⟨75, k, many, (number : Int) / 256, (number : Int) % 256, p.length, p.map (fun c : Nat => (c : Int)) ++ List.replicate (25 - p.length) 0, 75⟩
theorem pcOf_row (k many number : Nat) (p : List Nat) : (pcOf k many number p).row = blkI k many number p := by
  unfold pcOf Pc.row blkI
  simp
theorem pcOf_len {k many number : Nat} {p : List Nat} (h : p.length ≤ 24) : (pcOf k many number p).m.length = 25 := by
  unfold pcOf
  simp
  omega
theorem pcOf_is {k many number : Nat} {p : List Nat} (h1 : 1 ≤ p.length) (h2 : p.length ≤ 24) (hk : k < many) (hs : ∀ c ∈ p, c ∈ sgL) : (pcOf k many number p).is = true := by
  unfold Pc.is pcOf
  simp only [Int.toNat_natCast]
  rw [List.take_left' (by simp), List.drop_left' (by simp)]
  have a1 : (p.map (fun c : Nat => (c : Int))).all sgB = true := by
    rw [List.all_eq_true]
    intro x hx
    obtain ⟨c, hc, rfl⟩ := List.mem_map.mp hx
    have := mem_sgL.mp (hs c hc)
    unfold sgB
    exact decide_eq_true (by omega)
  have a2 : ((List.replicate (25 - p.length) (0 : Int)).all fun c => decide (c = 0)) = true := by
    rw [List.all_eq_true]
    intro x hx
    exact decide_eq_true (List.eq_of_mem_replicate hx)
  rw [a1, a2, decide_eq_true (show (k : Int) < many by omega), decide_eq_true (show (1 : Int) ≤ p.length by omega), decide_eq_true (show (p.length : Int) ≤ 24 by omega)]
  simp
theorem pcOf_text {k many number : Nat} {p : List Nat} : (pcOf k many number p).text = p := by
  unfold Pc.text pcOf
  simp only [Int.toNat_natCast]
  rw [List.take_left' (by simp), List.map_map]
  simp [Function.comp_def]
theorem rgc_pieces {cs : List Nat} (h : cs.length ≤ 100000) : RgC 0 (cs.length : Int) 24 (nP cs) := by
  have e : Builtin.Range.rangeSize 0 (cs.length : Int) 24 = ((nP cs : Nat) : Int) := by
    rw [rangeSize_pos (by decide) (by omega)]
    unfold nP
    omega
  refine ⟨by decide, by decide, ?_, e⟩
  unfold Builtin.Range.small
  rw [e]
  unfold nP Builtin.Range.rangeFitsLong
  rw [if_pos (show (24 : Int) > 0 by decide)]
  simp only [Bool.and_eq_true, Bool.or_eq_true, decide_eq_true_eq, beq_iff_eq]
  omega
theorem pc_no {x : Pc} (h : (!decide (V.int x.b0 = V.int 75)) = true ∨ (!decide (V.int x.z = V.int 75)) = true ∨ x.b1 ≥ x.b2 ∨ ¬ 1 ≤ x.b5 ∨ ¬ x.b5 ≤ 24 ∨ (x.m.take x.b5.toNat).all sgB = false ∨ (x.m.drop x.b5.toNat).all (fun c => decide (c = 0)) = false) : x.is = false := by
  unfold Pc.is
  rcases h with h | h | h | h | h | h | h
  · have : ¬ x.b0 = 75 := by simpa using h
    rw [decide_eq_false this]
    rfl
  · have : ¬ x.z = 75 := by simpa using h
    rw [decide_eq_false this]
    simp
  · rw [decide_eq_false (show ¬ x.b1 < x.b2 by omega)]
    simp
  · rw [decide_eq_false h]
    simp
  · rw [decide_eq_false h]
    simp
  · rw [h]
    simp
  · rw [h]
    simp
theorem nodup_take {c : Nat} : ∀ {l : List Nat} {i : Nat}, l.Nodup → l[i]? = some c → c ∉ l.take i
  | [], _, _, e => by simp at e
  | x :: l, 0, _, _ => by simp
  | x :: l, i + 1, h, e => by
    rw [List.nodup_cons] at h
    rw [List.getElem?_cons_succ] at e
    rw [List.take_succ_cons, List.mem_cons]
    rintro (z | z)
    · subst z
      exact h.1 (List.mem_of_getElem? e)
    · exact nodup_take h.2 e z
theorem map_at {f : Int → V} {l : List Int} {i : Nat} {v : V} (h : (l.map f)[i]? = some v) : ∃ c, l[i]? = some c ∧ v = f c := by
  rw [List.getElem?_map] at h
  cases e : l[i]? with
  | none => rw [e] at h; cases h
  | some c => rw [e] at h; exact ⟨c, rfl, (Option.some.inj h).symm⟩
theorem any_not {f : Int → Bool} {l : List Int} (h : (l.map fun c => !f c).any id = true) : l.all f = false := by
  rw [List.any_map] at h
  obtain ⟨c, hc, e⟩ := List.any_eq_true.mp h
  rw [List.all_eq_false]
  exact ⟨c, hc, by simpa using e⟩
theorem not_any {f : Int → Bool} {l : List Int} (h : ¬ (l.map fun c => !f c).any id = true) : l.all f = true := by
  rw [List.all_eq_true]
  intro c hc
  cases e : f c with
  | true => rfl
  | false =>
    refine absurd ?_ h
    rw [List.any_map, List.any_eq_true]
    exact ⟨c, hc, by simp [e]⟩
theorem join_s : ∀ l : List Int, Str.join (Str.ofString "") (l.map fun c => mkS [c.toNat]) = mkS (l.map Int.toNat)
  | [] => rfl
  | [_] => rfl
  | c :: d :: r => by
    have e0 : (Str.ofString "") = mkS [] := by decide +kernel
    show mkS [c.toNat] ++ Str.ofString "" ++ Str.join (Str.ofString "") ((d :: r).map fun c => mkS [c.toNat]) = _
    rw [join_s (d :: r), e0, mkS_app, mkS_app]
    rfl
theorem join_one (l : List Int) : Txt.join (Str.ofString "") (l.map fun c => mkS [c.toNat]) = mkS (l.map Int.toNat) := (TL.join_eq _ _).trans (join_s l)
theorem SG_len : SG.length = 94 := by
  rw [SG_eq]
  exact (mkS_len sgL).trans sgL_len
theorem sg_at {r : Int} (h0 : 0 ≤ r) (h1 : r < (SG.length : Int)) : ∃ c, atI SG.cps.toList r = some c ∧ c ∈ sgL := by
  rw [SG_len] at h1
  have lt : r.toNat < sgL.length := by
    rw [sgL_len]
    omega
  have h := atI_nat (List.getElem?_eq_getElem lt)
  rw [show ((r.toNat : Nat) : Int) = r by omega] at h
  refine ⟨sgL[r.toNat], ?_, List.getElem_mem lt⟩
  rw [SG_eq, mkS_cps]
  exact h
theorem mkS_nil : Str.ofString "" = mkS [] := by decide +kernel
/-! ### data of numbers -/
def iD (r : List Int) : PyData := .list (r.map PyData.int)
theorem ints_lay : ∀ r : List Int, PyData.canLayAll0 (r.map PyData.int) = true
  | [] => by simp [PyData.canLayAll0]
  | r :: rs => by simp [PyData.canLayAll0, PyData.canLay0, ints_lay rs]
theorem ints_depth : ∀ r : List Int, PyData.depthAll (r.map PyData.int) = 0
  | [] => by simp [PyData.depthAll]
  | r :: rs => by simp [PyData.depthAll, PyData.depth, ints_depth rs]
theorem rows_lay : ∀ r : List (List Int), PyData.canLayAll0 (r.map iD) = true
  | [] => by simp [PyData.canLayAll0]
  | r :: rs => by simp [PyData.canLayAll0, PyData.canLay0, iD, ints_lay r, rows_lay rs]
theorem rows_depth : ∀ r : List (List Int), PyData.depthAll (r.map iD) ≤ 1
  | [] => by simp [PyData.depthAll]
  | r :: rs => by
    have := rows_depth rs
    simp only [List.map_cons, PyData.depthAll, iD, PyData.depth, ints_depth]
    omega
theorem iD_shaped (r : List Int) : SeqAt.shaped (iD r) = true := by
  unfold SeqAt.shaped iD
  rw [show PyData.canLay0 (.list (r.map PyData.int)) = true from by simp only [PyData.canLay0]; exact ints_lay r, decide_eq_true (by simp only [PyData.depth, ints_depth]; omega)]
  rfl
theorem rows_shaped (rs : List (List Int)) : SeqAt.shaped (.list (rs.map iD)) = true := by
  have h := rows_depth rs
  unfold SeqAt.shaped
  rw [show PyData.canLay0 (.list (rs.map iD)) = true from by simp only [PyData.canLay0]; exact rows_lay rs, decide_eq_true (by simp only [PyData.depth]; omega)]
  rfl
theorem shaped_lay {d : PyData} (h : SeqAt.shaped d = true) : d.canLay0 = true := by
  unfold SeqAt.shaped at h
  rw [Bool.and_eq_true] at h
  exact h.1
theorem ints_dp {K : PySem.W.Frag} {H : Hp} : ∀ r : List Int, DpAll K H (r.map V.int) (r.map PyData.int)
  | [] => .nil
  | _ :: r => .cons (.int _) (ints_dp r)
theorem row_dp {K : PySem.W.Frag} {H : Hp} {a : Addr} {r : List Int} (h : SqL K H a (r.map V.int)) : Dp K H (.ref a) (iD r) := .lst h (ints_dp r)
theorem rows_dp {K : PySem.W.Frag} {H : Hp} : ∀ {rs : List (List Int)} {vs : List V}, Paired (fun r v => ∃ a, v = .ref a ∧ H a = some (.lst (r.map V.int))) rs vs → DpAll K H vs (rs.map iD)
  | _, _, .nil => .nil
  | _, _, .cons ⟨a, e, h⟩ t => .cons (e ▸ row_dp (SqL.of h)) (rows_dp t)
/-- what a piece tells, as data -/
def pcD (a b c : Int) (t : Str) : PyData := .tuple [.int a, .int b, .int c, .str t]
theorem strOk_of {cs : List Nat} (h : ∀ c ∈ cs, c < 1114112) : PyData.canLay0 (.str (mkS cs)) = true := by
  simp only [PyData.canLay0]
  unfold PyData.strOk mkS
  rw [Array.all_eq_true']
  intro x hx
  exact decide_eq_true (h x (by simpa using hx))
theorem pcD_shaped {a b c : Int} {cs : List Nat} (h : ∀ c ∈ cs, c < 1114112) : SeqAt.shaped (pcD a b c (mkS cs)) = true := by
  unfold SeqAt.shaped pcD
  rw [show PyData.canLay0 (.tuple [.int a, .int b, .int c, .str (mkS cs)]) = true from by
    have := strOk_of h
    simp only [PyData.canLay0] at this
    simp [PyData.canLay0, PyData.canLayAll0, this], decide_eq_true (by simp [PyData.depth, PyData.depthAll])]
  rfl
theorem pcD_dp {K : PySem.W.Frag} {H : Hp} {p : Addr} {a b c : Int} {t : Str} (h : SqT K H p [.int a, .int b, .int c, .str t]) : Dp K H (.ref p) (pcD a b c t) :=
  .tup h (.cons (.int _) (.cons (.int _) (.cons (.int _) (.cons (.str _) .nil))))
/-! ### the law's own reading -/
def SG2 : Str := " !\"#$?&'()*+,-./0123456789:;<=>?@ABCDEFGHIJKLMNOPQRSTUVWXYZ[\\]^_`abcdefghijklmnopqrstuvwxyz{|}~"
def sg2L : List Nat := List.range' 32 5 ++ 63 :: List.range' 38 89
theorem SG2_eq : SG2 = mkS sg2L := by decide +kernel
theorem SG2_len : SG2.length = 95 := by
  rw [SG2_eq, mkS_len]
  decide +kernel
theorem sg2_at {c : Int} (h : sgB c = true) : atI SG2.cps.toList (c - 32) = some c.toNat := by
  have hb : 32 ≤ c ∧ c ≤ 126 ∧ c ≠ 37 := of_decide_eq_true h
  have all : ∀ k, k < 95 → k ≠ 5 → sg2L[k]? = some (32 + k) := by decide +kernel
  rw [SG2_eq, mkS_cps, show c - 32 = (((c - 32).toNat : Nat) : Int) by omega]
  refine atI_nat ?_
  rw [all (c - 32).toNat (by omega) (by omega)]
  congr 1
  omega
theorem row_31 {x : Pc} (h : x.m.length = 25) : (x.row.map V.int)[31]? = some (.int x.z) := by
  unfold Pc.row
  rw [List.getElem?_map, List.getElem?_append_right (by simp), List.getElem?_append_right (by simp [h])]
  simp [h]
theorem row_len {x : Pc} (h : x.m.length = 25) : x.row.length = 32 := by
  unfold Pc.row
  simp only [List.length_append, List.length_cons, List.length_nil, h]
theorem cut_codes {x : Pc} (h : x.m.length = 25) (h0 : 0 ≤ x.b5) (h1 : x.b5 ≤ 24) : cutV (x.row.map V.int) (some 6) (some (6 + x.b5)) = (x.m.take x.b5.toNat).map V.int := by
  rw [show (6 : Int) + x.b5 = ((6 + x.b5.toNat : Nat) : Int) by omega, show (6 : Int) = ((6 : Nat) : Int) from rfl, cutV_nat _ (by omega)]
  unfold Pc.row
  rw [List.map_append, List.drop_left' (by rfl), show 6 + x.b5.toNat - 6 = x.b5.toNat by omega, List.map_append, List.take_append_of_le_length (by rw [List.length_map]; omega), List.map_take]
theorem cut_behind {x : Pc} (h : x.m.length = 25) (h0 : 0 ≤ x.b5) (h1 : x.b5 ≤ 24) : cutV (x.row.map V.int) (some (6 + x.b5)) (some 31) = (x.m.drop x.b5.toNat).map V.int := by
  have lr : (x.row.map V.int).length = 32 := by rw [List.length_map, row_len h]
  rw [show (6 : Int) + x.b5 = ((6 + x.b5.toNat : Nat) : Int) by omega, show (31 : Int) = ((31 : Nat) : Int) from rfl, cutV_nat _ (by omega)]
  unfold Pc.row
  rw [List.map_append, List.drop_append, List.drop_of_length_le (by simp), List.nil_append, List.map_append]
  rw [show 6 + x.b5.toNat - ([x.b0, x.b1, x.b2, x.b3, x.b4, x.b5].map V.int).length = x.b5.toNat by simp, List.drop_append_of_le_length (by rw [List.length_map]; omega), List.take_left' (by rw [List.length_drop, List.length_map]; omega), List.map_drop]
theorem filter_all {l : List Int} : ((l.filter fun c => !decide (c = 0)) = []) ↔ l.all (fun c => decide (c = 0)) = true := by
  rw [List.filter_eq_nil_iff, List.all_eq_true]
  constructor
  · intro h c hc
    have := h c hc
    cases e : decide (c = 0) with
    | true => rfl
    | false => rw [e] at this; exact absurd rfl this
  · intro h c hc
    rw [h c hc]
    decide
theorem eqv_nil {l : List Int} : PyData.eqv (iD l) (.list []) = decide (l = []) := by
  cases l with
  | nil => decide +kernel
  | cons a r =>
    rw [decide_eq_false (fun z => nomatch z)]
    unfold iD
    rw [List.map_cons]
    rfl
theorem row_31' {x : Pc} (h : x.m.length = 25) : x.row[31]? = some x.z := by
  unfold Pc.row
  rw [List.getElem?_append_right (by simp), List.getElem?_append_right (by simp [h])]
  simp [h]
theorem z_no {x : Pc} (h : x.m.length = 25) (e : x.row[31]? = some 0) : x.is = false := by
  rw [row_31' h] at e
  have : x.z = 0 := Option.some.inj e
  unfold Pc.is
  rw [this]
  simp
theorem b_no {x : Pc} (e : x.row[0]? = some 0) : x.is = false := by
  have : x.b0 = 0 := Option.some.inj e
  unfold Pc.is
  rw [this]
  simp
theorem cut_take (l : List V) {k : Nat} (h : k ≤ l.length) : cutV l none (some (k : Int)) = l.take k := by
  unfold cutV
  rw [HT.sIx_none, HT.sIx_nat, Nat.min_eq_left h]
  rfl
theorem cut_drop (l : List V) {k : Nat} (h : k ≤ l.length) : cutV l (some (k : Int)) none = l.drop k := by
  unfold cutV
  rw [HT.sIx_none, HT.sIx_nat, Nat.min_eq_left h, List.take_of_length_le (by rw [List.length_drop]; omega)]
theorem bx_same {H H' : Hp} {b dg : Addr} {ds : List Int} (s : Same H H') (B : Com.Bx H b dg ds) : Com.Bx H' b dg ds := by
  obtain ⟨n, h1, h2⟩ := B
  exact ⟨n, s _ _ h1, s _ _ h2⟩
theorem paired_get {α β : Type} {R : α → β → Prop} : ∀ {xs : List α} {ys : List β}, Paired R xs ys → ∀ {i : Nat} {x : α}, xs[i]? = some x → ∃ y, ys[i]? = some y ∧ R x y
  | _, _, .nil, _, _, h => by simp at h
  | _, _, .cons r _, 0, _, h => by
    cases h
    exact ⟨_, rfl, r⟩
  | _, _, .cons _ t, i + 1, _, h => by
    rw [List.getElem?_cons_succ] at h
    obtain ⟨y, h1, h2⟩ := paired_get t h
    exact ⟨y, h1, h2⟩
/-- blocks at new places -/
def BlksF (H0 H : Hp) : List (List Int) → List V → Prop := Paired fun r v => ∃ a, v = .ref a ∧ H0 a = none ∧ H a = some (.lst (r.map V.int))
theorem pick14 {y1 y2 : Int} (h0 : 0 ≤ y2) (h1 : y2 < 14) (h : 0 ≤ y1) : ∃ m : Int, atI [V.int 0, .int 10, .int 11, .int 24, .int 31, .int 32, .int 37, .int 72, .int 75, .int 83, .int 126, .int 127, .int 255, .int y1] y2 = some (.int m) ∧ 0 ≤ m := by
  obtain ⟨j, rfl⟩ : ∃ j : Nat, y2 = (j : Int) := ⟨y2.toNat, by omega⟩
  have hj : j < 14 := by omega
  have e : [V.int 0, .int 10, .int 11, .int 24, .int 31, .int 32, .int 37, .int 72, .int 75, .int 83, .int 126, .int 127, .int 255, .int y1] = ([0, 10, 11, 24, 31, 32, 37, 72, 75, 83, 126, 127, 255, y1] : List Int).map V.int := rfl
  have lt : j < ([0, 10, 11, 24, 31, 32, 37, 72, 75, 83, 126, 127, 255, y1] : List Int).length := hj
  refine ⟨[0, 10, 11, 24, 31, 32, 37, 72, 75, 83, 126, 127, 255, y1][j], ?_, ?_⟩
  · rw [e]
    exact atI_nat (by rw [List.getElem?_map, List.getElem?_eq_getElem lt]; rfl)
  · have : ∀ d ∈ ([0, 10, 11, 24, 31, 32, 37, 72, 75, 83, 126, 127, 255, y1] : List Int), 0 ≤ d := by
      intro d hd
      simp only [List.mem_cons, List.not_mem_nil, or_false] at hd
      omega
    exact this _ (List.getElem_mem lt)
/-- [..] + [z] * n + [..] -/
theorem three {σ : L2.St} {H : Hp} {Q : VK} {ta tz tb : TA} {xs ys : List V} {z : V} {n : Nat} (ha : ∀ {H : Hp} {R : List V → Hp → Prop}, R xs H → ta σ H R) (hz : ∀ {H : Hp} {R : List V → Hp → Prop}, R [z] H → tz σ H R) (hb : ∀ {H : Hp} {R : List V → Hp → Prop}, R ys H → tb σ H R)
    (small : xs.length + n + ys.length ≤ 1000) (hq : ∀ (p : Addr) (H' : Hp), Same H H' → H p = none → H' p = some (.lst (xs ++ List.replicate n z ++ ys)) → Q (.ref p) H') :
    tOp rCat (tOp rCat (tLst ta) (tOp rRep (tLst tz) (tC (.int (n : Int))))) (tLst tb) σ H Q := by
  have sz := sizeLine_eq
  refine ha ⟨by omega, fun p1 n1 => ?_⟩
  have s1 : Same H (upd H p1 (.lst xs)) := Com.same_new (Same.refl H) n1
  have h1 : (upd H p1 (.lst xs)) p1 = some (.lst xs) := upd_same
  generalize upd H p1 (.lst xs) = H1 at s1 h1 ⊢
  refine hz ⟨by show 1 ≤ sizeLine; omega, fun p2 n2 => ?_⟩
  have s2 := Com.same_new (o := .lst [z]) s1 n2
  have h12 := Com.same_new (o := .lst [z]) (Same.refl H1) n2 _ _ h1
  have h2 : (upd H1 p2 (.lst [z])) p2 = some (.lst [z]) := upd_same
  generalize upd H1 p2 (.lst [z]) = H2 at s2 h12 h2 ⊢
  refine ⟨p2, n, _, rfl, rfl, h2, by omega, by omega, by rw [Int.toNat_natCast]; simp only [List.length_cons, List.length_nil]; omega, fun p3 n3 => ?_⟩
  rw [Int.toNat_natCast, rep_flat]
  have s3 := Com.same_new (o := .lst (List.replicate n z)) s2 n3
  have h13 := Com.same_new (o := .lst (List.replicate n z)) (Same.refl H2) n3 _ _ h12
  have h3 : (upd H2 p3 (.lst (List.replicate n z))) p3 = some (.lst (List.replicate n z)) := upd_same
  generalize upd H2 p3 (.lst (List.replicate n z)) = H3 at s3 h13 h3 ⊢
  refine ⟨p1, p3, _, _, rfl, rfl, h13, h3, by rw [List.length_replicate]; omega, fun p4 n4 => ?_⟩
  have s4 := Com.same_new (o := .lst (xs ++ List.replicate n z)) s3 n4
  have h4 : (upd H3 p4 (.lst (xs ++ List.replicate n z))) p4 = some (.lst (xs ++ List.replicate n z)) := upd_same
  generalize upd H3 p4 (.lst (xs ++ List.replicate n z)) = H4 at s4 h4 ⊢
  refine hb ⟨by omega, fun p5 n5 => ?_⟩
  have s5 := Com.same_new (o := .lst ys) s4 n5
  have h45 := Com.same_new (o := .lst ys) (Same.refl H4) n5 _ _ h4
  have h5 : (upd H4 p5 (.lst ys)) p5 = some (.lst ys) := upd_same
  generalize upd H4 p5 (.lst ys) = H5 at s5 h45 h5 ⊢
  refine ⟨p4, p5, _, _, rfl, rfl, h45, h5, by rw [List.length_append, List.length_replicate]; omega, fun p6 n6 => ?_⟩
  refine hq p6 _ (Com.same_new s5 n6) ?_ upd_same
  cases e : H p6 with
  | none => rfl
  | some o => exact absurd ((s5 _ _ e).symm.trans n6) (fun z => nomatch z)
end Bk
set_option Elab.async false
set_option linter.all false
/-! Cst: a name of the module, by its value. -/
namespace Nw
open PySem PySem.Spec PyProof.Rows L2
section
variable {X : Cx}
/-- a name of the module, by its value -/
theorem pe_cst {x : Str} {v : V} {pos : Pos} (hg : Gl X x) (h : ∃ u, X.mg x = some u ∧ RelV v u) (hd : (x == ("__debug__" : Str)) = false := by decide) : PE X (.Name x pos) (tC v) :=
  let ⟨_, hm, r⟩ := h
  pe_glob hg hm r hd
end
end Nw
set_option Elab.async false
set_option linter.all false
set_option maxRecDepth 100000
set_option maxHeartbeats 4000000
/-! X1: an own exception class whose __init__ says super().__init__(..) and stores one field. -/
namespace Xs
open PySem PySem.Spec PyProof.Rows L2 NdefX

section
variable {X : Cx} {pins : List (Addr × Obj)} {σ : L2.St} {H : Hp} {s : Shared}
/-- an object just made may be pinned -/
theorem pin_new {o : Obj} {tk : Nat} (I : Inv X pins σ H s) (hf : o.isFreed = false) (hd : ∀ v, o.data ≠ .cell v) :
    Inv X ((s.heap.objs.size, o) :: pins) σ H { s with heap := s.heap.push o, toks := tk } := by
  have k : ∀ b u, s.heap.get? b = some u → (s.heap.push o).get? b = some u := fun b u e => Heap.get?_push_of_some _ e
  have J : Inv X pins σ H { s with heap := s.heap.push o, toks := tk } := I.kept k
  refine ⟨J.ok, J.os, J.bare, J.base, J.loc, J.cell, J.free, J.freeC, ?_, J.hok, J.len⟩
  intro p hp
  rw [List.mem_append, List.mem_cons] at hp
  rcases hp with h | rfl | h
  · exact J.pin p (List.mem_append_left _ h)
  · refine ⟨Heap.get?_push_size _ hf, I.hok.fresh (Nat.le_refl _), Nat.ne_of_gt I.lt, I.nofs (Nat.le_refl _), hd⟩
  · exact J.pin p (List.mem_append_right _ h)
end
abbrev vei : String := "ValueError.__init__"
abbrev clo (cc : Addr) : List (Str × Addr) := [("__class__", cc)]
/-- what is known of the class's own def and of its class -/
structure SupF (P : Program) (K : PySem.W.Frag) (C fI cc cda : Addr) (qual : Str) (params : Arguments) (body : List Stmt) (scope : Scope) (fd : FuncData) : Prop where
  fn : ∃ (oc : Value) (od : Option Addr) (osl : Array (Option Value)) (kV doc pm : Value) (an : Option Addr) (ct : Value), fd = PySem.W.fnX "__init__" qual params body scope (clo cc) .none kV doc pm an (.ref cda) ct ∧ K.lookup fI = some ⟨oc, od, .func fd, osl⟩
  code : PySem.W.codeIn K (.ref cda) qual = true
  cell : ∃ (cl : Value) (cld : Option Addr) (csl : Array (Option Value)), K.lookup cc = some ⟨cl, cld, .cell (some (.ref C)), csl⟩
  file : ∃ (ccl : Value) (cdd : Option Addr) (vs : Array Value) (ccs : Array (Option Value)) (file : Str) (tf : Tok), K.lookup cda = some ⟨ccl, cdd, .fields vs, ccs⟩ ∧ vs[2]? = some (.str file tf) ∧ ((P.main.file : Str) == file) = true
  top : (P.main.scope.names.lookup ("super" : Str)).isSome = false
  sub : PySem.W.mroIn K C (.ref C) = some true
  sup : PySem.W.ks_superIn K C C "__init__" = some (some (.builtin vei))
  ve : PySem.W.subIn K (.ref C) (.type "ValueError") = some true
  any : PySem.W.nsIn K cStatics "thirdparty.any" = some none
section
variable {X : Cx} {pins : List (Addr × Obj)} {σ : L2.St} {H : Hp} {s : Shared} {C fI cc cda a : Addr} {qual : Str} {params : Arguments} {body : List Stmt} {scope : Scope} {fd : FuncData}
/-- the call of the bound __init__ -/
theorem mw_call {u : Addr} {us : List Value} {Q : Value → Shared → Prop} (T : OexC X.K C) (I : Inv X pins σ H s) (e : H a = some (exo a C none)) (hu : s.heap.get? u = some (PySem.W.kxs_mw vei a)) (hl : us.length ≤ sizeLine)
    (h : ∀ s', Inv X pins σ H s' → Q .none s') : wpAny (model X.prog X.w) X.A (call (.ref u) us) Q X.xe s := by
  obtain ⟨nm, q, N, bs, bm, sn, sub, ab, col, dd, k0, k1, k2, k3, k5, hC, hbm⟩ := T.cls
  obtain ⟨t1, ho⟩ := exo_at I.hok e
  obtain ⟨hp, g, d, t, os⟩ := s
  have fin : ∀ (h' : Heap) (n : Addr), (∀ b o, b ≠ a → hp.get? b = some o → h'.get? b = some o) → h'.get? a = some (PySem.HandSPX.excO C n) → Q .none ⟨h', g, d, t, os⟩ := fun h' n k hx => by
    have J := I.write (t' := t) (x := a) (e := a) (o := exo a C none) (by rw [e]; exact True.intro) (.inl rfl) k ⟨_, hx⟩ (exo_ok hx)
    have eu : upd H a (exo a C none) = H := funext fun b => by
      by_cases hb : b = a
      · rw [hb, upd_same, e]
      · rw [upd_ne hb]
    rw [eu] at J
    exact h _ J
  refine wpAny_call (codeAny_of_tree (?_ : wpAny _ X.A.in1 (callAny (.ref u) ⟨us, []⟩) _ _ _))
  unfold callAny; refine wpAny_bind (wpAny_load hu ?_)
  have mw1 : ((Value.type "method-wrapper") == (Value.type "method") || (Value.type "method-wrapper") == (Value.type "builtin_function_or_method") || (Value.type "method-wrapper") == (Value.type "method-wrapper")) = true := by decide
  simp only [PySem.W.kxs_mw, mw1, if_true]
  refine PySem.W.KFB.if_so (by decide) (wpAny_bind (PySem.W.check_bound_init F.excBase_ValueError.toExcCallFacts (I.kIn _ _ hC) ho rfl (wpAny_bind (wpAny_pure (wpAny_pure ?_)))))
  refine ⟨plainId_quiet F.excBase_ValueError.init.plain _, codeAny_builtin F.excBase_ValueError.initEntry ?_⟩
  exact PySem.W.exc_init_tree (cls := .ref C) (t0 := t1) (dv := none) (c2 := .none) (c3 := .none) (b4 := .bool false) ho hl fun h' k hx _ => fin h' _ k hx
/-- super().__init__(e) -/
theorem sup_st {CX : CXT} {P : Program} {w : World} {K : PySem.W.Frag} {mg : Str → Option Value} {base : Heap} {N : List Str} {A : Around} {outer : List Env} {s0 : Shared} {H0 : Hp} {E0 : XK} {p0 p1 p2 p3 : Pos} {e : Expr} {te : TA} {ar : Arg} {σ : L2.St} {H : Hp} {s : Shared}
    (S : SupF P K C fI cc cda qual params body scope fd) (T : OexC K C) (hp : (params.posonlyargs ++ params.args).head? = some ar) (hk : scope.kind = .function) (hks : scope.names.lookup ("super" : Str) = some .globalImplicit) (hkc : scope.names.lookup ("__class__" : Str) = some .free) (hka : scope.names.lookup ar.arg = some .local)
    (hs : mg "super" = none) (hN : N[0]? = some ar.arg)
    (I : Inv (ncx CX P w K mg base N ⟨"__init__", qual, params, body, scope, clo cc, cda⟩ fI A outer s0 H0 E0) [] σ H s) (h0 : σ[0]? = some (some (.ref a))) (ea : H a = some (exo a C none))
    (he : PA (ncx CX P w K mg base N ⟨"__init__", qual, params, body, scope, clo cc, cda⟩ fI A outer s0 H0 E0) [e] te) (hte : te σ H fun vs H1 => vs.length ≤ 1000 ∧ H1 = H)
    {pl : Sem Bool} (hc : eval (.Call (.Attribute (.Call (.Name "super" p0) [] [] p1) "__init__" p2) [e] [] p3) (PySem.W.envX qual scope s0.heap.objs.size fI (.ref cda) (clo cc)) = (do
      let ov ← attributeBase (.Call (.Name "super" p0) [] [] p1) "__init__" (PySem.W.envX qual scope s0.heap.objs.size fI (.ref cda) (clo cc)) (eval (.Call (.Name "super" p0) [] [] p1) (PySem.W.envX qual scope s0.heap.objs.size fI (.ref cda) (clo cc)))
      standAt p2.atName
      let (f, first) ← holding [ov] (getMethod ov "__init__" pl)
      callWith p3 f first (backTo p3 (starEach [e] (PySem.W.envX qual scope s0.heap.objs.size fI (.ref cda) (clo cc)))) []))
    (hst : starEach [e] (PySem.W.envX qual scope s0.heap.objs.size fI (.ref cda) (clo cc)) = (false, eval e (PySem.W.envX qual scope s0.heap.objs.size fI (.ref cda) (clo cc))) :: starEach [] (PySem.W.envX qual scope s0.heap.objs.size fI (.ref cda) (clo cc)) := by rfl) :
    PySem.wpAt (model P w) (A.deeper (PySem.W.envX qual scope s0.heap.objs.size fI (.ref cda) (clo cc))) (.func body (PySem.W.envX qual scope s0.heap.objs.size fI (.ref cda) (clo cc)))
      (eval (.Call (.Attribute (.Call (.Name "super" p0) [] [] p1) "__init__" p2) [e] [] p3) (PySem.W.envX qual scope s0.heap.objs.size fI (.ref cda) (clo cc)))
      (fun _ s' => Inv (ncx CX P w K mg base N ⟨"__init__", qual, params, body, scope, clo cc, cda⟩ fI A outer s0 H0 E0) [] σ H s') (ncx CX P w K mg base N ⟨"__init__", qual, params, body, scope, clo cc, cda⟩ fI A outer s0 H0 E0).xe s := by
  obtain ⟨oc, od, osl, kV, doc, pm, an, ct, rfl, hf⟩ := S.fn
  obtain ⟨cl, cld, csl, hcell⟩ := S.cell
  obtain ⟨ccl, cdd, vs, ccs, file, tf, hcode, hvs, hfile⟩ := S.file
  obtain ⟨nm, q, Nn, bs, bm, sn, sub, ab, col, dd, k0, k1, k2, k3, k5, hC, hbm⟩ := T.cls
  have kin := I.kIn
  obtain ⟨t1, ho⟩ := exo_at I.hok ea
  obtain ⟨m, hns, hlook⟩ := I.loc
  obtain ⟨u0, ru, hu0⟩ := hlook 0 ar.arg (.ref a) hN h0 (.inl hka)
  obtain rfl : u0 = Value.ref a := ru
  have hm : m ar.arg = some (.ref a) := by
    rcases hu0 with ⟨_, h⟩ | ⟨h, _⟩
    · exact h
    · rcases h with h | h
      · exact absurd (hka.symm.trans h) (fun z => nomatch z)
      · exact absurd (hka.symm.trans h) (fun z => nomatch z)
  obtain ⟨mb, hb1, hb2⟩ := I.mod.blt
  obtain ⟨hh, g, d, t, os⟩ := s
  refine PySem.ks_wpAt_MethodCall (pl := pl) ?_ hc
  refine PySem.ks_wpAt_super_base (env := PySem.W.envX qual scope s0.heap.objs.size fI (.ref cda) (clo cc)) hks hkc rfl rfl (kin _ _ hf) rfl hp rfl (kin _ _ hcode) rfl hvs hfile S.top ?_
  refine PySem.W.ks_loadName_global hk hks (Calls.loadGlobal_builtin (by exact I.mod.glob.keeps I.bk) hs (by exact hb1.keeps I.bk) ((hb2 "super" (by decide)).trans (by decide +kernel)) ⟨rfl, ?_⟩)
  refine wpAny_loadName_free hk hkc rfl ⟨_, kin _ _ hcell, rfl⟩ ?_
  refine wpAny_loadName_local hk hka hns hm ?_
  refine PySem.ks_wpAny_isType_cls (kin _ _ hC) rfl ⟨rfl, ?_⟩
  refine PySem.ks_wpAny_call_super (kin _ _ hC) rfl ho rfl (fun c z => nomatch z) (PySem.W.looks_mroIn kin S.sub) (fun h' es k => ?_)
  have J := I.kept (s := ⟨hh, g, d, t, os⟩) (t' := t) (h' := h') k
  have kin' := J.kIn
  have hcls : PySem.W.clsIn K C = some { name := nm, bases := bs, mro := .ref C :: bm, ns := Nn, qualname := q, hasDict := true, slotNames := sn, subclasses := sub, abstract := ab, collection := col, hasDel := false } := by
    unfold PySem.W.clsIn
    rw [hC] <;> rfl
  have hsup := S.sup
  unfold PySem.W.ks_superIn at hsup
  rw [hcls] at hsup
  have IA : PySem.W.InstAt h' a (PySem.HandSPX.excO C t1) C none := ⟨k _ _ ho, rfl, rfl, trivial⟩
  refine PySem.W.kxs_getMethod PySem.W.kxs_ValueError es (PySem.W.looks_opaque kin' S.any) (l₀ := .ref C :: bm) (fun A Q E s k q => wpAny_bind ((PySem.W.looks_clsIn kin' hcls) A _ E s k (wpAny_pure q))) rfl kin' hsup (IA.type.andThen (PySem.W.looks_subIn kin' S.ve)) (PySem.W.ks_ne kin' IA hcls) rfl ?_
  have J2 := pin_new (o := PySem.W.kxs_mw vei a) (tk := t + 1) J rfl (fun v z => nomatch z)
  have hu := Heap.get?_push_size h' (o := PySem.W.kxs_mw vei a) rfl
  have hbn : base.get? h'.objs.size = none := by
    cases e : base.get? h'.objs.size with
    | none => rfl
    | some o => exact absurd (Heap.lt_size (J.bk _ _ e)) (Nat.lt_irrefl _)
  have NW : PyProof.Rows.News base (h'.objs.size + 1) (h'.push (PySem.W.kxs_mw vei a)) [(h'.objs.size, PySem.W.kxs_mw vei a)] := fun p hp => by
    obtain rfl := List.mem_singleton.mp hp
    exact ⟨hu, Nat.ne_of_lt (Nat.lt_succ_self _), hbn⟩
  refine PySem.W.kxs_callWith1 NW (List.mem_singleton.mpr rfl) (thn (he.run p3 [(h'.objs.size, PySem.W.kxs_mw vei a)] _ σ H (fun vs H1 => vs.length ≤ 1000 ∧ H1 = H) J2 hte) fun us s1 ⟨vs', H1, I1, r1, hl, eH⟩ => ?_) hst rfl
  subst eH
  have pu := (I1.pin (h'.objs.size, PySem.W.kxs_mw vei a) (List.mem_append_right _ (List.mem_singleton.mpr rfl))).1
  refine ⟨pu, mw_call T I1 ea pu (by rw [← r1.length, sizeLine_eq]; omega) fun s' J3 => ?_⟩
  exact ⟨J3.ok, J3.os, J3.bare, J3.base, J3.loc, J3.cell, J3.free, J3.freeC, fun p hp => J3.pin p (List.mem_append_left _ (by simpa using hp)), J3.hok, J3.len⟩
/-- the promise of the class's __init__(self, x) that stores x as f -/
def spSup (C : Addr) (f : Str) : Sp := fun vs H Q _ => ∃ (a : Addr) (z : Str), vs = [.ref a, .str z] ∧ z.length ≤ 100 ∧ H a = some (exo a C none) ∧
  ∀ dx, H dx = none → dx ≠ a → Q .non (upd (upd H dx (exd dx [(f, .str z)])) a (exo a C (some dx)))
abbrev supB (p0 p1 p2 p3 p4 q0 q1 q2 q3 : Pos) (e : Expr) (n x f : Str) : List Stmt := [.Expr (.Call (.Attribute (.Call (.Name "super" p0) [] [] p1) "__init__" p2) [e] [] p3) p4, .Assign [.Attribute (.Name n q0) f q1] (.Name x q2) q3]
theorem sup_fn {CX : CXT} {P : Program} {w : World} {K : PySem.W.Frag} {mg : Str → Option Value} {base : Heap} {p0 p1 p2 p3 p4 q0 q1 q2 q3 : Pos} {e : Expr} {x f : Str} {ar : Arg} {te : TA}
    (S : SupF P K C fI cc cda qual params (supB p0 p1 p2 p3 p4 q0 q1 q2 q3 e ar.arg x f) scope fd) (T : OexC K C) (hno : PySem.W.findIn K (.ref C) f = some none)
    (sc : NScope [ar.arg, x, "__class__"] [ar.arg, x] ["__class__"] scope) (hp : (params.posonlyargs ++ params.args).head? = some ar) (hks : scope.names.lookup ("super" : Str) = some .globalImplicit) (hs : mg "super" = none)
    (he : ∀ Y : Cx, Y.N = [ar.arg, x, "__class__"] → Y.env.scope = scope → PA Y [e] te) (hte : ∀ (a : Addr) (z : Str) (H : Hp), z.length ≤ 100 → te [some (.ref a), some (.str z), none] H fun vs H1 => vs.length ≤ 1000 ∧ H1 = H)
    (hc : ∀ env : Env, ∃ pl : Sem Bool, eval (.Call (.Attribute (.Call (.Name "super" p0) [] [] p1) "__init__" p2) [e] [] p3) env = (do
      let ov ← attributeBase (.Call (.Name "super" p0) [] [] p1) "__init__" env (eval (.Call (.Name "super" p0) [] [] p1) env)
      standAt p2.atName
      let (f, first) ← holding [ov] (getMethod ov "__init__" pl)
      callWith p3 f first (backTo p3 (starEach [e] env)) []))
    (hst : ∀ env : Env, starEach [e] env = (false, eval e env) :: starEach [] env) (hsw : ∀ env : Env, swapsWith (.Call (.Attribute (.Call (.Name "super" p0) [] [] p1) "__init__" p2) [e] [] p3) none p4.line env = pure false)
    (hsw2 : ∀ env : Env, swapsWith (.Name x q2) (some (.Attribute (.Name ar.arg q0) f q1)) q3.line env = pure false)
    (hn : (ar.arg == ("__debug__" : Str)) = false ∧ (ar.arg == ("__classdict__" : Str)) = false ∧ (x == ("__debug__" : Str)) = false ∧ (x == ("__classdict__" : Str)) = false) :
    FnOk P w K mg base CX 1 fI fd [ar.arg, x] (spSup C f) := by
  have hkc : scope.names.lookup ("__class__" : Str) = some .free := sc.frk _ (by simp)
  have hka : scope.names.lookup ar.arg = some .local := sc.par _ (by simp)
  have hkx : scope.names.lookup x = some .local := sc.par _ (by simp)
  refine ⟨fun vs H Q E h => ?_, fun A outer s H args us vs Q E hr e0 hb r hsp => ?_⟩
  · obtain ⟨a, z, rfl, _⟩ := h
    rfl
  obtain ⟨a, z, rfl, hz, ea, q⟩ := hsp
  have KX : K.In s.heap := e0.mod.kin.keeps fun b o e => (e0.bs b o e).1
  have lim : s.heap.NoLimit := e0.mod.nolimit.keeps fun b o e => (e0.bs b o e).1
  obtain ⟨oc, od, osl, kV, doc, pm, an, ct, hfd, hf⟩ := S.fn
  obtain ⟨cl, cld, csl, hcell⟩ := S.cell
  have S' := S
  subst hfd
  have bk0 : ∀ b o, K.lookup b = some o → H b = none := fun b o z => (e0.bs b o (e0.mod.kin _ _ z)).2
  have CA : CellsAt (clo cc) ["__class__"] [none] s.heap H := by
    refine ⟨rfl, fun y c hy => ?_, fun y y' c h1 h2 => ?_, fun i y hi => ?_⟩
    · have : c = cc := by
        unfold clo at hy
        rw [List.lookup_cons] at hy
        split at hy
        · exact (Option.some.inj hy).symm
        · cases hy
      subst this
      exact ⟨bk0 _ _ hcell, _, _, KX _ _ hcell, rfl⟩
    · have one : ∀ y c, (clo cc).lookup y = some c → y = "__class__" := fun y c hy => by
        unfold clo at hy
        rw [List.lookup_cons] at hy
        split at hy
        · rename_i e
          exact beq_iff_eq.mp e
        · cases hy
      rw [one _ _ h1, one _ _ h2]
    · match i, hi with
      | 0, hi =>
        cases hi
        exact ⟨cc, rfl, fun v hv => by cases hv⟩
      | i + 1, hi => simp at hi
  have hin : ∀ env : Env, env.scope = scope → interactive env = false := fun env he => by
    unfold interactive
    rw [he, sc.kind]
    rfl
  refine PySem.ks_codeAny_call_defAt (body := (supB p0 p1 p2 p3 p4 q0 q1 q2 q3 e ar.arg x f)) (binds := List.zip [ar.arg, x] us) hr.depth (KX _ _ hf) rfl lim (PySem.W.codeRec_of KX S.code) rfl hb sc.nocell (fun y hy => sc.par _ (List.of_mem_zip hy).1) (fun h₁ hns hk₁ => ?_) sc.co sc.gen sc.kind
  have I : Inv (ncx CX P w K mg base [ar.arg, x, "__class__"] ⟨"__init__", qual, params, (supB p0 p1 p2 p3 p4 q0 q1 q2 q3 e ar.arg x f), scope, clo cc, cda⟩ fI A outer s H E) [] [some (.ref a), some (.str z), none] H { s with heap := h₁, toks := s.toks + (List.zip [ar.arg, x] us).length } :=
    inv_startN (F := ⟨"__init__", qual, params, (supB p0 p1 p2 p3 p4 q0 q1 q2 q3 e ar.arg x f), scope, clo cc, cda⟩) sc hr.hd e0 rfl r CA hns hk₁
  refine PySem.ks_wpAt_execs_cons (PySem.ks_wpAt_Expr_any ?_ (hin _ rfl) (hsw _))
  obtain ⟨pl, hcl⟩ := hc (PySem.W.envX qual scope s.heap.objs.size fI (.ref cda) (clo cc))
  refine PySem.ks_wpAt_mono (sup_st S' T hp sc.kind hks hkc hka hs rfl I rfl ea (he _ rfl rfl) (hte a z H hz) hcl (hst _)) (fun v s' J => ?_) (fun _ _ h => h)
  have ost := (pss_one (ps_ost (f := f) (p' := q1) (pos := q3) (pe_var (X := ncx CX P w K mg base [ar.arg, x, "__class__"] ⟨"__init__", qual, params, (supB p0 p1 p2 p3 p4 q0 q1 q2 q3 e ar.arg x f), scope, clo cc, cda⟩ fI A outer s H E) (i := 0) (pos := q0) rfl (.inl hka) (hd := hn.1) (hcd := hn.2.1)) (pe_var (i := 1) (pos := q2) rfl (.inl hkx) (hd := hn.2.2.1) (hcd := hn.2.2.2)) (hsw2 _))).run [] s' _ H { nx := fun _ H' => Q .non H', rt := Q } J ?_
  · refine wpAt_of_wpAny (wpAny_mono ost (fun fl s2 hs2 => ?_) fun _ _ h => h)
    cases fl with
    | ret u =>
      obtain ⟨v, σ', H', J2, rv, q2⟩ := hs2
      exact ⟨v, H', J2.os, J2.bare, J2.base, J2.hok, rv, q2⟩
    | next =>
      obtain ⟨σ', H', J2, q2⟩ := hs2
      exact ⟨.non, H', J2.os, J2.bare, J2.base, J2.hok, rfl, q2⟩
    | brk =>
      obtain ⟨_, _, _, q2⟩ := hs2
      exact False.elim q2
    | cont =>
      obtain ⟨_, _, _, q2⟩ := hs2
      exact False.elim q2
  · exact ⟨_, rfl, _, rfl, a, C, rfl, T, hno, .inl ⟨ea, fun dx n ne => q dx n ne⟩⟩
end
end Xs
set_option Elab.async false
set_option linter.all false
set_option maxRecDepth 100000
set_option maxHeartbeats 4000000
/-! X2: several except clauses, each with a name or without; a class made by an __init__ that may raise, in a try; what a caught error tells of itself. -/
namespace Xs
open PySem PySem.Spec PyProof.Rows L2

abbrev Suite := Addr → Value → Option Addr → TS
/-- behind a suite that held the error in slot i -/
abbrev endsOff (D : Ends) (i : Nat) : Ends := { nx := fun τ G => D.nx (τ.set i none) G, rt := D.rt, bk := fun τ G => D.bk (τ.set i none) G, ct := fun τ G => D.ct (τ.set i none) G }
def wMix (K : PySem.W.Frag) (Wout : WX) (D : Ends) : List (Value × Option Nat × Suite) → WX
  | [] => Wout
  | (c, o, ts) :: r => fun cls d σ H => ∃ b, PySem.W.exmOne K cls c = some b ∧
      (b = true → ∀ a, H a = none → match o with
        | none => ts a cls d D σ H
        | some i => ts a cls d (endsOff D i) (σ.set i (some (.ref a))) H) ∧ (b = false → wMix K Wout D r cls d σ H)
/-- the clauses' suites keep what is read of them -/
inductive Clauses (X : Cx) : List ExceptHandler → List (Value × Option Nat × Suite) → Prop
  | nil : Clauses X [] []
  | plain {x : Str} {c : Value} {ts : Suite} {b₀ : Stmt} {suite : List Stmt} {np q : Pos} {hs : List ExceptHandler} {l : List (Value × Option Nat × Suite)} (hc : Names X x c)
      (run : ∀ (a : Addr) (oe : Obj) (cls : Value) (d : Option Addr) (pn : List (Addr × Obj)), Zc cls d oe → (∃ vs, oe.data = .fields vs) → PSs (X.suite a ((a, oe) :: pn)) (b₀ :: suite) (ts a cls d)) (rest : Clauses X hs l) :
      Clauses X (.ExceptHandler (some (.Name x np)) none (b₀ :: suite) q :: hs) ((c, none, ts) :: l)
  | named {x n : Str} {i : Nat} {c : Value} {ts : Suite} {b₀ : Stmt} {suite : List Stmt} {np q : Pos} {hs : List ExceptHandler} {l : List (Value × Option Nat × Suite)} (hc : Names X x c) (slot : X.N[i]? = some n) (isloc : X.env.kindOf n = some .local)
      (run : ∀ (a : Addr) (oe : Obj) (cls : Value) (d : Option Addr) (pn : List (Addr × Obj)), Zc cls d oe → (∃ vs, oe.data = .fields vs) → PSs (X.suite a ((a, oe) :: pn)) (b₀ :: suite) (ts a cls d)) (rest : Clauses X hs l) :
      Clauses X (.ExceptHandler (some (.Name x np)) (some n) (b₀ :: suite) q :: hs) ((c, some i, ts) :: l)
section
variable {X : Cx} {body : List Stmt} {e₀ : ExceptHandler} {hds : List ExceptHandler} {l : List (Value × Option Nat × Suite)} {pos : Pos} {tb : WX → TS} {Wout : WX}
theorem ps_try_mix (stk : X.stack = X.env :: X.outer) (fr : X.env.frame = some X.env.locals) (nd : X.N.Nodup) (out : Takes X Wout)
    (inner : ∀ (W : WX) (pn : List (Addr × Obj)) (xe : Value → Shared → Prop), Takes (X.tr pn xe) W → PassesOwn (model X.prog X.w) X.A X.env xe → PSs (X.tr pn xe) body (tb W))
    (cls0 : Clauses X (e₀ :: hds) l) : PS X (.Try body (e₀ :: hds) [] [] pos) (fun D σ H => tb (wMix X.K Wout D l) D σ H) := by
  constructor
  intro pins s σ H D I start
  have ok := I.ok
  have frs1 : X.A.frames = some (X.env :: X.outer) := ok.frames.trans (congrArg some stk)
  let after : Value → Shared → Prop := fun e u1 => wpAny (model X.prog X.w) X.A (noteFrame e X.env) (fun _ u2 => wpAny (model X.prog X.w) X.A (setFlight e none) (fun _ u3 => wpAny (model X.prog X.w) X.A (handleBy e X.env (e₀ :: hds)) (SP X pins D) X.xe u3) X.xe u2) X.xe u1
  have run0 := (inner (wMix X.K Wout D l) (X.pn ++ pins) after ?caught PassesOwn.looking).run [] s σ H D (I.toTry _) start
  · refine wpAny_Try_except (wpAny_mono run0 (fun fl s1 done => ?_) (fun _ _ z => z))
    match fl, done with
    | .next, ⟨τ, G, J, q⟩ => exact wpAny_execs_nil ⟨τ, G, J.ofTry ok, q⟩
    | .brk, ⟨τ, G, J, q⟩ => exact ⟨τ, G, J.ofTry ok, q⟩
    | .cont, ⟨τ, G, J, q⟩ => exact ⟨τ, G, J.ofTry ok, q⟩
    | .ret u, ⟨v, τ, G, J, r, q⟩ => exact ⟨v, τ, G, J.ofTry ok, r, q⟩
  · intro u sx xx
    obtain ⟨a, B, sI, pins1, τ, G, cls, d, rfl, J0, nb, up, sky, na, os, ag, wish⟩ := xx
    have J : Inv X pins τ G sI := J0.ofTry ok
    rw [show (X.tr (X.pn ++ pins) after).stack = X.env :: X.outer from stk] at sky
    show wpAny _ _ (noteFrame _ _) _ _ _
    refine Sky.land Zc.steady frs1 fr sky fun hq fly upq => ?_
    have Jq : Inv X pins τ G { sx with heap := hq } := J.landed nb fly.1 (up.trans upq) os ag
    obtain ⟨oq, vq, eq, zq, dq⟩ := fly.there
    have apart : a ∉ frs (X.env :: X.outer) := by
      intro hm
      obtain ⟨_, o', e', no⟩ := fly.2.2.1.mem hm
      obtain rfl := Option.some.inj (eq.symm.trans e')
      exact no _ dq
    have aL : a ≠ X.env.locals := by
      rintro rfl
      exact apart (List.mem_filterMap.mpr ⟨X.env, List.mem_cons_self, fr⟩)
    have aF : a ∉ X.fs := by
      intro hm
      obtain ⟨e, he, q⟩ := List.mem_filterMap.mp hm
      exact apart (List.mem_filterMap.mpr ⟨e, .tail _ he, q⟩)
    have Sq := Jq.suite eq dq na aL aF
    have name : ∀ {x : Str} {c : Value} {np : Pos} {Q : Value → Shared → Prop} {E : Value → Shared → Prop}, Names X x c → Q c { sx with heap := hq } → wpAny (model X.prog X.w) (X.A.mark (some (.ref a))) (eval (.Name x np) X.env) Q E { sx with heap := hq } := by
      intro x c np Q E nm q
      obtain ⟨g, dbg, m | ⟨m, bv, nn⟩⟩ := nm
      · exact ld_glob (X := X.suite a ((a, oq) :: (X.pn ++ pins))) Sq g m q dbg
      · exact ld_blt (X := X.suite a ((a, oq) :: (X.pn ++ pins))) Sq g m bv q nn dbg
    have kind : PySem.W.Looks (model X.prog X.w) hq (typeOf (.ref a)) cls := fun _ _ _ _ k q => wpAny_typeOf_ref (k _ _ eq) (by rw [zq.1]; exact q)
    suffices go : ∀ {hs : List ExceptHandler} {m : List (Value × Option Nat × Suite)}, Clauses X hs m → wMix X.K Wout D m cls d τ G → wpAny (model X.prog X.w) X.A (handleBy (.ref a) X.env hs) (SP X pins D) X.xe { sx with heap := hq } from go cls0 wish
    intro hs m C
    induction C with
    | nil =>
      intro w
      obtain ⟨k1, k2, k3, oe, vs, T, oT, t1, he, hz, hd, h1, hr⟩ := id fly
      have leave : wpAny (model X.prog X.w) X.A (setFlight (.ref a) X.env.frame) (fun _ s4 => wpAny (model X.prog X.w) X.A (throw (.ref a) : Sem Flow) (SP X pins D) X.xe s4) X.xe { sx with heap := hq } := by
        rw [fr]
        refine HandSPX.setFlight_upZ fly fun h4 sky4 up4 => wpAny_throw (out _ _ ⟨a, B, sI, pins, τ, G, cls, d, rfl, J, nb, (up.trans upq).trans up4, .inr (.inr ?_), na, os, ag, w⟩)
        rw [stk]
        exact sky4
      refine wpAny_handleBy_nil ?_
      unfold PySem.passOn
      refine wpAny_bind (wpAny_field he hd h1 ?_)
      have nn : ¬ ((Value.ref T == Value.none) = true) := by simp
      rw [if_neg nn]
      first | exact wpAny_bind leave | exact wpAny_bind (wpAny_pure (wpAny_bind leave))
    | @plain x c ts b₀ suite np q hs2 m2 hc run rest ih =>
      rintro ⟨b, hb, yes, no⟩
      refine wpAny_handleBy_cons (codeAny_handlers_test (name hc ((PySem.W.exm_one (M := model X.prog X.w) Jq.kIn kind hb).here ?_))) (by intro z; cases z)
      cases b with
      | false => exact ih (no rfl)
      | true =>
        refine codeAny_handlers_suite (HandSPX.lands_againZ fly fun hr fly4 up4 => ?_)
        have J4 : Inv X pins τ G { sx with heap := hr } := J.landed nb fly4.1 ((up.trans upq).trans up4) os ag
        obtain ⟨o4, v4, e4, z4, d4⟩ := fly4.there
        refine wpAny_mono ((run a o4 cls d (X.pn ++ pins) z4 ⟨_, d4⟩).run [] _ _ G _ (J4.suite e4 d4 na aL aF) (yes rfl a na)) (fun fl s6 r6 => ?_) (fun _ _ z => z.elim)
        match fl, r6 with
        | .next, ⟨_, _, S6, q6⟩ => exact ⟨_, _, S6.unsuite ok, q6⟩
        | .brk, ⟨_, _, S6, q6⟩ => exact ⟨_, _, S6.unsuite ok, q6⟩
        | .cont, ⟨_, _, S6, q6⟩ => exact ⟨_, _, S6.unsuite ok, q6⟩
        | .ret u, ⟨_, _, _, S6, r, q6⟩ => exact ⟨_, _, _, S6.unsuite ok, r, q6⟩
    | @named x n i c ts b₀ suite np q hs2 m2 hc slot isloc run rest ih =>
      rintro ⟨b, hb, yes, no⟩
      refine wpAny_handleBy_cons (codeAny_handlers_test (name hc ((PySem.W.exm_one (M := model X.prog X.w) Jq.kIn kind hb).here ?_))) (by intro z; cases z)
      cases b with
      | false => exact ih (no rfl)
      | true =>
        refine codeAny_handlers_suite_as (HandSPX.lands_againZ fly fun hr fly4 up4 => ?_)
        have J4 : Inv X pins τ G { sx with heap := hr } := J.landed nb fly4.1 ((up.trans upq).trans up4) os ag
        obtain ⟨o4, v4, e4, z4, d4⟩ := fly4.there
        refine store_ok (X := X.suite a ((a, o4) :: (X.pn ++ pins))) (v := .ref a) (J4.suite e4 d4 na aL aF) nd slot (.inl isloc) rfl (fun s5 S5 => ?_) (.inr isloc)
        refine wpAny_mono ((run a o4 cls d (X.pn ++ pins) z4 ⟨_, d4⟩).run [] s5 _ G _ S5 (yes rfl a na)) (fun fl s6 r6 => ?_) (fun _ _ z => z.elim)
        have off : ∀ {τ6 : L2.St} {G6 : Hp} {Q : Shared → Prop}, Inv (X.suite a ((a, o4) :: (X.pn ++ pins))) [] τ6 G6 s6 → (∀ s7, Inv X pins (τ6.set i none) G6 s7 → Q s7) → wpAny (model X.prog X.w) X.A (do bindName X.env n .none; unbindBehindTheSuite X.env n q) (fun _ s7 => Q s7) X.xe s6 :=
          fun {τ6 G6 Q} S6 k => gone_ok (S6.unsuite ok) nd slot isloc k
        match fl, r6 with
        | .next, ⟨_, _, S6, q6⟩ => exact off S6 fun s7 J7 => ⟨_, _, J7, q6⟩
        | .brk, ⟨_, _, S6, q6⟩ => exact off S6 fun s7 J7 => ⟨_, _, J7, q6⟩
        | .cont, ⟨_, _, S6, q6⟩ => exact off S6 fun s7 J7 => ⟨_, _, J7, q6⟩
        | .ret u, ⟨_, _, _, S6, r, q6⟩ => exact off S6 fun s7 J7 => ⟨_, _, _, J7, r, q6⟩
end
end Xs
set_option Elab.async false
set_option linter.all false
set_option maxRecDepth 100000
set_option maxHeartbeats 4000000
/-! X3: xs[:n] = ys; a class whose __init__ may raise, made in a try; a field of an error that a suite holds. -/
namespace Xs
open PySem PySem.Spec PyProof.Rows L2

section
variable {prog : Program} {w : World} {A : Around} {E : Value → Shared → Prop} {s : Shared}
theorem upto_bounds {c n : Nat} (h : c ≤ n) : sliceBounds none (some (c : Int)) none n = (0, (c : Int), 1) := by
  have nn : ¬ ((c : Int) < 0) := by omega
  simp only [sliceBounds, Option.getD_none, nn, if_false, show (1 : Int) > 0 by decide, if_true]
  congr 2
  omega
/-- list.__setitem__ with the slice [:c] and another list -/
theorem head_set {l b sl : Addr} {old new : Array Value} {n n2 : Nat} {vu : Value} {c : Nat} {Q : Unit → Shared → Prop}
    (e1 : s.heap.get? l = some { cls := .type "list", data := .seq old n }) (e2 : s.heap.get? b = some { cls := .type "list", data := .seq new n2 }) (ne : l ≠ b)
    (so : s.heap.IsSliceOf sl .none vu .none) (pu : IsPart vu (some (c : Int))) (hc : c ≤ old.size) (fits : old.size + new.size ≤ sizeLine)
    (h : Q () { s with heap := s.heap.update l (Obj.mapSeq fun xs => xs.extract 0 0 ++ new ++ xs.extract c xs.size) }) : wpAny (model prog w) A (setItem (.ref l) (.ref sl) (.ref b)) Q E s := by
  have il : s.heap.IsList l old := PySem.IsL.isList e1
  have ib : s.heap.IsList b new := PySem.IsL.isList e2
  obtain ⟨osl, hosl, csl, dsl⟩ := id so
  have tsl : s.TypeIs (.ref sl) "slice" := ⟨osl, hosl, csl⟩
  have step0 : ¬ ((rawPart none == rawInt 0) = true) := Bool.false_ne_true
  have other : Builtin.List.listSameRef (.ref l) (.ref b) = false := by unfold Builtin.List.listSameRef; exact beq_eq_false_iff_ne.mpr ne
  have top : (max (0 : Int) (c : Int)).toNat = c := by omega
  have size' : ((fun xs : Array Value => xs.extract 0 0 ++ new ++ xs.extract c xs.size) old).size ≤ sizeLine + 1 := by simp only [Array.size_append, Array.size_extract]; omega
  unfold setItem
  try with_reducible refine wpAny_holding ?_
  first | refine wpAny_bind (wpAny_pure ?_) | skip
  refine wpAny_bind (wpAny_sequenceKey il.typeIs (by decide) (wpAny_bind (wpAny_callSpecial?_slot (name := Str.ofString "__setitem__") il.typeIs slot_list_setitem (wpAny_call_entry slot_list_setitem il.typeIs entry_list_setitem ?_ (args_list_setitem _ _ _)))))
  show wpAny _ _ (Builtin.List.listSubscript? (.ref sl) >>= _) _ _ _
  refine wpAny_bind ?_
  unfold Builtin.List.listSubscript?
  refine wpAny_bind (wpAny_specialOf tsl slice_no_index ?_)
  simp only [Option.isNone_none, if_true]
  refine wpAny_pure (?_ : wpAny _ _ (typeOf (.ref sl) >>= _) _ _ _)
  refine wpAny_bind (wpAny_typeOf tsl ?_)
  first | rw [if_neg (by decide)] | refine PySem.W.KFB.if_not (by decide) ?_
  rw [listSliceParts_eq]
  refine wpAny_bind (wpAny_bind (wpAny_field hosl dsl (x := .none) rfl (wpAny_bind (wpAny_listPart .none ?_)))); rw [if_neg step0]
  refine wpAny_bind (wpAny_field hosl dsl (x := .none) rfl (wpAny_bind (wpAny_listPart .none (wpAny_bind (wpAny_field hosl dsl (x := vu) rfl (wpAny_bind (wpAny_listPart pu (wpAny_pure ?_))))))))
  first
    | simp only [other, Bool.false_eq_true, if_false]
    | refine PySem.W.KFB.if_not other ?_
    | (dsimp only; rw [if_neg (by rw [other]; exact Bool.false_ne_true)])
  refine wpAny_bind (m := Builtin.List.listAllItems (.ref b) "must assign iterable to extended slice") ?_
  unfold Builtin.List.listAllItems; refine wpAny_bind (wpAny_typeOf ib.typeIs ?_)
  first
    | refine PySem.W.KFB.if_so (by decide) ?_
    | rw [if_pos (by decide)]
    | simp only [beq_self_eq_true, Bool.true_or, if_true]
  unfold Builtin.List.listItems; refine wpAny_bind (wpAny_seqItems e2 rfl (wpAny_pure (wpAny_bind (wpAny_bind (wpAny_seqItems e1 rfl (wpAny_pure ?_))))))
  refine wpAny_bind (wpAny_of_eq ((sliceIndices_raw none (some (c : Int)) none old.size (by simp)).trans (congrArg (pure : Int × Int × Int → Sem (Int × Int × Int)) (upto_bounds hc))) ?_)
  show wpAny _ _ (if ((1 : Int) == 1) = true then _ else _) _ _ _
  rw [if_pos (by decide)]; refine wpAny_bind (wpAny_rule ?_)
  first
    | simp only [notLongL fits, Bool.false_eq_true, if_false]
    | refine PySem.W.KFB.if_not (notLongL fits) ?_
  first | refine wpAny_bind (wpAny_pure ?_) | skip
  show wpAny _ _ (updateSeq l (fun xs => xs.extract 0 ((0 : Int)).toNat ++ new ++ xs.extract (max (0 : Int) (c : Int)).toNat xs.size) >>= _) _ _ _
  rw [top, show ((0 : Int)).toNat = 0 from rfl]
  refine wpAny_bind (wpAny_updateSeq (hz := Nat.le_trans (Nat.le_add_right _ _) fits) (_hz' := size') e1 rfl (wpAny_bind (wpAny_letGo ?_)))
  first
    | exact wpAny_bind (wpAny_pure (wpAny_pure ⟨.none, rfl, wpAny_pure h⟩))
    | exact wpAny_pure ⟨.none, rfl, wpAny_pure h⟩
end
section
variable {X : Cx} {e o hi : Expr} {te to th : TE} {p2 p3 pos : Pos}
/-- the target o[:hi] -/
def gHead (to th : TE) : TG := fun y σ H Q => to σ H fun x H2 => tPart th σ H2 fun z H3 => ∃ (l b : Addr) (xs ys : List V) (c : Nat), x = .ref l ∧ y = .ref b ∧ z = some (c : Int) ∧ H3 l = some (.lst xs) ∧ H3 b = some (.lst ys) ∧ l ≠ b ∧
  c ≤ xs.length ∧ xs.length + ys.length ≤ sizeLine ∧ Q σ (upd H3 l (.lst (ys ++ xs.drop c)))
theorem pg_head (ho : PE X o to) (hh : PE X hi th) (ha : ∀ v, assign (.Subscript o (.Slice none (some hi) none p2) p3) X.env v = (do
      let x ← holding [v] (eval o X.env)
      let y ← holding [v, x] (eval (.Slice none (some hi) none p2) X.env)
      standAt p3
      holding [v, x, y] (setItem x y v)
      release [v, x, y] []) := by intro _; rfl) : PG X (.Subscript o (.Slice none (some hi) none p2) p3) (gHead to th) := by
  constructor
  intro pins s σ H v u Q I r h
  rw [ha]
  refine wpAny_bind (wpAny_holding (thn (ho.run pins s σ H _ I h) fun ov s1 ⟨x, H1, I1, r1, h1⟩ => wpAny_bind (wpAny_holding ?_)))
  refine wpAny_Slice (thn ((po_none (X := X)).run pins s1 σ H1 (fun q G => q = none ∧ G = H1) I1 ⟨rfl, rfl⟩) fun vl s2 ⟨oq, G, I2, pl, eo, eG⟩ => ?_)
  subst eo eG
  cases pl
  refine thn ((po_some hh).run pins s2 σ _ _ I2 h1) fun vu s3 ⟨u3, H3, I3, pu, l, b, xs, ys, c, ex, ey, ez, hl, hb, ne, hc, hz, q⟩ => ?_
  subst ex ey ez
  obtain rfl : ov = Value.ref l := r1
  obtain rfl : u = Value.ref b := r
  rw [evalPart_none]
  have I4 := I3.kept (t' := s3.toks) (h' := s3.heap.push { cls := .type "slice", data := .fields #[.none, vu, .none] }) fun w ow e => Heap.get?_push_of_some _ e
  obtain ⟨z1, its, n, rv, ll, e1⟩ := I4.lstM hl
  obtain ⟨z2, its2, n2, rv2, ll2, e2⟩ := I4.lstM hb
  refine wpAny_pure (wpAny_bind (wpAny_standAt (wpAny_bind (wpAny_holding (head_set (c := c) e1 e2 ne (Heap.IsSliceOf.new ..) pu (by rw [List.size_toArray]; omega) (by rw [List.size_toArray, List.size_toArray]; omega) (wpAny_release ?_))))))
  refine ⟨σ, _, I4.lset (its' := its2 ++ its.drop c) (t' := s3.toks) hl e1 ?_ (Vals.append rv2 (rv.drop _)) ?_, q⟩
  · have := splice_eq its its2 0 c
    simpa using this
  · rw [List.length_append, List.length_drop]
    omega
/-! ### a class whose __init__ may raise, made in a try -/
variable {es : List Expr} {t : TA} {C f : Addr} {x : Str} {p : Pos} {CX : CXT} {k : Nat} {fd : FuncData} {ps : List Str} {sp : Sp} {W : L2.St → XK}
def tMakeS (C : Addr) (sp : Sp) (W : L2.St → XK) (t : TA) : TE := fun σ H Q => t σ H fun vs H1 => ∀ x dx, H1 x = none → H1 dx = none → dx ≠ x → sp (.ref x :: vs) (upd (upd H1 dx (.own x)) x (.ins C dx [])) (fun v H2 => v = .non ∧ Q (.ref x) H2) (W σ)
theorem pe_makeS (M : Mk X.K C f) (F : FnOk X.prog X.w X.K X.mg X.base CX k f fd ps sp) (hr : Room (k + 1) X.A) (hg : Gl X x) (hm : X.mg x = some (.ref C)) (hb : Binds X.K fd ps []) (hx : ∀ σ, PassesAt CX X σ (W σ)) (ha : PA X (e :: es) t)
    (hdb : (x == ("__debug__" : Str)) = false := by decide) (hst : starEach (e :: es) X.env = (false, eval e X.env) :: starEach es X.env := by rfl) (hpl : (backTo pos (starEach es X.env)).any (·.1) = false := by rfl) :
    PE X (.Call (.Name x p) (e :: es) [] pos) (tMakeS C sp W t) := by
  constructor
  intro pins s σ H Q I h
  refine wpAny_Call_Name_kw (ld_glob I hg hm (PySem.W.callWith_K (h₀ := X.base) I.ok.mod.kin M.kp (thn (ha.run pos pins s σ H _ I h) fun us s1 ⟨vs, H1, I1, r, q⟩ => ⟨I1.kIn, ?_⟩) hst hpl) hdb)
  show wpAny _ _ (call (.ref C) us) _ _ _
  have want := q (s1.heap.objs.size + 1) s1.heap.objs.size (I1.hok.fresh (Nat.le_succ _)) (I1.hok.fresh (Nat.le_refl _)) (Nat.ne_of_lt (Nat.lt_succ_self _))
  have J := Inv.made (C := C) I1
  have rr : Vals (V.ref (s1.heap.objs.size + 1) :: vs) (Value.ref (s1.heap.objs.size + 1) :: us) := .cons rfl r
  have len : (Value.ref (s1.heap.objs.size + 1) :: us).length = ps.length := rr.length.symm.trans (F.len _ _ _ _ want)
  have bind := hb _ (Value.ref (s1.heap.objs.size + 1) :: us) J.kIn (by simpa using len)
  simp only [List.append_nil] at bind
  refine wpAny_call (make_map (f := f) I1.kIn M.makes M.init (beq_iff_eq.mp M.fn) (codeAny_mono (F.run _ X.stack _ _ ⟨Value.ref (s1.heap.objs.size + 1) :: us, []⟩ _ _ _ _ (hr.make C us []) (J.env0.make C us []) bind rr want) fun res s' done => ?_))
  match res, done with
  | .error er, done => exact hx σ pins _ _ er s' J done
  | .ok (.ret u), done =>
    obtain ⟨v, H', I3, rv, ev, q3⟩ := J.after done
    subst ev
    exact ⟨rv, ⟨V.ref (s1.heap.objs.size + 1), H', I3, rfl, q3⟩⟩
  | .ok .next, done => exact False.elim done
  | .ok .brk, done => exact False.elim done
  | .ok .cont, done => exact False.elim done
/-! ### a field of an error that a suite holds -/
/-- what is known of the error's class -/
structure ErrC (K : PySem.W.Frag) (C : Addr) (f : Str) : Prop where
  ga : PySem.W.findIn K (.ref C) "__getattribute__" = some (some (.builtin "BaseException.__getattribute__"))
  gg : PySem.W.findIn K (.ref C) "__getattr__" = some none
  no : PySem.W.findIn K (.ref C) f = some none
  ex : PySem.W.subIn K (.ref C) (.type "BaseException") = some true
  hd : PySem.W.hasDictIn K C = true
def tErrF (K : PySem.W.Frag) (f : Str) (a : Addr) (cls : Value) (d : Option Addr) (te : TE) : TE := fun σ H Q => te σ H fun x H1 => x = .ref a ∧ ∃ (C dd : Addr) (fs : List (Str × V)) (v : V), cls = .ref C ∧ ErrC K C f ∧ d = some dd ∧ H1 dd = some (.xd fs) ∧ fs.lookup f = some v ∧ Q v H1
theorem pe_errf {a : Addr} {oe : Obj} {cls : Value} {d : Option Addr} {pn : List (Addr × Obj)} {f : Str} (hz : Zc cls d oe) (hf : ∃ vs, oe.data = .fields vs) (he : PE (X.suite a ((a, oe) :: pn)) e te)
    (hb : attributeBase e f X.env (eval e X.env) = eval e X.env := by rfl) : PE (X.suite a ((a, oe) :: pn)) (.Attribute e f pos) (tErrF X.K f a cls d te) := by
  constructor
  intro pins s σ H Q I h
  refine attr_of hb (thn (he.run pins s σ H _ I h) fun u s1 ⟨x, H1, I1, rx, ex, C, dd, fs, v, ec, T, ed, ea, lv, q⟩ => ?_)
  subst ex ec ed
  obtain rfl : u = Value.ref a := rx
  obtain ⟨at_, _⟩ := I1.pin (a, oe) (List.mem_append_left _ List.mem_cons_self)
  obtain ⟨vs, hd⟩ := hf
  have ob : ObjOk X.prog X.w H1 s1.heap dd (.xd fs) := I1.hok dd _ ea
  obtain ⟨mA, hns, hr⟩ := ob
  obtain ⟨od, ho, hl⟩ := lookIn_ns hns
  obtain ⟨u, hu, ru⟩ := RelO.some_of (v := v) (o := mA f) (by rw [← lv]; exact hr f)
  have inst : PySem.W.InstAt s1.heap a oe C (some od) := ⟨at_, hz.1, by unfold PySem.W.notCls; rw [hd] <;> rfl, by rw [hz.2]; exact ho⟩
  exact HandSPX.exc_get I1.kIn inst T.ga T.gg T.ex (PySem.W.findObj_own T.hd T.no rfl (by rw [hl, hu])) (handed_of ru) ⟨v, H1, I1.tok _, ru, q⟩
end
end Xs
set_option Elab.async false
set_option linter.all false
set_option maxRecDepth 100000
set_option maxHeartbeats 4000000
/-! X4: raise OutOfRange("..") as one rule. -/
namespace Xs
open PySem PySem.Spec PyProof.Rows L2

/-- an error class over ValueError that keeps its one argument in the field f -/
structure Out (P : Program) (K : PySem.W.Frag) (mg : Str → Option Value) (nm f : Str) (C : Addr) : Prop where
  g : mg nm = some (.ref C)
  oex : OexC K C
  init : ∃ (fI : Addr) (fd : FuncData) (ps : List Str), PySem.W.findIn K (.ref C) "__init__" = some (some (.ref fI)) ∧ PySem.W.typeIn K (.ref fI) = some (.type "function") ∧
    (∀ (w : World) (base : Heap), FnOk P w K mg base CX0 1 fI fd ps (spSup C f)) ∧ Binds K fd ps []
  err : ErrC K C f
section
variable {X : Cx} {C : Addr} {nm f z : Str} {W : WX} {p q pos pos2 : Pos} {k : Nat}
def tOut (C : Addr) (f : Str) (W : WX) (z : Str) : TS := fun _ σ H => ∀ d, H d = none → W (.ref C) (some d) σ (upd H d (.xd [(f, .str z)]))
theorem ps_out (hc : X.calm = true) (O : Out X.prog X.K X.mg nm f C) (hr : Room 2 X.A) (tk : Takes X W) (hz : z.length ≤ 100) (hg : Gl X nm) (hdb : (nm == ("__debug__" : Str)) = false := by decide)
    (he : starEach [.Constant (.str z) k q] X.env = (false, eval (.Constant (.str z) k q) X.env) :: starEach [] X.env := by rfl) (hpl : (backTo pos (starEach [] X.env)).any (·.1) = false := by rfl) :
    PS X (.Raise (some (.Call (.Name nm p) [.Constant (.str z) k q] [] pos)) none pos2) (tOut C f W z) := by
  obtain ⟨fI, fd, ps, iC, tI, F, B⟩ := O.init
  have R := ps_raise (X := X) (pos := pos2) hc tk (pmk_oex (p := p) (pos := pos) (e := .Constant (.str z) k q) (es := []) O.oex iC tI (F X.w X.base) hr B .nil pass0 hg O.g (pa_cons pe_str pa_nil) hdb he hpl)
  constructor
  intro pins s σ H D I h
  refine R.run pins s σ H D I ?_
  refine ⟨by show 1 ≤ 1000; decide, fun a na => ?_⟩
  refine ⟨a, z, rfl, hz, upd_same, fun dx ndx ne => ⟨rfl, dx, [(f, .str z)], upd_same, ?_, ?_, ?_⟩⟩
  · rw [upd_ne ne]
    exact upd_same
  · rw [upd_ne ne] at ndx
    exact ndx
  · have ndx' : H dx = none := by
      rw [upd_ne ne] at ndx
      exact ndx
    have e : upd (del (upd (upd (upd H a (exo a C none)) dx (exd dx [(f, .str z)])) a (exo a C (some dx))) a) dx (.xd [(f, .str z)]) = upd H dx (.xd [(f, .str z)]) := by
      funext b
      by_cases h1 : b = dx
      · subst h1
        rw [upd_same, upd_same]
      · rw [upd_ne h1, upd_ne h1]
        by_cases h2 : b = a
        · subst h2
          rw [del_same]
          exact na.symm
        · rw [del_ne h2, upd_ne h2, upd_ne h1, upd_ne h2]
    rw [e]
    exact h dx ndx'
/-- nothing leaves -/
theorem passN : Passes (L2.CX X.prog X.w) X (fun _ _ _ => False) := fun _ _ _ _ _ _ _ c => by
  obtain ⟨_, _, _, _, _, _, _, _, _, _, _, _, e⟩ := c
  exact e.elim
end
end Xs
set_option Elab.async false
set_option linter.all false
set_option maxRecDepth 100000
set_option maxHeartbeats 4000000
/-! X6: every other item of a list: xs[::2], xs[1::2]. -/
namespace Xs
open PySem PySem.Spec PyProof.Rows L2
def ev {α : Type} : List α → List α
  | [] => []
  | [a] => [a]
  | a :: _ :: r => a :: ev r
theorem ev_len {α : Type} : ∀ l : List α, (ev l).length = (l.length + 1) / 2
  | [] => by simp [ev]
  | [_] => by simp [ev]
  | a :: b :: r => by
    show (ev r).length + 1 = (r.length + 1 + 1 + 1) / 2
    rw [ev_len r]
    omega
theorem ev_pick {α : Type} : ∀ l : List α, (List.range ((l.length + 1) / 2)).filterMap (fun j => l[2 * j]?) = ev l
  | [] => by simp [ev]
  | [a] => by simp [ev, List.range_succ]
  | a :: b :: r => by
    have e : ((a :: b :: r).length + 1) / 2 = (r.length + 1) / 2 + 1 := by
      show (r.length + 1 + 1 + 1) / 2 = _
      omega
    rw [e, List.range_succ_eq_map, List.filterMap_cons]
    show (a :: (List.filterMap (fun j => (a :: b :: r)[2 * j]?) ((List.range ((r.length + 1) / 2)).map Nat.succ))) = a :: ev r
    rw [List.filterMap_map, ← ev_pick r]
    congr 1
theorem fm_congr {α β : Type} {f g : α → Option β} : ∀ {l : List α}, (∀ x ∈ l, f x = g x) → l.filterMap f = l.filterMap g
  | [], _ => rfl
  | a :: l, h => by
    rw [List.filterMap_cons, List.filterMap_cons, h a List.mem_cons_self, fm_congr fun x hx => h x (.tail _ hx)]
theorem vals_ev : ∀ {xs : List V} {us : List Value}, Vals xs us → Vals (ev xs) (ev us)
  | _, _, .nil => .nil
  | _, _, .cons h .nil => .cons h .nil
  | _, _, .cons h (.cons _ t) => .cons h (vals_ev t)
/-- what the model picks -/
theorem pick_ev (its : List Value) (lo : Option Int) (s : Nat) (h : (lo = none ∧ s = 0) ∨ lo = some (s : Int)) : slicePick its.toArray lo none (some 2) = (ev (its.drop s)).toArray := by
  have eb : (sliceBounds lo none (some 2) its.length) = (((min s its.length : Nat) : Int), (its.length : Int), 2) := by
    rcases h with ⟨rfl, rfl⟩ | rfl
    · simp [sliceBounds]
    · simp only [sliceBounds, Option.getD_some]
      have : ¬ ((s : Int) < 0) := by omega
      simp only [if_neg this, show ((2 : Int) > 0) = True from eq_true (by decide), if_true]
      congr 1
      omega
  have er : sliceRange ((min s its.length : Nat) : Int) (its.length : Int) 2 = (List.range (((its.drop s).length + 1) / 2)).map (fun k => s + 2 * k) := by
    unfold sliceRange
    simp only [show ((2 : Int) > 0) = True from eq_true (by decide), if_true]
    have ec : (if ((min s its.length : Nat) : Int) < (its.length : Int) then ((its.length : Int) - ((min s its.length : Nat) : Int) + 2 - 1) / 2 else 0).toNat = ((its.drop s).length + 1) / 2 := by
      rw [List.length_drop]
      split
      · omega
      · omega
    rw [ec]
    refine List.map_congr_left fun k hk => ?_
    rw [List.mem_range, List.length_drop] at hk
    omega
  unfold slicePick
  rw [List.size_toArray, eb]
  show (List.filterMap (fun x => its.toArray[x]?) (sliceRange ((min s its.length : Nat) : Int) (its.length : Int) 2)).toArray = _
  rw [er, List.filterMap_map, ← ev_pick (its.drop s)]
  congr 1
  refine fm_congr fun j _ => ?_
  show its.toArray[s + 2 * j]? = (its.drop s)[2 * j]?
  rw [List.getElem?_drop, List.getElem?_toArray]
section
variable {X : Cx} {e : Expr} {te : TE} {lo : Option Expr} {tl : TO} {k : Nat} {p1 p2 pos : Pos}
def tEv (K : PySem.W.Frag) (te : TE) (tl : TO) : TE := fun σ H Q => te σ H fun x H1 => tl σ H1 fun l H2 => ∃ (a : Addr) (xs : List V) (s : Nat), x = .ref a ∧ SqL K H2 a xs ∧ ((l = none ∧ s = 0) ∨ l = some (s : Int)) ∧ ∀ p, H2 p = none → Q (.ref p) (upd H2 p (.lst (ev (xs.drop s))))
theorem pe_ev (he : PE X e te) (hl : PO X lo tl) : PE X (.Subscript e (.Slice lo none (some (.Constant (.int 2) k p1)) p2) pos) (tEv X.K te tl) := by
  constructor
  intro pins s σ H Q I h
  refine Subscript_ (thn (he.run pins s σ H _ I h) fun v s1 ⟨x, H1, I1, r1, q1⟩ => ?_)
  refine wpAny_Slice (thn (hl.run pins s1 σ H1 _ I1 q1) fun vl s2 ⟨l, H2, I2, pl, a, xs, n, ex, hx, hn, q⟩ => ?_)
  subst ex
  obtain rfl : v = Value.ref a := r1
  refine thn (po_none.run pins s2 σ H2 (fun o G => o = none ∧ G = H2) I2 ⟨rfl, rfl⟩) fun vu s3 ⟨u, H3, I3, pu, eu, e3⟩ => ?_
  subst eu e3
  refine thn ((po_some pe_int).run pins s3 σ H3 (fun o G => o = some 2 ∧ G = H3) I3 ⟨2, rfl, rfl, rfl⟩) fun vs s4 ⟨st, H4, I4, ps, es, e4⟩ => ?_
  subst es e4
  have I5 := I4.kept (t' := s4.toks) (h' := s4.heap.push { cls := .type "slice", data := .fields #[vl, vu, vs] }) fun b ob q => Heap.get?_push_of_some _ q
  obtain ⟨its, r, ht, hz⟩ := I5.list hx
  have hlen := r.length
  refine tail_any ht.isList.typeIs slot_list_getitem.lookup (wpAny_getItem_list_slice ht.isList (Heap.IsSliceOf.new ..) pl pu ps (by decide) ?_ (by rw [List.size_toArray]; omega)) rfl
  rw [pick_ev its l n hn]
  exact ⟨V.ref _, upd H4 _ (.lst (ev (xs.drop n))), I5.lnew (vals_ev (Vals.drop n r)) (by rw [ev_len, List.length_drop]; omega), rfl, q _ (I5.hok.fresh (Nat.le_refl _))⟩
end
end Xs
set_option Elab.async false
set_option linter.all false
set_option maxRecDepth 100000
set_option maxHeartbeats 4000000
/-! X7: targets with a star: a, b, *rest = xs (the star last). -/
namespace Xs
open PySem PySem.Spec PyProof.Rows L2
section
variable {prog : Program} {w : World} {A : Around} {E : Value → Shared → Prop} {s : Shared} {l : Addr} {items : Array Value} {i : Nat} {Q : List Value → Shared → Prop}
theorem star_items (hh : A.handled = none) (hl : s.heap.IsList l items) (hi : i ≤ items.size) (hz : items.size ≤ sizeLine)
    (hQ : ∀ (h2 : Heap) (tk : Nat), (∀ b o, s.heap.get? b = some o → h2.get? b = some o) →
      Q (items.toList.take i ++ [.ref h2.objs.size]) { heap := h2.push { cls := .type "list", data := .seq (items.toList.drop i).toArray }, gens := s.gens, drawn := s.drawn, toks := tk, os := s.os }) :
    wpAny (model prog w) A (unpackItems (.ref l) (i + 1) (some i)) Q E s := by
  have hlt : l ≠ s.heap.objs.size := by
    obtain ⟨o, ho, _⟩ := hl
    exact Nat.ne_of_lt (Heap.lt_size ho)
  unfold unpackItems
  refine wpAny_bind ?_
  unfold notIterableAtAll
  refine wpAny_bind (wpAny_specialOf hl.typeIs slot_list_iter.lookup (wpAny_pure ?_))
  simp only [Bool.false_eq_true, if_false]
  refine wpAny_bind (wpAny_holding (wpAny_pyIter_list hl (wpAny_bind (wpAny_holding (PySem.W.kun_draw hlt i 0 _ _ ⟨_, Heap.get?_push_size _ rfl, rfl, rfl⟩ (hl.push _) (by omega) fun h1 it1 sb1 => ?_)))))
  rw [List.drop_zero]
  have lt : (List.take i items.toList).length = i := by
    rw [List.length_take, Array.length_toList]
    omega
  rw [lt, if_neg (Nat.lt_irrefl i)]
  have hl1 : h1.IsList l items := (hl.push _).extBut sb1.extBut hlt
  refine wpAny_bind (wpAny_holding (PySem.W.kun_collect (T := "list_iterator") (ax := l) (items := items) (St := fun i h => h.IsListIter s.heap.objs.size l i ∧ h.IsList l items) (.inr (.inr (.inl rfl))) (Walks.list (A := A.in1) hh s.heap.objs.size l hlt items) (fun _ _ h => h.1.typeIs) (k := i) hi ⟨by rw [Nat.zero_add] at it1; exact it1, hl1⟩ ?_ ?_ (fun h2 tk k2 => ?_) hz))
  · obtain ⟨o, ho, _⟩ := it1
    exact Heap.lt_size ho
  · obtain ⟨o, ho, _⟩ := hl1
    exact Heap.lt_size ho
  · have e0 : i + 1 - 1 - i = 0 := by omega
    rw [e0, if_neg (Nat.not_lt_zero _), Nat.sub_zero, List.take_length, List.drop_length]
    refine wpAny_bind (wpAny_newList (wpAny_pure ?_) (by rw [List.length_drop, Array.length_toList]; omega))
    rw [List.append_nil]
    refine hQ h2 tk fun b o e => ?_
    have nb : b ≠ s.heap.objs.size := Nat.ne_of_lt (Heap.lt_size e)
    exact k2 b o nb (sb1.extBut b o nb (Heap.get?_push_of_some _ e))
end
section
variable {X : Cx} {pos : Pos} {es : List Expr} {k i : Nat} {t : TGs}
/-- a, b, *rest = xs: i targets, then the rest as a new list -/
def gStar (K : PySem.W.Frag) (i : Nat) (t : TGs) : TG := fun v σ H Q => ∃ (a : Addr) (xs : List V), v = .ref a ∧ SqL K H a xs ∧ i ≤ xs.length ∧ ∀ p, H p = none → t (xs.take i ++ [.ref p]) σ (upd H p (.lst (xs.drop i))) Q
theorem pg_star (hc : X.calm = true) (h : PGs X es t) (hn : (assignEach es X.env).length = i + 1 := by rfl) (hst : List.findIdx? (fun x => x.fst) (assignEach es X.env) = some i := by rfl) : PG X (.Tuple es k pos) (gStar X.K i t) := by
  constructor
  intro pins s σ H v u Q I r hw
  obtain ⟨a, xs, rfl, hx, hi, q⟩ := hw
  obtain rfl : u = Value.ref a := r
  obtain ⟨its, rv, ht, hz⟩ := I.list hx
  have hlen := rv.length
  rw [PyProof.Rows.assign_Tuple]
  refine wpAny_bind (wpAny_standAt ?_)
  unfold unpack
  rw [hn, hst]
  refine wpAny_bind (wpAny_holding (star_items (I.ok.hd hc) ht.isList (by rw [List.size_toArray]; omega) (by rw [List.size_toArray]; omega) fun h2 tk k2 => ?_))
  have I2 := (I.kept (t' := tk) k2).lnew (t' := tk) (Vals.drop i rv) (by rw [List.length_drop]; omega)
  exact h.run pins _ σ _ (xs.take i ++ [.ref _]) _ Q I2 (Vals.append (Vals.take i rv) (Paired.cons (show L2.RelV (V.ref _) (Value.ref h2.objs.size) from rfl) .nil)) (q _ ((I.kept (t' := tk) k2).hok.fresh (Nat.le_refl _)))
end
end Xs
set_option Elab.async false
set_option linter.all false
set_option maxRecDepth 100000
set_option maxHeartbeats 4000000
/-! X9: str of what is a number or a text. -/
namespace Xs
open PySem PySem.Spec PyProof.Rows L2
theorem cr_strV {X : Cx} : CallR X (.type "str") (fun xs H Q => (∃ i : Int, xs = [.int i] ∧ i.natAbs.log2 < 1920 ∧ Q (.str (Str.ofString (toString i))) H) ∨ (∃ a : Str, xs = [.str a] ∧ Q (.str a) H)) := by
  intro pins s σ H xs us Q I r h
  rcases h with h | h
  · exact call_str_int pins s σ H xs us Q I r h
  · exact SkE.call_str_str pins s σ H xs us Q I r h
end Xs
set_option Elab.async false
set_option linter.all false
set_option maxRecDepth 100000
set_option maxHeartbeats 4000000
/-! X10: list(zip(xs, ys)). -/
namespace Xs
open PySem PySem.Spec PyProof.Rows L2 PySem.Calls
theorem zp_no_len : typeLookup (.type "zip") "__len__" = pure none := am_miss_of_fast (by decide +kernel)
theorem zp_no_hint : typeLookup (.type "zip") "__length_hint__" = pure none := am_miss_of_fast (by decide +kernel)
section
variable {prog : Program} {w : World} {A : Around} {E : Value → Shared → Prop} {s : Shared} {r : Addr} {Q : Bool → Shared → Prop}
theorem zp_hint (hT : s.TypeIs (.ref r) "zip") (h : Q true s) : wpAny (model prog w) A (Builtin.List.listLengthHint (.ref r)) Q E s := by
  unfold Builtin.List.listLengthHint
  refine wpAny_bind (wpAny_specialOf hT zp_no_len ?_)
  repeat (any_goals (first | assumption | wp_step))
  rw [zp_no_hint]
  exact wpAny_pure (wpAny_pure h)
end
/-- the iterators as they stand, i pairs given out -/
def ZpSt (h : Heap) (z TI TO i1 i2 l1 l2 S : Addr) (xs ys : List Value) (i : Nat) : Prop :=
  ((∃ a b, IsZip h z TI TO .none ∧ IsPair h TO a b) ∨ ∃ T f oT, IsZipHeld h z TI TO T f ∧ h.get? T = some oT ∧ T ≠ z ∧ T ≠ i1 ∧ T ≠ i2 ∧ T ≠ S) ∧
  IsPair h TI (.ref i1) (.ref i2) ∧ h.IsListIter i1 l1 i ∧ h.IsListIter i2 l2 i ∧ h.IsList l1 xs.toArray ∧ h.IsList l2 ys.toArray
theorem ZpSt.keep {h h' : Heap} {z TI TO i1 i2 l1 l2 S : Addr} {xs ys : List Value} {i : Nat} (x : ZpSt h z TI TO i1 i2 l1 l2 S xs ys i) (hk : ∀ b o, b ≠ S → h.get? b = some o → h'.get? b = some o)
    (n : S ≠ z ∧ S ≠ TI ∧ S ≠ TO ∧ S ≠ i1 ∧ S ≠ i2 ∧ S ≠ l1 ∧ S ≠ l2) : ZpSt h' z TI TO i1 i2 l1 l2 S xs ys i := by
  obtain ⟨n1, n2, n3, n4, n5, n6, n7⟩ := n
  obtain ⟨a, b, c, d, e, f⟩ := x
  refine ⟨?_, hk _ _ n2.symm b, c.at fun o => hk _ o n4.symm, d.at fun o => hk _ o n5.symm, e.at fun o => hk _ o n6.symm, f.at fun o => hk _ o n7.symm⟩
  rcases a with ⟨u, v, a1, a2⟩ | ⟨T, f, oT, a1, a2, a3, a4, a5, a6⟩
  · exact .inl ⟨u, v, hk _ _ n1.symm a1, hk _ _ n3.symm a2⟩
  · exact .inr ⟨T, f, oT, hk _ _ n1.symm a1, hk _ _ a6 a2, a3, a4, a5, a6⟩
structure ZpG (xs ys : List Value) (lo : Addr) (h : Heap) (as : List Addr) : Prop where
  rise : as.Pairwise (· < ·)
  above : ∀ a ∈ as, lo < a
  pairs : ∀ (j : Nat) (a : Addr), as[j]? = some a → ∃ x y, xs[j]? = some x ∧ ys[j]? = some y ∧ h.get? a = some { cls := .type "tuple", data := .seq #[x, y] }
theorem ZpG.there {xs ys : List Value} {lo : Addr} {h : Heap} {as : List Addr} (g : ZpG xs ys lo h as) {a : Addr} (ha : a ∈ as) : a < h.objs.size := by
  obtain ⟨j, hj⟩ := List.mem_iff_getElem?.mp ha
  obtain ⟨_, _, _, _, e⟩ := g.pairs j a hj
  exact Heap.lt_size e
section
variable {prog : Program} {w : World} {A : Around} {E : Value → Shared → Prop} {s : Shared} {z TI TO i1 i2 l1 l2 S : Addr} {xs ys : List Value} {i : Nat}
theorem zp_item {x y : Value} {Q : Option Value → Shared → Prop} (D : ZipApart z TI TO i1 i2 l1 l2) (hS : S < s.heap.objs.size) (st : ZpSt s.heap z TI TO i1 i2 l1 l2 S xs ys i) (hx : xs[i]? = some x) (hy : ys[i]? = some y)
    (hQ : ∀ h', ZpSt h' z TI TO i1 i2 l1 l2 S xs ys (i + 1) → IsPair h' s.heap.objs.size x y → h'.objs.size = s.heap.objs.size + 1 →
      (∀ c o, c ≠ z → c ≠ TO → c ≠ i1 → c ≠ i2 → s.heap.get? c = some o → h'.get? c = some o) → Q (some (.ref s.heap.objs.size)) { s with heap := h' }) :
    wpAny (model prog w) A (pyNext (.ref z)) Q E s := by
  obtain ⟨a, b, c, d, e, f⟩ := st
  have lt : ∀ {c o}, s.heap.get? c = some o → s.heap.objs.size ≠ c := fun e => Nat.ne_of_gt (Heap.lt_size e)
  have li : ∀ {c l k}, s.heap.IsListIter c l k → s.heap.objs.size ≠ c := fun ⟨_, e, _⟩ => lt e
  rcases a with ⟨u, v, a1, a2⟩ | ⟨T, g, oT, a1, a2, a3, a4, a5, a6⟩
  · refine wpAny_pyNext_zip_item D a1 b a2 c d e f (by simpa using hx) (by simpa using hy) fun h' z1 z2 z3 z4 z5 z6 hk => ?_
    exact hQ h' ⟨.inr ⟨_, false, _, z1, z5, lt a1, li c, li d, Nat.ne_of_gt hS⟩, hk _ _ D.TIz D.TITO D.TIi1 D.TIi2 b, z3, z4, e.at fun o => hk _ o D.l1z D.l1TO D.l1i1 D.l1i2, f.at fun o => hk _ o D.l2z D.l2TO D.l2i1 D.l2i2⟩ z5 z6 hk
  · refine wpAny_pyNext_zip_item_held D a1 a2 b c d e f (by simpa using hx) (by simpa using hy) fun h' z1 z3 z4 z5 z6 hk => ?_
    exact hQ h' ⟨.inr ⟨T, true, oT, z1, hk _ _ a3 a4 a5 a2, a3, a4, a5, a6⟩, hk _ _ D.TIz D.TIi1 D.TIi2 b, z3, z4, e.at fun o => hk _ o D.l1z D.l1i1 D.l1i2, f.at fun o => hk _ o D.l2z D.l2i1 D.l2i2⟩ z5 z6 fun c o n1 _ n3 n4 => hk c o n1 n3 n4
theorem zp_done {Q : Option Value → Shared → Prop} (hh : A.handled = none) (D : ZipApart z TI TO i1 i2 l1 l2) (st : ZpSt s.heap z TI TO i1 i2 l1 l2 S xs ys i) (hx : xs[i]? = none ∨ ys[i]? = none)
    (hQ : ∀ h', (∀ c o, c ≠ z → c ≠ TO → c ≠ i1 → c ≠ i2 → s.heap.get? c = some o → h'.get? c = some o) → Q none { s with heap := h' }) :
    wpAny (model prog w) A (pyNext (.ref z)) Q E s := by
  obtain ⟨a, b, c, d, e, f⟩ := st
  have hx' : xs.toArray[i]? = none ∨ ys.toArray[i]? = none := by simpa using hx
  rcases a with ⟨u, v, a1, a2⟩ | ⟨T, g, oT, a1, a2, a3, a4, a5, a6⟩
  · exact wpAny_pyNext_zip_end hh D a1 b a2 c d e f hx' hQ
  · exact wpAny_pyNext_zip_end_held hh D a1 a2 b c d e f hx' fun h' hk => hQ h' fun c o n1 _ n3 n4 => hk c o n1 n3 n4
theorem zp_loop {R : Result → Shared → Prop} (hh : A.handled = none) (D : ZipApart z TI TO i1 i2 l1 l2) (n : S ≠ z ∧ S ≠ TI ∧ S ≠ TO ∧ S ≠ i1 ∧ S ≠ i2 ∧ S ≠ l1 ∧ S ≠ l2) (hn : min xs.length ys.length ≤ sizeLine) (lo : Addr) (res : Value) {h₁ : Heap}
    (hR : ∀ h' tk acc c as, (∀ b o, b ≠ S → b ≠ z → b ≠ TO → b ≠ i1 → b ≠ i2 → h₁.get? b = some o → h'.get? b = some o) → h'.get? S = some { cls := .type "list", dict := none, data := .seq acc c, slots := #[] } → as.length = min xs.length ys.length → ZpG xs ys lo h' as →
      acc.toList = as.map Value.ref → R (.ok (.ret res)) { s with heap := h', toks := tk }) (hlo : S ≤ lo ∧ z ≤ lo ∧ TO ≤ lo ∧ i1 ≤ lo ∧ i2 ≤ lo) :
    ∀ (k i : Nat) (h : Heap) (tk c : Nat) (acc : Array Value) (as : List Addr), min xs.length ys.length - i = k → i ≤ min xs.length ys.length → ZpSt h z TI TO i1 i2 l1 l2 S xs ys i → (∀ b o, b ≠ S → b ≠ z → b ≠ TO → b ≠ i1 → b ≠ i2 → h₁.get? b = some o → h.get? b = some o) →
      h.get? S = some { cls := .type "list", dict := none, data := .seq acc c, slots := #[] } → acc.toList = as.map Value.ref → as.length = i → ZpG xs ys lo h as → lo < h.objs.size →
      codeAny (model prog w) A (.builtin "list.extend.loop" ⟨[.ref S, .ref z, res], []⟩) R { s with heap := h, toks := tk } := by
  obtain ⟨lS, lz, lT, l1', l2'⟩ := hlo
  intro k
  induction k with
  | zero =>
    intro i h tk c acc as hk hi hst hkeep hS hacc hal hG hIs
    have hin : i = min xs.length ys.length := by omega
    refine codeAny_builtin PySem.F.entry_extend_loop ?_
    rw [Around.under_plainId PySem.F.plain_extend_loop _]
    show wpAny _ A.in1 (pyNext (.ref z) >>= _) _ _ _
    refine wpAny_bind (zp_done (s := { s with heap := h, toks := tk }) (A := A.in1) hh D hst ?_ fun h' he => ?_)
    · rcases Nat.le_total xs.length ys.length with y | y
      · exact .inl (List.getElem?_eq_none (by omega))
      · exact .inr (List.getElem?_eq_none (by omega))
    refine wpAny_pure (hR h' tk acc c as (fun b o n0 n1 n2 n3 n4 e => he b o n1 n2 n3 n4 (hkeep b o n0 n1 n2 n3 n4 e)) (he S _ n.1 n.2.2.1 n.2.2.2.1 n.2.2.2.2.1 hS) (by omega) ⟨hG.rise, hG.above, fun j a hj => ?_⟩ hacc)
    obtain ⟨x, y, e1, e2, e3⟩ := hG.pairs j a hj
    have ab := hG.above a (List.mem_of_getElem? hj)
    exact ⟨x, y, e1, e2, he a _ (Nat.ne_of_gt (Nat.lt_of_le_of_lt lz ab)) (Nat.ne_of_gt (Nat.lt_of_le_of_lt lT ab)) (Nat.ne_of_gt (Nat.lt_of_le_of_lt l1' ab)) (Nat.ne_of_gt (Nat.lt_of_le_of_lt l2' ab)) e3⟩
  | succ k ih =>
    intro i h tk c acc as hk hi hst hkeep hS hacc hal hG hIs
    have hlt : i < min xs.length ys.length := by omega
    have hx1 : i < xs.length := by omega
    have hy1 : i < ys.length := by omega
    have hsz : acc.size = i := by rw [← Array.length_toList, hacc, List.length_map, hal]
    refine codeAny_builtin PySem.F.entry_extend_loop ?_
    rw [Around.under_plainId PySem.F.plain_extend_loop _]
    show wpAny _ A.in1 (pyNext (.ref z) >>= _) _ _ _
    refine wpAny_bind (zp_item (s := { s with heap := h, toks := tk }) D (Heap.lt_size hS) hst (List.getElem?_eq_getElem hx1) (List.getElem?_eq_getElem hy1) fun h' hst' ht hz hkp => ?_)
    dsimp only at ht hz hkp ⊢
    have hS' := hkp S _ n.1 n.2.2.1 n.2.2.2.1 n.2.2.2.2.1 hS
    have up : ∀ b o, b ≠ S → h'.get? b = some o → (h'.update S (Obj.mapSeq (·.push (Value.ref h.objs.size)))).get? b = some o := fun b o hb e => (Heap.get?_update_other _ _ (Ne.symm hb)).trans e
    have hSl : S < h.objs.size := Heap.lt_size hS
    show wpAny _ A.in1 (updateSeq S (·.push (Value.ref h.objs.size)) >>= _) _ _ _
    refine wpAny_bind ?_
    refine wpAny_updateSeq hS' rfl (wpAny_pure ⟨plainId_quiet PySem.F.plain_extend_loop _, ih (i + 1) _ tk _ (acc.push (Value.ref h.objs.size)) (as ++ [h.objs.size]) (by omega) hlt (hst'.keep up n)
      (fun b o n0 n1 n2 n3 n4 e => up b o n0 (hkp b o n1 n2 n3 n4 (hkeep b o n0 n1 n2 n3 n4 e))) (Heap.get?_update_self _ hS' rfl) (by rw [Array.toList_push, hacc, List.map_append]; rfl) (by rw [List.length_append, hal]; rfl) ⟨?_, ?_, ?_⟩ ?_⟩) (by rw [hsz]; omega) (by show (acc.push (Value.ref h.objs.size)).size ≤ sizeLine + 1; rw [Array.size_push, hsz]; omega)
    · refine List.pairwise_append.mpr ⟨hG.rise, List.pairwise_singleton _ _, fun a ha b hb => ?_⟩
      rw [List.mem_singleton.mp hb]
      exact hG.there ha
    · intro a ha
      rcases List.mem_append.mp ha with ha | ha
      · exact hG.above a ha
      · rw [List.mem_singleton.mp ha]; exact hIs
    · intro j b hj
      rcases Nat.lt_trichotomy j as.length with h1 | h1 | h1
      · rw [List.getElem?_append_left h1] at hj
        obtain ⟨x', y', e1, e2, e3⟩ := hG.pairs j b hj
        have ab := hG.above b (List.mem_of_getElem? hj)
        exact ⟨x', y', e1, e2, up b _ (Nat.ne_of_gt (Nat.lt_of_le_of_lt lS ab)) (hkp b _ (Nat.ne_of_gt (Nat.lt_of_le_of_lt lz ab)) (Nat.ne_of_gt (Nat.lt_of_le_of_lt lT ab)) (Nat.ne_of_gt (Nat.lt_of_le_of_lt l1' ab)) (Nat.ne_of_gt (Nat.lt_of_le_of_lt l2' ab)) e3)⟩
      · subst h1
        have hb : h.objs.size = b := by simpa using hj
        subst hb
        exact ⟨_, _, by rw [hal]; exact List.getElem?_eq_getElem hx1, by rw [hal]; exact List.getElem?_eq_getElem hy1, up _ _ (Nat.ne_of_gt hSl) ht⟩
      · have hnone : (as ++ [h.objs.size])[j]? = none := List.getElem?_eq_none (by rw [List.length_append, List.length_singleton]; omega)
        rw [hnone] at hj; cases hj
    · have e : (h'.update S (Obj.mapSeq (·.push (Value.ref h.objs.size)))).get? h.objs.size = _ := up _ _ (Nat.ne_of_gt hSl) ht
      exact Nat.lt_trans hIs (Heap.lt_size e)
theorem zp_extend {R : Result → Shared → Prop} (hh : A.handled = none) (D : ZipApart z TI TO i1 i2 l1 l2) (n : S ≠ z ∧ S ≠ TI ∧ S ≠ TO ∧ S ≠ i1 ∧ S ≠ i2 ∧ S ≠ l1 ∧ S ≠ l2) (hn : min xs.length ys.length ≤ sizeLine) (hlo : z ≤ S ∧ TO ≤ S ∧ i1 ≤ S ∧ i2 ≤ S) (st : ZpSt s.heap z TI TO i1 i2 l1 l2 S xs ys 0) (hz : ∃ f0, IsZip s.heap z TI TO f0) (res : Value) (c₀ : Nat) (hS : s.heap.get? S = some { cls := .type "list", data := .seq #[] c₀ }) (hlast : s.heap.objs.size = S + 1)
    (hR : ∀ h' tk acc c as, (∀ b o, b ≠ S → b ≠ z → b ≠ TO → b ≠ i1 → b ≠ i2 → s.heap.get? b = some o → h'.get? b = some o) → h'.get? S = some { cls := .type "list", dict := none, data := .seq acc c, slots := #[] } → as.length = min xs.length ys.length → ZpG xs ys S h' as →
      acc.toList = as.map Value.ref → R (.ok (.ret res)) { s with heap := h', toks := tk }) :
    wpAny (model prog w) A.in1 (Builtin.List.listExtendWith (.ref S) (.ref z) res)
      (fun fin s' => match fin with | .done f => R (.ok f) s' | .again c' => c'.quiet = true ∧ codeAny (model prog w) A c' R s') (fun e s' => R (.error e) s') s := by
  obtain ⟨lz, lT, l1', l2'⟩ := hlo
  obtain ⟨f0, hz⟩ := hz
  have key : ∀ (h : Heap) (c₁ tk : Nat), h.objs.size = s.heap.objs.size → (∀ b o, b ≠ S → s.heap.get? b = some o → h.get? b = some o) →
      h.get? S = some { cls := .type "list", data := .seq #[] c₁ } → codeAny (model prog w) A (.builtin "list.extend.loop" ⟨[.ref S, .ref z, res], []⟩) R { s with heap := h, toks := tk } := by
    intro h c₁ tk hsz hk hS₁
    exact zp_loop (s := s) (h₁ := s.heap) hh D n hn S res hR ⟨Nat.le_refl _, lz, lT, l1', l2'⟩ (min xs.length ys.length) 0 h tk c₁ #[] [] (Nat.sub_zero _) (Nat.zero_le _) (st.keep hk n) (fun b o n0 _ _ _ _ e => hk b o n0 e) hS₁ rfl rfl
      ⟨List.Pairwise.nil, (fun _ ha => nomatch ha), (fun j a hj => by simp at hj)⟩ (by rw [hsz, hlast]; exact Nat.lt_succ_self _)
  have hT : s.TypeIs (.ref z) "zip" := ⟨_, hz, rfl⟩
  unfold Builtin.List.listExtendWith
  refine wpAny_bind (wpAny_typeOf (T := "zip") hT ?_)
  have h1 : Builtin.List.listSameRef (.ref S) (.ref z) = false := by simp [Builtin.List.listSameRef, n.1]
  have h2 : (Value.type "zip" == Value.type "list") = false := by decide
  have h3 : (Value.type "zip" == Value.type "tuple") = false := by decide
  simp only [h1, h2, h3, Bool.or_false, Bool.false_eq_true, if_false]
  refine wpAny_bind (wpAny_pyIter_zip hz ?_)
  refine wpAny_bind (wpAny_holding (zp_hint hT ?_))
  refine wpAny_ite_split (fun _ => ?_) (fun _ => wpAny_pure ⟨plainId_quiet PySem.F.plain_extend_loop _, key _ c₀ _ rfl (fun b o _ e => e) hS⟩)
  refine wpAny_bind (wpAny_rule ?_)
  refine wpAny_bind ?_
  show wpAny _ _ (updateSeq S (·.push .none) >>= fun _ => updateSeq S (·.pop)) _ _ _
  refine wpAny_bind (wpAny_updateSeq hS rfl ?_)
  have hS₂ := Heap.get?_update_self (Obj.mapSeq (·.push Value.none)) hS rfl
  refine wpAny_updateSeq (hz := by seq_fits) hS₂ rfl ?_
  have hS₃ := Heap.get?_update_self (Obj.mapSeq (·.pop)) hS₂ rfl
  refine wpAny_pure ⟨plainId_quiet PySem.F.plain_extend_loop _, key _ _ _ ?_ (fun b o hb e => ?_) hS₃⟩
  · rw [(Heap.SameBut.update ..).1, (Heap.SameBut.update ..).1]
  · exact (Heap.get?_update_other _ _ (Ne.symm hb)).trans ((Heap.get?_update_other _ _ (Ne.symm hb)).trans e)
theorem zp_init {R : Result → Shared → Prop} (hh : A.handled = none) (D : ZipApart z TI TO i1 i2 l1 l2) (n : S ≠ z ∧ S ≠ TI ∧ S ≠ TO ∧ S ≠ i1 ∧ S ≠ i2 ∧ S ≠ l1 ∧ S ≠ l2) (hn : min xs.length ys.length ≤ sizeLine) (hlo : z ≤ S ∧ TO ≤ S ∧ i1 ≤ S ∧ i2 ≤ S) (st : ZpSt s.heap z TI TO i1 i2 l1 l2 S xs ys 0) (hz : ∃ f0, IsZip s.heap z TI TO f0) (hS : s.heap.get? S = some { cls := .type "list", data := .seq #[] }) (hlast : s.heap.objs.size = S + 1)
    (hR : ∀ h' tk acc c as, (∀ b o, b ≠ S → b ≠ z → b ≠ TO → b ≠ i1 → b ≠ i2 → s.heap.get? b = some o → h'.get? b = some o) → h'.get? S = some { cls := .type "list", dict := none, data := .seq acc c, slots := #[] } → as.length = min xs.length ys.length → ZpG xs ys S h' as →
      acc.toList = as.map Value.ref → R (.ok (.ret .none)) { s with heap := h', toks := tk }) :
    wpAny (model prog w) A.in1 (Builtin.«list.__init__» ⟨[.ref S, .ref z], []⟩)
      (fun fin s' => match fin with | .done f => R (.ok f) s' | .again c' => c'.quiet = true ∧ codeAny (model prog w) A c' R s') (fun e s' => R (.error e) s') s := by
  show wpAny _ _ (do let old ← Builtin.List.listItems (.ref S); Builtin.List.listUpdate (.ref S) (fun _ => #[]); letGo old.toList.reverse; Builtin.List.listExtendWith (.ref S) (.ref z) .none) _ _ s
  refine wpAny_bind ?_
  unfold Builtin.List.listItems
  refine wpAny_bind (wpAny_seqItems hS rfl (wpAny_pure ?_))
  show wpAny _ _ (updateSeq S (fun _ => #[]) >>= fun _ => letGo (#[] : Array Value).toList.reverse >>= fun _ => Builtin.List.listExtendWith (.ref S) (.ref z) .none) _ _ s
  refine wpAny_bind (wpAny_updateSeq hS rfl ?_)
  have hS₂ := Heap.get?_update_self (Obj.mapSeq (fun _ => (#[] : Array Value))) hS rfl
  have oth : ∀ b o, b ≠ S → s.heap.get? b = some o → (s.heap.update S (Obj.mapSeq (fun _ => (#[] : Array Value)))).get? b = some o :=
    fun b o hb e => (Heap.get?_update_other _ _ (Ne.symm hb)).trans e
  refine wpAny_bind (wpAny_letGo ?_)
  refine zp_extend hh D n hn hlo (st.keep oth n) (hz.imp fun f0 h => oth _ _ n.1.symm h) .none _ hS₂ (by show (s.heap.update S _).objs.size = _; rw [(Heap.SameBut.update ..).1, hlast]) (fun h' tk acc c as hk hS' hl hG hacc => ?_)
  exact hR h' tk acc c as (fun b o n0 n1 n2 n3 n4 e => hk b o n0 n1 n2 n3 n4 (oth b o n0 e)) hS' hl hG hacc
theorem zp_call {Q : Value → Shared → Prop} (hh : A.handled = none) (D : ZipApart z TI TO i1 i2 l1 l2) (hn : min xs.length ys.length ≤ sizeLine) (st : ∀ S, s.heap.objs.size ≤ S → ZpSt s.heap z TI TO i1 i2 l1 l2 S xs ys 0) (hz : ∃ f0, IsZip s.heap z TI TO f0) (hTO : TO < s.heap.objs.size)
    (hQ : ∀ h' tk acc c as, (∀ b o, b ≠ z → b ≠ TO → b ≠ i1 → b ≠ i2 → s.heap.get? b = some o → h'.get? b = some o) → h'.get? s.heap.objs.size = some { cls := .type "list", dict := none, data := .seq acc c, slots := #[] } → as.length = min xs.length ys.length → ZpG xs ys s.heap.objs.size h' as →
      acc.toList = as.map Value.ref → Q (.ref s.heap.objs.size) { s with heap := h', toks := tk }) :
    wpAny (model prog w) A (call (.type "list") [.ref z]) Q E s := by
  refine callType_codes (Q₁ := fun obj s₁ => obj = .ref s.heap.objs.size ∧ s₁ = { s with heap := s.heap.push { cls := .type "list", data := .seq #[] } }) PySem.F.called_list (PySem.F.typeCall_list_1 _) PySem.F.entry_list_init
    (code_list_new _ ⟨rfl, rfl⟩) fun obj s₁ h₁ => ?_
  obtain ⟨rfl, rfl⟩ := h₁
  have hS : (s.heap.push { cls := .type "list", data := .seq #[] }).get? s.heap.objs.size = some { cls := .type "list", data := .seq #[] } := Heap.get?_push_size _ rfl
  have st0 := st s.heap.objs.size (Nat.le_refl _)
  obtain ⟨a, b, c, d, e, f⟩ := id st0
  obtain ⟨f0, z0⟩ := hz
  have lz : z < s.heap.objs.size := Heap.lt_size z0
  have lTI : TI < s.heap.objs.size := Heap.lt_size b
  have b1 : i1 < s.heap.objs.size := by obtain ⟨_, x, _⟩ := c; exact Heap.lt_size x
  have b2 : i2 < s.heap.objs.size := by obtain ⟨_, x, _⟩ := d; exact Heap.lt_size x
  have b3 : l1 < s.heap.objs.size := by obtain ⟨_, x, _⟩ := e; exact Heap.lt_size x
  have b4 : l2 < s.heap.objs.size := by obtain ⟨_, x, _⟩ := f; exact Heap.lt_size x
  have ne : ∀ {c : Addr}, c < s.heap.objs.size → s.heap.objs.size ≠ c := fun h => Nat.ne_of_gt h
  have nn : s.heap.objs.size ≠ z ∧ s.heap.objs.size ≠ TI ∧ s.heap.objs.size ≠ TO ∧ s.heap.objs.size ≠ i1 ∧ s.heap.objs.size ≠ i2 ∧ s.heap.objs.size ≠ l1 ∧ s.heap.objs.size ≠ l2 := ⟨ne lz, ne lTI, ne hTO, ne b1, ne b2, ne b3, ne b4⟩
  refine ⟨⟨_, hS, rfl⟩, PySem.F.args_list_init_2 _ _, zp_init (A := A.in1) (s := { s with heap := s.heap.push { cls := .type "list", data := .seq #[] } }) hh D nn hn ⟨Nat.le_of_lt lz, Nat.le_of_lt hTO, Nat.le_of_lt b1, Nat.le_of_lt b2⟩ (st0.keep (fun b o _ e => Heap.get?_push_of_some _ e) nn) ⟨f0, Heap.get?_push_of_some _ z0⟩ hS (Heap.size_push ..) (fun h' tk acc c as hk hS' hl hG hacc => ?_)⟩
  exact ⟨rfl, hQ h' tk acc c as (fun b o n1 n2 n3 n4 e => hk b o (Nat.ne_of_lt (Heap.lt_size e)) n1 n2 n3 n4 (Heap.get?_push_of_some _ e)) hS' hl hG hacc⟩
end
/-- the tuples tracked at their addresses -/
def putP : Hp → List Addr → List (V × V) → Hp
  | H, a :: as, p :: kvs => putP (upd H a (.tup [p.1, p.2])) as kvs
  | H, _, _ => H
theorem putP_off {b : Addr} : ∀ (as : List Addr) (kvs : List (V × V)) (H : Hp), b ∉ as → putP H as kvs b = H b
  | [], _, _, _ => rfl
  | _ :: _, [], _, _ => rfl
  | a :: as, p :: kvs, H, h => by
    show putP (upd H a (.tup [p.1, p.2])) as kvs b = H b
    rw [putP_off as kvs _ (fun z => h (List.mem_cons_of_mem _ z)), upd_ne (fun z => h (by rw [z]; exact List.mem_cons_self))]
theorem putP_at : ∀ (as : List Addr) (kvs : List (V × V)) (H : Hp), as.length = kvs.length → as.Nodup → Paired (fun (t : Addr) (p : V × V) => putP H as kvs t = some (.tup [p.1, p.2])) as kvs
  | [], [], _, _, _ => .nil
  | [], _ :: _, _, h, _ => by cases h
  | _ :: _, [], _, h, _ => by cases h
  | a :: as, p :: kvs, H, h, hn => by
    have hn' := List.nodup_cons.mp hn
    have ih := putP_at as kvs (upd H a (.tup [p.1, p.2])) (Nat.succ.inj h) hn'.2
    refine .cons ?_ ih
    show putP (upd H a (.tup [p.1, p.2])) as kvs a = some (.tup [p.1, p.2])
    rw [putP_off as kvs _ hn'.1, upd_same]
section
variable {X : Cx}
theorem zp_laid {pins : List (Addr × Obj)} {σ : L2.St} {H : Hp} {s : Shared} {h' : Heap} {tk : Nat} {xs ys : List V} {us vs : List Value} {acc : Array Value} {c : Nat} {as : List Addr} {L : Addr} (I : Inv X pins σ H s) (hz : min xs.length ys.length ≤ sizeLine) (rx : Vals xs us) (ry : Vals ys vs)
    (hk : ∀ b o, s.heap.get? b = some o → h'.get? b = some o) (hL : s.heap.objs.size ≤ L) (hS : h'.get? L = some { cls := .type "list", dict := none, data := .seq acc c, slots := #[] }) (hl : as.length = min us.length vs.length) (hG : ZpG us vs L h' as) (hacc : acc.toList = as.map Value.ref) :
    ∃ H' : Hp, (∀ b o, H b = some o → H' b = some o) ∧ H L = none ∧ (∀ t ∈ as, H t = none) ∧ L ∉ as ∧ H' L = some (.lst (as.map V.ref)) ∧ Paired (fun (t : Addr) (q : V × V) => H' t = some (.tup [q.1, q.2])) as (xs.zip ys) ∧ Inv X pins σ H' { s with heap := h', toks := tk } := by
  have lx := rx.length
  have ly := ry.length
  have lk : as.length = (xs.zip ys).length := by rw [hl, List.length_zip, lx, ly]
  have hSn : L ∉ as := fun z => Nat.lt_irrefl _ (hG.above _ z)
  have nd : as.Nodup := List.Pairwise.imp (fun {a b} (h : a < b) => Nat.ne_of_lt h) hG.rise
  have new : ∀ t ∈ as, H t = none := fun t ht => I.hok.fresh (Nat.le_trans hL (Nat.le_of_lt (hG.above t ht)))
  have newS : H L = none := I.hok.fresh hL
  have atP := putP_at as (xs.zip ys) (upd H L (.lst (as.map V.ref))) lk nd
  have off : ∀ b, b ∉ as → b ≠ L → putP (upd H L (.lst (as.map V.ref))) as (xs.zip ys) b = H b := fun b h1 h2 => by rw [putP_off as _ _ h1, upd_ne h2]
  have low : ∀ b o, s.heap.get? b = some o → b ∉ as ∧ b ≠ L := fun b o e => ⟨fun z => absurd (Heap.lt_size e) (Nat.not_lt.mpr (Nat.le_trans hL (Nat.le_of_lt (hG.above b z)))), Nat.ne_of_lt (Nat.lt_of_lt_of_le (Heap.lt_size e) hL)⟩
  have kp : ∀ b u, H b = some u → (putP (upd H L (.lst (as.map V.ref))) as (xs.zip ys)) b = some u := fun b u e => by
    rw [off b (fun z => by rw [new b z] at e; cases e) (fun z => by rw [z, newS] at e; cases e)]
    exact e
  have eS : putP (upd H L (.lst (as.map V.ref))) as (xs.zip ys) L = some (.lst (as.map V.ref)) := by rw [putP_off as _ _ hSn, upd_same]
  refine ⟨putP (upd H L (.lst (as.map V.ref))) as (xs.zip ys), kp, newS, new, hSn, eS, atP, ?_⟩
  refine I.call' (ch := []) rfl ⟨fun b o q _ _ _ => hk b o q, fun b o q _ _ _ => ⟨o.slots, hk b o q⟩, fun b o q n _ => ?_, fun b o q _ => ⟨o, hk b o q⟩, fun b xs q => kp b _ q, fun b o u q => kp b _ q, fun b ps q => ⟨#[], by rw [kp b _ q]; simp⟩⟩ (fun b u q => ?_) I.bare fun b z => by simp at z
  · obtain ⟨z1, z2⟩ := low b o q
    rw [off b z1 z2]
    exact n
  · by_cases hb : b ∈ as
    · obtain ⟨j, pk, e1, e2, e3⟩ := LiI.paired_ix atP hb
      rw [e3] at q
      cases q
      obtain ⟨x, y, f1, f2, f3⟩ := hG.pairs j b e1
      obtain ⟨g1, g2⟩ := List.getElem?_zip_eq_some.mp e2
      obtain ⟨u1, g3, r1⟩ := rx.get g1
      obtain ⟨u2, g4, r2⟩ := ry.get g2
      rw [f1] at g3
      rw [f2] at g4
      cases g3
      cases g4
      exact ⟨by show 2 ≤ sizeLine; decide, [x, y], .cons r1 (.cons r2 .nil), ⟨_, f3, rfl, _, rfl⟩⟩
    · by_cases hb2 : b = L
      · rw [hb2] at q ⊢
        rw [eS] at q
        cases q
        refine ⟨by rw [List.length_map, hl]; omega, acc.toList, c, by rw [hacc]; exact LiI.vals_refs as, ?_⟩
        rw [Array.toArray_toList]
        exact hS
      · rw [off b hb hb2] at q
        exact (I.hok b u q).stay (fun d v _ y => hk d v y) (fun d y => kp d _ y) fun d xs y => kp d _ y
/-- list(zip(e, e2)) -/
def tListZip (K : PySem.W.Frag) (ta : TA) : TE := fun σ H Q => ta σ H fun vs H1 => ∃ (a b : Addr) (xs ys : List V), vs = [.ref a, .ref b] ∧ SqL K H1 a xs ∧ SqL K H1 b ys ∧
  ∀ (H' : Hp) (p : Addr) (ts : List Addr), Same H1 H' → H1 p = none → (∀ t ∈ ts, H1 t = none) → p ∉ ts → H' p = some (.lst (ts.map V.ref)) → Paired (fun (t : Addr) (q : V × V) => H' t = some (.tup [q.1, q.2])) ts (xs.zip ys) → Q (.ref p) H'
variable {e e2 : Expr} {ta : TA} {p p2 pos2 pos : Pos}
theorem pe_listZip (hc : X.calm = true) (hg : Gl X "list") (hm : X.mg "list" = none) (hv : bootBuiltins "list" = some (.type "list")) (hgz : Gl X "zip") (hmz : X.mg "zip" = none) (ha : PA X [e, e2] ta)
    (hs2 : starEach [e, e2] X.env = (false, eval e X.env) :: starEach [e2] X.env := by rfl) (hpl2 : (backTo pos2 (starEach [e2] X.env)).any (·.1) = false := by rfl)
    (hs : starEach [.Call (.Name "zip" p2) [e, e2] [] pos2] X.env = (false, eval (.Call (.Name "zip" p2) [e, e2] [] pos2) X.env) :: starEach [] X.env := by rfl) :
    PE X (.Call (.Name "list" p) [.Call (.Name "zip" p2) [e, e2] [] pos2] [] pos) (tListZip X.K ta) := by
  refine ⟨fun pins s σ H Q I hq => ?_⟩
  refine wpAny_Call_Name_kw (ld_blt I hg hm hv ?_)
  refine PyProof.Rows.callWith_type1 ?_ hs rfl
  rw [hs]
  show wpAny _ _ (spliced ((false, eval (.Call (.Name "zip" p2) [e, e2] [] pos2) X.env) :: backTo pos (starEach [] X.env))) _ _ s
  refine Calls.spliced_cons ?_
  refine Call_ (ld_blt I hgz hmz PyProof.Rows.boot_zip (PyProof.Rows.callWith_type1 (thn (ha.run pos2 pins s σ H _ I hq) fun us s1 ⟨vs, H1, I1, r1, q1⟩ => ?_) hs2 hpl2))
  obtain ⟨a, b, xs, ys, ex, hqx, hqy, q⟩ := q1
  subst ex
  cases r1 with
  | cons r rr =>
    cases rr with
    | cons r' rr =>
      cases rr
      cases r
      cases r'
      obtain ⟨its, rv, p1, z1⟩ := I1.list hqx
      obtain ⟨its2, rv2, p3, z2⟩ := I1.list hqy
      have la : a < s1.heap.objs.size := p1.lt
      have lb : b < s1.heap.objs.size := p3.lt
      have lx := rv.length
      have ly := rv2.length
      refine call_zip_2 p1.isList p3.isList fun h' hz hTI hTO h1 h2 hsz hk => ?_
      refine Calls.spliced_nil ?_
      have D := PySem.W.ktu_apart s1.heap.objs.size a b la lb
      refine zp_call (s := { s1 with heap := h' }) (xs := its) (ys := its2) (I1.ok.hd hc) D (by omega) (fun S _ => ⟨.inl ⟨_, _, hz, hTO⟩, hTI, h1, h2, p1.isList.at fun o => hk _ o, p3.isList.at fun o => hk _ o⟩) ⟨_, hz⟩ (Heap.lt_size hTO) fun h2' tk acc c as hk2 hS hl hG hacc => ?_
      obtain ⟨H', k1, k2, k3, k4, k5, k6, J⟩ := zp_laid (tk := tk) I1 (by omega) rv rv2 (fun b o y => hk2 b o (Nat.ne_of_lt (Nat.lt_of_lt_of_le (Heap.lt_size y) (Nat.le_add_right _ 4))) (Nat.ne_of_lt (Nat.lt_of_lt_of_le (Heap.lt_size y) (Nat.le_add_right _ 3))) (Nat.ne_of_lt (Heap.lt_size y)) (Nat.ne_of_lt (Nat.lt_of_lt_of_le (Heap.lt_size y) (Nat.le_add_right _ 1))) (hk b o y)) (by show s1.heap.objs.size ≤ h'.objs.size; rw [hsz]; exact Nat.le_add_right _ _) hS hl hG hacc
      exact ⟨.ref _, H', J, rfl, q H' _ as k1 k2 k3 k4 k5 k6⟩
end
end Xs
set_option Elab.async false
set_option linter.all false
set_option maxRecDepth 100000
set_option maxHeartbeats 4000000
/-! X11: a dict of the module with texts for keys and numbers for values: x in D, D[x]. -/
namespace Xs
open PySem PySem.Spec PyProof.Rows L2
def entV (e : DictEntry) : Option (Str × Int) := match e.key, e.val with
  | .str x _, .int i _ => some (x, i)
  | _, _ => none
def Tab (K : PySem.W.Frag) (w : World) (D : Addr) (l : List (Str × Int)) : Prop := ∃ es n, K.lookup D = some ⟨.type "dict", none, .dict es n, #[]⟩ ∧ PySem.W.KeysLit w.params es.toList ∧ (D == sysModules) = false ∧ es.toList.map entV = l.map some
theorem tab_find {z : Str} : ∀ {es : List DictEntry} {l : List (Str × Int)}, es.map entV = l.map some →
    (∀ i, l.lookup z = some i → ∃ e t, es.find? (·.key.isStr z) = some e ∧ e.val = .int i t) ∧ (l.lookup z = none → es.find? (·.key.isStr z) = none) ∧ es.any (·.refKey) = false
  | [], [], _ => ⟨(fun i h => nomatch h), fun _ => rfl, rfl⟩
  | [], _ :: _, h => by cases h
  | _ :: _, [], h => by cases h
  | e :: es, p :: l, h => by
    have h1 : entV e = some p := (List.cons.inj h).1
    obtain ⟨i1, i2, i3⟩ := tab_find (z := z) (List.cons.inj h).2
    obtain ⟨hs, k, v⟩ := e
    obtain ⟨x, i⟩ := p
    unfold entV at h1
    split at h1
    · rename_i x' t1 i' t2 e1 e2
      dsimp only at e1 e2
      cases h1
      subst e1 e2
      have eb : (z == x) = (x == z) := by
        by_cases q : x = z
        · subst q; rfl
        · rw [beq_eq_false_iff_ne.mpr q, beq_eq_false_iff_ne.mpr (Ne.symm q)]
      refine ⟨?_, ?_, ?_⟩
      · intro j hj
        rw [List.lookup_cons] at hj
        rw [List.find?_cons]
        show ∃ e t, (match (x == z) with | true => _ | false => _) = some e ∧ _
        rw [eb] at hj
        cases q : (x == z) with
        | true =>
          rw [q] at hj
          cases hj
          exact ⟨_, _, rfl, rfl⟩
        | false =>
          rw [q] at hj
          exact i1 j hj
      · intro hj
        rw [List.lookup_cons] at hj
        rw [List.find?_cons]
        show (match (x == z) with | true => _ | false => _) = none
        rw [eb] at hj
        cases q : (x == z) with
        | true =>
          rw [q] at hj
          cases hj
        | false =>
          rw [q] at hj
          exact i2 hj
      · rw [List.any_cons, i3]
        rfl
    · cases h1
theorem tab_ns {K : PySem.W.Frag} {w : World} {D : Addr} {l : List (Str × Int)} (T : Tab K w D l) (z : Str) :
    (∀ i, l.lookup z = some i → ∃ t, PySem.W.nsIn K D z = some (some (.int i t))) ∧ (l.lookup z = none → PySem.W.nsIn K D z = some none) := by
  obtain ⟨es, n, hl, hk, hd, he⟩ := T
  obtain ⟨a, b, c⟩ := tab_find (z := z) he
  refine ⟨fun i hi => ?_, fun hn => ?_⟩
  · obtain ⟨e, t, h1, h2⟩ := a i hi
    refine ⟨t, ?_⟩
    unfold PySem.W.nsIn
    rw [hl]
    dsimp only
    rw [h1, ← h2]
  · unfold PySem.W.nsIn
    rw [hl]
    dsimp only
    rw [b hn, c]
    rfl
section
variable {X : Cx}
/-- x in D -/
def rInTab (K : PySem.W.Frag) (w : World) : R2 := fun x y H Q => ∃ (z : Str) (p : Addr) (l : List (Str × Int)), x = .str z ∧ y = .ref p ∧ Tab K w p l ∧ Q (.bl (l.lookup z).isSome) H
theorem op_inTab : OpR X (compareOp .In) (rInTab X.K X.w) := by
  intro pins s σ H x y v u Q I rx ry h
  obtain ⟨z, p, l, rfl, rfl, T, q⟩ := h
  obtain ⟨es, n, hl, hk, hd, he⟩ := id T
  obtain rfl : u = Value.ref p := ry
  obtain ⟨t, rfl⟩ := (show ∃ t, v = Value.str z t from rx)
  have hm := PySem.W.mapOf_K (prog := X.prog) (w := X.w) I.kIn hl hk
  refine wpAny_in_of (strKind_is X.prog X.w z t) hd hm ?_
  obtain ⟨a, b⟩ := tab_ns T z
  cases e : l.lookup z with
  | none =>
    rw [PySem.W.find_K hl (b e)]
    rw [e] at q
    exact ⟨.bl false, H, I.tok _, rfl, q⟩
  | some i =>
    obtain ⟨t, ht⟩ := a i e
    rw [PySem.W.find_K hl ht]
    rw [e] at q
    exact ⟨.bl true, H, I.tok _, rfl, q⟩
/-- D[x] -/
def rIxTab (K : PySem.W.Frag) (w : World) : R2 := fun x y H Q => ∃ (z : Str) (p : Addr) (l : List (Str × Int)) (i : Int), x = .ref p ∧ y = .str z ∧ Tab K w p l ∧ l.lookup z = some i ∧ Q (.int i) H
theorem ix_tab : IxR X (rIxTab X.K X.w) := by
  intro value slice pins s σ H x y v u Q I rx ry h hs
  obtain ⟨z, p, l, i, rfl, rfl, T, e, q⟩ := h
  obtain ⟨t, ht⟩ := (tab_ns T z).1 i e
  obtain ⟨es, n, hl, hk, hd, he⟩ := T
  exact ix_kdict value slice pins s σ H (.ref p) (.str z) v u Q I rx ry ⟨p, z, .int i, rfl, rfl, ⟨es, n, _, hl, hk, ht, ⟨t, rfl⟩⟩, q⟩ hs
end
end Xs
set_option Elab.async false
set_option linter.all false
set_option maxRecDepth 100000
set_option maxHeartbeats 4000000
/-! K45m: events and their words, by plain lists. -/
namespace K45
open PySem PyProof.Rows Xs

/-! ### texts of words -/
abbrev sps : Str := (" " : Str)
theorem sps_eq : sps = ⟨#[32]⟩ := by decide +kernel
def Free (z : Str) : Prop := 32 ∉ z.cps.toList
instance (z : Str) : Decidable (Free z) := by unfold Free; infer_instance
theorem str_ext {a b : Str} (h : a.cps.toList = b.cps.toList) : a = b := by
  cases a; cases b
  congr 1
  exact Array.toList_inj.mp h
theorem toL_cat (a b : Str) : (a ++ b).cps.toList = a.cps.toList ++ b.cps.toList := by
  show (a.cps ++ b.cps).toList = _
  rw [Array.toList_append]
theorem toL_sps : sps.cps.toList = [32] := by rw [sps_eq]
theorem cut32 : ∀ {a b x y : List Nat}, 32 ∉ a → 32 ∉ b → a ++ 32 :: x = b ++ 32 :: y → a = b ∧ x = y
  | [], [], _, _, _, _, h => ⟨rfl, (List.cons.inj h).2⟩
  | [], c :: b, _, _, _, hb, h => absurd (List.cons.inj h).1 (fun e => hb (by rw [e]; exact List.mem_cons_self))
  | c :: a, [], _, _, ha, _, h => absurd (List.cons.inj h).1 (fun e => ha (by rw [← e]; exact List.mem_cons_self))
  | c :: a, d :: b, x, y, ha, hb, h => by
    obtain ⟨e1, e2⟩ := List.cons.inj h
    obtain ⟨e3, e4⟩ := cut32 (fun z => ha (.tail _ z)) (fun z => hb (.tail _ z)) e2
    exact ⟨by rw [e1, e3], e4⟩
theorem join_cons2 (w u : Str) (r : List Str) : (Str.join sps (w :: u :: r)).cps.toList = w.cps.toList ++ 32 :: (Str.join sps (u :: r)).cps.toList := by
  show (w ++ sps ++ Str.join sps (u :: r)).cps.toList = _
  rw [toL_cat, toL_cat, toL_sps, List.append_assoc]
  rfl
theorem join_inj : ∀ {ws us : List Str}, ws ≠ [] → us ≠ [] → (∀ w ∈ ws, Free w) → (∀ w ∈ us, Free w) → Str.join sps ws = Str.join sps us → ws = us
  | [], _, h, _, _, _, _ => absurd rfl h
  | _, [], _, h, _, _, _ => absurd rfl h
  | [w], [u], _, _, _, _, h => by rw [show w = u from h]
  | [w], u :: v :: r, _, _, hw, _, h => by
    have e := congrArg (fun z : Str => z.cps.toList) h
    simp only [join_cons2] at e
    exact absurd (show (32 : Nat) ∈ w.cps.toList by
      have e' : w.cps.toList = _ := e
      rw [e']; simp) (hw w List.mem_cons_self)
  | w :: v :: r, [u], _, _, _, hu, h => by
    have e := congrArg (fun z : Str => z.cps.toList) h
    simp only [join_cons2] at e
    exact absurd (show (32 : Nat) ∈ u.cps.toList by
      have e' : _ = u.cps.toList := e
      rw [← e']; simp) (hu u List.mem_cons_self)
  | w :: w' :: r, u :: u' :: r', _, _, hw, hu, h => by
    have e := congrArg (fun z : Str => z.cps.toList) h
    simp only [join_cons2] at e
    obtain ⟨e1, e2⟩ := cut32 (hw w List.mem_cons_self) (hu u List.mem_cons_self) e
    rw [str_ext e1, join_inj (List.cons_ne_nil _ _) (List.cons_ne_nil _ _) (fun z hz => hw z (.tail _ hz)) (fun z hz => hu z (.tail _ hz)) (str_ext e2)]
theorem split_ne (z : Str) : Txt.split z sps ≠ [] := fun e => by
  have := split_pos z sps
  rw [e] at this
  exact absurd this (by decide)
theorem split_free (z : Str) : ∀ w ∈ Txt.split z sps, Free w := by
  rw [sps_eq]
  exact StrLaws.split_free z 32
theorem split_is {z : Str} {ws : List Str} (h : ws ≠ []) (hf : ∀ w ∈ ws, Free w) (e : Str.join sps ws = z) : Txt.split z sps = ws :=
  join_inj (split_ne z) h (split_free z) hf ((StrLaws.join_split z sps).trans e.symm)
theorem txt_join (sep : Str) (ws : List Str) : Txt.join sep ws = Str.join sep ws := StrLaws.glued_eq_join sep ws
theorem join_snoc (ws : List Str) (h : ws ≠ []) (u : Str) : Str.join sps (ws ++ [u]) = Str.join sps ws ++ sps ++ u := by
  induction ws with
  | nil => exact absurd rfl h
  | cons w r ih =>
    cases r with
    | nil => rfl
    | cons v r =>
      show w ++ sps ++ Str.join sps (v :: r ++ [u]) = w ++ sps ++ Str.join sps (v :: r) ++ sps ++ u
      rw [ih (List.cons_ne_nil _ _)]
      apply str_ext
      simp only [toL_cat, List.append_assoc]

/-! ### numbers -/
def tx (n : Int) : Str := Str.ofString (toString n)
theorem tx_free (n : Int) : Free (tx n) := int_text_free' 32 ⟨by decide, by decide⟩ n
def isNum (z : Str) (n : Option Int) : Bool := Txt.isdecimal z && decide (z.length ≤ 5) && (match n with | some n => decide (Str.ofString (toString n) = z) | none => false)
def num (z : Str) : Int := (intText? z).getD 0
def okN (z : Str) : Bool := isNum z (some (num z))
theorem okN_of {z : Str} (h : okN z = true) : Txt.isdecimal z = true ∧ z.length ≤ 5 ∧ tx (num z) = z := by
  unfold okN isNum at h
  rw [Bool.and_eq_true, Bool.and_eq_true] at h
  exact ⟨h.1.1, of_decide_eq_true h.1.2, of_decide_eq_true h.2⟩
theorem okN_not {z : Str} {c : Nat} (hc : c ∈ z.cps.toList) (hd : Unicode.isDecimal c = false) : okN z = false := by
  unfold okN isNum
  have : Txt.isdecimal z = false := by
    unfold Txt.isdecimal
    cases e : z.cps.all Unicode.isDecimal with
    | false => rw [Bool.and_false]
    | true =>
      rw [Array.all_eq_true'] at e
      rw [e c (Array.mem_toList_iff.mp hc)] at hd
      cases hd
  rw [this]
  rfl
theorem okN_empty : okN Str.empty = false := by decide +kernel
theorem digits_dec : ∀ c : Nat, 48 ≤ c → c ≤ 57 → Unicode.isDecimal c = true := by
  intro c h1 h2
  have : c < 58 := by omega
  have h : ∀ c, c < 58 → 48 ≤ c → Unicode.isDecimal c = true := by decide +kernel
  exact h c this h1
theorem dec_digits : ∀ c : Nat, c < 128 → Unicode.isDecimal c = true → 48 ≤ c ∧ c ≤ 57 := by decide +kernel
theorem toL_len (z : Str) : z.cps.toList.length = z.length := Array.length_toList
theorem num_tx {n : Int} (h0 : 0 ≤ n) (h1 : n ≤ 99999) : num (tx n) = n := by
  unfold num tx
  rw [PySem.W.KIN.num_reads h0 (by omega)]
  rfl
theorem tx_digits {n : Int} (h0 : 0 ≤ n) : ∀ c ∈ (tx n).cps.toList, 48 ≤ c ∧ c ≤ 57 := by
  obtain ⟨m, rfl⟩ := Int.eq_ofNat_of_zero_le h0
  intro c hc
  unfold tx at hc
  rw [PySem.W.KIN.signs_num] at hc
  obtain ⟨ch, hch, e⟩ := List.mem_map.mp hc
  have r := digit_range (Nat.isDigit_of_mem_toDigits (by decide) (by decide) hch)
  rw [← e]
  exact r
theorem tx_len {n : Int} (h0 : 0 ≤ n) (h1 : n ≤ 99999) : 1 ≤ (tx n).length ∧ (tx n).length ≤ 5 := by
  obtain ⟨m, rfl⟩ := Int.eq_ofNat_of_zero_le h0
  unfold tx
  rw [← toL_len, PySem.W.KIN.signs_num, List.length_map]
  have hm : m < 10 ^ 5 := by omega
  refine ⟨?_, ?_⟩
  · have := PySem.toDigits_len_ge 10 m
    omega
  · exact Nat.length_toDigits_le_iff (by decide) (by decide) |>.mpr hm
theorem okN_tx {n : Int} (h0 : 0 ≤ n) (h1 : n ≤ 99999) : okN (tx n) = true := by
  unfold okN isNum
  rw [num_tx h0 h1, Bool.and_eq_true, Bool.and_eq_true]
  refine ⟨⟨?_, decide_eq_true (tx_len h0 h1).2⟩, decide_eq_true rfl⟩
  unfold Txt.isdecimal
  rw [Bool.and_eq_true]
  refine ⟨decide_eq_true (tx_len h0 h1).1, ?_⟩
  rw [Array.all_eq_true']
  intro c hc
  obtain ⟨a, b⟩ := tx_digits h0 c (Array.mem_toList_iff.mpr hc)
  exact digits_dec c a b

/-! ### events and their words -/
abbrev w_receive : Str := ("receive" : Str)
abbrev w_carried : Str := ("carried" : Str)
abbrev w_none : Str := ("none" : Str)
abbrev w_write : Str := ("write" : Str)
abbrev w_send : Str := ("send" : Str)
abbrev w_remove : Str := ("remove" : Str)
abbrev w_export : Str := ("export" : Str)
abbrev w_return : Str := ("return" : Str)

inductive Ev
  | nums (w : Str) (ns : List Int)
  | wrN (a b : Int)
  | send (to : Int) (rs : List Int)
  | rem (rows : List (Int × Int))
  | rcv (s me n seen : Int) (held : List Int) (carried : List (Str × Int))
def wd : Ev → List Str
  | .nums w ns => w :: ns.map tx
  | .wrN a b => [w_write, tx a, tx b, w_none]
  | .send to rs => w_send :: tx to :: rs.map tx
  | .rem rows => w_remove :: rows.flatMap fun p => [tx p.1, tx p.2]
  | .rcv s _ n seen held carried => w_receive :: tx s :: tx n :: tx seen :: (held.map tx ++ w_carried :: carried.flatMap fun p => [p.1, tx p.2])
def text (e : Ev) : Str := Str.join sps (wd e)

def ris (l : List Int) : Bool := (l.zip (l.drop 1)).all fun p => decide (p.1 < p.2)
/-- one pair below another, as tuples are -/
def ltP (a b : Int × Int) : Bool := decide (a.1 < b.1 ∨ (a.1 = b.1 ∧ a.2 < b.2))
def risP (l : List (Int × Int)) : Bool := (l.zip (l.drop 1)).all fun p => ltP p.1 p.2
def nWords : List (Str × Int) := [("make", 1), ("read", 2), (w_write, 3), ("drop", 1), ("collect", 0), ("report", 0)]
def rdCarried (ws : List Str) : Option (List (Str × Int)) :=
  if (ev (ws.drop 1)).all okN = true ∧ (ev (ws.drop 1)).length = (ev ws).length ∧ (ev ws).length ≤ 4 ∧ (ev ws).all (fun k => decide (k = w_export ∨ k = w_return)) = true
  then some ((ev ws).zip ((ev (ws.drop 1)).map num)) else none
def at? (ws : List Str) : Nat := ws.idxOf w_carried
def rdRcv (me : Int) (ws : List Str) : Option Ev :=
  if w_carried ∉ ws then none else
  let l := ws.take (ws.idxOf w_carried)
  match rdCarried (ws.drop (ws.idxOf w_carried + 1)) with
  | none => none
  | some c =>
    if l.all okN = false ∨ l.length < 3 then none else
    if ris ((l.drop 3).map num) = true then some (.rcv (num (l.getD 0 Str.empty)) me (num (l.getD 1 Str.empty)) (num (l.getD 2 Str.empty)) ((l.drop 3).map num) c) else none
def rdSend (ns : List Int) : Option Ev := if 1 ≤ ns.length ∧ ns.length ≤ 5 then some (.send (ns.getD 0 0) (ns.drop 1)) else none
def rdRem (ns : List Int) : Option Ev := if ns.length % 2 = 1 then none else if risP ((ev ns).zip (ev (ns.drop 1))) = true then some (.rem ((ev ns).zip (ev (ns.drop 1)))) else none
def rdW (w : Str) (ns : List Int) : Option Ev :=
  if w = w_send then rdSend ns else if w = w_remove then rdRem ns else
  if nWords.lookup w = some (ns.length : Int) then some (.nums w ns) else none
def rdWs (me : Int) : List Str → Option Ev
  | [] => none
  | w :: rest =>
    if w = w_receive then rdRcv me rest else
    if w = w_write ∧ rest.drop 2 = [w_none] then (if (rest.take 2).all okN = true then some (.wrN (num (rest.getD 0 Str.empty)) (num (rest.getD 1 Str.empty))) else none) else
    if rest.all okN = true then rdW w (rest.map num) else none
def rd (me : Int) (z : Str) : Option Ev := rdWs me (Txt.split z sps)

/-! ### what is read is written so -/
theorem map_tx_num : ∀ {ws : List Str}, ws.all okN = true → (ws.map num).map tx = ws
  | [], _ => rfl
  | w :: ws, h => by
    rw [List.all_cons, Bool.and_eq_true] at h
    rw [List.map_cons, List.map_cons, (okN_of h.1).2.2, map_tx_num h.2]
theorem weave : ∀ {α : Type} (ws : List α), (ev (ws.drop 1)).length = (ev ws).length → ((ev ws).zip (ev (ws.drop 1))).flatMap (fun p => [p.1, p.2]) = ws
  | _, [], _ => rfl
  | _, [a], h => by
    simp [ev] at h
  | _, a :: b :: r, h => by
    have e1 : ev ((a :: b :: r).drop 1) = b :: ev (r.drop 1) := by
      cases r with
      | nil => rfl
      | cons c r => rfl
    rw [e1] at h ⊢
    have h' : (ev (r.drop 1)).length = (ev r).length := Nat.succ.inj h
    show a :: b :: ((ev r).zip (ev (r.drop 1))).flatMap (fun p => [p.1, p.2]) = _
    rw [weave r h']
theorem ev_map {α β : Type} (f : α → β) : ∀ l : List α, ev (l.map f) = (ev l).map f
  | [] => rfl
  | [a] => rfl
  | a :: b :: r => by
    show f a :: ev (r.map f) = f a :: (ev r).map f
    rw [ev_map f r]
theorem flat_zip_map {α β γ : Type} (f : β → γ) : ∀ (l : List α) (m : List β) (g : α → γ), (l.zip m).flatMap (fun p => [g p.1, f p.2]) = ((l.map g).zip (m.map f)).flatMap (fun p => [p.1, p.2])
  | [], _, _ => rfl
  | _ :: _, [], _ => rfl
  | a :: l, b :: m, g => by
    have := flat_zip_map f l m g
    rw [List.zip_cons_cons, List.map_cons, List.map_cons, List.zip_cons_cons, List.flatMap_cons, List.flatMap_cons, this]
theorem carried_written {ws : List Str} {c : List (Str × Int)} (h : rdCarried ws = some c) : c.flatMap (fun p => [p.1, tx p.2]) = ws := by
  unfold rdCarried at h
  split at h
  · rename_i h1
    cases h
    have := flat_zip_map tx (ev ws) ((ev (ws.drop 1)).map num) id
    rw [List.map_id, map_tx_num h1.1, weave ws h1.2.1] at this
    exact this
  · cases h
theorem ev_lens {α : Type} : ∀ (l : List α), l.length % 2 = 0 → (ev (l.drop 1)).length = (ev l).length
  | [], _ => rfl
  | [a], h => by simp at h
  | a :: b :: r, h => by
    have e1 : ev ((a :: b :: r).drop 1) = b :: ev (r.drop 1) := by
      cases r with
      | nil => rfl
      | cons c r => rfl
    rw [e1]
    show (ev (r.drop 1)).length + 1 = (ev r).length + 1
    rw [ev_lens r (by
      have : (r.length + 1 + 1) % 2 = 0 := h
      omega)]
theorem rd_written {me : Int} {ws : List Str} {e : Ev} (h : rdWs me ws = some e) : wd e = ws := by
  cases ws with
  | nil => cases h
  | cons w rest =>
    unfold rdWs at h
    dsimp only at h
    split at h
    · rename_i hw
      subst hw
      unfold rdRcv at h
      split at h
      · cases h
      · rename_i hc
        have hc : w_carried ∈ rest := Classical.byContradiction fun z => hc z
        dsimp only at h
        split at h
        · cases h
        · rename_i c ec
          split at h
          · cases h
          · rename_i h1
            split at h
            · rename_i h2
              cases h
              have h3 : (rest.take (rest.idxOf w_carried)).all okN = true := by
                cases e : (rest.take (rest.idxOf w_carried)).all okN with
                | true => rfl
                | false => exact absurd (.inl e) h1
              have h4 : 3 ≤ (rest.take (rest.idxOf w_carried)).length := by
                have : ¬ (rest.take (rest.idxOf w_carried)).length < 3 := fun z => h1 (.inr z)
                omega
              have h5 : rest = rest.take (rest.idxOf w_carried) ++ w_carried :: rest.drop (rest.idxOf w_carried + 1) := by
                have hi := List.idxOf_lt_length_of_mem hc
                have := List.take_append_drop (rest.idxOf w_carried) rest
                rw [List.drop_eq_getElem_cons hi] at this
                rw [List.getElem_idxOf hi] at this
                exact this.symm
              show w_receive :: _ = _
              rw [carried_written ec]
              conv => rhs; rw [h5]
              generalize rest.take (rest.idxOf w_carried) = l at h3 h4
              generalize rest.drop (rest.idxOf w_carried + 1) = m
              match l, h4, h3 with
              | a :: b :: c :: r, _, h3 =>
                rw [List.all_cons, List.all_cons, List.all_cons, Bool.and_eq_true, Bool.and_eq_true, Bool.and_eq_true] at h3
                show w_receive :: tx (num a) :: tx (num b) :: tx (num c) :: ((r.map num).map tx ++ w_carried :: m) = _
                rw [(okN_of h3.1).2.2, (okN_of h3.2.1).2.2, (okN_of h3.2.2.1).2.2, map_tx_num h3.2.2.2]
                rfl
            · cases h
    · split at h
      · rename_i hw
        obtain ⟨rfl, hr⟩ := hw
        split at h
        · rename_i ho
          cases h
          match rest, hr, ho with
          | [a, b, c], hr, ho =>
            obtain rfl : c = w_none := (List.cons.inj hr).1
            have ho : okN a = true ∧ okN b = true := by
              have : (okN a && (okN b && true)) = true := ho
              rw [Bool.and_eq_true, Bool.and_eq_true] at this
              exact ⟨this.1, this.2.1⟩
            show [w_write, tx (num a), tx (num b), w_none] = _
            rw [(okN_of ho.1).2.2, (okN_of ho.2).2.2]
        · cases h
      · split at h
        · rename_i ho
          unfold rdW at h
          split at h
          · rename_i hw
            subst hw
            unfold rdSend at h
            split at h
            · rename_i hl
              cases h
              cases rest with
              | nil => simp at hl
              | cons a r =>
                rw [List.all_cons, Bool.and_eq_true] at ho
                show w_send :: tx (num a) :: (r.map num).map tx = _
                rw [(okN_of ho.1).2.2, map_tx_num ho.2]
            · cases h
          · split at h
            · rename_i hw
              subst hw
              unfold rdRem at h
              split at h
              · cases h
              · rename_i hp
                split at h
                · cases h
                  show w_remove :: _ = _
                  rw [flat_zip_map tx _ _ tx, ← List.map_drop, ev_map, ev_map, List.map_map, List.map_map]
                  have e2 : ∀ l : List Str, l.all okN = true → l.map (tx ∘ num) = l := fun l hl => by rw [← List.map_map, map_tx_num hl]
                  have mem : ∀ {l : List Str} {z : Str}, z ∈ ev l → z ∈ l := by
                    intro l
                    induction l using ev.induct with
                    | case1 => intro z h; exact h
                    | case2 a => intro z h; exact h
                    | case3 a b r ih =>
                      intro z h
                      rcases List.mem_cons.mp h with rfl | h
                      · exact List.mem_cons_self
                      · exact .tail _ (.tail _ (ih h))
                  rw [List.all_eq_true] at ho
                  rw [e2 (ev rest) (List.all_eq_true.mpr fun z hz => ho z (mem hz)), e2 (ev (rest.drop 1)) (List.all_eq_true.mpr fun z hz => ho z (List.mem_of_mem_drop (mem hz))), weave]
                  refine ev_lens rest ?_
                  rw [List.length_map] at hp
                  omega
                · cases h
            · split at h
              · cases h
                show w :: (rest.map num).map tx = _
                rw [map_tx_num ho]
              · cases h
        · cases h
theorem rd_text {me : Int} {z : Str} {e : Ev} (h : rd me z = some e) : text e = z := by
  unfold text
  rw [rd_written h]
  exact StrLaws.join_split z sps
end K45
set_option Elab.async false
set_option linter.all false
set_option maxRecDepth 100000
set_option maxHeartbeats 4000000
/-! K45n: what is written is read so. -/
namespace K45
open PySem PyProof.Rows Xs
def In5 (n : Int) : Prop := 0 ≤ n ∧ n ≤ 99999
def Wf : Ev → Prop
  | .nums w ns => nWords.lookup w = some (ns.length : Int) ∧ ∀ n ∈ ns, In5 n
  | .wrN a b => In5 a ∧ In5 b
  | .send to rs => In5 to ∧ (∀ n ∈ rs, In5 n) ∧ rs.length ≤ 4
  | .rem rows => (∀ p ∈ rows, In5 p.1 ∧ In5 p.2) ∧ risP rows = true
  | .rcv s _ n seen held carried => In5 s ∧ In5 n ∧ In5 seen ∧ (∀ h ∈ held, In5 h) ∧ ris held = true ∧ (∀ p ∈ carried, (p.1 = w_export ∨ p.1 = w_return) ∧ In5 p.2) ∧ carried.length ≤ 4
def With (me : Int) : Ev → Prop
  | .rcv _ m _ _ _ _ => m = me
  | _ => True
theorem ok5 {n : Int} (h : In5 n) : okN (tx n) = true := okN_tx h.1 h.2
theorem nt5 {n : Int} (h : In5 n) : num (tx n) = n := num_tx h.1 h.2
theorem all5 : ∀ {ns : List Int}, (∀ n ∈ ns, In5 n) → (ns.map tx).all okN = true ∧ (ns.map tx).map num = ns
  | [], _ => ⟨rfl, rfl⟩
  | n :: ns, h => by
    obtain ⟨a, b⟩ := all5 (ns := ns) fun m hm => h m (.tail _ hm)
    have h1 := h n List.mem_cons_self
    refine ⟨?_, ?_⟩
    · rw [List.map_cons, List.all_cons, ok5 h1, a]
      rfl
    · rw [List.map_cons, List.map_cons, nt5 h1, b]
theorem lk_mem {w : Str} {k : Int} (h : nWords.lookup w = some k) : w = "make" ∧ k = 1 ∨ w = "read" ∧ k = 2 ∨ w = "write" ∧ k = 3 ∨ w = "drop" ∧ k = 1 ∨ w = "collect" ∧ k = 0 ∨ w = "report" ∧ k = 0 := by
  unfold nWords at h
  simp only [List.lookup] at h
  split at h
  · rename_i e; cases h; exact .inl ⟨eq_of_beq e, rfl⟩
  split at h
  · rename_i e; cases h; exact .inr (.inl ⟨eq_of_beq e, rfl⟩)
  split at h
  · rename_i e; cases h; exact .inr (.inr (.inl ⟨eq_of_beq e, rfl⟩))
  split at h
  · rename_i e; cases h; exact .inr (.inr (.inr (.inl ⟨eq_of_beq e, rfl⟩)))
  split at h
  · rename_i e; cases h; exact .inr (.inr (.inr (.inr (.inl ⟨eq_of_beq e, rfl⟩))))
  split at h
  · rename_i e; cases h; exact .inr (.inr (.inr (.inr (.inr ⟨eq_of_beq e, rfl⟩))))
  cases h
theorem lk_ne {w : Str} {k : Int} (h : nWords.lookup w = some k) : w ≠ w_receive ∧ w ≠ w_send ∧ w ≠ w_remove ∧ Free w ∧ okN w = false ∧ (w = w_write → k = 3) := by
  rcases lk_mem h with ⟨rfl, rfl⟩ | ⟨rfl, rfl⟩ | ⟨rfl, rfl⟩ | ⟨rfl, rfl⟩ | ⟨rfl, rfl⟩ | ⟨rfl, rfl⟩ <;>
    exact ⟨by decide +kernel, by decide +kernel, by decide +kernel, by decide +kernel, by decide +kernel, by decide +kernel⟩
theorem tx_ne {n : Int} (h : In5 n) {w : Str} (hw : okN w = false) : tx n ≠ w := fun e => by
  have := ok5 h
  rw [e, hw] at this
  cases this
theorem ok_none : okN w_none = false := by decide +kernel
theorem ok_carried : okN w_carried = false := by decide +kernel
theorem ok_receive : okN w_receive = false := by decide +kernel
theorem ok_send : okN w_send = false := by decide +kernel
theorem ok_remove : okN w_remove = false := by decide +kernel
theorem ok_write : okN w_write = false := by decide +kernel
theorem ok_export : okN w_export = false := by decide +kernel
theorem ok_return : okN w_return = false := by decide +kernel

theorem ev_flat {α β : Type} (f g : α → β) : ∀ c : List α, ev (c.flatMap fun p => [f p, g p]) = c.map f
  | [] => rfl
  | a :: c => by
    exact congrArg (f a :: ·) (ev_flat f g c)
theorem ev_flat1 {α β : Type} (f g : α → β) : ∀ c : List α, ev ((c.flatMap fun p => [f p, g p]).drop 1) = c.map g
  | [] => rfl
  | [a] => rfl
  | a :: b :: c => by
    show g a :: ev ((List.flatMap (fun p => [f p, g p]) (b :: c)).drop 1) = _
    rw [ev_flat1 f g (b :: c)]
    rfl
theorem ev_flatS {α : Type} (f g : α → Str) (u : Str) : ∀ c : List α, ev ((c.flatMap fun p => [f p, g p]) ++ [u]) = c.map f ++ [u]
  | [] => rfl
  | a :: c => by
    exact congrArg (f a :: ·) (ev_flatS f g u c)
theorem ev_flatS1 {α : Type} (f g : α → Str) (u : Str) : ∀ c : List α, ev (((c.flatMap fun p => [f p, g p]) ++ [u]).drop 1) = c.map g
  | [] => rfl
  | [a] => rfl
  | a :: b :: c => by
    show g a :: ev (((List.flatMap (fun p => [f p, g p]) (b :: c)) ++ [u]).drop 1) = _
    rw [ev_flatS1 f g u (b :: c)]
    rfl
theorem zip_fs : ∀ (c : List (Str × Int)), (c.map (·.1)).zip (c.map (·.2)) = c
  | [] => rfl
  | p :: c => by rw [List.map_cons, List.map_cons, List.zip_cons_cons, zip_fs c]
theorem rdCarried_of {c : List (Str × Int)} (h : ∀ p ∈ c, (p.1 = w_export ∨ p.1 = w_return) ∧ In5 p.2) (hl : c.length ≤ 4) : rdCarried (c.flatMap fun p => [p.1, tx p.2]) = some c := by
  unfold rdCarried
  rw [ev_flat, ev_flat1]
  have h1 : c.map (fun p => tx p.2) = (c.map (·.2)).map tx := by rw [List.map_map]; rfl
  rw [h1]
  have h2 := all5 (ns := c.map (·.2)) fun n hn => by
    obtain ⟨p, hp, rfl⟩ := List.mem_map.mp hn
    exact (h p hp).2
  rw [if_pos, h2.2, zip_fs]
  refine ⟨h2.1, by rw [List.length_map, List.length_map, List.length_map], by rw [List.length_map]; exact hl, List.all_eq_true.mpr fun k hk => ?_⟩
  obtain ⟨p, hp, rfl⟩ := List.mem_map.mp hk
  exact decide_eq_true (h p hp).1
theorem idx_held {held : List Int} (hh : ∀ h ∈ held, In5 h) {r : List Str} : (held.map tx ++ w_carried :: r).idxOf w_carried = held.length := by
  induction held with
  | nil => simp [List.idxOf, List.findIdx_cons]
  | cons a l ih =>
    rw [List.map_cons, List.cons_append, List.idxOf_cons, ih fun h z => hh h (.tail _ z)]
    have : (tx a == w_carried) = false := beq_eq_false_iff_ne.mpr (tx_ne (hh a List.mem_cons_self) ok_carried)
    rw [this]
    rfl
theorem idx_msg {s n seen : Int} {held : List Int} (h1 : In5 s) (h2 : In5 n) (h3 : In5 seen) (hh : ∀ h ∈ held, In5 h) {r : List Str} :
    (tx s :: tx n :: tx seen :: (held.map tx ++ w_carried :: r)).idxOf w_carried = held.length + 3 := by
  have := idx_held (held := s :: n :: seen :: held) (r := r) fun h z => by
    rcases List.mem_cons.mp z with rfl | z
    · exact h1
    rcases List.mem_cons.mp z with rfl | z
    · exact h2
    rcases List.mem_cons.mp z with rfl | z
    · exact h3
    exact hh h z
  exact this
theorem rdRcv_is {me s n seen : Int} {held : List Int} (h1 : In5 s) (h2 : In5 n) (h3 : In5 seen) (hh : ∀ h ∈ held, In5 h) (hr : ris held = true) (r : List Str) :
    rdRcv me (tx s :: tx n :: tx seen :: (held.map tx ++ w_carried :: r)) = (rdCarried r).map fun c => .rcv s me n seen held c := by
  unfold rdRcv
  have mem : w_carried ∈ tx s :: tx n :: tx seen :: (held.map tx ++ w_carried :: r) := by simp
  rw [if_neg (fun z => z mem)]
  dsimp only
  rw [idx_msg h1 h2 h3 hh]
  have e1 : (tx s :: tx n :: tx seen :: (held.map tx ++ w_carried :: r)).drop (held.length + 3 + 1) = r := by
    show (held.map tx ++ w_carried :: r).drop (held.length + 1) = r
    rw [show held.length + 1 = (held.map tx).length + 1 by rw [List.length_map], List.drop_append]
    simp
  have e2 : (tx s :: tx n :: tx seen :: (held.map tx ++ w_carried :: r)).take (held.length + 3) = tx s :: tx n :: tx seen :: held.map tx := by
    show tx s :: tx n :: tx seen :: (held.map tx ++ w_carried :: r).take held.length = _
    rw [show held.length = (held.map tx).length by rw [List.length_map], List.take_left]
  rw [e1, e2]
  cases rdCarried r with
  | none => rfl
  | some c =>
    dsimp only
    have ha := all5 hh
    have e3 : (tx s :: tx n :: tx seen :: held.map tx).all okN = true := by
      rw [List.all_cons, List.all_cons, List.all_cons, ok5 h1, ok5 h2, ok5 h3, ha.1]
      rfl
    rw [e3, if_neg (by
      intro z
      rcases z with z | z
      · cases z
      · simp at z
        omega)]
    show (if ris ((held.map tx).map num) = true then some (Ev.rcv (num (tx s)) me (num (tx n)) (num (tx seen)) ((held.map tx).map num) c) else none) = _
    rw [ha.2, if_pos hr, nt5 h1, nt5 h2, nt5 h3]
    rfl
theorem rd_wd {me : Int} : ∀ {e : Ev}, Wf e → With me e → rdWs me (wd e) = some e
  | .nums w ns, h, _ => by
    obtain ⟨n1, n2, n3, _, _, n6⟩ := lk_ne h.1
    have ha := all5 h.2
    show rdWs me (w :: ns.map tx) = _
    unfold rdWs
    dsimp only
    rw [if_neg n1, if_neg, if_pos ha.1, ha.2]
    · unfold rdW
      rw [if_neg n2, if_neg n3, if_pos h.1]
    · rintro ⟨hw, hd⟩
      have hl : ns.length = 3 := by have := n6 hw; omega
      match ns, hl, hd, h.2 with
      | [a, b, c], _, hd, h2 => exact tx_ne (h2 c (by simp)) ok_none (List.cons.inj hd).1
  | .wrN a b, h, _ => by
    show rdWs me [w_write, tx a, tx b, w_none] = _
    unfold rdWs
    dsimp only
    rw [if_neg (by decide +kernel), if_pos ⟨rfl, rfl⟩, if_pos]
    · show some (Ev.wrN (num (tx a)) (num (tx b))) = _
      rw [nt5 h.1, nt5 h.2]
    · show (okN (tx a) && (okN (tx b) && true)) = true
      rw [ok5 h.1, ok5 h.2]
      rfl
  | .send to rs, h, _ => by
    have ha := all5 h.2.1
    show rdWs me (w_send :: tx to :: rs.map tx) = _
    unfold rdWs
    dsimp only
    rw [if_neg (by decide +kernel), if_neg (fun z => absurd z.1 (by decide +kernel)), if_pos]
    · rw [List.map_cons, nt5 h.1, ha.2]
      unfold rdW rdSend
      rw [if_pos rfl, if_pos]
      · rfl
      · have := h.2.2
        simp
        omega
    · rw [List.all_cons, ok5 h.1, ha.1]
      rfl
  | .rem rows, h, _ => by
    show rdWs me (w_remove :: rows.flatMap fun p => [tx p.1, tx p.2]) = _
    have e : ∀ rows : List (Int × Int), rows.flatMap (fun p => [tx p.1, tx p.2]) = (rows.flatMap fun p => [p.1, p.2]).map tx := fun rows => by
      induction rows with
      | nil => rfl
      | cons p r ih =>
        rw [List.flatMap_cons, List.flatMap_cons, List.map_append, ih]
        rfl
    have ha := all5 (ns := rows.flatMap fun p => [p.1, p.2]) fun n hn => by
      obtain ⟨p, hp, hq⟩ := List.mem_flatMap.mp hn
      rcases List.mem_cons.mp hq with rfl | hq
      · exact (h.1 p hp).1
      · rw [List.mem_singleton.mp hq]
        exact (h.1 p hp).2
    rw [e]
    unfold rdWs
    dsimp only
    rw [if_neg (by decide +kernel), if_neg (fun z => absurd z.1 (by decide +kernel)), if_pos ha.1, ha.2]
    unfold rdW rdRem
    have el : ∀ rows : List (Int × Int), (rows.flatMap fun p => [p.1, p.2]).length = 2 * rows.length := fun rows => by
      induction rows with
      | nil => rfl
      | cons p r ih => rw [List.flatMap_cons, List.length_append, ih]; simp; omega
    have el := el rows
    have ez : ∀ c : List (Int × Int), (c.map (·.1)).zip (c.map (·.2)) = c := fun c => by
      induction c with
      | nil => rfl
      | cons p c ih => rw [List.map_cons, List.map_cons, List.zip_cons_cons, ih]
    rw [if_neg (by decide +kernel), if_pos rfl, if_neg (by omega), ev_flat, ev_flat1, ez, if_pos h.2]
  | .rcv s m n seen held carried, h, hm => by
    obtain ⟨h1, h2, h3, hh, hr, hc, hl⟩ := h
    obtain rfl : m = me := hm
    show rdWs m (w_receive :: tx s :: tx n :: tx seen :: (held.map tx ++ w_carried :: carried.flatMap fun p => [p.1, tx p.2])) = _
    unfold rdWs
    dsimp only
    rw [if_pos rfl, rdRcv_is h1 h2 h3 hh hr, rdCarried_of hc hl]
    rfl
theorem all_snoc (l : List Str) : (l ++ [Str.empty]).all okN = false := by
  rw [List.all_append]
  show (_ && (okN Str.empty && true)) = false
  rw [okN_empty]
  simp
theorem rd_snoc {me : Int} : ∀ {e : Ev}, Wf e → rdWs me (wd e ++ [Str.empty]) = none
  | .nums w ns, h => by
    obtain ⟨n1, n2, n3, _, _, n6⟩ := lk_ne h.1
    show rdWs me (w :: (ns.map tx ++ [Str.empty])) = _
    unfold rdWs
    dsimp only
    rw [if_neg n1, if_neg, if_neg]
    · rw [all_snoc]
      exact Bool.false_ne_true
    · rintro ⟨hw, hd⟩
      have hl : ns.length = 3 := by have := n6 hw; omega
      have := congrArg List.length hd
      rw [List.length_drop, List.length_append, List.length_map, hl] at this
      simp at this
  | .wrN a b, h => by
    show rdWs me (w_write :: ([tx a, tx b, w_none] ++ [Str.empty])) = _
    unfold rdWs
    dsimp only
    rw [if_neg (by decide +kernel), if_neg (fun z => absurd (congrArg List.length z.2) (by simp)), if_neg]
    rw [all_snoc]
    exact Bool.false_ne_true
  | .send to rs, h => by
    show rdWs me (w_send :: ((tx to :: rs.map tx) ++ [Str.empty])) = _
    unfold rdWs
    dsimp only
    rw [if_neg (by decide +kernel), if_neg (fun z => absurd z.1 (by decide +kernel)), if_neg]
    rw [all_snoc]
    exact Bool.false_ne_true
  | .rem rows, h => by
    show rdWs me (w_remove :: ((rows.flatMap fun p => [tx p.1, tx p.2]) ++ [Str.empty])) = _
    unfold rdWs
    dsimp only
    rw [if_neg (by decide +kernel), if_neg (fun z => absurd z.1 (by decide +kernel)), if_neg]
    rw [all_snoc]
    exact Bool.false_ne_true
  | .rcv s m n seen held carried, h => by
    obtain ⟨h1, h2, h3, hh, hr, hc, hl⟩ := h
    have e : wd (.rcv s m n seen held carried) ++ [Str.empty] = w_receive :: tx s :: tx n :: tx seen :: (held.map tx ++ w_carried :: ((carried.flatMap fun p => [p.1, tx p.2]) ++ [Str.empty])) := by
      show w_receive :: tx s :: tx n :: tx seen :: ((held.map tx ++ w_carried :: carried.flatMap fun p => [p.1, tx p.2]) ++ [Str.empty]) = _
      rw [List.append_assoc]
      rfl
    rw [e]
    unfold rdWs
    dsimp only
    rw [if_pos rfl, rdRcv_is h1 h2 h3 hh hr]
    unfold rdCarried
    rw [ev_flatS, ev_flatS1, if_neg]
    · rfl
    · rintro ⟨_, h, _⟩
      rw [List.length_append, List.length_map, List.length_map] at h
      simp at h
theorem head_no : ∀ {e : Ev}, Wf e → ∃ w r, wd e = w :: r ∧ okN w = false
  | .nums w ns, h => ⟨w, _, rfl, (lk_ne h.1).2.2.2.2.1⟩
  | .wrN a b, h => ⟨_, _, rfl, ok_write⟩
  | .send to rs, h => ⟨_, _, rfl, ok_send⟩
  | .rem rows, h => ⟨_, _, rfl, ok_remove⟩
  | .rcv s m n seen held carried, h => ⟨_, _, rfl, ok_receive⟩
theorem rd_front {me : Int} {e : Ev} (h : Wf e) : rdWs me (Str.empty :: wd e) = none := by
  obtain ⟨w, r, e, n⟩ := head_no h
  rw [e]
  unfold rdWs
  dsimp only
  rw [if_neg (by decide +kernel), if_neg (fun z => absurd z.1 (by decide +kernel)), if_neg]
  rw [List.all_cons, n]
  exact Bool.false_ne_true
theorem wd_free : ∀ {e : Ev}, Wf e → ∀ w ∈ wd e, Free w
  | .nums w ns, h, u, hu => by
    rcases List.mem_cons.mp hu with rfl | hu
    · exact (lk_ne h.1).2.2.2.1
    · obtain ⟨n, _, rfl⟩ := List.mem_map.mp hu
      exact tx_free n
  | .wrN a b, h, u, hu => by
    have hu : u ∈ [w_write, tx a, tx b, w_none] := hu
    simp only [List.mem_cons, List.not_mem_nil, or_false] at hu
    rcases hu with rfl | rfl | rfl | rfl
    · decide +kernel
    · exact tx_free _
    · exact tx_free _
    · decide +kernel
  | .send to rs, h, u, hu => by
    rcases List.mem_cons.mp hu with rfl | hu
    · decide +kernel
    rcases List.mem_cons.mp hu with rfl | hu
    · exact tx_free _
    obtain ⟨n, _, rfl⟩ := List.mem_map.mp hu
    exact tx_free n
  | .rem rows, h, u, hu => by
    rcases List.mem_cons.mp hu with rfl | hu
    · decide +kernel
    obtain ⟨p, _, hp⟩ := List.mem_flatMap.mp hu
    simp only [List.mem_cons, List.not_mem_nil, or_false] at hp
    rcases hp with rfl | rfl <;> exact tx_free _
  | .rcv s m n seen held carried, h, u, hu => by
    obtain ⟨h1, h2, h3, hh, hr, hc, hl⟩ := h
    rcases List.mem_cons.mp hu with rfl | hu
    · decide +kernel
    rcases List.mem_cons.mp hu with rfl | hu
    · exact tx_free _
    rcases List.mem_cons.mp hu with rfl | hu
    · exact tx_free _
    rcases List.mem_cons.mp hu with rfl | hu
    · exact tx_free _
    rcases List.mem_append.mp hu with hu | hu
    · obtain ⟨n, _, rfl⟩ := List.mem_map.mp hu
      exact tx_free n
    rcases List.mem_cons.mp hu with rfl | hu
    · decide +kernel
    obtain ⟨p, hp, hu⟩ := List.mem_flatMap.mp hu
    simp only [List.mem_cons, List.not_mem_nil, or_false] at hu
    rcases hu with rfl | rfl
    · rcases (hc p hp).1 with z | z <;> rw [z] <;> decide +kernel
    · exact tx_free _
theorem wd_ne (e : Ev) : wd e ≠ [] := by cases e <;> exact List.cons_ne_nil _ _
theorem split_text {e : Ev} (h : Wf e) : Txt.split (text e) sps = wd e := split_is (wd_ne e) (wd_free h) rfl
theorem rd_of {me : Int} {e : Ev} (h : Wf e) (hm : With me e) : rd me (text e) = some e := by
  unfold rd
  rw [split_text h]
  exact rd_wd h hm
theorem empty_free : Free Str.empty := by decide +kernel
theorem rd_after {me : Int} {e : Ev} (h : Wf e) : rd me (text e ++ sps) = none := by
  unfold rd
  have : Txt.split (text e ++ sps) sps = wd e ++ [Str.empty] := split_is (by simp) (fun w hw => by
    rcases List.mem_append.mp hw with hw | hw
    · exact wd_free h w hw
    · rw [List.mem_singleton.mp hw]
      exact empty_free) (by
    rw [join_snoc _ (wd_ne e)]
    show text e ++ sps ++ Str.empty = _
    apply str_ext
    simp only [toL_cat]
    show _ ++ _ ++ [] = _
    rw [List.append_nil])
  rw [this]
  exact rd_snoc h
theorem rd_ahead {me : Int} {e : Ev} (h : Wf e) : rd me (sps ++ text e) = none := by
  unfold rd
  have : Txt.split (sps ++ text e) sps = Str.empty :: wd e := split_is (by simp) (fun w hw => by
    rcases List.mem_cons.mp hw with rfl | hw
    · exact empty_free
    · exact wd_free h w hw) (by
    unfold text
    cases e' : wd e with
    | nil => exact absurd e' (wd_ne e)
    | cons w r =>
      show Str.empty ++ sps ++ Str.join sps (w :: r) = _
      apply str_ext
      simp only [toL_cat]
      rfl)
  rw [this]
  exact rd_front h
/-! ### texts that are none -/
theorem bad_of {me : Int} {z : Str} (ws : List Str) (h : ws ≠ []) (hf : ∀ w ∈ ws, Free w) (e : Str.join sps ws = z) (hn : (rdWs me ws).isNone = true) : rd me z = none := by
  unfold rd
  rw [split_is h hf e]
  exact Option.isNone_iff_eq_none.mp hn
end K45
set_option Elab.async false
set_option linter.all false
set_option maxRecDepth 100000
set_option maxHeartbeats 4000000
/-! K45p: texts of plain signs; texts that are none. -/
namespace K45
open PySem PyProof.Rows Xs
def Asc (z : Str) : Prop := ∀ c ∈ z.cps.toList, c < 128
instance (z : Str) : Decidable (Asc z) := by unfold Asc; infer_instance
theorem asc_cat {a b : Str} (ha : Asc a) (hb : Asc b) : Asc (a ++ b) := fun c h => by
  rw [toL_cat] at h
  rcases List.mem_append.mp h with h | h
  · exact ha c h
  · exact hb c h
theorem asc_sps : Asc sps := by decide +kernel
theorem asc_tx {n : Int} (h : 0 ≤ n) : Asc (tx n) := fun c hc => by
  have := tx_digits h c hc
  omega
theorem asc_join : ∀ {ws : List Str}, (∀ w ∈ ws, Asc w) → Asc (Str.join sps ws)
  | [], _ => by show Asc Str.empty; decide +kernel
  | [w], h => h w List.mem_cons_self
  | w :: u :: r, h => by
    show Asc (w ++ sps ++ Str.join sps (u :: r))
    exact asc_cat (asc_cat (h w List.mem_cons_self) asc_sps) (asc_join fun z hz => h z (.tail _ hz))
/-- what is in a word is in the text -/
theorem mem_join : ∀ {ws : List Str} {w : Str}, w ∈ ws → (∀ c ∈ w.cps.toList, c ∈ (Str.join sps ws).cps.toList) ∧ w.length ≤ (Str.join sps ws).length
  | [v], w, h => by
    rw [List.mem_singleton.mp h]
    exact ⟨fun c hc => hc, Nat.le_refl _⟩
  | v :: u :: r, w, h => by
    have e : (Str.join sps (v :: u :: r)) = v ++ sps ++ Str.join sps (u :: r) := rfl
    rw [e]
    simp only [toL_cat, List.mem_append, Str.length_append]
    rcases List.mem_cons.mp h with rfl | h
    · exact ⟨fun c hc => .inl (.inl hc), by omega⟩
    · obtain ⟨h1, h2⟩ := mem_join h
      exact ⟨fun c hc => .inr (h1 c hc), by omega⟩
/-- words whose numbers int can tell -/
def Plain (z : Str) : Prop := z.length ≤ 640 ∧ ((Txt.isdecimal z = true ∧ z.length ≤ 5) → intText? z = some (num z) ∧ (num z).natAbs.log2 < 1920)
theorem dv_lt : ∀ (cs : List Nat), NumText.AllDigits cs → ∀ a : Nat, cs.foldl (fun acc c => acc * 10 + (c - 48)) a < (a + 1) * 10 ^ cs.length
  | [], _, a => by simp
  | c :: cs, h, a => by
    have h1 := dv_lt cs h.tail (a * 10 + (c - 48))
    have h2 := h.head
    rw [List.foldl_cons, List.length_cons, Nat.pow_succ]
    refine Nat.lt_of_lt_of_le h1 ?_
    have : (a * 10 + (c - 48) + 1) ≤ (a + 1) * 10 := by omega
    calc (a * 10 + (c - 48) + 1) * 10 ^ cs.length ≤ ((a + 1) * 10) * 10 ^ cs.length := Nat.mul_le_mul_right _ this
      _ = (a + 1) * (10 ^ cs.length * 10) := by rw [Nat.mul_assoc, Nat.mul_comm 10]
theorem plain_of {z : Str} (h : Asc z) (hl : z.length ≤ 640) : Plain z := by
  refine ⟨hl, fun ⟨h1, h5⟩ => ?_⟩
  unfold Txt.isdecimal at h1
  rw [Bool.and_eq_true, Array.all_eq_true'] at h1
  have hd : NumText.AllDigits z.cps.toList := fun c hc => dec_digits c (h c hc) (h1.2 c (Array.mem_toList_iff.mp hc))
  have hn : z.cps.toList ≠ [] := fun e => by
    have := of_decide_eq_true h1.1
    rw [← toL_len, e] at this
    exact absurd this (by decide)
  have e := intText_digits hd hn (by omega)
  have e2 : num z = ((NumText.digitsVal z.cps.toList : Nat) : Int) := by
    unfold num
    rw [e]
    rfl
  refine ⟨by rw [e2]; exact e, ?_⟩
  rw [e2]
  have lt := dv_lt z.cps.toList hd 0
  have lt2 : NumText.digitsVal z.cps.toList < 2 ^ 1900 := by
    refine Nat.lt_of_lt_of_le lt ?_
    rw [toL_len]
    calc (0 + 1) * 10 ^ z.length ≤ 1 * 10 ^ 5 := Nat.mul_le_mul_left _ (Nat.pow_le_pow_right (by decide) h5)
      _ ≤ 2 ^ 1900 := by decide +kernel
  show (NumText.digitsVal z.cps.toList).log2 < 1920
  by_cases e0 : NumText.digitsVal z.cps.toList = 0
  · rw [e0]; decide
  · have := (Nat.log2_lt e0).mpr (Nat.lt_of_lt_of_le lt2 (Nat.pow_le_pow_right (by decide) (by decide : 1900 ≤ 1920)))
    exact this
theorem plain_words {z : Str} (h : Asc z) (hl : z.length ≤ 640) : ∀ w ∈ Txt.split z sps, Plain w := fun w hw => by
  obtain ⟨a, b⟩ := mem_join hw
  rw [StrLaws.join_split] at a b
  exact plain_of (fun c hc => h c (a c hc)) (by omega)
theorem split_len (z : Str) : (Txt.split z sps).length ≤ z.length + 2 := split_le z sps
/-- a text of signs that are plain, not long -/
structure Good (z : Str) : Prop where
  asc : Asc z
  len : z.length ≤ 600
theorem wd_asc : ∀ {e : Ev}, Wf e → ∀ w ∈ wd e, Asc w ∧ w.length ≤ 10
  | .nums w ns, h, u, hu => by
    rcases List.mem_cons.mp hu with rfl | hu
    · rcases lk_mem h.1 with ⟨rfl, _⟩ | ⟨rfl, _⟩ | ⟨rfl, _⟩ | ⟨rfl, _⟩ | ⟨rfl, _⟩ | ⟨rfl, _⟩ <;> decide +kernel
    · obtain ⟨n, hn, rfl⟩ := List.mem_map.mp hu
      have := h.2 n hn
      exact ⟨asc_tx this.1, by have := (tx_len this.1 this.2).2; omega⟩
  | .wrN a b, h, u, hu => by
    have hu : u ∈ [w_write, tx a, tx b, w_none] := hu
    simp only [List.mem_cons, List.not_mem_nil, or_false] at hu
    rcases hu with rfl | rfl | rfl | rfl
    · decide +kernel
    · exact ⟨asc_tx h.1.1, by have := (tx_len h.1.1 h.1.2).2; omega⟩
    · exact ⟨asc_tx h.2.1, by have := (tx_len h.2.1 h.2.2).2; omega⟩
    · decide +kernel
  | .send to rs, h, u, hu => by
    rcases List.mem_cons.mp hu with rfl | hu
    · decide +kernel
    rcases List.mem_cons.mp hu with rfl | hu
    · exact ⟨asc_tx h.1.1, by have := (tx_len h.1.1 h.1.2).2; omega⟩
    obtain ⟨n, hn, rfl⟩ := List.mem_map.mp hu
    have := h.2.1 n hn
    exact ⟨asc_tx this.1, by have := (tx_len this.1 this.2).2; omega⟩
  | .rem rows, h, u, hu => by
    rcases List.mem_cons.mp hu with rfl | hu
    · decide +kernel
    obtain ⟨p, hp, hu⟩ := List.mem_flatMap.mp hu
    have := h.1 p hp
    simp only [List.mem_cons, List.not_mem_nil, or_false] at hu
    rcases hu with rfl | rfl
    · exact ⟨asc_tx this.1.1, by have := (tx_len this.1.1 this.1.2).2; omega⟩
    · exact ⟨asc_tx this.2.1, by have := (tx_len this.2.1 this.2.2).2; omega⟩
  | .rcv s m n seen held carried, h, u, hu => by
    obtain ⟨h1, h2, h3, hh, hr, hc, hl⟩ := h
    rcases List.mem_cons.mp hu with rfl | hu
    · decide +kernel
    rcases List.mem_cons.mp hu with rfl | hu
    · exact ⟨asc_tx h1.1, by have := (tx_len h1.1 h1.2).2; omega⟩
    rcases List.mem_cons.mp hu with rfl | hu
    · exact ⟨asc_tx h2.1, by have := (tx_len h2.1 h2.2).2; omega⟩
    rcases List.mem_cons.mp hu with rfl | hu
    · exact ⟨asc_tx h3.1, by have := (tx_len h3.1 h3.2).2; omega⟩
    rcases List.mem_append.mp hu with hu | hu
    · obtain ⟨n, hn, rfl⟩ := List.mem_map.mp hu
      have := hh n hn
      exact ⟨asc_tx this.1, by have := (tx_len this.1 this.2).2; omega⟩
    rcases List.mem_cons.mp hu with rfl | hu
    · decide +kernel
    obtain ⟨p, hp, hu⟩ := List.mem_flatMap.mp hu
    have := hc p hp
    simp only [List.mem_cons, List.not_mem_nil, or_false] at hu
    rcases hu with rfl | rfl
    · rcases this.1 with z | z <;> rw [z] <;> decide +kernel
    · exact ⟨asc_tx this.2.1, by have := (tx_len this.2.1 this.2.2).2; omega⟩
theorem sum_le {ws : List Str} (h : ∀ w ∈ ws, w.length ≤ 10) : (ws.map (·.length)).sum ≤ 10 * ws.length := by
  induction ws with
  | nil => exact Nat.le_refl _
  | cons w r ih =>
    have := ih fun z hz => h z (.tail _ hz)
    have := h w List.mem_cons_self
    rw [List.map_cons, List.sum_cons, List.length_cons]
    omega
theorem text_len {e : Ev} (h : Wf e) : (text e).length ≤ 11 * (wd e).length := by
  have h1 := StrLaws.join_length_le sps (wd e)
  have h2 := sum_le fun w hw => (wd_asc h w hw).2
  rw [show sps.length = 1 from by decide +kernel] at h1
  unfold text
  omega
theorem text_asc {e : Ev} (h : Wf e) : Asc (text e) := asc_join fun w hw => (wd_asc h w hw).1
theorem text_pos {e : Ev} (h : Wf e) : 1 ≤ (text e).length := by
  cases z : (text e).length with
  | succ n => omega
  | zero =>
    have hs := split_text h
    have e0 : text e = Str.empty := by
      apply str_ext
      have : (text e).cps.toList.length = 0 := by rw [toL_len]; exact z
      rw [List.eq_nil_of_length_eq_zero this]
      rfl
    rw [e0] at hs
    have e1 : Txt.split Str.empty sps = [Str.empty] := split_is (by simp) (fun w hw => by rw [List.mem_singleton.mp hw]; exact empty_free) rfl
    rw [e1] at hs
    obtain ⟨w, r, e2, n⟩ := head_no h
    have e3 : w :: r = [Str.empty] := e2.symm.trans hs.symm
    have h2 := congrArg (fun l : List Str => l.length) e3
    have hw : w = Str.empty := (List.cons.inj e3).1
    have : ∀ u ∈ [w_receive, w_send, w_remove, w_write, "make", "read", "drop", "collect", "report"], u ≠ Str.empty := by decide +kernel
    cases e with
    | nums v ns =>
      have : v = w := (List.cons.inj e2).1
      subst this
      rcases lk_mem h.1 with ⟨rfl, _⟩ | ⟨rfl, _⟩ | ⟨rfl, _⟩ | ⟨rfl, _⟩ | ⟨rfl, _⟩ | ⟨rfl, _⟩ <;> exact absurd hw (by decide +kernel)
    | wrN a b => rw [← (List.cons.inj e2).1] at hw; exact absurd hw (by decide +kernel)
    | send to rs => rw [← (List.cons.inj e2).1] at hw; exact absurd hw (by decide +kernel)
    | rem rows => rw [← (List.cons.inj e2).1] at hw; exact absurd hw (by decide +kernel)
    | rcv s m n seen held carried => rw [← (List.cons.inj e2).1] at hw; exact absurd hw (by decide +kernel)

/-! ### the texts that are none -/
def bads : List (Str × List Str) := [("", [""]), ("make 100000", ["make", "100000"]), ("make 01", ["make", "01"]), ("write 1 2 nil", ["write", "1", "2", "nil"]), ("send 1 2 3 4 5 6", ["send", "1", "2", "3", "4", "5", "6"]), ("remove 1 2 1 2", ["remove", "1", "2", "1", "2"]), ("receive 1 2 3 5 4 carried", ["receive", "1", "2", "3", "5", "4", "carried"]), ("receive 1 2 3", ["receive", "1", "2", "3"]), ("remove 1 2 0 3", ["remove", "1", "2", "0", "3"]), ("make -5", ["make", "-5"]), ("receive 1 2 3 carried export 1 export 1 export 1 export 1 export 1", ["receive", "1", "2", "3", "carried", "export", "1", "export", "1", "export", "1", "export", "1", "export", "1"]), ("make 1 2", ["make", "1", "2"]), ("drop", ["drop"])]
theorem bads_ok : ∀ p ∈ bads, p.2 ≠ [] ∧ (∀ w ∈ p.2, Free w) ∧ Str.join sps p.2 = p.1 ∧ (rdWs 0 p.2).isNone = true := by decide +kernel
theorem bads_good : ∀ p ∈ bads, Asc p.1 ∧ p.1.length ≤ 600 := by decide +kernel
theorem bad_none : ∀ z ∈ bads.map (·.1), Good z ∧ rd 0 z = none := fun z hz => by
  obtain ⟨p, hp, rfl⟩ := List.mem_map.mp hz
  obtain ⟨a, b, c, d⟩ := bads_ok p hp
  exact ⟨⟨(bads_good p hp).1, (bads_good p hp).2⟩, bad_of p.2 a b c d⟩
end K45
set_option Elab.async false
set_option linter.all false
set_option maxRecDepth 100000
set_option maxHeartbeats 4000000
/-! G3: a list or a tuple walked; a dict comprehension over anything that is walked; d == {}. -/
namespace Gd
open PySem PySem.Spec PyProof.Rows L2
theorem pi_seq {X : Cx} {tg l : Expr} {tl : TE} (hl : PE X l tl) : PI X tg l (fun σ H R => tl σ H fun x H1 => ∃ a, x = .ref a ∧ ((∃ xs, SqL X.K H1 a xs ∧ R (Itl X.K a) H1) ∨ ∃ xs, SqT X.K H1 a xs ∧ R (Itt X.K a) H1)) := by
  constructor
  intro pins s σ H R I h
  refine thn (hl.run pins s σ H _ I h) fun v s1 ⟨x, H1, J, rx, a, e, q⟩ => ?_
  subst e
  obtain rfl : v = Value.ref a := rx
  have kp : ∀ o : Obj, Inv X pins σ H1 { s1 with heap := s1.heap.push o } := fun o => J.kept (t' := s1.toks) fun b u z => Heap.get?_push_of_some _ z
  have fp : ∀ b ∈ [s1.heap.objs.size], FpOk X pins H1 b := fun b hb => by
    rw [List.mem_singleton.mp hb]
    exact J.fpOk (Nat.le_refl _) (J.hok.fresh (Nat.le_refl _))
  rcases q with ⟨xs, hs, q⟩ | ⟨xs, hs, q⟩
  · obtain ⟨its, rv, p, hz⟩ := J.list hs
    exact wpAny_pyIter_list p.isList ⟨s1.heap.objs.size, [s1.heap.objs.size], _, _, H1, rfl, kp _, turn_list a _, ⟨_, Heap.get?_push_size _ rfl, rfl, rfl⟩, fp, q⟩
  · obtain ⟨its, rv, p, hz⟩ := J.tuple hs
    exact wpAny_pyIter_tuple (show s1.heap.IsTuple a its.toArray from p) ⟨s1.heap.objs.size, [s1.heap.objs.size], _, _, H1, rfl, kp _, turn_tuple a _, ⟨_, Heap.get?_push_size _ rfl, rfl, rfl⟩, fp, q⟩

theorem dc_it {J : It} {n : Nat} {G : Hp → Prop} {Y : Nat → Hp → V → Hp → Prop} (w : Walk J n G Y) {g : TG} {tt : TT} {tk tv : TE} {vs : List Nat} {σ : L2.St} {H1 : Hp} {D : Addr} {Qd : Hp → Prop} (Pv : Nat → Hp → Prop)
    (h0 : Pv 0 (upd H1 D (.dK []))) (hG : ∀ i H, i ≤ n → Pv i H → G H)
    (hs : ∀ i x H H', i < n → Pv i H → Y i H x H' → g x (wipe σ vs) H' fun s2 H2 => wipe s2 vs = wipe σ vs ∧ tt s2 H2 fun b H3 =>
      if b = true then tk s2 H3 fun y H4 => tv s2 H4 fun z H5 => ∃ kvs k, y = kV k ∧ H5 D = some (.dK kvs) ∧ kvs.length < sizeLine ∧ Pv (i + 1) (upd H5 D (.dK (putK kvs k z))) else Pv (i + 1) H3)
    (hd : ∀ H, Pv n H → Qd H) :
    ∃ W : Nat → Nat → Hp → Prop, (∃ m, W 0 m (upd H1 D (.dK []))) ∧ ∀ i m H, W i m H → (J.stop i H ∧ Qd H) ∨ (J.go i H ∧ ∃ Nx : Hp → Prop, (∀ H', Nx H' → ∃ m', m' < m ∧ W (i + 1) m' H') ∧
      ∀ x H', J.yld i H x H' → g x (wipe σ vs) H' fun s2 H2 => wipe s2 vs = wipe σ vs ∧ tt s2 H2 fun b H3 =>
        if b = true then tk s2 H3 fun y H4 => tv s2 H4 fun z H5 => ∃ kvs k, y = kV k ∧ H5 D = some (.dK kvs) ∧ kvs.length < sizeLine ∧ Nx (upd H5 D (.dK (putK kvs k z))) else Nx H3) := by
  refine ⟨fun i m H => m + i = n ∧ Pv i H, ⟨n, rfl, h0⟩, ?_⟩
  intro i m H ⟨em, p⟩
  rcases Nat.lt_or_ge i n with l | l
  · have q := hG i H (Nat.le_of_lt l) p
    exact .inr ⟨w.goes i H l q, Pv (i + 1), fun H' p' => ⟨m - 1, by omega, by omega, p'⟩, fun x H' y => hs i x H H' l p (w.yields i H x H' l q y)⟩
  · have e : i = n := by omega
    subst e
    exact .inl ⟨w.stops H (hG i H (Nat.le_refl _) p), hd H p⟩

/-- d == {} -/
def rEqE : R2 := fun x y H Q => ∃ (a b : Addr) (ks : List (L2.Key × V)), x = .ref a ∧ y = .ref b ∧ H a = some (.dK ks) ∧ H b = some (.dK []) ∧ Q (.bl ks.isEmpty) H
theorem op_eqE {X : Cx} (hu : X.A.units < cLine) : OpR X (compareOp .Eq) rEqE := by
  intro pins s σ H x y v u Q I rx ry h
  obtain ⟨a, b, ks, rfl, rfl, ea, eb, q⟩ := h
  obtain rfl : v = Value.ref a := rx
  obtain rfl : u = Value.ref b := ry
  obtain ⟨_, ya, va, ra, da⟩ := (show ObjOk X.prog X.w H s.heap a (.dK ks) from I.hok a _ ea)
  obtain ⟨_, yb, vb, rb, db⟩ := (show ObjOk X.prog X.w H s.heap b (.dK []) from I.hok b _ eb)
  cases rb
  have ll : ks.length = va.length := Paired.length ra
  refine PySem.W.keq_eq (knd := mixKind X.prog X.w) (r := true) ya yb da db hu (fun z => ?_) ?_
  · cases va with
    | nil => exact .nil
    | cons _ _ => simp at z
  · refine ⟨.bl ks.isEmpty, H, I, ?_, q⟩
    show Value.bool _ = Value.bool _
    congr 1
    cases ks with
    | nil =>
      cases va with
      | nil => rfl
      | cons _ _ => simp at ll
    | cons _ _ =>
      cases va with
      | nil => simp at ll
      | cons _ _ => rfl
/-! name = {k: v for ..}: a dict comprehension given to a local -/
abbrev InBlk (X : Cx) (sc : Scope) (P : Cx → Prop) : Prop := ∀ s H C cl fp, P (X.blk s H sc (compEnvC sc cl C X.env) fp)
theorem ps_setDc {X : Cx} {i : Nat} {y : Str} {yp cp sp : Pos} {tg it kx vx : Expr} {fs : List Expr} {sc : Scope} {own : List (Str × Nat)} {ti : TI} {tg' : TG} {tf : TT} {tk tv : TE}
    (calm : X.calm = true) (nd : X.N.Nodup) (ey : X.N[i]? = some y) (loc : X.env.scope.names.lookup y = some .local)
    (sw : swapsWith (.DictComp kx vx [⟨tg, it, fs, 0⟩] sc cp) (some (.Name y yp)) sp.line X.env = pure true)
    (walks : PI X tg it ti) (blk : BlkOk X.N X.env.scope sc own)
    (hT : InBlk X sc fun Y => PG Y tg tg') (hF : InBlk X sc fun Y => PTs Y fs tf) (hK : InBlk X sc fun Y => PE Y kx tk) (hV : InBlk X sc fun Y => PE Y vx tv)
    (fold : ∀ z, foldedSetIterable it X.env z = pure z := by intro _; rfl) :
    PS X (.Assign [.Name y yp] (.DictComp kx vx [⟨tg, it, fs, 0⟩] sc cp) sp) (tAsg (tDc ti tg' tf tk tv (own.map (·.2))) (gName i)) := by
  refine ⟨fun pins s σ H D I w => ?_⟩
  rw [exec_Assign_Name_used _ _ _ _ sw]
  refine wpAny_bind ?_
  refine wpAny_standAt (wpAny_bind ?_)
  show wpAny _ X.A (do
    let _ ← comprehension (.DictComp kx vx [⟨tg, it, fs, 0⟩] sc cp) sc X.env
      (firstIterPos [⟨tg, it, fs, 0⟩] cp) newDict false (eval it X.env) (some (assign (.Name y yp) X.env))) _ _ s
  have w' : tDc ti tg' tf tk tv (own.map (·.2)) σ H (fun x H1 => gName i x σ H1 D.nx) := w
  refine wpAny_bind (thn (dc_core (Qf := fun _ t => SP X pins D .next t) calm nd I walks blk hT hF hK hV fold w' ?_) fun _ _ q => wpAny_pure (wpAny_pure q))
  intro L C t m H' I' q ns f
  show wpAny _ _ (assign (.Name y yp) X.env (.ref L)) _ _ _
  obtain ⟨a0, a1, a2, a3, a4, a5⟩ := f
  refine wpAny_assign_Name (store_ok2 (v := V.ref L) I' nd ey (.inl loc) rfl ?_ (.inr loc))
  rintro t2 I2 ⟨a, sb, ha⟩
  have ne : C ≠ a := ha.elim (fun z => z ▸ a1) fun z e => a4 y a z e.symm
  exact ⟨m, ns.sameBut sb ne, fun _ sc' => ⟨_, H', I2.turned (t' := t2.toks) (fun b o hb e => (sc'.2 b hb).trans e) a0 a1 a3 a4 a5, q⟩⟩
theorem sw_trueD {kx vx : Expr} {gs : List Comprehension} {sc : Scope} {cp yp : Pos} {y : Str} {l : Nat} {env : Env} (fn : env.scope.kind = .function) (loc : env.scope.names.lookup y = some .local)
    (line : (yp.line == cp.line) = true) (no : (sc.names.any fun (n, k) => n == y && (k == .local || k == .cell)) = false) :
    swapsWith (.DictComp kx vx gs sc cp) (some (.Name y yp)) l env = pure true := by
  have hb : env.blockKind = .function := by unfold Env.blockKind; rw [fn]; rfl
  have hk : env.kindOf y = some .local := loc
  unfold swapsWith
  simp only [hb, hk, no, Expr.pos, line]
  rfl
end Gd
set_option Elab.async false
set_option linter.all false
set_option maxRecDepth 100000
set_option maxHeartbeats 4000000
/-! K45q: what is read is well formed; events as data. -/
namespace K45
open PySem PySem.Spec PyProof.Rows Xs L2 Gd
theorem num5 {z : Str} (ha : Asc z) (h : okN z = true) : In5 (num z) := by
  obtain ⟨h1, h5, _⟩ := okN_of h
  unfold Txt.isdecimal at h1
  rw [Bool.and_eq_true, Array.all_eq_true'] at h1
  have hd : NumText.AllDigits z.cps.toList := fun c hc => dec_digits c (ha c hc) (h1.2 c (Array.mem_toList_iff.mp hc))
  have hn : z.cps.toList ≠ [] := fun e => by
    have := of_decide_eq_true h1.1
    rw [← toL_len, e] at this
    exact absurd this (by decide)
  have e := intText_digits hd hn (by omega)
  have e2 : num z = ((NumText.digitsVal z.cps.toList : Nat) : Int) := by
    unfold num
    rw [e]
    rfl
  have lt := dv_lt z.cps.toList hd 0
  have lt2 : NumText.digitsVal z.cps.toList < 100000 := by
    refine Nat.lt_of_lt_of_le lt ?_
    rw [toL_len]
    calc (0 + 1) * 10 ^ z.length ≤ 1 * 10 ^ 5 := Nat.mul_le_mul_left _ (Nat.pow_le_pow_right (by decide) h5)
      _ ≤ 100000 := by decide
  rw [e2]
  exact ⟨by omega, by omega⟩
theorem nums5 {ws : List Str} (ha : ∀ w ∈ ws, Asc w) (h : ws.all okN = true) : ∀ n ∈ ws.map num, In5 n := fun n hn => by
  obtain ⟨w, hw, rfl⟩ := List.mem_map.mp hn
  exact num5 (ha w hw) (List.all_eq_true.mp h w hw)
theorem ev_mem {α : Type} : ∀ {l : List α} {z : α}, z ∈ ev l → z ∈ l
  | [], z, h => h
  | [a], z, h => h
  | a :: b :: r, z, h => by
    rcases List.mem_cons.mp h with rfl | h
    · exact List.mem_cons_self
    · exact .tail _ (.tail _ (ev_mem h))
theorem ev_mem1 {α : Type} {l : List α} {z : α} (h : z ∈ ev (l.drop 1)) : z ∈ l := List.mem_of_mem_drop (ev_mem h)
theorem carried_wf {ws : List Str} {c : List (Str × Int)} (ha : ∀ w ∈ ws, Asc w) (h : rdCarried ws = some c) : (∀ p ∈ c, (p.1 = w_export ∨ p.1 = w_return) ∧ In5 p.2) ∧ c.length ≤ 4 := by
  unfold rdCarried at h
  split at h
  · rename_i h1
    cases h
    obtain ⟨h1, h2, h3, h4⟩ := h1
    refine ⟨fun p hp => ?_, by rw [List.length_zip, List.length_map]; omega⟩
    obtain ⟨m1, m2⟩ := List.of_mem_zip hp
    exact ⟨of_decide_eq_true (List.all_eq_true.mp h4 _ m1), nums5 (fun w hw => ha w (ev_mem1 hw)) h1 _ m2⟩
  · cases h
theorem rd_wf {me : Int} {ws : List Str} {e : Ev} (ha : ∀ w ∈ ws, Asc w) (h : rdWs me ws = some e) : Wf e ∧ With me e := by
  cases ws with
  | nil => cases h
  | cons w rest =>
    have ha' : ∀ w ∈ rest, Asc w := fun w hw => ha w (.tail _ hw)
    unfold rdWs at h
    dsimp only at h
    split at h
    · unfold rdRcv at h
      split at h
      · cases h
      · dsimp only at h
        split at h
        · cases h
        · rename_i c ec
          split at h
          · cases h
          · rename_i h1
            split at h
            · rename_i h2
              cases h
              have h3 : (rest.take (rest.idxOf w_carried)).all okN = true := by
                cases e : (rest.take (rest.idxOf w_carried)).all okN with
                | true => rfl
                | false => exact absurd (.inl e) h1
              have h4 : 3 ≤ (rest.take (rest.idxOf w_carried)).length := by
                have : ¬ (rest.take (rest.idxOf w_carried)).length < 3 := fun z => h1 (.inr z)
                omega
              have h5 := nums5 (fun w hw => ha' w (List.mem_of_mem_take hw)) h3
              obtain ⟨hc, hl⟩ := carried_wf (fun w hw => ha' w (List.mem_of_mem_drop hw)) ec
              generalize rest.take (rest.idxOf w_carried) = l at h2 h3 h4 h5
              match l, h4, h2, h5 with
              | a :: b :: c :: r, _, h2, h5 =>
                exact ⟨⟨h5 _ (by simp), h5 _ (by simp), h5 _ (by simp), fun x hx => h5 x (by
                  show x ∈ num a :: num b :: num c :: r.map num
                  exact .tail _ (.tail _ (.tail _ hx))), h2, hc, hl⟩, rfl⟩
            · cases h
    · split at h
      · rename_i hw
        split at h
        · rename_i ho
          cases h
          match rest, hw.2, ho, ha' with
          | [a, b, c], hr, ho, ha' =>
            have ho : okN a = true ∧ okN b = true := by
              have : (okN a && (okN b && true)) = true := ho
              rw [Bool.and_eq_true, Bool.and_eq_true] at this
              exact ⟨this.1, this.2.1⟩
            exact ⟨⟨num5 (ha' a (by simp)) ho.1, num5 (ha' b (by simp)) ho.2⟩, trivial⟩
        · cases h
      · split at h
        · rename_i ho
          have h5 := nums5 ha' ho
          unfold rdW at h
          split at h
          · unfold rdSend at h
            split at h
            · rename_i hl
              cases h
              match hh : rest.map num, hl, h5 with
              | a :: r, hl, h5 =>
                exact ⟨⟨h5 a (by simp), fun n hn => h5 n (.tail _ hn), by
                  have := hl.2
                  simp at this ⊢
                  omega⟩, trivial⟩
            · cases h
          · split at h
            · unfold rdRem at h
              split at h
              · cases h
              · split at h
                · rename_i hr
                  cases h
                  refine ⟨⟨fun p hp => ?_, hr⟩, trivial⟩
                  obtain ⟨m1, m2⟩ := List.of_mem_zip hp
                  exact ⟨h5 _ (ev_mem m1), h5 _ (ev_mem1 m2)⟩
                · cases h
            · split at h
              · rename_i hw
                cases h
                exact ⟨⟨hw, h5⟩, trivial⟩
              · cases h
        · cases h
theorem rd_wf' {me : Int} {z : Str} {e : Ev} (h : Asc z) (he : rd me z = some e) : Wf e ∧ With me e := by
  refine rd_wf (fun w hw => ?_) he
  obtain ⟨a, _⟩ := mem_join hw
  rw [StrLaws.join_split] at a
  exact fun c hc => h c (a c hc)
theorem rd_len {me : Int} {z : Str} {e : Ev} (he : rd me z = some e) : (wd e).length ≤ z.length + 2 := by
  rw [rd_written he]
  exact split_len z

/-! ### events as data -/
def prD (p : Int × Int) : PyData := .tuple [.int p.1, .int p.2]
def crD (p : Str × Int) : PyData := .tuple [.str p.1, .int p.2]
def dat : Ev → PyData
  | .nums w ns => .tuple (.str w :: ns.map .int)
  | .wrN a b => .tuple [.str w_write, .int a, .int b, .none]
  | .send to rs => .tuple [.str w_send, .int to, .tuple (rs.map .int)]
  | .rem rows => .tuple [.str w_remove, .tuple (rows.map prD)]
  | .rcv s me n seen held c => .tuple [.str w_receive, .tuple [.int s, .int me, .int n, .int seen, .tuple (held.map .int), .tuple (c.map crD)]]
theorem sh5 {n : Int} (h : In5 n) : Sh 0 64 (.int n) := Sh.int (by have := h.1; have := h.2; omega)
theorem sh_w {w : Str} (ha : Asc w) (hl : w.length ≤ 64) : Sh 0 64 (.str w) := Sh.str (fun c hc => by have := ha c hc; omega) hl
theorem tup_of {dp wt k : Nat} {ds : List PyData} (h : ∀ d ∈ ds, Sh dp wt d) (hl : ds.length ≤ k) : Sh (dp + 1) ((wt + 1) * k) (.tuple ds) := (Sh.tup h).mono (Nat.le_refl _) (Nat.mul_le_mul_left _ hl)
theorem flat_len {α : Type} (f g : α → Str) : ∀ c : List α, (c.flatMap fun p => [f p, g p]).length = 2 * c.length
  | [] => rfl
  | a :: c => by
    rw [List.flatMap_cons, List.length_append, flat_len f g c]
    simp
    omega
/-- an event of at most m words is small -/
theorem sh_dat : ∀ {e : Ev}, Wf e → (∃ me, In5 me ∧ With me e) → (wd e).length ≤ 700 → Sh 4 700000 (dat e)
  | .nums w ns, h, _, hl => by
    have hl : ns.length + 1 ≤ 700 := by simpa [wd] using hl
    refine (tup_of (k := 700) (dp := 0) (wt := 64) (ds := .str w :: ns.map PyData.int) (fun d hd => ?_) (by simpa using hl)).mono (by omega) (by omega)
    rcases List.mem_cons.mp hd with rfl | hd
    · rcases lk_mem h.1 with ⟨rfl, _⟩ | ⟨rfl, _⟩ | ⟨rfl, _⟩ | ⟨rfl, _⟩ | ⟨rfl, _⟩ | ⟨rfl, _⟩ <;> exact sh_w (by decide +kernel) (by decide +kernel)
    · obtain ⟨n, hn, rfl⟩ := List.mem_map.mp hd
      exact sh5 (h.2 n hn)
  | .wrN a b, h, _, _ => by
    refine (tup_of (k := 4) (dp := 0) (wt := 64) (ds := [.str w_write, .int a, .int b, .none]) (fun d hd => ?_) (Nat.le_refl _)).mono (by omega) (by omega)
    simp only [List.mem_cons, List.not_mem_nil, or_false] at hd
    rcases hd with rfl | rfl | rfl | rfl
    · exact sh_w (by decide +kernel) (by decide +kernel)
    · exact sh5 h.1
    · exact sh5 h.2
    · exact Sh.none
  | .send to rs, h, _, _ => by
    refine (tup_of (k := 3) (dp := 1) (wt := 260) (ds := [.str w_send, .int to, .tuple (rs.map .int)]) (fun d hd => ?_) (Nat.le_refl _)).mono (by omega) (by omega)
    simp only [List.mem_cons, List.not_mem_nil, or_false] at hd
    rcases hd with rfl | rfl | rfl
    · exact (sh_w (by decide +kernel) (by decide +kernel)).mono (by omega) (by omega)
    · exact (sh5 h.1).mono (by omega) (by omega)
    · exact (tup_of (k := 4) (dp := 0) (wt := 64) (fun d hd => by
        obtain ⟨n, hn, rfl⟩ := List.mem_map.mp hd
        exact sh5 (h.2.1 n hn)) (by rw [List.length_map]; exact h.2.2)).mono (by omega) (by omega)
  | .rem rows, h, _, hl => by
    have hl : rows.length ≤ 350 := by
      have : 1 + 2 * rows.length ≤ 700 := by
        have e : (wd (.rem rows)).length = 1 + 2 * rows.length := by
          show (w_remove :: rows.flatMap fun p => [tx p.1, tx p.2]).length = _
          rw [List.length_cons, flat_len]
          omega
        omega
      omega
    refine (tup_of (k := 2) (dp := 2) (wt := 131 * 350) (ds := [.str w_remove, .tuple (rows.map prD)]) (fun d hd => ?_) (Nat.le_refl _)).mono (by omega) (by omega)
    simp only [List.mem_cons, List.not_mem_nil, or_false] at hd
    rcases hd with rfl | rfl
    · exact (sh_w (by decide +kernel) (by decide +kernel)).mono (by omega) (by omega)
    · refine tup_of (k := 350) (dp := 1) (wt := 130) (fun d hd => ?_) (by rw [List.length_map]; exact hl)
      obtain ⟨p, hp, rfl⟩ := List.mem_map.mp hd
      refine (tup_of (k := 2) (dp := 0) (wt := 64) (ds := [.int p.1, .int p.2]) (fun d hd => ?_) (Nat.le_refl _)).mono (by omega) (by omega)
      simp only [List.mem_cons, List.not_mem_nil, or_false] at hd
      rcases hd with rfl | rfl
      · exact sh5 (h.1 p hp).1
      · exact sh5 (h.1 p hp).2
  | .rcv s m n seen held c, h, ⟨me, hme, em⟩, hl => by
    obtain ⟨h1, h2, h3, hh, hr, hc, hl4⟩ := h
    have hl : held.length ≤ 700 := by
      have e : (wd (.rcv s m n seen held c)).length ≥ held.length := by
        show held.length ≤ (w_receive :: tx s :: tx n :: tx seen :: (held.map tx ++ w_carried :: c.flatMap fun p => [p.1, tx p.2])).length
        simp
        omega
      omega
    have h6 : In5 m := by rw [show m = me from em]; exact hme
    refine (tup_of (k := 2) (dp := 3) (wt := 6 * (65 * 700 + 1)) (ds := [.str w_receive, .tuple [.int s, .int m, .int n, .int seen, .tuple (held.map .int), .tuple (c.map crD)]]) (fun d hd => ?_) (Nat.le_refl _)).mono (by omega) (by omega)
    simp only [List.mem_cons, List.not_mem_nil, or_false] at hd
    rcases hd with rfl | rfl
    · exact (sh_w (by decide +kernel) (by decide +kernel)).mono (by omega) (by omega)
    refine (tup_of (k := 6) (dp := 2) (wt := 65 * 700) (ds := [.int s, .int m, .int n, .int seen, .tuple (held.map .int), .tuple (c.map crD)]) (fun d hd => ?_) (Nat.le_refl _)).mono (by omega) (by omega)
    simp only [List.mem_cons, List.not_mem_nil, or_false] at hd
    rcases hd with rfl | rfl | rfl | rfl | rfl | rfl
    · exact (sh5 h1).mono (by omega) (by omega)
    · exact (sh5 h6).mono (by omega) (by omega)
    · exact (sh5 h2).mono (by omega) (by omega)
    · exact (sh5 h3).mono (by omega) (by omega)
    · exact (tup_of (k := 700) (dp := 0) (wt := 64) (fun d hd => by
        obtain ⟨n, hn, rfl⟩ := List.mem_map.mp hd
        exact sh5 (hh n hn)) (by rw [List.length_map]; exact hl)).mono (by omega) (by omega)
    · refine (tup_of (k := 4) (dp := 1) (wt := 130) (fun d hd => ?_) (by rw [List.length_map]; exact hl4)).mono (by omega) (by omega)
      obtain ⟨p, hp, rfl⟩ := List.mem_map.mp hd
      refine (tup_of (k := 2) (dp := 0) (wt := 64) (ds := [.str p.1, .int p.2]) (fun d hd => ?_) (Nat.le_refl _)).mono (by omega) (by omega)
      simp only [List.mem_cons, List.not_mem_nil, or_false] at hd
      rcases hd with rfl | rfl
      · rcases (hc p hp).1 with z | z <;> rw [z] <;> exact sh_w (by decide +kernel) (by decide +kernel)
      · exact sh5 (hc p hp).2
/-! ### data stays -/
section
variable {K : PySem.W.Frag} {H H' : Hp}
theorem sqt_same (s : Same H H') {a : Addr} {xs : List V} (h : SqT K H a xs) : SqT K H' a xs := by
  rcases h with (h | ⟨o, h⟩) | h
  · exact .inl (.inl (s _ _ h))
  · exact .inl (.inr ⟨o, s _ _ h⟩)
  · exact .inr h
mutual
theorem dp_same (s : Same H H') : ∀ {v : V} {d : PyData}, Dp K H v d → Dp K H' v d
  | _, _, .non => .non
  | _, _, .bl b => .bl b
  | _, _, .int i => .int i
  | _, _, .str x => .str x
  | _, _, .lst h t => .lst (s.seq h) (dpa_same s t)
  | _, _, .tup h t => .tup (sqt_same s h) (dpa_same s t)
theorem dpa_same (s : Same H H') : ∀ {vs : List V} {ds : List PyData}, DpAll K H vs ds → DpAll K H' vs ds
  | _, _, .nil => .nil
  | _, _, .cons h t => .cons (dp_same s h) (dpa_same s t)
end
theorem dpa_ints_inv : ∀ {vs : List V} {ns : List Int}, DpAll K H vs (ns.map PyData.int) → vs = ns.map V.int
  | _, [], .nil => rfl
  | _, n :: ns, .cons (.int _) t => by rw [dpa_ints_inv t]; rfl
theorem dp_tup {v : V} {ds : List PyData} (h : Dp K H v (.tuple ds)) : ∃ (a : Addr) (xs : List V), v = .ref a ∧ SqT K H a xs ∧ DpAll K H xs ds := by
  cases h with
  | tup h t => exact ⟨_, _, rfl, h, t⟩
theorem dpa_len : ∀ {vs : List V} {ds : List PyData}, DpAll K H vs ds → vs.length = ds.length
  | _, _, .nil => rfl
  | _, _, .cons _ t => by rw [List.length_cons, List.length_cons, dpa_len t]
theorem dpa_at : ∀ {vs : List V} {ds : List PyData} {i : Nat} {v : V}, DpAll K H vs ds → vs[i]? = some v → ∃ d, ds[i]? = some d ∧ Dp K H v d
  | _, _, 0, _, .cons h _, e => by
    cases e
    exact ⟨_, rfl, h⟩
  | _, _, i + 1, _, .cons _ t, e => by
    obtain ⟨d, h1, h2⟩ := dpa_at t (i := i) (by simpa using e)
    exact ⟨d, by simpa using h1, h2⟩
end
end K45
set_option Elab.async false
set_option linter.all false
set_option maxRecDepth 100000
set_option maxHeartbeats 4000000
/-! S: sorted of any number of tuples of ints, of the keys of a dict: ints, or tuples of ints. -/
namespace Gs
open PySem PySem.Spec PyProof.Rows L2 Gd Com
/-- a tuple of whole numbers -/
def RwV (H : Hp) (r : List Int) (v : V) : Prop := ∃ t, v = .ref t ∧ H t = some (.tup (r.map V.int))
abbrev Rws (H : Hp) : List (List Int) → List V → Prop := Paired (RwV H)
theorem RwV.mono {H H' : Hp} (s : TupS H H') {r : List Int} {v : V} (h : RwV H r v) : RwV H' r v :=
  let ⟨t, e, ht⟩ := h
  ⟨t, e, s _ _ ht⟩
theorem Rws.mono {H H' : Hp} (s : TupS H H') {rs : List (List Int)} {vs : List V} (h : Rws H rs vs) : Rws H' rs vs := Paired.mapP h fun _ _ x => x.mono s
theorem paired_perm {α β : Type} {F : α → β → Prop} {ys xs : List β} (h : ys.Perm xs) : ∀ {rs : List α}, Paired F rs xs → ∃ rs' : List α, rs'.Perm rs ∧ Paired F rs' ys := by
  induction h with
  | nil => exact fun {rs} h => ⟨rs, .refl _, h⟩
  | cons x _ ih =>
    intro rs h
    cases h with
    | cons r t =>
      obtain ⟨rs', p, h'⟩ := ih t
      exact ⟨_ :: rs', p.cons _, .cons r h'⟩
  | swap x y l =>
    intro rs h
    cases h with
    | cons r1 t =>
      cases t with
      | cons r2 t => exact ⟨_, .swap _ _ _, .cons r2 (.cons r1 t)⟩
  | trans _ _ ih1 ih2 =>
    intro rs h
    obtain ⟨r2, p2, h2⟩ := ih2 h
    obtain ⟨r1, p1, h1⟩ := ih1 h2
    exact ⟨r1, p1.trans p2, h1⟩
theorem rws_mem {H : Hp} {rs : List (List Int)} {vs : List V} (h : Rws H rs vs) {x : V} (hx : x ∈ vs) : ∃ r ∈ rs, RwV H r x := by
  obtain ⟨i, hi⟩ := List.mem_iff_getElem?.mp hx
  obtain ⟨r, hr, rx⟩ := paired_back h hi
  exact ⟨r, List.mem_of_getElem? hr, rx⟩
/-- the numbers of a tuple in the heap -/
def hInts (H : Hp) : V → List Int
  | .ref t => match H t with
    | some (.tup vs) => vs.map fun | .int i => i | _ => 0
    | _ => []
  | _ => []
theorem hInts_of {H : Hp} {r : List Int} {v : V} (h : RwV H r v) : hInts H v = r := by
  obtain ⟨t, rfl, ht⟩ := h
  unfold hInts
  simp only [ht]
  rw [List.map_map]
  exact List.map_id r
theorem swo_num {α : Type} (r : α → Int) : SrtO.Swo fun v u => decide (r v < r u) := by
  refine ⟨fun x y h => ?_, fun x y z h1 h2 => ?_⟩
  · have a := of_decide_eq_true h
    exact decide_eq_false (by omega)
  · have a := of_decide_eq_false h1
    have b := of_decide_eq_false h2
    exact decide_eq_false (by omega)
section
variable {prog : Program} {w : World} {A : Around} {s : Shared}
theorem tups_cmp {d : Nat} {B : Int} {vs : List Value} {k : Value → List Int} (hp : ∀ v ∈ vs, TS.TupInts s.heap v (k v) ∧ (k v).length = d ∧ TS.Bd B (k v)) :
    SrtO.Cmp prog w A s (tuples' true) (fun p => p.1 ∈ vs) (SrtO.lt2 fun v u => decide (TS.code B (k v) < TS.code B (k u))) := by
  intro p q hm hm'
  obtain ⟨⟨a, xs, e1, ⟨o, ho, hc, n, hd⟩, i⟩, l1, b1⟩ := hp _ hm
  obtain ⟨⟨a', ys, e2, ⟨o', ho', hc', n', hd'⟩, i'⟩, l2, b2⟩ := hp _ hm'
  show wpAny (model prog w) A (keyLt' (tuples' true) p.1 q.1) (fun r s' => s' = s ∧ r = decide (TS.code B (k p.1) < TS.code B (k q.1))) (fun _ _ => False) s
  generalize k p.1 = ns at i l1 b1 ⊢
  generalize k q.1 = ms at i' l2 b2 ⊢
  rw [e1, e2]
  refine PySem.W.kat_lt ho hd ho' hd' ?_
  have sz : decide (xs.size < ys.size) = false := by
    have h1 := i.length
    have h2 := i'.length
    rw [Array.length_toList] at h1 h2
    exact decide_eq_false (by omega)
  rw [sz]
  exact TS.lex_ints 0 i i' (by omega) b1 b2 ⟨rfl, rfl⟩
theorem tups_sortable {a : Addr} {d : Nat} {B : Int} {vs : List Value} {k : Value → List Int} (h2 : 2 ≤ vs.length) (hd : 1 ≤ d) (hp : ∀ v ∈ vs, TS.TupInts s.heap v (k v) ∧ (k v).length = d ∧ TS.Bd B (k v))
    (ha : ∀ o, s.heap.get? a = some o → o.cls ≠ .type "tuple") : SrtO.SortableO prog w A s a vs fun v u => decide (TS.code B (k v) < TS.code B (k u)) := by
  intro h' keep
  have hp' : ∀ v ∈ vs, TS.TupInts h' v (k v) ∧ (k v).length = d ∧ TS.Bd B (k v) := fun v hm =>
    ⟨(hp v hm).1.keeps fun b o e c => keep b o (fun z => by subst z; exact ha o e c) e, (hp v hm).2⟩
  obtain ⟨fs, k1, k2, k3⟩ := TS.firsts_of (h := h') hd vs fun v hm => ⟨k v, (hp' v hm).1, (hp' v hm).2⟩
  refine ⟨tuples' true, fun Q E hq => ?_, tups_cmp hp'⟩
  refine PySem.W.kat_kind (T := .type "int") k1 (by omega) (fun f hm => ?_) (by rfl) ?_
  · obtain ⟨x, t, rfl⟩ := k3 f hm
    exact PySem.W.Looks.now
  · have ne : (Value.type "int" != Value.type "tuple") = true := by first | decide +kernel | rfl | decide
    rw [ne]
    exact hq
end
section
variable {X : Cx}
/-- sorted(xs), xs tuples of d whole numbers each in [0, B), any number of them -/
def rSortR (K : PySem.W.Frag) : List V → Hp → VK → Prop := fun vs H Q => ∃ (a : Addr) (xs : List V) (rs : List (List Int)) (d : Nat) (B : Int), vs = [V.ref a] ∧ SqL K H a xs ∧ Rws H rs xs ∧ 1 ≤ d ∧ (∀ r ∈ rs, r.length = d ∧ TS.Bd B r) ∧
  ∀ (ms : List (List Int)) (ys : List V) (p : Addr), ms.Perm rs → ms.Pairwise (fun x y => TS.code B x ≤ TS.code B y) → Rws H ms ys → H p = none → Q (.ref p) (upd H p (.lst ys))
/-- what a sorted list of tuples is, said of its rows -/
theorem rows_out {H : Hp} {B : Int} {xs ys : List V} {rs : List (List Int)} (hx : Rws H rs xs) (pm : ys.Perm xs) (pw : ys.Pairwise fun x y => TS.code B (hInts H x) ≤ TS.code B (hInts H y)) :
    ∃ ms : List (List Int), ms.Perm rs ∧ ms.Pairwise (fun x y => TS.code B x ≤ TS.code B y) ∧ Rws H ms ys := by
  obtain ⟨ms, pm', h⟩ := paired_perm pm hx
  refine ⟨ms, pm', ?_, h⟩
  refine List.pairwise_iff_getElem.mpr fun i j hi hj hij => ?_
  obtain ⟨y1, e1, r1⟩ := LiI.paired_get h (List.getElem?_eq_getElem hi)
  obtain ⟨y2, e2, r2⟩ := LiI.paired_get h (List.getElem?_eq_getElem hj)
  obtain ⟨b1, e1⟩ := List.getElem?_eq_some_iff.mp e1
  obtain ⟨b2, e2⟩ := List.getElem?_eq_some_iff.mp e2
  have := (List.pairwise_iff_getElem.mp pw) i j b1 b2 hij
  rwa [e1, e2, hInts_of r1, hInts_of r2] at this
theorem cr_sortR : CallR X (.builtin "sorted") (rSortR X.K) := by
  intro pins s σ H vs us Q I r h
  obtain ⟨a, xs, rs, d, B, rfl, hs, hR, hd, hb, q⟩ := h
  obtain ⟨its, rv, hl, hz⟩ := I.list hs
  obtain ⟨u, rfl, ru⟩ := vals1 r
  obtain rfl : u = Value.ref a := ru
  obtain ⟨e1, e2⟩ := refs_back rv fun x m => by
    obtain ⟨_, _, t, e, _⟩ := rws_mem hR m
    exact ⟨t, e⟩
  have hv : ∀ v ∈ its, TS.TupInts s.heap v (hInts H (backV v)) ∧ (hInts H (backV v)).length = d ∧ TS.Bd B (hInts H (backV v)) := fun v hv => by
    obtain ⟨t, rfl⟩ := e2 v hv
    have hm : V.ref t ∈ xs := by rw [e1]; exact List.mem_map.mpr ⟨_, hv, rfl⟩
    obtain ⟨r, hr, rx⟩ := rws_mem hR hm
    have e3 : hInts H (backV (Value.ref t)) = r := hInts_of rx
    rw [e3]
    obtain ⟨t', e, ht⟩ := rx
    cases e
    exact ⟨tupI_raw I (SqT.of ht), hb r hr⟩
  refine SrtO.sorted_ord (swo_num fun v => TS.code B (hInts H (backV v))) hl.isList (by rw [← rv.length]; exact hz) (fun h2 h₁ a' ha kk => ?_) fun out h1 h2 => ?_
  · refine tups_sortable (s := { s with heap := h₁ }) h2 hd (fun v hm => ⟨(hv v hm).1.keeps fun b o e _ => (kk b o e).2, (hv v hm).2⟩) fun o e => ?_
    have e' : some o = some (seqObj "list" its.toArray 0) := e.symm.trans ha
    cases e'
    intro c
    exact absurd (Value.type.inj c) (by decide)
  · have h3 : ∀ u ∈ out, ∃ a, u = Value.ref a := fun u hu => e2 u (h2.perm.mem_iff.mp hu)
    have pm : (out.map backV).Perm xs := by rw [e1]; exact h2.perm.map backV
    have pw : (out.map backV).Pairwise fun x y => TS.code B (hInts H x) ≤ TS.code B (hInts H y) :=
      List.pairwise_map.mpr (h1.imp fun {x y} h => Int.not_lt.mp (of_decide_eq_false h))
    obtain ⟨ms, pm2, pw2, hm⟩ := rows_out hR pm pw
    obtain ⟨ep, he'⟩ := PyProof.Rows.sortedAll_at s.heap its out.toArray
    refine ⟨.ref _, upd H (s.heap.objs.size + 1) (.lst (out.map backV)), I.laid (t' := s.toks) (fun _ _ => PyProof.Rows.sortedAll_old) (Nat.le_succ _) ⟨?_, out, ep, vals_back h3, he'⟩, rfl, q ms _ _ pm2 pw2 hm (I.hok.fresh (Nat.le_succ _))⟩
    rw [pm.length_eq]
    exact hz
end
end Gs
set_option Elab.async false
set_option linter.all false
set_option maxRecDepth 100000
set_option maxHeartbeats 4000000
/-! S2: sorted of a dict: its keys, whole numbers or tuples of them, any number. -/
namespace Gs
open PySem PySem.Spec PyProof.Rows L2 Gd Com
section
variable {X : Cx}
/-- sorted(d), whole numbers for keys -/
def rSortDI : List V → Hp → VK → Prop := fun xs H Q => ∃ (a : Addr) (kvs : List (Key × V)) (ks : List Int), xs = [.ref a] ∧ Rd H a (.dK kvs) ∧ kvs.map (·.1) = ks.map Sum.inl ∧
  ∀ (ys : List Int) (p : Addr), ys.Perm ks → ys.Pairwise (· ≤ ·) → H p = none → Q (.ref p) (upd H p (.lst (ys.map V.int)))
theorem cr_sortDI (cm : X.calm = true) : CallR X (.builtin "sorted") rSortDI := by
  intro pins s σ H xs us Q I r q
  obtain ⟨a, kvs, ks, rfl, hd, hks, q⟩ := q
  obtain ⟨u, rfl, rx⟩ := vals1 r
  cases rx
  obtain ⟨z, lo, vs, rel, dd⟩ := dk_rd I.hok hd
  obtain ⟨ep, hat⟩ := dd.dictAt
  have hkeys : vs.map (·.1) = ks.map Sum.inl := rel.keys.symm.trans hks
  have hl : vs.length = ks.length := by
    have e := congrArg List.length hkeys
    rwa [List.length_map, List.length_map] at e
  have hz : vs.length ≤ sizeLine := by rw [← rel.length]; exact z
  refine Calls.call_function_entry PyProof.Rows.kind_sorted PyProof.Rows.plain_sorted PyProof.Rows.entry_sorted (PyProof.Rows.args_sorted1 _) ?_
  unfold Builtin.«sorted»
  refine wpAny_bind (m := checkCount "sorted" 1 1 _) (wpAny_pure ?_)
  refine wpAny_bind (PySem.W.kdu_collect (A := X.A.in1) (PySem.W.kdl_dict (knd := mixKind X.prog X.w) (kvs := vs) (ep := ep) lo) (I.ok.hd cm) hat hz fun h' tk acc hk hacc => ?_)
  have hal : acc.toList.length = ks.length := by rw [Array.length_toList, hacc.1, hl]
  have hS : IntsAre acc.toList ks := ints_each hal fun j v e => by
    obtain ⟨k, x, f1, f2⟩ := hacc.2 j v (by rw [← Array.getElem?_toList]; exact e)
    have f3 : (vs.map (·.1))[j]? = some k := by rw [List.getElem?_map, f1]; rfl
    rw [hkeys, List.getElem?_map] at f3
    cases f4 : ks[j]? with
    | none => rw [f4] at f3; cases f3
    | some y =>
      rw [f4] at f3
      have f5 : Sum.inl y = k := Option.some.inj f3
      subst f5
      rcases keyIs_shape (show keyIs (Sum.inl y) v = true from f2) with ⟨i, t, ek, ev⟩ | ⟨z, t, ek, ev⟩
      · cases ek
        exact ⟨y, t, rfl, ev⟩
      · cases ek
  have I1 : Inv X pins σ H { s with heap := h', toks := tk } := I.kept hk
  have zz : acc.toList.length ≤ sizeLine := by rw [hal, ← hl]; exact hz
  refine wpAny_bind (wpAny_newList ?_ zz)
  have hoL : (h'.push (seqObj "list" acc.toList.toArray 0)).get? h'.objs.size = some (seqObj "list" acc.toList.toArray 0) := Heap.get?_push_size _ rfl
  show wpAny _ _ _ _ _ { s with heap := h'.push (seqObj "list" acc.toList.toArray 0), toks := tk }
  refine wpAny_bind (wpAny_holding (wpAny_call_entry PyProof.Rows.slot_list_sort ⟨_, hoL, rfl⟩ PyProof.Rows.entry_list_sort
    (SrtO.list_sort_ord (s := { s with heap := h'.push (seqObj "list" acc.toList.toArray 0), toks := tk }) SrtO.swo_int hoL zz (fun h2 => SrtO.ints_sortable hS h2) fun out h1 h2 => ⟨_, rfl, ?_⟩) (PyProof.Rows.args_list_sort _)))
  obtain ⟨k1, k2, k3⟩ := SrtO.ints_out hS h1 h2
  obtain ⟨ep', he'⟩ := PyProof.Rows.sortedHeap_at (vs := acc.toList) (out := out.toArray) hoL
  have hlen : ((out.map SrtO.iv).map V.int).length ≤ sizeLine := by
    rw [List.length_map, k2.length_eq, ← hl]
    exact hz
  refine wpAny_pure ⟨_, rfl, .ref h'.objs.size, upd H h'.objs.size (.lst ((out.map SrtO.iv).map V.int)), I1.laid (t' := tk) (fun b u e => ?_) (Nat.le_refl _) ⟨hlen, out, ep', vals_of_ints k1, he'⟩, rfl, q _ _ k2 k3 (I1.hok.fresh (Nat.le_refl _))⟩
  have hb : b < h'.objs.size := Heap.lt_size e
  rw [PyProof.Rows.sortedHeap_old (Nat.ne_of_lt hb) (by rw [size_push']; exact Nat.lt_succ_of_lt hb)]
  exact Heap.get?_push_of_some _ e
/-- sorted(d), tuples of d whole numbers for keys -/
def rSortDT : List V → Hp → VK → Prop := fun xs H Q => ∃ (a : Addr) (kvs : List (List Key × V)) (rs : List (List Int)) (d : Nat) (B : Int), xs = [.ref a] ∧ Rd H a (.dT kvs) ∧ kvs.map (·.1) = rs.map (fun l => l.map Sum.inl) ∧ 1 ≤ d ∧ (∀ r ∈ rs, r.length = d ∧ TS.Bd B r) ∧
  ∀ (ms : List (List Int)) (ys : List V) (p : Addr), ms.Perm rs → ms.Pairwise (fun x y => TS.code B x ≤ TS.code B y) → Rws H ms ys → H p = none → Q (.ref p) (upd H p (.lst ys))
theorem keys_rows {H : Hp} : ∀ {kvs : List (List Key × V)} {bs : List Addr} {rs : List (List Int)}, IsKeys H kvs bs → kvs.map (·.1) = rs.map (fun l => l.map Sum.inl) → Rws H rs (bs.map V.ref)
  | _, _, rs, .nil, e => by
    cases rs with
    | nil => exact .nil
    | cons _ _ => cases e
  | _, _, rs, .cons (a := kv) (b := b) h t, e => by
    cases rs with
    | nil => cases e
    | cons r rs =>
      rw [List.map_cons, List.map_cons] at e
      have e1 := (List.cons.inj e).1
      have e2 := (List.cons.inj e).2
      refine .cons ⟨b, rfl, ?_⟩ (keys_rows t e2)
      rw [h, e1, List.map_map]
      rfl
theorem cr_sortDT (cm : X.calm = true) : CallR X (.builtin "sorted") rSortDT := by
  intro pins s σ H xs us Q I r q
  obtain ⟨a, kvs, rs, d, B, rfl, hd, hks, hd1, hb, q⟩ := q
  obtain ⟨u, rfl, rx⟩ := vals1 r
  cases rx
  obtain ⟨z, hs, ks, pr, o, es, ep, ho, hx, hdt, he, hn⟩ := (show ObjOk X.prog X.w H s.heap a (.dT kvs) from hd.ok I.hok)
  have l1 : es.size = ks.length := size_of_entries he
  have l2 : kvs.length = ks.length := Paired.length pr
  refine Calls.call_function_entry PyProof.Rows.kind_sorted PyProof.Rows.plain_sorted PyProof.Rows.entry_sorted (PyProof.Rows.args_sorted1 _) ?_
  unfold Builtin.«sorted»
  refine wpAny_bind (m := checkCount "sorted" 1 1 _) (wpAny_pure ?_)
  refine wpAny_bind (PySem.W.kdu_collect (A := X.A.in1) (kdl_raw hs hx hdt) (I.ok.hd cm) ho (by omega) fun h' tk acc hk it => ?_)
  have ea : acc.toList = (ks.map fun x => x.2.1).map Value.ref := by
    have hl : acc.toList.length = ks.length := by rw [Array.length_toList, it.1]; exact l1
    apply List.ext_getElem?
    intro j
    rw [List.getElem?_map, List.getElem?_map]
    cases hj : acc.toList[j]? with
    | none =>
      have h1 := List.getElem?_eq_none_iff.mp hj
      rw [List.getElem?_eq_none (by omega)]
      all_goals rfl
    | some v =>
      obtain ⟨en, hen, hv⟩ := it.2 j v (by rw [← Array.getElem?_toList]; exact hj)
      have qe := entry_at he j
      rw [hen] at qe
      cases hb : ks[j]? with
      | none =>
        rw [hb] at qe
        exact nomatch (show some en = none from qe)
      | some x =>
        rw [hb] at qe
        have e2 : en = entryOfKey (tupleKind (mixKind X.prog X.w)) x := Option.some.inj qe
        rw [hv, e2]
        rfl
  have I1 : Inv X pins σ H { s with heap := h', toks := tk } := I.kept hk
  have hR : Rws H rs ((ks.map fun x => x.2.1).map V.ref) := keys_rows (isKeys_of pr) hks
  have zz : acc.toList.length ≤ sizeLine := by rw [ea, List.length_map, List.length_map]; omega
  have bk : ∀ t : Addr, backV (Value.ref t) = V.ref t := fun _ => rfl
  have hv : ∀ v ∈ acc.toList, TS.TupInts h' v (hInts H (backV v)) ∧ (hInts H (backV v)).length = d ∧ TS.Bd B (hInts H (backV v)) := fun v hv => by
    rw [ea] at hv
    obtain ⟨t, ht, rfl⟩ := List.mem_map.mp hv
    obtain ⟨r, hr, rx⟩ := rws_mem hR (List.mem_map.mpr ⟨t, ht, rfl⟩)
    rw [bk, hInts_of rx]
    obtain ⟨t', e, ht'⟩ := rx
    cases e
    exact ⟨tupI_raw I1 (SqT.of ht'), hb r hr⟩
  refine wpAny_bind (wpAny_newList ?_ zz)
  have hoL : (h'.push (seqObj "list" acc.toList.toArray 0)).get? h'.objs.size = some (seqObj "list" acc.toList.toArray 0) := Heap.get?_push_size _ rfl
  show wpAny _ _ _ _ _ { s with heap := h'.push (seqObj "list" acc.toList.toArray 0), toks := tk }
  refine wpAny_bind (wpAny_holding (wpAny_call_entry PyProof.Rows.slot_list_sort ⟨_, hoL, rfl⟩ PyProof.Rows.entry_list_sort
    (SrtO.list_sort_ord (s := { s with heap := h'.push (seqObj "list" acc.toList.toArray 0), toks := tk }) (swo_num fun v => TS.code B (hInts H (backV v))) hoL zz (fun h2 => ?_) fun out h1 h2 => ⟨_, rfl, ?_⟩) (PyProof.Rows.args_list_sort _)))
  · refine tups_sortable (s := { s with heap := h'.push (seqObj "list" acc.toList.toArray 0), toks := tk }) h2 hd1 (fun v hm => ⟨(hv v hm).1.keeps fun b o e _ => Heap.get?_push_of_some _ e, (hv v hm).2⟩) fun o e => ?_
    have e' : some o = some (seqObj "list" acc.toList.toArray 0) := e.symm.trans hoL
    cases e'
    intro c
    exact absurd (Value.type.inj c) (by decide)
  · have pm : (out.map backV).Perm ((ks.map fun x => x.2.1).map V.ref) := by
      have := h2.perm.map backV
      rw [ea, List.map_map] at this
      exact this
    have h3 : ∀ u ∈ out, ∃ a, u = Value.ref a := fun u hu => by
      have hm := h2.perm.mem_iff.mp hu
      rw [ea] at hm
      obtain ⟨t, _, e⟩ := List.mem_map.mp hm
      exact ⟨t, e.symm⟩
    have pw : (out.map backV).Pairwise fun x y => TS.code B (hInts H x) ≤ TS.code B (hInts H y) :=
      List.pairwise_map.mpr (h1.imp fun {x y} h => Int.not_lt.mp (of_decide_eq_false h))
    obtain ⟨ms, pm2, pw2, hm⟩ := rows_out hR pm pw
    obtain ⟨ep', he'⟩ := PyProof.Rows.sortedHeap_at (vs := acc.toList) (out := out.toArray) hoL
    refine wpAny_pure ⟨_, rfl, .ref h'.objs.size, upd H h'.objs.size (.lst (out.map backV)), I1.laid (t' := tk) (fun b u e => ?_) (Nat.le_refl _) ⟨?_, out, ep', vals_back h3, he'⟩, rfl, q ms _ _ pm2 pw2 hm (I1.hok.fresh (Nat.le_refl _))⟩
    · have hb : b < h'.objs.size := Heap.lt_size e
      rw [PyProof.Rows.sortedHeap_old (Nat.ne_of_lt hb) (by rw [size_push']; exact Nat.lt_succ_of_lt hb)]
      exact Heap.get?_push_of_some _ e
    · rw [pm.length_eq, List.length_map, List.length_map]
      omega
end
end Gs
set_option Elab.async false
set_option linter.all false
set_option maxRecDepth 100000
set_option maxHeartbeats 4000000
/-! D: dicts with tuples for keys: pop of a key that is there. -/
namespace Gs
open PySem PySem.Spec PyProof.Rows L2 Gd Com
section
variable {K : Type} [DecidableEq K] {prog : Program} {w : World} {knd : HeapKind prog w K}
theorem meetsPopIs {d b : Addr} {k : K} (hd : (d == sysModules) = false) :
    MeetsIn prog w (Builtin.«dict.pop» ⟨[.ref d, .ref b], []⟩) (fun A R s => ∃ xs p, knd.room A.in1 ∧ knd.is s.heap k b ∧ s.heap.DictOfH knd d xs ∧ xs.length ≤ sizeLine ∧ atKey xs k = some p ∧
      ∀ h' tk, h'.DictOfH knd d (DT.dropH xs k) → Heap.SameBut d s.heap h' → R (.ok (.ret p.2)) { s with heap := h', toks := tk }) :=
  .of_wp fun A R s ⟨xs, p, hu, hkey, hm, hsz, hp, hR⟩ => by
    obtain ⟨o, es, ep, ho, hc, hdat, he, his, hn⟩ := id hm
    have hes : es.size = xs.length := size_of_entries he
    have part : (keyPart (Value.ref b)).isSome = false := rfl
    unfold Builtin.«dict.pop»
    refine wpAny_bind ?_
    unfold Builtin.Dict.keyAndDefault
    refine wpAny_bind (wpAny_notOrdered_dict hm.typeIs ?_)
    show wpAny _ _ (pure (d, Value.ref b, none)) _ _ s
    refine wpAny_pure ?_
    simp only [part, Bool.false_eq_true, if_false]
    refine wpAny_bind (wpAny_dictEntries ho hdat (wpAny_bind (wpAny_pure ?_)))
    cases hem : es.isEmpty with
    | true =>
      have h0 : xs = [] := by
        have z : es.size = 0 := by simpa using hem
        exact List.length_eq_zero_iff.mp (by omega)
      rw [h0] at hp
      exact absurd (show (none : Option (Addr × Value)) = some p from hp) (by simp)
    | false =>
      simp only [Bool.false_eq_true, if_false]
      refine wpAny_bind (DT.takeH hu hkey hm hsz (fun no => ?_) fun p' e hp' hev h' hm' hs' => ?_)
      · rw [no] at hp
        cases hp
      · rw [hp] at hp'
        cases hp'
        simp only [Option.isNone_some, Bool.false_eq_true, if_false]
        exact wpAny_bind (wpAny_letGo (wpAny_pure ⟨e.val, rfl, by rw [hev]; exact hR h' _ hm' hs'⟩))
end
section
variable {X : Cx}
/-- d.pop(k), k a tuple that is there -/
def rPopK : V → List V → Hp → VK → Prop := fun x xs H Q => ∃ (a : Addr) (kvs : List (List L2.Key × V)) (k : List L2.Key) (b : Addr) (v : V), x = .ref a ∧ xs = [.ref b] ∧ H a = some (.dT kvs) ∧ H b = some (.tup (k.map kV)) ∧ valV kvs k = some v ∧
  Q v (upd H a (.dT (dropK kvs k)))
theorem mt_popK (hu : X.A.units + 1 < cLine) : MtR X "dict.pop" rPopK := by
  intro pins s σ H x xs v us Q I rx rxs h
  obtain ⟨a, kvs, k, b, v0, rfl, rfl, ha, hb, ev, q⟩ := h
  cases rx
  obtain ⟨u1, rfl, r1⟩ := vals1 rxs
  cases r1
  obtain ⟨z, hd, xs', rel, dd⟩ := L2.dt_of I.hok ha
  have hz : xs'.length ≤ sizeLine := by rw [← Paired.length rel]; exact z
  have r := rel.val k
  rw [ev] at r
  obtain ⟨p, hp, rv⟩ : ∃ p, atKey xs' k = some p ∧ RelV v0 p.2 := by
    cases e : atKey xs' k with
    | none =>
      rw [e] at r
      exact (show False from r).elim
    | some p =>
      rw [e] at r
      exact ⟨p, rfl, r⟩
  refine call_meetsIn PySem.F.slot_dict_pop dd.typeIs PySem.F.entry_dict_pop (PySem.F.args_dict_pop_2 _ _) (meetsPopIs (knd := tupleKind (mixKind X.prog X.w)) (k := k) hd)
    ⟨xs', p, tupleKind_room_in1 hu, key_of I.hok hb, dd, hz, hp, fun h' tk dd' hs => ?_⟩
  obtain ⟨o, es, ep, hq, h2, h3, h4, _, h5⟩ := dd'
  have stay : ∀ (c : Addr) (ys : List V), H c = some (.tup ys) → upd H a (.dT (dropK kvs k)) c = some (.tup ys) := fun c ys ec => by
    rw [upd_ne (ne_of ec ha (fun z => nomatch z))]
    exact ec
  have I2 : Inv X pins σ (upd H a (.dT (dropK kvs k))) { s with heap := h', toks := tk } :=
    d_write I (by rw [ha]; exact True.intro) hs ⟨o, hq⟩ ⟨Nat.le_trans (dropK_le kvs k) z, hd, _, (L2.DX.KT_drop k rel).keeps stay, o, es, ep, hq, h2, h3, h4, h5⟩
  exact ⟨v0, _, I2, rv, q⟩
end
end Gs
set_option Elab.async false
set_option linter.all false
set_option maxRecDepth 100000
set_option maxHeartbeats 4000000
/-! D2: the values and the items of a dict with tuples for keys. -/
namespace Gs
open PySem PySem.Spec PyProof.Rows L2 Gd Com
section
variable {X : Cx} {pins : List (Addr × Obj)} {σ : L2.St} {H : Hp} {s : Shared} {d : Addr} {o : Obj}
/-- what stands at the locked dict -/
theorem frz_at {kvs : List (List Key × V)} (I : Inv X pins σ H s) (h : H d = some (.frz o (.dT kvs))) :
    (d == sysModules) = false ∧ s.heap.get? d = some o ∧ o.ExactDict ∧ ∃ (es : Array DictEntry) (ep : Nat), o.data = .dict es ep ∧ es.size = kvs.length ∧
      ∀ (i : Nat) (k : List Key) (v : V), kvs[i]? = some (k, v) → ∃ (en : DictEntry) (q : Addr), es[i]? = some en ∧ en.key = .ref q ∧ H q = some (.tup (k.map kV)) ∧ RelV v en.val := by
  obtain ⟨hd, z, hs, xs, pr, o', es, ep, ho, hx, hdt, he, _⟩ := I.hok d _ h
  rw [hd] at ho
  cases ho
  have l1 : es.size = xs.length := size_of_entries he
  have l2 : kvs.length = xs.length := Paired.length pr
  refine ⟨hs, hd, hx, es, ep, hdt, by omega, ?_⟩
  intro i k v e
  obtain ⟨b, hb, e1, e2, e3⟩ := L2.paired_get pr e
  have q := entry_at he i
  rw [hb] at q
  exact ⟨_, b.2.1, q, rfl, e2, e3⟩
end
def Itdt (d : Addr) (o : Obj) (kvs : List (List Key × V)) : It :=
  ⟨fun i H => H d = some (.frz o (.dT kvs)) ∧ i < kvs.length, fun i H x H' => H' = H ∧ ∃ k, kvs[i]? = some (k, x), fun i H => H d = some (.frz o (.dT kvs)) ∧ kvs.length ≤ i⟩
def Itit (d : Addr) (o : Obj) (kvs : List (List Key × V)) : It :=
  ⟨fun i H => H d = some (.frz o (.dT kvs)) ∧ i < kvs.length,
    fun i H x H' => ∃ T k v q, kvs[i]? = some (k, v) ∧ x = .ref T ∧ H T = none ∧ H q = some (.tup (k.map kV)) ∧ H' = upd H T (.tup [.ref q, v]),
    fun i H => H d = some (.frz o (.dT kvs)) ∧ kvs.length ≤ i⟩
theorem walk_valsT {d : Addr} {o : Obj} {kvs : List (List Key × V)} : Walk (Itdt d o kvs) kvs.length (fun H => H d = some (.frz o (.dT kvs))) (fun i H x H' => H' = H ∧ ∃ k, kvs[i]? = some (k, x)) :=
  ⟨fun _ _ hi q => ⟨q, hi⟩, fun _ q => ⟨q, Nat.le_refl _⟩, fun _ _ _ _ _ _ y => y⟩
theorem walk_itemsT {d : Addr} {o : Obj} {kvs : List (List Key × V)} : Walk (Itit d o kvs) kvs.length (fun H => H d = some (.frz o (.dT kvs)))
    (fun i H x H' => ∃ T k v q, kvs[i]? = some (k, v) ∧ x = .ref T ∧ H T = none ∧ H q = some (.tup (k.map kV)) ∧ H' = upd H T (.tup [.ref q, v])) :=
  ⟨fun _ _ hi q => ⟨q, hi⟩, fun _ q => ⟨q, Nat.le_refl _⟩, fun _ _ _ _ _ _ y => y⟩
theorem fresh_ep {o : Obj} {es es' : Array DictEntry} {ep ep' : Nat} (h : o.data = .dict es ep) (h' : o.data = .dict es' ep') : es' = es ∧ ep' = ep := by
  rw [h] at h'
  cases h'
  exact ⟨rfl, rfl⟩
section
variable {P : Program} {w : World} {K : PySem.W.Frag} {tg : Expr} {d : Addr} {o : Obj} {es : Array DictEntry} {ep : Nat} {kvs : List (List Key × V)}
theorem turn_valsT (it : Addr) (hod : o.data = .dict es ep) : Turn P w K tg (Itdt d o kvs) [it] it (fun i h => h.IsValIter it d i kvs.length ep) := by
  refine ⟨by simp, ?_, fun i h h' st k => st.at fun oi e => k it (by simp) oi e, ?_, ?_, fun A i s Q E st h => wpAny_pyIter_valiter st h⟩
  · intro i h st b hb
    obtain rfl : b = it := by simpa using hb
    obtain ⟨oi, e, c, dd⟩ := st
    exact ⟨oi, e, fun v z => by rw [dd] at z; cases z⟩
  · intro X hP hw hK hc i pins s σ H E I hf st ⟨hd, hi⟩
    subst hP hw hK
    obtain ⟨g0, g1, g2, g3, g4, g5⟩ := hf it (by simp)
    obtain ⟨hs, at_, hx, es', ep', hdt, hsz, ent⟩ := frz_at I hd
    obtain ⟨rfl, rfl⟩ := fresh_ep hod hdt
    obtain ⟨⟨k, v⟩, hkv⟩ : ∃ p, kvs[i]? = some p := ⟨kvs[i], List.getElem?_eq_getElem hi⟩
    obtain ⟨en, q, hen, _, _, rv⟩ := ent i k v hkv
    obtain ⟨lt, een⟩ := Array.getElem?_eq_some_iff.mp hen
    rw [← hsz] at st
    refine wpAny_pyNext_values_item_raw st ⟨o, at_, hx, hdt⟩ lt fun h' st' sb => ?_
    have J : Inv X pins σ H { s with heap := h' } := I.turned (t' := s.toks) (fun b ob hb e => (sb.2 b hb).trans e) g0 g1 g3 g4 g5
    obtain ⟨oi, e, c, dd⟩ := id st'
    refine ⟨_, rfl, go_of (s := { s with heap := h' }) e c dd (by decide) ⟨v, H, J, by rw [een]; exact rv, ⟨rfl, k, hkv⟩, ?_, fun b hb => (hf b hb).1⟩⟩
    show h'.IsValIter it d (i + 1) kvs.length _
    rw [← hsz]
    exact st'
  · intro X hP hw hK hc i pins s σ H E I hf st ⟨hd, hi⟩
    subst hP hw hK
    obtain ⟨g0, g1, g2, g3, g4, g5⟩ := hf it (by simp)
    obtain ⟨hs, at_, hx, es', ep', hdt, hsz, ent⟩ := frz_at I hd
    obtain ⟨rfl, rfl⟩ := fresh_ep hod hdt
    rw [← hsz] at st
    exact wpAny_pyNext_values_end_raw (I.ok.hd hc) st ⟨o, at_, hx, hdt⟩ (by omega) fun h' eb => ⟨rfl, I.turned (t' := s.toks) (fun b ob hb e => eb b ob hb e) g0 g1 g3 g4 g5⟩
theorem turn_itemsT {elts : List Expr} {kk : Nat} {tpos : Pos} (it : Addr) (hod : o.data = .dict es ep) :
    Turn P w K (.Tuple elts kk tpos) (Itit d o kvs) [it] it (fun i h => ∃ ok ov, IsItemIter h it d i kvs.length ep ok ov) := by
  refine ⟨by simp, ?_, fun i h h' st k => let ⟨ok, ov, e⟩ := st; ⟨ok, ov, k it (by simp) _ e⟩, ?_, ?_, fun A i s Q E st h => let ⟨_, _, e⟩ := st; PySem.W.kcp_self e h⟩
  · intro i h st b hb
    obtain rfl : b = it := by simpa using hb
    obtain ⟨ok, ov, e⟩ := st
    exact ⟨_, e, fun v z => nomatch z⟩
  · intro X hP hw hK hc i pins s σ H E I hf st ⟨hd, hi⟩
    subst hP hw hK
    obtain ⟨hs, at_, hx, es', ep', hdt, hsz, ent⟩ := frz_at I hd
    obtain ⟨rfl, rfl⟩ := fresh_ep hod hdt
    obtain ⟨⟨k, v⟩, hkv⟩ : ∃ p, kvs[i]? = some p := ⟨kvs[i], List.getElem?_eq_getElem hi⟩
    obtain ⟨en, q, hen, hkey, hq, rv⟩ := ent i k v hkv
    obtain ⟨lt, een⟩ := Array.getElem?_eq_some_iff.mp hen
    obtain ⟨ok, ov, he⟩ := st
    rw [← hsz] at he
    have hlt : it < s.heap.objs.size := Heap.lt_size he
    refine wpAny_pyNext_items_item_raw he ⟨o, at_, hx, hdt⟩ lt fun h' ho hT hz hk => ?_
    rw [een] at ho hT
    refine ⟨_, rfl, wpAny_letOwnedTupleGo_items (s := { s with heap := h' }) ho fun h'' he' sb => ?_⟩
    have hT2 : h''.get? s.heap.objs.size = some { cls := .type "tuple", data := .seq #[en.key, en.val] } := (sb.2 _ (Nat.ne_of_gt hlt)).trans hT
    have two : Vals [.ref q, v] [en.key, en.val] := .cons (by rw [hkey]; rfl) (.cons rv .nil)
    have new : ObjOk X.prog X.w (upd H s.heap.objs.size (.tup [.ref q, v])) h'' s.heap.objs.size (.tup [.ref q, v]) :=
      ⟨by show 2 ≤ sizeLine; decide, [en.key, en.val], two, ⟨_, hT2, rfl, _, rfl⟩⟩
    have J : Inv X pins σ (upd H s.heap.objs.size (.tup [.ref q, v])) { s with heap := h'' } :=
      I.turnedNew (t' := s.toks) (ch := [it]) (fun b ob hb e => (sb.2 b (by simpa using hb)).trans (hk b ob (by simpa using hb) e)) hf (Nat.le_refl _) new
    refine ⟨.ref s.heap.objs.size, _, J, rfl, ⟨_, k, v, q, hkv, rfl, I.hok.fresh (Nat.le_refl _), hq, rfl⟩, ⟨en.key, en.val, ?_⟩, fun b hb => ?_⟩
    · rw [← hsz]; exact he'
    · obtain rfl : b = it := by simpa using hb
      rw [upd_ne (Nat.ne_of_lt hlt)]
      exact (hf b (by simp)).1
  · intro X hP hw hK hc i pins s σ H E I hf st ⟨hd, hi⟩
    subst hP hw hK
    obtain ⟨g0, g1, g2, g3, g4, g5⟩ := hf it (by simp)
    obtain ⟨hs, at_, hx, es', ep', hdt, hsz, ent⟩ := frz_at I hd
    obtain ⟨rfl, rfl⟩ := fresh_ep hod hdt
    obtain ⟨ok, ov, he⟩ := st
    rw [← hsz] at he
    exact wpAny_pyNext_items_end_raw (I.ok.hd hc) he ⟨o, at_, hx, hdt⟩ (by omega) fun h' eb => ⟨rfl, I.turned (t' := s.toks) (fun b ob hb e => eb b ob hb e) g0 g1 g3 g4 g5⟩
end
def iValsT (td : TE) : TI := fun σ H R => td σ H fun x H1 => ∃ d o kvs, x = .ref d ∧ H1 d = some (.frz o (.dT kvs)) ∧ R (Itdt d o kvs) H1
def iItemsT (td : TE) : TI := fun σ H R => td σ H fun x H1 => ∃ d o kvs, x = .ref d ∧ H1 d = some (.frz o (.dT kvs)) ∧ R (Itit d o kvs) H1
section
variable {X : Cx} {tg e : Expr} {td : TE} {apos cpos : Pos}
theorem pi_valuesT (he : PE X e td) (ab : attributeBase e "values" X.env (eval e X.env) = eval e X.env := by rfl) (ln : (apos.endLine == cpos.line) = true := by rfl) :
    PI X tg (.Call (.Attribute e "values" apos) [] [] cpos) (iValsT td) := by
  refine ⟨fun pins s σ H R I h => ?_⟩
  refine wpAny_Call_method (T := "dict") (id := "dict.values") ab rfl ln F.plainAttrs_dict F.slot_dict_values F.type_dict_values (thn (he.run pins s σ H _ I h) fun u s1 ⟨x, H1, J, rx, d, o, kvs, ex, hd, q⟩ => ?_)
  subst ex
  obtain rfl : u = Value.ref d := rx
  obtain ⟨hs, at_, hx, es, ep, hdt, hsz, ent⟩ := frz_at J hd
  have raw : s1.heap.DictRaw d es ep := ⟨o, at_, hx, hdt⟩
  refine ⟨raw.typeIs, fun a ea => ?_, ?_⟩
  · cases ea
    exact ⟨o, at_, hx.2.1⟩
  have J2 : Inv X pins σ H1 { s1 with heap := s1.heap.push { cls := .type "dict_values", data := .fields #[.ref d] } } := J.kept (t' := s1.toks) fun b ob q => Heap.get?_push_of_some _ q
  have fin : wpAny (model X.prog X.w) X.A (pyIter (.ref s1.heap.objs.size)) (PIE X pins σ tg R) X.xe { s1 with heap := s1.heap.push { cls := .type "dict_values", data := .fields #[.ref d] } } := by
    refine wpAny_pyIter_values_raw (d := d) ⟨_, Heap.get?_push_size _ rfl, rfl, rfl⟩ (raw.at fun o e => Heap.get?_push_of_some _ e) (pi_one (tk := s1.toks) J2 _ (turn_valsT _ hdt) ⟨_, Heap.get?_push_size _ rfl, rfl, ?_⟩ q)
    rw [hsz] <;> rfl
  show wpAny _ _ (callWith cpos (.builtin "dict.values") [.ref d] [] []) _ X.xe s1
  exact method_meetsIn F.slot_dict_values F.entry_dict_values rfl (PySem.evalArgs_none ⟨rfl, raw.typeIs, F.args_dict_values_1 _, _, meets_dict_values_raw d hs, ⟨_, _, raw⟩, fin⟩)
theorem pi_itemsT {elts : List Expr} {kk : Nat} {tpos : Pos} (he : PE X e td) (ab : attributeBase e "items" X.env (eval e X.env) = eval e X.env := by rfl) (ln : (apos.endLine == cpos.line) = true := by rfl) :
    PI X (.Tuple elts kk tpos) (.Call (.Attribute e "items" apos) [] [] cpos) (iItemsT td) := by
  refine ⟨fun pins s σ H R I h => ?_⟩
  refine wpAny_Call_method (T := "dict") (id := "dict.items") ab rfl ln F.plainAttrs_dict F.slot_dict_items F.type_dict_items (thn (he.run pins s σ H _ I h) fun u s1 ⟨x, H1, J, rx, d, o, kvs, ex, hd, q⟩ => ?_)
  subst ex
  obtain rfl : u = Value.ref d := rx
  obtain ⟨hs, at_, hx, es, ep, hdt, hsz, ent⟩ := frz_at J hd
  have raw : s1.heap.DictRaw d es ep := ⟨o, at_, hx, hdt⟩
  refine ⟨raw.typeIs, fun a ea => ?_, ?_⟩
  · cases ea
    exact ⟨o, at_, hx.2.1⟩
  have J2 : Inv X pins σ H1 { s1 with heap := s1.heap.push { cls := .type "dict_items", data := .fields #[.ref d] } } := J.kept (t' := s1.toks) fun b ob q => Heap.get?_push_of_some _ q
  have fin : wpAny (model X.prog X.w) X.A (pyIter (.ref s1.heap.objs.size)) (PIE X pins σ (.Tuple elts kk tpos) R) X.xe { s1 with heap := s1.heap.push { cls := .type "dict_items", data := .fields #[.ref d] } } := by
    refine wpAny_pyIter_items_raw (d := d) ⟨_, Heap.get?_push_size _ rfl, rfl, rfl⟩ (raw.at fun o e => Heap.get?_push_of_some _ e) (pi_one (tk := s1.toks) J2 _ (turn_itemsT _ hdt) ⟨.none, .none, ?_⟩ q)
    rw [← hsz]
    exact Heap.get?_push_size _ rfl
  show wpAny _ _ (callWith cpos (.builtin "dict.items") [.ref d] [] []) _ X.xe s1
  exact method_meetsIn F.slot_dict_items F.entry_dict_items rfl (PySem.evalArgs_none ⟨rfl, raw.typeIs, F.args_dict_items_1 _, _, meets_dict_items_raw d hs, ⟨_, _, raw⟩, fin⟩)
end
end Gs
set_option Elab.async false
set_option linter.all false
set_option maxRecDepth 100000
set_option maxHeartbeats 4000000
/-! DC: dict comprehensions whose keys may be tuples, with one for and with two. -/
namespace Gd
open PySem PySem.Spec PyProof.Rows L2
section
variable {X : Cx} {pins : List (Addr × Obj)} {σ : L2.St} {H H' : Hp} {s : Shared} {a : Addr} {y v : V} {u r : Value}
/-- what a comprehension does with a key and a value -/
theorem d_putAny {E : Value → Shared → Prop} {Q : Unit → Shared → Prop} (hu : X.A.units + 1 < cLine) (I : Inv X pins σ H s) (g : DPut H a y v H') (ry : RelV y u) (rv : RelV v r) (h : ∀ t, Inv X pins σ H' t → Q () t) :
    wpAny (model X.prog X.w) X.A (dictSet a u r) Q E s := by
  rcases g with ⟨kvs, k, e, ey, l, eH⟩ | ⟨kvs, k, b, e, ey, eb, l, eH⟩
  · subst ey eH
    exact d_dictSet I e l ry rv h
  · subst ey eH
    have eu : u = Value.ref b := ry
    subst eu
    obtain ⟨z, hd, xs, rel, dd⟩ := dt_of I.hok e
    have l1 := Paired.length rel
    have l2 := length_putK kvs k v
    refine wpAny_dictSet_heap (hsz := by omega) (show (tupleKind (mixKind X.prog X.w)).room X.A from Nat.lt_of_succ_lt hu) (key_of I.hok eb) dd fun g2 dd2 sb => h _ ?_
    obtain ⟨q, es, ep, c1, c2, c3, c4, _, c5⟩ := dd2
    have stay : ∀ (c : Addr) ys, H c = some (.tup ys) → (upd H a (.dT (putK kvs k v))) c = some (.tup ys) := fun c ys ec => (upd_ne (ne_of ec e (fun z => nomatch z))).trans ec
    exact d_write I (by rw [e]; exact True.intro) sb ⟨q, c1⟩ ⟨by omega, hd, _, (rel.put k eb rv).keeps stay, q, es, ep, c1, c2, c3, c4, c5⟩
end
/-- the two kinds of an empty dict -/
def Emp (o : HO) : Prop := o = .dK [] ∨ o = .dT []
theorem emp_ok {P : Program} {w : World} {H : Hp} {h : Heap} {o : HO} (e : Emp o) (big : sysModules < h.objs.size) : ObjOk P w H (h.push { cls := .type "dict", data := .dict #[] }) h.objs.size o := by
  rcases e with rfl | rfl
  · exact dk_empty h big
  · exact dt_empty h big
/-! the loops of the machine -/
section
variable {P : Program} {w : World} {A : Around} {R : Result → Shared → Prop} {s : Shared} {kx vx t0 i0 t1 i1 : Expr} {fs0 fs1 : List Expr} {sc : Scope} {pos : Pos} {it : Value} {D : Addr} {env : Env}
def tests (fs : List Expr) (env : Env) : Sem Bool := forIn fs true fun c r => if r = true then do let ok ← isTrue c env (eval c env); pure (ForInStep.yield ok) else pure (ForInStep.yield r)
abbrev Nb (P : Program) (w : World) (A : Around) (env : Env) (R : Result → Shared → Prop) := notedBy (model P w) A env fun e t => R (.error e) t
/-- the next item, stored and tested: then go, or sk -/
def goNext (P : Program) (w : World) (A : Around) (tg : Expr) (fs : List Expr) (it : Value) (env : Env) (R : Result → Shared → Prop) (go sk : Shared → Prop) (s : Shared) : Prop :=
  wpAny (model P w) A (pyNext it) (fun r u => match r with
    | none => R (.ok .next) u
    | some v => wpAny (model P w) A (letOwnedTupleGo tg it v) (fun _ u1 => wpAny (model P w) A (assign tg env v) (fun _ u2 =>
      wpAny (model P w) A (tests fs env) (fun ok u3 => if ok = true then go u3 else sk u3) (Nb P w A env R) u2) (Nb P w A env R) u1) (Nb P w A env R) u) (Nb P w A env R) s
/-- key, value, and the store -/
def keyPut (P : Program) (w : World) (A : Around) (kx vx : Expr) (D : Addr) (env : Env) (R : Result → Shared → Prop) (q : Shared → Prop) (s : Shared) : Prop :=
  wpAny (model P w) A (eval kx env) (fun k u => wpAny (model P w) A (eval vx env) (fun v u1 => wpAny (model P w) A (dictSet D k v) (fun _ u2 => q u2) (Nb P w A env R) u1) (Nb P w A env R) u) (Nb P w A env R) s
theorem loop_one (I : Nat → Shared → Prop) (turn : ∀ n s, I n s → goNext P w A t0 fs0 it env R (keyPut P w A kx vx D env R fun u => ∃ m, m < n ∧ I m u) (fun u => ∃ m, m < n ∧ I m u) s) (n : Nat) (h : I n s) :
    codeAny (model P w) A (.compLoop (.DictComp kx vx [⟨t0, i0, fs0, 0⟩] sc pos) 0 it (.ref D) env) R s := compLoop_anyD I turn n h
abbrev two (kx vx t0 i0 t1 i1 : Expr) (fs0 fs1 : List Expr) (sc : Scope) (pos : Pos) : Expr := .DictComp kx vx [⟨t0, i0, fs0, 0⟩, ⟨t1, i1, fs1, 0⟩] sc pos
/-- the second walk begins -/
def startTwo (P : Program) (w : World) (A : Around) (kx vx t0 i0 t1 i1 : Expr) (fs0 fs1 : List Expr) (sc : Scope) (pos : Pos) (D : Addr) (env : Env) (R : Result → Shared → Prop) (q : Shared → Prop) (s : Shared) : Prop :=
  wpAny (model P w) A (eval i1 env) (fun x u => wpAny (model P w) A (pyIter x) (fun j u1 => codeAny (model P w) A (.compStart (two kx vx t0 i0 t1 i1 fs0 fs1 sc pos) 1 j (.ref D) env) (fun r t => match r with
    | .ok _ => q t
    | .error _ => False) u1) (Nb P w A env R) u) (Nb P w A env R) s
theorem turn_out : compTurn (two kx vx t0 i0 t1 i1 fs0 fs1 sc pos) 0 it (.ref D) env = (do
    standAt i0.pos
    match ← pyNext it with
    | none => pure (.done .next)
    | some v =>
      letOwnedTupleGo t0 it v
      assign t0 env v
      let ok ← tests fs0 env
      if ok then
        let x ← eval i1 env
        standAt i1.pos
        let x ← foldedSetIterable i1 env x
        let _ ← runOwn (.compStart (two kx vx t0 i0 t1 i1 fs0 fs1 sc pos) 1 (← holding [x] (pyIter x)) (.ref D) env) env
      again (.compLoop (two kx vx t0 i0 t1 i1 fs0 fs1 sc pos) 0 it (.ref D) env)) := by rfl
theorem turn_in : compTurn (two kx vx t0 i0 t1 i1 fs0 fs1 sc pos) 1 it (.ref D) env = (do
    standAt i1.pos
    match ← pyNext it with
    | none => pure (.done .next)
    | some v =>
      letOwnedTupleGo t1 it v
      assign t1 env v
      let ok ← tests fs1 env
      if ok then
        (do
          let k ← eval kx env
          let v ← holding [k] (eval vx env)
          standAt { kx.pos with endLine := vx.pos.endLine, endCol := vx.pos.endCol }
          holding [k, v] (dictSet D k v))
      again (.compLoop (two kx vx t0 i0 t1 i1 fs0 fs1 sc pos) 1 it (.ref D) env)) := by rfl
/-- behind the tests -/
theorem after_tests {α : Type} {K : Bool → Sem α} {Q : α → Shared → Prop} {E : Value → Shared → Prop} {go sk : Shared → Prop} {tm : Sem Bool} {u : Shared} (h : wpAny (model P w) A tm (fun ok t => if ok = true then go t else sk t) E u)
    (yes : ∀ t, go t → wpAny (model P w) A (K true) Q E t) (no : ∀ t, sk t → wpAny (model P w) A (K false) Q E t) : wpAny (model P w) A (tm >>= K) Q E u :=
  wpAny_bind (wpAny_mono h (fun ok t ht => by
    cases ok with
    | false => exact no t ht
    | true => exact yes t ht) fun _ _ z => z)
theorem loop_out (hs : ∀ x, foldedSetIterable i1 env x = pure x) (I : Nat → Shared → Prop)
    (turn : ∀ n s, I n s → goNext P w A t0 fs0 it env R (startTwo P w A kx vx t0 i0 t1 i1 fs0 fs1 sc pos D env R fun u => ∃ m, m < n ∧ I m u) (fun u => ∃ m, m < n ∧ I m u) s) (n : Nat) (h : I n s) :
    codeAny (model P w) A (.compLoop (two kx vx t0 i0 t1 i1 fs0 fs1 sc pos) 0 it (.ref D) env) R s := by
  refine codeAny_loop rfl I (fun k t hI => ?_) n h
  show wpAny _ A ((compTurn (two kx vx t0 i0 t1 i1 fs0 fs1 sc pos) 0 it (.ref D) env).onRaise (fun x => do noteFrame x env; theTreesLotGoes x)) _ _ t
  refine wpAny_noted ?_
  rw [turn_out]
  refine wpAny_bind (wpAny_standAt (wpAny_bind (wpAny_mono (turn k t hI) (fun r t1' h1 => ?_) fun _ _ z => z)))
  cases r with
  | none => exact wpAny_pure h1
  | some v =>
    refine wpAny_bind (wpAny_mono h1 (fun _ t2 h2 => wpAny_bind (wpAny_mono h2 (fun _ t3 h3 => ?_) fun _ _ z => z)) fun _ _ z => z)
    refine after_tests h3 (fun t4 h4 => ?_) fun t4 h4 => wpAny_pure ⟨rfl, h4⟩
    refine wpAny_bind (wpAny_mono h4 (fun x t5 h5 => ?_) fun _ _ z => z)
    refine wpAny_bind (wpAny_standAt (wpAny_bind (wpAny_of_eq (hs x) (wpAny_bind (wpAny_holding (wpAny_mono h5 (fun j t6 h6 => ?_) fun _ _ z => z))))))
    refine wpAny_bind (wpAny_runOwn ?_)
    rw [Around.mark_none]
    refine codeAny_mono h6 fun r t7 h7 => ?_
    cases r with
    | ok f => first | exact wpAny_pure ⟨rfl, h7⟩ | exact wpAny_bind (wpAny_pure (wpAny_pure ⟨rfl, h7⟩))
    | error e => exact h7.elim
theorem loop_in (I : Nat → Shared → Prop) (turn : ∀ n s, I n s → goNext P w A t1 fs1 it env R (keyPut P w A kx vx D env R fun u => ∃ m, m < n ∧ I m u) (fun u => ∃ m, m < n ∧ I m u) s) (n : Nat) (h : I n s) :
    codeAny (model P w) A (.compLoop (two kx vx t0 i0 t1 i1 fs0 fs1 sc pos) 1 it (.ref D) env) R s := by
  refine codeAny_loop rfl I (fun k t hI => ?_) n h
  show wpAny _ A ((compTurn (two kx vx t0 i0 t1 i1 fs0 fs1 sc pos) 1 it (.ref D) env).onRaise (fun x => do noteFrame x env; theTreesLotGoes x)) _ _ t
  refine wpAny_noted ?_
  rw [turn_in]
  refine wpAny_bind (wpAny_standAt (wpAny_bind (wpAny_mono (turn k t hI) (fun r t1' h1 => ?_) fun _ _ z => z)))
  cases r with
  | none => exact wpAny_pure h1
  | some v =>
    refine wpAny_bind (wpAny_mono h1 (fun _ t2 h2 => wpAny_bind (wpAny_mono h2 (fun _ t3 h3 => ?_) fun _ _ z => z)) fun _ _ z => z)
    refine after_tests h3 (fun t4 h4 => ?_) fun t4 h4 => wpAny_pure ⟨rfl, h4⟩
    exact wpAny_bind (wpAny_bind (wpAny_mono h4 (fun k t5 h5 => wpAny_bind (wpAny_holding (wpAny_mono h5 (fun v t6 h6 => wpAny_bind (wpAny_standAt (wpAny_holding (wpAny_mono h6 (fun _ t7 h7 => wpAny_pure ⟨rfl, h7⟩) fun _ _ z => z)))) fun _ _ z => z))) fun _ _ z => z))
theorem start_in (h0 : codeAny (model P w) A (.compLoop (two kx vx t0 i0 t1 i1 fs0 fs1 sc pos) 1 it (.ref D) env) R s)
    (h : wpAny (model P w) A (pyIter it) (fun j u => codeAny (model P w) A (.compLoop (two kx vx t0 i0 t1 i1 fs0 fs1 sc pos) 1 j (.ref D) env) R u) (Nb P w A env R) s) :
    codeAny (model P w) A (.compStart (two kx vx t0 i0 t1 i1 fs0 fs1 sc pos) 1 it (.ref D) env) R s := by
  refine codeAny_of_tree ?_
  show wpAny _ _ ((compStart (two kx vx t0 i0 t1 i1 fs0 fs1 sc pos) 1 it (.ref D) env).onRaise (fun x => do noteFrame x env; standAt theWindowsPlace)) _ _ s
  refine wpAny_notedAt ?_
  unfold compStart
  show wpAny _ _ (ask >>= _) _ _ s
  refine wpAny_bind (wpAny_askSetting (wpAny_ite ?_))
  split
  · first | exact wpAny_bind (wpAny_pure (wpAny_pure ⟨rfl, h0⟩)) | exact wpAny_pure ⟨rfl, h0⟩
  · first
      | exact wpAny_bind (wpAny_rule (wpAny_bind (wpAny_standAt (wpAny_bind (wpAny_mono h (fun j u z => wpAny_pure ⟨rfl, z⟩) fun _ _ z => z)))))
      | (refine wpAny_bind (wpAny_rule ?_); show wpAny _ _ (standAt i1.pos >>= _) _ _ s; exact wpAny_bind (wpAny_standAt (wpAny_bind (wpAny_mono h (fun j u z => wpAny_pure ⟨rfl, z⟩) fun _ _ z => z))))
end
section
variable {X : Cx}
abbrev Body := L2.St → Hp → Addr → (Hp → Prop) → Prop
/-- a dict comprehension: o0 the empty dict that it begins with, body what a turn does behind the tests -/
def tDcA (wi : TI) (g : TG) (tt : TT) (body : Body) (vs : List Nat) (o0 : HO) : TE := fun σ H Q => wi σ H fun J H1 => ∀ D, H1 D = none → ∃ W : Nat → Nat → Hp → Prop, (∃ m, W 0 m (upd H1 D o0)) ∧ ∀ i m H, W i m H →
  (J.stop i H ∧ Q (.ref D) H) ∨ (J.go i H ∧ ∃ Nx : Hp → Prop, (∀ H', Nx H' → ∃ m', m' < m ∧ W (i + 1) m' H') ∧
    ∀ x H', J.yld i H x H' → g x (wipe σ vs) H' fun σ2 H2 => wipe σ2 vs = wipe σ vs ∧ tt σ2 H2 fun b H3 => if b = true then body σ2 H3 D Nx else Nx H3)
def bOne (tk tv : TE) : Body := fun σ H D Nx => tk σ H fun y H4 => tv σ H4 fun z H5 => ∃ H6, DPut H5 D y z H6 ∧ Nx H6
def bTwo (wi1 : TI) (g1 : TG) (tt1 : TT) (tk tv : TE) (vs1 : List Nat) : Body := fun σ2 H3 D Nx => wi1 σ2 H3 fun J1 H4 => ∃ W1 : Nat → Nat → Hp → Prop, (∃ m, W1 0 m H4) ∧ ∀ j k H, W1 j k H →
  (J1.stop j H ∧ Nx H) ∨ (J1.go j H ∧ ∃ N1 : Hp → Prop, (∀ H', N1 H' → ∃ k', k' < k ∧ W1 (j + 1) k' H') ∧
    ∀ x H', J1.yld j H x H' → g1 x (wipe σ2 vs1) H' fun σ3 H5 => wipe σ3 vs1 = wipe σ2 vs1 ∧ tt1 σ3 H5 fun b H6 => if b = true then bOne tk tv σ3 H6 D N1 else N1 H6)
abbrev MB := Env → (Result → Shared → Prop) → Addr → (Shared → Prop) → Shared → Prop
/-- the machine's way through a turn is what body reads -/
def BodyRun (Y : Cx) (ce : Env) (vs : List Nat) (body : Body) (B : MB) : Prop := ∀ (pins : List (Addr × Obj)) (σ : L2.St) (H : Hp) (s : Shared) (D : Addr) (Nx : Hp → Prop) (post : Shared → Prop) (R : Result → Shared → Prop), Inv Y pins σ H s → body σ H D Nx →
  (∀ (σ' : L2.St) (t : Shared) (H' : Hp), Inv Y pins σ' H' t → σ'.length = σ.length → (∀ (j : Nat) v, j ∉ vs → σ[j]? = some (some v) → σ'[j]? = some (some v)) → Nx H' → post t) → B ce R D post s
theorem dca_core {pins : List (Addr × Obj)} {s : Shared} {σ : L2.St} {H : Hp} {Q : VK} {kx vx tg iter : Expr} {fs : List Expr} {rest : List Comprehension} {sc : Scope} {own : List (Str × Nat)} {pos pos' : Pos} {wi : TI} {g : TG} {tt : TT} {body : Body} {B : MB} {o0 : HO} {use : Option (Value → Sem Unit)} {Qf : Value → Shared → Prop}
    (he : Emp o0) (calm : X.calm = true) (nd : X.N.Nodup) (I : Inv X pins σ H s) (walks : PI X tg iter wi) (blk : BlkOk X.N X.env.scope sc own)
    (hg : InBlk X sc fun Y => PG Y tg g) (ht : InBlk X sc fun Y => PTs Y fs tt)
    (hb : ∀ s H C cl fp, BodyRun (X.blk s H sc (compEnvC sc cl C X.env) fp) (compEnvC sc cl C X.env) (own.map (·.2)) body B)
    (loop : ∀ (ce : Env) (R : Result → Shared → Prop) (it : Value) (D : Addr) (J : Nat → Shared → Prop), (∀ n s, J n s → goNext X.prog X.w X.A tg fs it ce R (B ce R D fun u => ∃ m, m < n ∧ J m u) (fun u => ∃ m, m < n ∧ J m u) s) →
      ∀ n s, J n s → codeAny (model X.prog X.w) X.A (.compLoop (.DictComp kx vx (⟨tg, iter, fs, 0⟩ :: rest) sc pos) 0 it (.ref D) ce) R s)
    (hs : ∀ x, foldedSetIterable iter X.env x = pure x)
    (h : tDcA wi g tt body (own.map (·.2)) o0 σ H Q)
    (out : ∀ D C t m H', Inv X pins σ H' t → Q (.ref D) H' → t.heap.Ns C m → FpOk X pins H' C → compPost (model X.prog X.w) X.A X.xe use Qf (.ref D) C (.ok .next) t) :
    wpAny (model X.prog X.w) X.A (comprehension (.DictComp kx vx (⟨tg, iter, fs, 0⟩ :: rest) sc pos) sc X.env pos' newDict false (eval iter X.env) use) Qf X.xe s := by
  have free : ∀ y ∈ sc.names, y.2 = .free → ∃ c, X.env.cells.lookup y.1 = some c := fun y hy e => (blk.free y hy e).elim (fun k => I.ok.has _ (.inl k)) fun k => I.ok.has _ (.inr k)
  refine wpAny_comprehension_free (use := use) rfl hs (closure_ok free) blk.kind (fun y hy e => by rw [blk.uniq y hy, e]) (thn (walks.run pins s σ H _ I h) fun xv sa ha => thn ha fun itv sb hb' => ?_)
  obtain ⟨it, fp, tn, J, H2, e, I2, T, at0, f2, q⟩ := hb'
  subst e
  refine wpAny_newObj_type (newEnv_comp ?_)
  generalize hD : sb.heap.objs.size = D
  obtain ⟨W, ⟨m0, w0⟩, turn⟩ := q D (I2.hok.fresh (Nat.le_of_eq hD))
  generalize h3 : ({ sb with heap := sb.heap.push { cls := .type "dict", data := .dict #[] } } : Shared) = s3
  have hh3 : s3.heap = sb.heap.push { cls := .type "dict", data := .dict #[] } := by rw [← h3]
  have I3 : Inv X pins σ (upd H2 D o0) s3 := by
    rw [← h3]
    refine I2.laid (t' := sb.toks) (fun _ _ z => Heap.get?_push_of_some _ z) (Nat.le_of_eq hD) ?_
    rw [← hD]
    exact emp_ok he I2.big
  have small : ∀ b ∈ fp, b < sb.heap.objs.size := fun b hb => (T.obj _ _ at0 b hb).elim fun o z => Heap.lt_size z.1
  have f3 : ∀ b ∈ fp, FpOk X pins (upd H2 D o0) b ∧ b < s3.heap.objs.size := fun b hb => by
    have lt := small b hb
    have ne : b ≠ D := by rw [← hD]; exact Nat.ne_of_lt lt
    exact ⟨⟨(upd_ne ne).trans (f2 b hb).1, (f2 b hb).2⟩, by rw [hh3, Heap.size_push]; exact Nat.lt_succ_of_lt lt⟩
  have at3 : tn 0 s3.heap := T.keep _ _ _ at0 fun b _ o z => by rw [hh3]; exact Heap.get?_push_of_some _ z
  have I4 := block_start I3 blk nd f3
  have pg := hg s3 (upd H2 D o0) s3.heap.objs.size (cellsFrom (s3.heap.objs.size + 1) sc.names (cloFrom X.env.cells sc.names [])) fp
  have pt := ht s3 (upd H2 D o0) s3.heap.objs.size (cellsFrom (s3.heap.objs.size + 1) sc.names (cloFrom X.env.cells sc.names [])) fp
  have pb := hb s3 (upd H2 D o0) s3.heap.objs.size (cellsFrom (s3.heap.objs.size + 1) sc.names (cloFrom X.env.cells sc.names [])) fp
  show codeAny _ _ (.compStart (.DictComp kx vx (⟨tg, iter, fs, 0⟩ :: rest) sc pos) 0 (.ref it) (.ref D) (compEnvC sc (cellsFrom (s3.heap.objs.size + 1) sc.names (cloFrom X.env.cells sc.names [])) s3.heap.objs.size X.env)) (compPost (model X.prog X.w) X.A X.xe use Qf (.ref D) s3.heap.objs.size) { s3 with heap := pushCells (s3.heap.push { cls := .type "dict", data := .dict #[] }) sc.names }
  have none3 : ∀ b ∈ fp, (upd H2 D o0) b = none := fun b hb => (f3 b hb).1.1
  generalize hce : compEnvC sc (cellsFrom (s3.heap.objs.size + 1) sc.names (cloFrom X.env.cells sc.names [])) s3.heap.objs.size X.env = ce at I4 pg pt pb ⊢
  have loc : ce.locals = s3.heap.objs.size := by subst hce; rfl
  generalize hH3 : upd H2 D o0 = H3 at I3 I4 pg pt pb w0 none3 f3
  generalize h4 : ({ s3 with heap := pushCells (s3.heap.push { cls := .type "dict", data := .dict #[] }) sc.names } : Shared) = s4 at I4 ⊢
  have at4 : tn 0 s4.heap := T.keep _ _ _ at3 fun b _ o z => by rw [← h4]; exact pushCells_keeps _ _ _ _ (Heap.get?_push_of_some _ z)
  have fpo : ∀ {σ' : L2.St} {H' : Hp} {t : Shared}, Inv (X.blk s3 H3 sc ce fp) [] σ' H' t → (∀ b ∈ fp, H' b = none) → ∀ b ∈ fp, FpOk (X.blk s3 H3 sc ce fp) [] H' b := fun {σ' H' t} K n b hb =>
    ⟨n b hb, (K.ok.exf b hb).1, K.ok.exfs b hb, .inl hb, fun x c z => (K.ok.exf b hb).2 x c z, fun p hp => (nomatch (show p ∈ ([] : List (Addr × Obj)) from hp))⟩
  have all : codeAny (model X.prog X.w) X.A (.compLoop (.DictComp kx vx (⟨tg, iter, fs, 0⟩ :: rest) sc pos) 0 (.ref it) (.ref D) ce) (compPost (model X.prog X.w) X.A X.xe use Qf (.ref D) s3.heap.objs.size) s4 := by
    refine loop ce _ (.ref it) D (fun n t => ∃ i H', Inv (X.blk s3 H3 sc ce fp) [] (wipe σ (own.map (·.2))) H' t ∧ tn i t.heap ∧ (∀ b ∈ fp, H' b = none) ∧ W i n H') ?_ m0 s4 ⟨0, H3, I4, at4, none3, w0⟩
    rintro n s5 ⟨i, H5, I5, at5, n5, w5⟩
    rcases turn i n H5 w5 with ⟨stop, qq⟩ | ⟨go, Nx, hNx, step⟩
    · refine thnF (T.done (X.blk s3 H3 sc ce fp) rfl rfl rfl calm i [] s5 _ H5 (fun _ _ => False) I5 (fpo I5 n5) at5 stop) fun r s6 ⟨hr, I6⟩ => ?_
      subst hr
      have I7 : Inv X pins σ H5 s6 := I3.call' (ch := fp) I6.os I6.base I6.hok I6.bare fun b hb => ⟨(f3 b hb).1.2.2.2.1, (f3 b hb).1.2.1, (f3 b hb).1.2.2.2.2.1, (f3 b hb).1.2.2.2.2.2⟩
      have nC : H5 s3.heap.objs.size = none := by rw [← loc]; exact I6.free
      obtain ⟨m, hn, _⟩ := I6.loc
      exact out D s3.heap.objs.size s6 m H5 I7 qq (by rw [← loc]; exact hn) (I3.fpOk (Nat.le_refl _) nC)
    · refine thnF (T.item (X.blk s3 H3 sc ce fp) rfl rfl rfl calm i [] s5 _ H5 (fun _ _ => False) I5 (fpo I5 n5) at5 go) fun r s6 ⟨u, hr, h6⟩ => ?_
      subst hr
      refine thnF h6 fun _ s7 ⟨x, H7, I7, r7, y7, at7, n7⟩ => ?_
      have I7' := I7.pinned (fpo I7 n7) (T.obj _ _ at7)
      refine thnF (pg.run _ s7 _ H7 x u _ I7' r7 (step x H7 y7)) fun _ s8 ⟨σ8, H8, I8, hw, q8⟩ => ?_
      refine thnF (pt.run _ s8 σ8 H8 _ I8 q8) fun b s9 ⟨H9, I9, q9⟩ => ?_
      have fin : ∀ (σ9 : L2.St) (t : Shared) (H' : Hp), Inv (X.blk s3 H3 sc ce fp) ([] ++ pinsAt fp s7.heap) σ9 H' t → σ9.length = σ8.length → (∀ (j : Nat) v, j ∉ own.map (·.2) → σ8[j]? = some (some v) → σ9[j]? = some (some v)) → Nx H' →
          ∃ m, m < n ∧ ∃ i H', Inv (X.blk s3 H3 sc ce fp) [] (wipe σ (own.map (·.2))) H' t ∧ tn i t.heap ∧ (∀ b ∈ fp, H' b = none) ∧ W i m H' := fun σ9 t H' K hl hk nx => by
        obtain ⟨m', hm, w'⟩ := hNx H' nx
        have pin : ∀ b ∈ fp, ∀ o, s7.heap.get? b = some o → t.heap.get? b = some o ∧ H' b = none := fun b hb o z =>
          let y := K.pin (b, o) (List.mem_append_right _ (List.mem_append_right _ (mem_pinsAt hb z)))
          ⟨y.1, y.2.1⟩
        refine ⟨m', hm, i + 1, H', (K.unpinned (pins := [])).weak (by rw [hl, ← hw, wipe_length]) (fun j v z => ?_), T.keep _ _ _ at7 fun b hb o z => (pin b hb o z).1, fun b hb => ?_, w'⟩
        · rw [← hw] at z
          exact hk j v (wipe_some z).2 (wipe_some z).1
        · obtain ⟨o, z, _⟩ := T.obj _ _ at7 b hb
          exact (pin b hb o z).2
      cases b with
      | false =>
        simp only [Bool.false_eq_true, if_false] at q9 ⊢
        exact fin σ8 s9 H9 I9 rfl (fun _ _ _ z => z) q9
      | true =>
        simp only [if_true] at q9 ⊢
        exact pb _ σ8 H9 s9 D Nx _ _ I9 q9 fin
  exact codeAny_compStart_dict all (T.self X.A 0 _ _ _ at4 all)
theorem run_one {kx vx : Expr} {sc : Scope} {vs : List Nat} {tk tv : TE} (hu : X.A.units + 1 < cLine) {s0 : Shared} {H0 : Hp} {C : Addr} {cl : List (Str × Addr)} {fp : List Addr}
    (hk : PE (X.blk s0 H0 sc (compEnvC sc cl C X.env) fp) kx tk) (hv : PE (X.blk s0 H0 sc (compEnvC sc cl C X.env) fp) vx tv) :
    BodyRun (X.blk s0 H0 sc (compEnvC sc cl C X.env) fp) (compEnvC sc cl C X.env) vs (bOne tk tv) (fun ce R D q => keyPut X.prog X.w X.A kx vx D ce R q) := by
  intro pins σ H s D Nx post R I q fin
  refine thnF (hk.run _ s σ H _ I q) fun k s1 ⟨y, H1, I1, r1, q1⟩ => ?_
  refine thnF (hv.run _ s1 σ H1 _ I1 q1) fun v s2 ⟨z, H2, I2, r2, H3, g, nx⟩ => ?_
  exact d_putAny (X := X.blk s0 H0 sc (compEnvC sc cl C X.env) fp) hu I2 g r1 r2 fun t J => fin σ t H3 J rfl (fun _ _ _ z => z) nx
theorem run_two {kx vx t0 i0 t1 i1 : Expr} {fs0 fs1 : List Expr} {sc : Scope} {pos : Pos} {vs vs1 : List Nat} {tk tv : TE} {wi1 : TI} {g1 : TG} {tt1 : TT} (hu : X.A.units + 1 < cLine) (calm : X.calm = true) (sub : ∀ i ∈ vs1, i ∈ vs) {s0 : Shared} {H0 : Hp} {C : Addr} {cl : List (Str × Addr)} {fp : List Addr}
    (hi : PI (X.blk s0 H0 sc (compEnvC sc cl C X.env) fp) t1 i1 wi1) (hg : PG (X.blk s0 H0 sc (compEnvC sc cl C X.env) fp) t1 g1) (ht : PTs (X.blk s0 H0 sc (compEnvC sc cl C X.env) fp) fs1 tt1)
    (hk : PE (X.blk s0 H0 sc (compEnvC sc cl C X.env) fp) kx tk) (hv : PE (X.blk s0 H0 sc (compEnvC sc cl C X.env) fp) vx tv) :
    BodyRun (X.blk s0 H0 sc (compEnvC sc cl C X.env) fp) (compEnvC sc cl C X.env) vs (bTwo wi1 g1 tt1 tk tv vs1) (fun ce R D q => startTwo X.prog X.w X.A kx vx t0 i0 t1 i1 fs0 fs1 sc pos D ce R q) := by
  intro pins σ H s D Nx post R I q fin
  refine thnF (hi.run pins s σ H _ I q) fun x sa ha => thnF ha fun j sb hb => ?_
  obtain ⟨it, fq, tn, J, H1, e, I1, T, at0, f1, W, ⟨m0, w0⟩, turn⟩ := hb
  subst e
  have fpo : ∀ {H' : Hp}, (∀ b ∈ fq, H' b = none) → ∀ b ∈ fq, FpOk (X.blk s0 H0 sc (compEnvC sc cl C X.env) fp) pins H' b := fun n b hb => ⟨n b hb, (f1 b hb).2⟩
  have lp : codeAny (model X.prog X.w) X.A (.compLoop (two kx vx t0 i0 t1 i1 fs0 fs1 sc pos) 1 (.ref it) (.ref D) (compEnvC sc cl C X.env)) (fun r t => match r with
      | .ok _ => post t
      | .error _ => False) sb := by
    refine loop_in (fun n t => ∃ i H', Inv (X.blk s0 H0 sc (compEnvC sc cl C X.env) fp) pins (wipe σ vs1) H' t ∧ tn i t.heap ∧ (∀ b ∈ fq, H' b = none) ∧ W i n H') ?_ m0 ⟨0, H1, I1.weak (wipe_length _ _) (fun _ _ z => (wipe_some z).1), at0, fun b hb => (f1 b hb).1, w0⟩
    rintro n s2 ⟨i, H2, I2, at2, n2, w2⟩
    rcases turn i n H2 w2 with ⟨stop, nx⟩ | ⟨go, N1, hN, step⟩
    · refine thnF (T.done (X.blk s0 H0 sc (compEnvC sc cl C X.env) fp) rfl rfl rfl calm i _ s2 _ H2 (fun _ _ => False) I2 (fpo n2) at2 stop) fun r s3 ⟨hr, I3⟩ => ?_
      subst hr
      exact fin _ s3 H2 I3 (wipe_length σ vs1) (fun j v nj z => by rw [wipe_out fun q => nj (sub j q)]; exact z) nx
    · refine thnF (T.item (X.blk s0 H0 sc (compEnvC sc cl C X.env) fp) rfl rfl rfl calm i _ s2 _ H2 (fun _ _ => False) I2 (fpo n2) at2 go) fun r s3 ⟨u, hr, h3⟩ => ?_
      subst hr
      refine thnF h3 fun _ s4 ⟨y, H4, I4, r4, y4, at4, n4⟩ => ?_
      have I4' := I4.pinned (fpo n4) (T.obj _ _ at4)
      refine thnF (hg.run _ s4 _ H4 y u _ I4' r4 (step y H4 y4)) fun _ s5 ⟨σ5, H5, I5, hw, q5⟩ => ?_
      refine thnF (ht.run _ s5 σ5 H5 _ I5 q5) fun b s6 ⟨H6, I6, q6⟩ => ?_
      have end1 : ∀ {t : Shared} {H' : Hp}, Inv (X.blk s0 H0 sc (compEnvC sc cl C X.env) fp) (pins ++ pinsAt fq s4.heap) σ5 H' t → N1 H' → ∃ m, m < n ∧ ∃ i H', Inv (X.blk s0 H0 sc (compEnvC sc cl C X.env) fp) pins (wipe σ vs1) H' t ∧ tn i t.heap ∧ (∀ b ∈ fq, H' b = none) ∧ W i m H' := fun {t H'} K nx => by
        obtain ⟨m', hm, w'⟩ := hN H' nx
        have pin : ∀ b ∈ fq, ∀ o, s4.heap.get? b = some o → t.heap.get? b = some o ∧ H' b = none := fun b hb o z =>
          let k := K.pin (b, o) (List.mem_append_right _ (List.mem_append_right _ (mem_pinsAt hb z)))
          ⟨k.1, k.2.1⟩
        refine ⟨m', hm, i + 1, H', K.unpinned.weak (by rw [← hw, wipe_length]) (fun j v z => by rw [← hw] at z; exact (wipe_some z).1), T.keep _ _ _ at4 fun b hb o z => (pin b hb o z).1, fun b hb => ?_, w'⟩
        obtain ⟨o, z, _⟩ := T.obj _ _ at4 b hb
        exact (pin b hb o z).2
      cases b with
      | false =>
        simp only [Bool.false_eq_true, if_false] at q6 ⊢
        exact end1 I6 q6
      | true =>
        simp only [if_true] at q6 ⊢
        refine run_one (vs := []) hu hk hv _ σ5 H6 s6 D N1 _ _ I6 q6 fun σ7 t H7 K hl hk' nx => end1 (K.weak hl.symm fun j v z => hk' j v (by simp) z) nx
  exact start_in lp (T.self X.A 0 _ _ _ at0 lp)
theorem pe_dcA {kx vx tg iter : Expr} {fs : List Expr} {rest : List Comprehension} {sc : Scope} {own : List (Str × Nat)} {pos : Pos} {wi : TI} {g : TG} {tt : TT} {body : Body} {B : MB} {o0 : HO}
    (he : Emp o0) (calm : X.calm = true) (nd : X.N.Nodup) (walks : PI X tg iter wi) (blk : BlkOk X.N X.env.scope sc own) (hg : InBlk X sc fun Y => PG Y tg g) (ht : InBlk X sc fun Y => PTs Y fs tt)
    (hb : ∀ s H C cl fp, BodyRun (X.blk s H sc (compEnvC sc cl C X.env) fp) (compEnvC sc cl C X.env) (own.map (·.2)) body B)
    (loop : ∀ (ce : Env) (R : Result → Shared → Prop) (it : Value) (D : Addr) (J : Nat → Shared → Prop), (∀ n s, J n s → goNext X.prog X.w X.A tg fs it ce R (B ce R D fun u => ∃ m, m < n ∧ J m u) (fun u => ∃ m, m < n ∧ J m u) s) →
      ∀ n s, J n s → codeAny (model X.prog X.w) X.A (.compLoop (.DictComp kx vx (⟨tg, iter, fs, 0⟩ :: rest) sc pos) 0 it (.ref D) ce) R s)
    (hs : ∀ x, foldedSetIterable iter X.env x = pure x) : PE X (.DictComp kx vx (⟨tg, iter, fs, 0⟩ :: rest) sc pos) (tDcA wi g tt body (own.map (·.2)) o0) := by
  refine ⟨fun pins s σ H Q I h => ?_⟩
  rw [arm_eval_DictComp]
  refine dca_core he calm nd I walks blk hg ht hb loop hs h fun D C t m H' I' q hn f => ⟨m, hn, fun h2 sb => ?_⟩
  obtain ⟨f0, f1, f2, f3, f4, f5⟩ := f
  exact ⟨.ref D, H', I'.turned (t' := t.toks) (fun b o hb z => (sb.2 b hb).trans z) f0 f1 f3 f4 f5, rfl, q⟩
/-- {k: v for tg in iter if ..} -/
theorem pe_dc1 {kx vx tg iter : Expr} {fs : List Expr} {sc : Scope} {own : List (Str × Nat)} {pos : Pos} {wi : TI} {g : TG} {tt : TT} {tk tv : TE} {o0 : HO} (he : Emp o0) (hu : X.A.units + 1 < cLine) (calm : X.calm = true) (nd : X.N.Nodup) (walks : PI X tg iter wi) (blk : BlkOk X.N X.env.scope sc own)
    (hg : InBlk X sc fun Y => PG Y tg g) (ht : InBlk X sc fun Y => PTs Y fs tt) (hk : InBlk X sc fun Y => PE Y kx tk) (hv : InBlk X sc fun Y => PE Y vx tv) (hs : ∀ x, foldedSetIterable iter X.env x = pure x := by intro _; rfl) :
    PE X (.DictComp kx vx [⟨tg, iter, fs, 0⟩] sc pos) (tDcA wi g tt (bOne tk tv) (own.map (·.2)) o0) :=
  pe_dcA he calm nd walks blk hg ht (fun s H C cl fp => run_one hu (hk s H C cl fp) (hv s H C cl fp)) (fun ce R it D J turn n s h => loop_one J turn n h) hs
/-- {k: v for tg in iter if .. for t1 in i1 if ..} -/
theorem pe_dc2 {kx vx t0 i0 t1 i1 : Expr} {fs0 fs1 : List Expr} {sc : Scope} {own : List (Str × Nat)} {vs1 : List Nat} {pos : Pos} {wi wi1 : TI} {g g1 : TG} {tt tt1 : TT} {tk tv : TE} {o0 : HO} (he : Emp o0) (hu : X.A.units + 1 < cLine) (calm : X.calm = true) (nd : X.N.Nodup) (walks : PI X t0 i0 wi) (blk : BlkOk X.N X.env.scope sc own)
    (sub : ∀ i ∈ vs1, i ∈ own.map (·.2)) (hg : InBlk X sc fun Y => PG Y t0 g) (ht : InBlk X sc fun Y => PTs Y fs0 tt) (hi1 : InBlk X sc fun Y => PI Y t1 i1 wi1) (hg1 : InBlk X sc fun Y => PG Y t1 g1) (ht1 : InBlk X sc fun Y => PTs Y fs1 tt1)
    (hk : InBlk X sc fun Y => PE Y kx tk) (hv : InBlk X sc fun Y => PE Y vx tv) (hs : ∀ x, foldedSetIterable i0 X.env x = pure x := by intro _; rfl) (hs1 : ∀ env x, foldedSetIterable i1 env x = pure x := by intro _ _; rfl) :
    PE X (.DictComp kx vx [⟨t0, i0, fs0, 0⟩, ⟨t1, i1, fs1, 0⟩] sc pos) (tDcA wi g tt (bTwo wi1 g1 tt1 tk tv vs1) (own.map (·.2)) o0) :=
  pe_dcA he calm nd walks blk hg ht (fun s H C cl fp => run_two hu calm sub (hi1 s H C cl fp) (hg1 s H C cl fp) (ht1 s H C cl fp) (hk s H C cl fp) (hv s H C cl fp)) (fun ce R it D J turn n s h => loop_out (hs1 ce) J turn n h) hs
/-- name = {k: v for tg in iter if ..} -/
theorem ps_setDc1 {i : Nat} {y : Str} {yp cp sp : Pos} {kx vx tg iter : Expr} {fs : List Expr} {sc : Scope} {own : List (Str × Nat)} {wi : TI} {g : TG} {tt : TT} {tk tv : TE} {o0 : HO} (he : Emp o0) (hu : X.A.units + 1 < cLine) (calm : X.calm = true) (nd : X.N.Nodup) (ey : X.N[i]? = some y) (loc : X.env.scope.names.lookup y = some .local)
    (sw : swapsWith (.DictComp kx vx [⟨tg, iter, fs, 0⟩] sc cp) (some (.Name y yp)) sp.line X.env = pure true) (walks : PI X tg iter wi) (blk : BlkOk X.N X.env.scope sc own)
    (hg : InBlk X sc fun Y => PG Y tg g) (ht : InBlk X sc fun Y => PTs Y fs tt) (hk : InBlk X sc fun Y => PE Y kx tk) (hv : InBlk X sc fun Y => PE Y vx tv) (hs : ∀ x, foldedSetIterable iter X.env x = pure x := by intro _; rfl) :
    PS X (.Assign [.Name y yp] (.DictComp kx vx [⟨tg, iter, fs, 0⟩] sc cp) sp) (tAsg (tDcA wi g tt (bOne tk tv) (own.map (·.2)) o0) (gName i)) := by
  refine ⟨fun pins s σ H D I w => ?_⟩
  rw [exec_Assign_Name_used _ _ _ _ sw]
  refine wpAny_bind (wpAny_standAt (wpAny_bind ?_))
  have w' : tDcA wi g tt (bOne tk tv) (own.map (·.2)) o0 σ H (fun x H1 => gName i x σ H1 D.nx) := w
  show wpAny _ X.A (do
    let _ ← comprehension (.DictComp kx vx [⟨tg, iter, fs, 0⟩] sc cp) sc X.env (firstIterPos [⟨tg, iter, fs, 0⟩] cp) newDict false (eval iter X.env) (some (assign (.Name y yp) X.env))) _ _ s
  refine wpAny_bind (thn (dca_core (Qf := fun _ t => SP X pins D .next t) he calm nd I walks blk hg ht (fun s H C cl fp => run_one hu (hk s H C cl fp) (hv s H C cl fp)) (fun ce R it D J turn n s h => loop_one J turn n h) hs w' ?_) fun _ _ q => wpAny_pure (wpAny_pure q))
  intro L C t m H' I' q ns f
  show wpAny _ _ (assign (.Name y yp) X.env (.ref L)) _ _ _
  obtain ⟨a0, a1, a2, a3, a4, a5⟩ := f
  refine wpAny_assign_Name (store_ok2 (v := V.ref L) I' nd ey (.inl loc) rfl ?_ (.inr loc))
  rintro t2 I2 ⟨a, sb, ha⟩
  have ne : C ≠ a := ha.elim (fun z => z ▸ a1) fun z e => a4 y a z e.symm
  exact ⟨m, ns.sameBut sb ne, fun _ sc' => ⟨_, H', I2.turned (t' := t2.toks) (fun b o hb e => (sc'.2 b hb).trans e) a0 a1 a3 a4 a5, q⟩⟩
end
/-- any walk, in a comprehension -/
theorem walk_run {J : It} {n : Nat} {G : Hp → Prop} {Y : Nat → Hp → V → Hp → Prop} (wk : Walk J n G Y) {H1 : Hp} {Stop : Hp → Prop} {Step : V → Hp → (Hp → Prop) → Prop} (Pv : Nat → Hp → Prop) (h0 : Pv 0 H1) (hG : ∀ i H, i ≤ n → Pv i H → G H)
    (hs : ∀ i x H H', i < n → Pv i H → Y i H x H' → Step x H' (Pv (i + 1))) (hd : ∀ H, Pv n H → Stop H) :
    ∃ W : Nat → Nat → Hp → Prop, (∃ m, W 0 m H1) ∧ ∀ i m H, W i m H → (J.stop i H ∧ Stop H) ∨ (J.go i H ∧ ∃ Nx : Hp → Prop, (∀ H', Nx H' → ∃ m', m' < m ∧ W (i + 1) m' H') ∧ ∀ x H', J.yld i H x H' → Step x H' Nx) := by
  refine ⟨fun i m H => m + i = n ∧ Pv i H, ⟨n, rfl, h0⟩, fun i m H ⟨e, p⟩ => ?_⟩
  rcases Nat.lt_or_ge i n with l | l
  · have q := hG i H (Nat.le_of_lt l) p
    exact .inr ⟨wk.goes i H l q, Pv (i + 1), fun H' p' => ⟨m - 1, by omega, by omega, p'⟩, fun x H' y => hs i x H H' l p (wk.yields i H x H' l q y)⟩
  · have z : i = n := by omega
    subst z
    exact .inl ⟨wk.stops H (hG i H (Nat.le_refl _) p), hd H p⟩
end Gd
set_option Elab.async false
set_option linter.all false
set_option maxRecDepth 100000
set_option maxHeartbeats 4000000
/-! D3: list(d.values()). -/
namespace Gs
open PySem PySem.Spec PyProof.Rows L2 Gd Com
section
variable {X : Cx} {e : Expr} {te : TE} {apos cpos pos p : Pos}
/-- list(d.values()), ints or texts for keys -/
def tListVals (te : TE) : TE := fun σ H Q => te σ H fun x H1 => ∃ (d : Addr) (kvs : List (Key × V)), x = .ref d ∧ H1 d = some (.dK kvs) ∧ ∀ q, H1 q = none → Q (.ref q) (upd H1 q (.lst (kvs.map (·.2))))
theorem pe_listVals (cm : X.calm = true) (he : PE X e te) (hg : Gl X "list") (hm : X.mg "list" = none) (hv : bootBuiltins "list" = some (.type "list"))
    (ab : attributeBase e "values" X.env (eval e X.env) = eval e X.env := by rfl) (ln : (apos.endLine == cpos.line) = true := by rfl)
    (hs : starEach [.Call (.Attribute e "values" apos) [] [] cpos] X.env = (false, eval (.Call (.Attribute e "values" apos) [] [] cpos) X.env) :: starEach [] X.env := by rfl) :
    PE X (.Call (.Name "list" p) [.Call (.Attribute e "values" apos) [] [] cpos] [] pos) (tListVals te) := by
  refine ⟨fun pins s σ H Q I hq => ?_⟩
  refine wpAny_Call_Name_kw (ld_blt I hg hm hv ?_)
  refine PyProof.Rows.callWith_type1 ?_ hs rfl
  rw [hs]
  show wpAny _ _ (spliced ((false, eval (.Call (.Attribute e "values" apos) [] [] cpos) X.env) :: backTo pos (starEach [] X.env))) _ _ s
  refine Calls.spliced_cons ?_
  refine wpAny_Call_method (T := "dict") (id := "dict.values") ab rfl ln F.plainAttrs_dict F.slot_dict_values F.type_dict_values (thn (he.run pins s σ H _ I hq) fun u s1 ⟨x, H1, J, rx, d, kvs, ex, hd, q⟩ => ?_)
  subst ex
  obtain rfl : u = Value.ref d := rx
  obtain ⟨hz, hs0, vs, kv, hdo⟩ := J.hok d _ hd
  obtain ⟨ep, hat⟩ := hdo.dictAt
  have lk : kvs.length = vs.length := Paired.length kv
  have J2 : Inv X pins σ H1 { s1 with heap := s1.heap.push { cls := .type "dict_values", data := .fields #[.ref d] } } := J.kept (t' := s1.toks) fun b ob q => Heap.get?_push_of_some _ q
  refine ⟨hdo.typeIs, hdo.mapOf.noDict, ?_⟩
  show wpAny _ _ (callWith cpos (.builtin "dict.values") [.ref d] [] []) _ X.xe s1
  refine method_meetsIn F.slot_dict_values F.entry_dict_values rfl (PySem.evalArgs_none ⟨rfl, hdo.typeIs, F.args_dict_values_1 _, _, meets_dict_values (mixKind X.prog X.w) d hs0, ⟨vs, hdo⟩, ?_⟩)
  refine Calls.spliced_nil ?_
  have view : (s1.heap.push { cls := .type "dict_values", data := .fields #[.ref d] }).IsValuesView s1.heap.objs.size d := ⟨_, Heap.get?_push_size _ rfl, rfl, rfl⟩
  refine PySem.W.kdl_call (s := { s1 with heap := s1.heap.push { cls := .type "dict_values", data := .fields #[.ref d] } }) (PySem.W.kdl_values (knd := mixKind X.prog X.w) (kvs := vs) (ep := ep) (r := s1.heap.objs.size) (d := d)) (J.ok.hd cm) ⟨view, hat.push _⟩ (by omega) fun h' tk acc c hk hS it => ?_
  have el : acc.toList.length = kvs.length := by rw [Array.length_toList, it.1]; omega
  have rv : Vals (kvs.map (·.2)) acc.toList := vals_of_at (by rw [List.length_map, el]) fun j x u h1 h2 => by
    obtain ⟨k, hk2⟩ := it.2 j u (by rw [← Array.getElem?_toList]; exact h2)
    rw [List.getElem?_map] at h1
    cases e1 : kvs[j]? with
    | none => rw [e1] at h1; cases h1
    | some kx =>
      rw [e1] at h1
      have e2 : kx.2 = x := Option.some.inj h1
      obtain ⟨w', g1, g2⟩ := L2.paired_get kv e1
      rw [hk2] at g1
      cases g1
      rw [← e2]
      exact g2.2
  have nw : H1 (s1.heap.objs.size + 1) = none := J.hok.fresh (Nat.le_succ _)
  have sz : (s1.heap.push { cls := .type "dict_values", data := .fields #[.ref d] }).objs.size = s1.heap.objs.size + 1 := size_push' ..
  rw [sz] at hS
  show EP X pins σ Q (Value.ref (s1.heap.push { cls := .type "dict_values", data := .fields #[.ref d] }).objs.size) _
  rw [sz]
  exact ⟨.ref _, _, J2.laid (t' := tk) (o := .lst (kvs.map (·.2))) hk (by show (s1.heap.push _).objs.size ≤ _; rw [sz]; exact Nat.le_refl _) ⟨by rw [List.length_map]; exact hz, acc.toList, c, rv, by rw [Array.toArray_toList]; exact hS⟩, rfl, q _ nw⟩
end
end Gs
set_option Elab.async false
set_option linter.all false
set_option maxRecDepth 100000
set_option maxHeartbeats 4000000
/-! D4: a call of what an expression gives: one of several defs. -/
namespace Gs
open PySem PySem.Spec PyProof.Rows L2 Gd Com
/-- at f stands a def that keeps sp -/
structure HoldS (P : Program) (w : World) (K : PySem.W.Frag) (mg : Str → Option Value) (base : Heap) (CX : CXT) (k : Nat) (f : Addr) (sp : Sp) : Prop where
  ex : ∃ (fd : FuncData) (ps : List Str), FnOk P w K mg base CX k f fd ps sp ∧ PySem.W.keepIn K (.ref f) = true ∧ Binds K fd ps []
def tCallV (tf : TE) (S : Addr → Option Sp) (E : L2.St → XK) (t : TA) : TE := fun σ H Q => tf σ H fun x H0 => ∃ f sp, x = .ref f ∧ S f = some sp ∧ t σ H0 fun vs H1 => sp vs H1 Q (E σ)
section
variable {X : Cx} {CX : CXT} {k : Nat} {E : L2.St → XK} {pos : Pos} {fe e : Expr} {es : List Expr} {tf : TE} {t : TA}
theorem pe_callV {S : Addr → Option Sp} (hf : PE X fe tf) (A : ∀ f sp, S f = some sp → HoldS X.prog X.w X.K X.mg X.base CX k f sp) (hr : Room k X.A) (hx : ∀ σ, PassesAt CX X σ (E σ)) (ha : PA X (e :: es) t)
    (ev : eval (.Call fe (e :: es) [] pos) X.env = (do callWith pos (← eval fe X.env) [] (backTo pos (starEach (e :: es) X.env)) (backToKw pos (keywordEach [] X.env))) := by rfl)
    (he : starEach (e :: es) X.env = (false, eval e X.env) :: starEach es X.env := by rfl) (hpl : (backTo pos (starEach es X.env)).any (·.1) = false := by rfl) :
    PE X (.Call fe (e :: es) [] pos) (tCallV tf S E t) := by
  refine ⟨fun pins s σ H Q I h => ?_⟩
  rw [ev]
  refine wpAny_bind (thn (hf.run pins s σ H _ I h) fun v s0 ⟨x, H0, I0, rx, f, sp, ex, eS, q⟩ => ?_)
  subst ex
  obtain rfl : v = Value.ref f := rx
  obtain ⟨fd, ps, F, hk, hb⟩ := (A f sp eS).ex
  refine PySem.W.callWith_K (h₀ := X.base) I0.ok.mod.kin hk (thn (ha.run pos pins s0 σ H0 _ I0 q) fun us s1 ⟨vs, H1, I1, r, q1⟩ => ⟨I1.kIn, ?_⟩) he hpl
  exact run_fnS F hr hb (hx σ) I1 r q1
/-- the equation, for a subscript -/
theorem ev_sub {a b : Expr} {p q : Pos} {args : List Expr} {env : Env} : eval (.Call (.Subscript a b p) args [] q) env = (do callWith q (← eval (.Subscript a b p) env) [] (backTo q (starEach args env)) (backToKw q (keywordEach [] env))) := by rfl
end
end Gs
set_option Elab.async false
set_option linter.all false
set_option maxRecDepth 100000
set_option maxHeartbeats 4000000
/-! K45a: the law's digits and draws; numbers in words. -/
namespace K45
open PySem PySem.Spec PyProof.Rows L2 Gd Com Bk Nw Xs
def topx (i : Nat) : Stmt := PySem.Challenge.pw_keptbywitness_k45_events_written_and_rea.main.body.getD i (.Pass ⟨0, 0, 0, 0⟩)
abbrev s_is_rising : Stmt := topx 1
theorem sc_is_rising : FnScope ["row", "low", "high"] ["row"] (defScope s_is_rising) := ⟨rfl, rfl, rfl, by decide +kernel, rfl, by decide +kernel, by decide +kernel⟩
abbrev s_write_event : Stmt := topx 6
theorem sc_write_event : FnScope ["event", "word", "told", "entry", "number", "part"] ["event"] (defScope s_write_event) := ⟨rfl, rfl, rfl, by decide +kernel, rfl, by decide +kernel, by decide +kernel⟩
abbrev s_read_event : Stmt := topx 7
theorem sc_read_event : FnScope ["number", "text", "word", "rest", "numbers"] ["number", "text"] (defScope s_read_event) := ⟨rfl, rfl, rfl, by decide +kernel, rfl, by decide +kernel, by decide +kernel⟩
abbrev s_read_numbers : Stmt := topx 8
theorem sc_read_numbers : FnScope ["words", "word"] ["words"] (defScope s_read_numbers) := ⟨rfl, rfl, rfl, by decide +kernel, rfl, by decide +kernel, by decide +kernel⟩
abbrev s_is_number : Stmt := topx 9
theorem sc_is_number : FnScope ["word"] ["word"] (defScope s_is_number) := ⟨rfl, rfl, rfl, by decide +kernel, rfl, by decide +kernel, by decide +kernel⟩
abbrev s_words_of_message : Stmt := topx 10
theorem sc_words_of_message : FnScope ["message", "sender", "_", "number", "seen", "held", "carried", "told", "kind", "entry"] ["message"] (defScope s_words_of_message) := ⟨rfl, rfl, rfl, by decide +kernel, rfl, by decide +kernel, by decide +kernel⟩
abbrev s_read_receive : Stmt := topx 11
theorem sc_read_receive : FnScope ["number", "words", "at", "numbers", "carried", "sender", "sent", "seen", "held"] ["number", "words"] (defScope s_read_receive) := ⟨rfl, rfl, rfl, by decide +kernel, rfl, by decide +kernel, by decide +kernel⟩
abbrev s_read_carried : Stmt := topx 12
theorem sc_read_carried : FnScope ["words", "kinds", "entries", "kind"] ["words"] (defScope s_read_carried) := ⟨rfl, rfl, rfl, by decide +kernel, rfl, by decide +kernel, by decide +kernel⟩
abbrev s_sending : Stmt := topx 13
theorem sc_sending : FnScope ["numbers"] ["numbers"] (defScope s_sending) := ⟨rfl, rfl, rfl, by decide +kernel, rfl, by decide +kernel, by decide +kernel⟩
abbrev s_removal : Stmt := topx 14
theorem sc_removal : FnScope ["numbers", "entries"] ["numbers"] (defScope s_removal) := ⟨rfl, rfl, rfl, by decide +kernel, rfl, by decide +kernel, by decide +kernel⟩
abbrev s_law_cell : Stmt := topx 16
theorem sc_law_cell : FnScope ["script", "k"] ["script", "k"] (defScope s_law_cell) := ⟨rfl, rfl, rfl, by decide +kernel, rfl, by decide +kernel, by decide +kernel⟩
abbrev s_law_digits : Stmt := topx 17
theorem sc_law_digits : FnScope ["script", "first", "last", "digits", "k", "cell", "turn", "seed"] ["script", "first", "last"] (defScope s_law_digits) := ⟨rfl, rfl, rfl, by decide +kernel, rfl, by decide +kernel, by decide +kernel⟩
abbrev s_law_draw : Stmt := topx 18
theorem sc_law_draw : FnScope ["box", "many", "at"] ["box", "many"] (defScope s_law_draw) := ⟨rfl, rfl, rfl, by decide +kernel, rfl, by decide +kernel, by decide +kernel⟩
abbrev s_law_rank : Stmt := topx 22
theorem sc_law_rank : FnScope ["held", "number"] ["held", "number"] (defScope s_law_rank) := ⟨rfl, rfl, rfl, by decide +kernel, rfl, by decide +kernel, by decide +kernel⟩
abbrev s_law_alike : Stmt := topx 19
theorem sc_law_alike : FnScope ["one", "two"] ["one", "two"] (defScope s_law_alike) := ⟨rfl, rfl, rfl, by decide +kernel, rfl, by decide +kernel, by decide +kernel⟩
abbrev s_law_event_text : Stmt := topx 20
theorem sc_law_event_text : FnScope ["event", "words", "part", "sender", "receiver", "number", "seen", "held", "carried", "entry", "kind", "to", "root"] ["event"] (defScope s_law_event_text) := ⟨rfl, rfl, rfl, by decide +kernel, rfl, by decide +kernel, by decide +kernel⟩
abbrev s_law_any_event : Stmt := topx 21
theorem sc_law_any_event : FnScope ["box", "kind", "k", "numbers", "held", "number", "carried"] ["box"] (defScope s_law_any_event) := ⟨rfl, rfl, rfl, by decide +kernel, rfl, by decide +kernel, by decide +kernel⟩
abbrev s_law_spoilt : Stmt := topx 23
theorem sc_law_spoilt : FnScope ["box", "text", "at", "sign", "kind", "menu"] ["box", "text"] (defScope s_law_spoilt) := ⟨rfl, rfl, rfl, by decide +kernel, rfl, by decide +kernel, by decide +kernel⟩
abbrev s_law : Stmt := topx 24
theorem sc_law : FnScope ["script", "box", "turn", "event", "text", "other", "told", "message", "bad"] ["script"] (defScope s_law) := ⟨rfl, rfl, rfl, by decide +kernel, rfl, by decide +kernel, by decide +kernel⟩
structure All (w : World) (K : PySem.W.Frag) (mg : Str → Option Value) : Prop where
  is_rising : ∃ (f : Addr) (fd : FuncData), Fun K "is_rising" "is_rising" s_is_rising f fd ∧ mg "is_rising" = some (.ref f) ∧ Binds K fd ["row"] []
  write_event : ∃ (f : Addr) (fd : FuncData), Fun K "write_event" "write_event" s_write_event f fd ∧ mg "write_event" = some (.ref f) ∧ Binds K fd ["event"] []
  read_event : ∃ (f : Addr) (fd : FuncData), Fun K "read_event" "read_event" s_read_event f fd ∧ mg "read_event" = some (.ref f) ∧ Binds K fd ["number", "text"] []
  read_numbers : ∃ (f : Addr) (fd : FuncData), Fun K "read_numbers" "read_numbers" s_read_numbers f fd ∧ mg "read_numbers" = some (.ref f) ∧ Binds K fd ["words"] []
  is_number : ∃ (f : Addr) (fd : FuncData), Fun K "_is_number" "_is_number" s_is_number f fd ∧ mg "_is_number" = some (.ref f) ∧ Binds K fd ["word"] []
  words_of_message : ∃ (f : Addr) (fd : FuncData), Fun K "_words_of_message" "_words_of_message" s_words_of_message f fd ∧ mg "_words_of_message" = some (.ref f) ∧ Binds K fd ["message"] []
  read_receive : ∃ (f : Addr) (fd : FuncData), Fun K "_read_receive" "_read_receive" s_read_receive f fd ∧ mg "_read_receive" = some (.ref f) ∧ Binds K fd ["number", "words"] []
  read_carried : ∃ (f : Addr) (fd : FuncData), Fun K "_read_carried" "_read_carried" s_read_carried f fd ∧ mg "_read_carried" = some (.ref f) ∧ Binds K fd ["words"] []
  sending : ∃ (f : Addr) (fd : FuncData), Fun K "_sending" "_sending" s_sending f fd ∧ mg "_sending" = some (.ref f) ∧ Binds K fd ["numbers"] []
  removal : ∃ (f : Addr) (fd : FuncData), Fun K "_removal" "_removal" s_removal f fd ∧ mg "_removal" = some (.ref f) ∧ Binds K fd ["numbers"] []
  law_cell : ∃ (f : Addr) (fd : FuncData), Fun K "_law_cell" "_law_cell" s_law_cell f fd ∧ mg "_law_cell" = some (.ref f) ∧ Binds K fd ["script", "k"] []
  law_digits : ∃ (f : Addr) (fd : FuncData), Fun K "_law_digits" "_law_digits" s_law_digits f fd ∧ mg "_law_digits" = some (.ref f) ∧ Binds K fd ["script", "first", "last"] []
  law_draw : ∃ (f : Addr) (fd : FuncData), Fun K "_law_draw" "_law_draw" s_law_draw f fd ∧ mg "_law_draw" = some (.ref f) ∧ Binds K fd ["box", "many"] []
  law_rank : ∃ (f : Addr) (fd : FuncData), Fun K "_law_rank" "_law_rank" s_law_rank f fd ∧ mg "_law_rank" = some (.ref f) ∧ Binds K fd ["held", "number"] []
  law_alike : ∃ (f : Addr) (fd : FuncData), Fun K "_law_alike" "_law_alike" s_law_alike f fd ∧ mg "_law_alike" = some (.ref f) ∧ Binds K fd ["one", "two"] []
  law_event_text : ∃ (f : Addr) (fd : FuncData), Fun K "_law_event_text" "_law_event_text" s_law_event_text f fd ∧ mg "_law_event_text" = some (.ref f) ∧ Binds K fd ["event"] []
  law_any_event : ∃ (f : Addr) (fd : FuncData), Fun K "_law_any_event" "_law_any_event" s_law_any_event f fd ∧ mg "_law_any_event" = some (.ref f) ∧ Binds K fd ["box"] []
  law_spoilt : ∃ (f : Addr) (fd : FuncData), Fun K "_law_spoilt" "_law_spoilt" s_law_spoilt f fd ∧ mg "_law_spoilt" = some (.ref f) ∧ Binds K fd ["box", "text"] []
  law : ∃ (f : Addr) (fd : FuncData), Fun K "law" "law" s_law f fd ∧ mg "law" = some (.ref f) ∧ Binds K fd ["script"] []
  len : mg "len" = none
  int : mg "int" = none
  str : mg "str" = none
  range : mg "range" = none
  list : mg "list" = none
  tuple : mg "tuple" = none
  all : mg "all" = none
  zip : mg "zip" = none
  sorted : mg "sorted" = none
  repr : mg "repr" = none
  isinstance : mg "isinstance" = none
  min : mg "min" = none
  max : mg "max" = none
  cCARRIED_MOST : ∃ u, mg "CARRIED_MOST" = some u ∧ RelV (V.int 4) u
  c_DIGITS_MOST : ∃ u, mg "_DIGITS_MOST" = some u ∧ RelV (V.int 5) u
  t_NUMBERS : ∃ D, mg "_NUMBERS" = some (.ref D) ∧ Tab K w D nWords
section
variable {P : Program} {w : World} {K : PySem.W.Frag} {mg : Str → Option Value} {base : Heap}
/-! ### _law_cell -/
def spCell (K : PySem.W.Frag) : Sp := fun vs H Q _ => ∃ (a : Addr) (ns : List Int) (k : Nat), vs = [.ref a, .int (k : Int)] ∧ SqL K H a (ns.map V.int) ∧ ∀ v : Int, Q (.int v) H
theorem ok_law_cell {f : Addr} {fd : FuncData} (A : All w K mg ) (F : Fun K "_law_cell" "_law_cell" s_law_cell f fd) : FnOk P w K mg base CX0 1 f fd ["script", "k"] (spCell K) := by
  refine F.ok sc_law_cell (fun vs H Q E h => ?_) (fun cdv A' outer s H vs Q E hr h => ?_)
  · obtain ⟨a, ns, k, rfl, _⟩ := h
    rfl
  · obtain ⟨a, ns, k, rfl, hS, q⟩ := h
    refine ⟨_, (pss_cons (ps_if (pt_cmpR op_lt (pv 1) (pe_callB call_len_seq (by rfl) A.len PySem.boot_len (pa_cons (pv 0) pa_nil)) (nomark _))
(pss_one (ps_ret (pe_ix ix_list (pv 0) (pv 1) (fun _ _ => rfl))))
pss_nil)
(pss_one (ps_ret pe_int))), ?_⟩
    refine ⟨_, rfl, _, rfl, a, _, rfl, .inl hS, _, _, rfl, rfl, _, rfl, ite2 (fun e => ?_) (fun e => ?_)⟩
    · have lt : k < (ns.map V.int).length := by
        have := of_decide_eq_true e
        omega
      have lt' := lt
      rw [List.length_map] at lt'
      have g : (ns.map V.int)[k]? = some (.int ns[k]) := by
        rw [List.getElem?_map, List.getElem?_eq_getElem lt']
        rfl
      exact ⟨_, rfl, _, rfl, a, _, _, _, rfl, rfl, hS, atI_nat g, q _⟩
    · exact q _

/-! ### _law_digits -/
def spDigits (K : PySem.W.Frag) : Sp := fun vs H Q _ => ∃ (a : Addr) (ns : List Int), vs = [.ref a, .int 0, .int 63] ∧ SqL K H a (ns.map V.int) ∧
  ∀ (p : Addr) (ds : List Int) (H' : Hp), Same H H' → H p = none → H' p = some (.lst (ds.map V.int)) → Q (.ref p) H'
theorem ok_law_digits {f : Addr} {fd : FuncData} (A : All w K mg ) (F : Fun K "_law_digits" "_law_digits" s_law_digits f fd) : FnOk P w K mg base CX0 2 f fd ["script", "first", "last"] (spDigits K) := by
  obtain ⟨f_law_cell, fd_law_cell, F_law_cell, g_law_cell, b_law_cell⟩ := A.law_cell
  have G_law_cell := ok_law_cell (P := P) (w := w) (base := base) A F_law_cell
  refine F.ok sc_law_digits (fun vs H Q E h => ?_) (fun cdv A' outer s H vs Q E hr h => ?_)
  · obtain ⟨a, ns, rfl, _⟩ := h
    rfl
  · obtain ⟨a, ns, rfl, hS, q⟩ := h
    refine ⟨_, (pss_cons (ps_set (i := 3) sc_law_digits.nd rfl (.inl rfl) (pe_lst pa_nil))
(pss_cons (ps_for PassesOwn.never rfl (pi_range2 (by rfl) A.range (pa_cons (pv 1) (pa_cons (pv 2) pa_nil))) (pg_name (i := 4) sc_law_digits.nd rfl (.inl rfl))
(pss_cons (ps_set (i := 5) sc_law_digits.nd rfl (.inl rfl) (pe_call G_law_cell (hr.mono (by decide)) (by rfl) g_law_cell F_law_cell.kp b_law_cell .nil pass0 (pa_cons (pv 0) (pa_cons (pv 4) pa_nil))))
(Evl.pss_cut (ps_if (pt_cmpR op_lt (pv 5) pe_int (nomark _))
(pss_one (ps_set (i := 5) sc_law_digits.nd rfl (.inl rfl) (pe_op op_sub pe_int (pe_op op_mul pe_int (pv 5)))))
pss_nil)
(pss_one (ps_if (pt_cmpR op_ge (pv 5) pe_int (nomark _))
(pss_one (ps_for PassesOwn.never rfl (pi_range1 (by rfl) A.range (pa_cons pe_int pa_nil)) (pg_name (i := 6) sc_law_digits.nd rfl (.inl rfl))
(pss_one (ps_if (pt_cmpR op_gt (pv 5) pe_int (nomark _))
(pss_cons (ps_expr (pe_bm PySem.F.plainAttrs_list PySem.F.slot_list_append PySem.F.type_list_append mt_append (pv 3) (pa_cons (pe_op op_mod (pe_callTy call_int1 (by rfl) A.int (by decide +kernel) (pa_cons (pv 5) pa_nil)) pe_int) pa_nil)))
(pss_one (ps_set (i := 5) sc_law_digits.nd rfl (.inl rfl) (pe_op op_fdiv (pv 5) pe_int))))
pss_nil))))
(pss_cons (ps_set (i := 7) sc_law_digits.nd rfl (.inl rfl) (pe_op op_mod (pe_callTy call_int1 (by rfl) A.int (by decide +kernel) (pa_cons (pe_op op_add (pe_op op_add (pe_op op_mul (pv 5) pe_int) (pe_op op_mul (pv 4) pe_int)) pe_int) pa_nil)) pe_int))
(pss_one (ps_for PassesOwn.never rfl (pi_range1 (by rfl) A.range (pa_cons pe_int pa_nil)) (pg_name (i := 6) sc_law_digits.nd rfl (.inl rfl))
(pss_cons (ps_set (i := 7) sc_law_digits.nd rfl (.inl rfl) (pe_op op_mod (pe_callTy call_int1 (by rfl) A.int (by decide +kernel) (pa_cons (pe_op op_add (pe_op op_add (pe_op op_mul (pv 7) pe_int) (pe_op op_mul pe_int (pv 6))) pe_int) pa_nil)) pe_int))
(pss_one (ps_expr (pe_bm PySem.F.plainAttrs_list PySem.F.slot_list_append PySem.F.type_list_append mt_append (pv 3) (pa_cons (pe_op op_mod (pe_callTy call_int1 (by rfl) A.int (by decide +kernel) (pa_cons (pe_op op_fdiv (pv 7) pe_int) pa_nil)) pe_int) pa_nil)))))))))))))
(pss_one (ps_ret (pv 3))))), ?_⟩
    refine ⟨Nat.zero_le _, fun d nd => ?_⟩
    refine ⟨_, rfl, _, rfl, 0, 63, rfl, by decide, ?_⟩
    let St1 : Nat → L2.St → Hp → Prop := fun m σ H' => ∃ (ds : List Int) (v4 c v6 v7 : Option V), σ = [some (.ref a), some (.int 0), some (.int 63), some (.ref d), v4, c, v6, v7] ∧ Same H H' ∧ H' d = some (.lst (ds.map V.int)) ∧ ds.length ≤ m
    refine for_range (lo := 0) (n := 63) (fun i => St1 (60 * i)) ⟨[], none, none, none, none, rfl, same_new (Same.refl H) nd, upd_same, Nat.le_refl _⟩ ?_ ?_
    · rintro i σ H1 hi ⟨ds, v4, c, v6, v7, rfl, s1, hd, hl⟩
      refine ⟨_, rfl, _, rfl, a, ns, i, by rw [Int.zero_add]; rfl, s1.seq hS, fun cv => ?_⟩
      refine ⟨fun σ H2 => H2 = H1 ∧ ∃ cv : Int, σ = [some (.ref a), some (.int 0), some (.int 63), some (.ref d), some (.int (0 + (i : Int))), some (.int cv), v6, v7], ?_, ?_⟩
      · refine ⟨_, rfl, _, _, rfl, rfl, _, rfl, ite2 (fun _ => ?_) (fun _ => ?_)⟩
        · exact ⟨_, rfl, _, _, rfl, rfl, .inl ⟨by decide, by decide⟩, _, _, rfl, rfl, rfl, _, rfl⟩
        · exact ⟨rfl, cv, rfl⟩
      rintro σ H2 ⟨rfl, cv, rfl⟩
      refine ⟨_, rfl, _, _, rfl, rfl, _, rfl, ite2 (fun _ => ?_) (fun _ => ?_)⟩
      · -- the digits of a great number
        refine ⟨60, rfl, by decide, by decide, for_range (lo := 0) (n := 60) (fun j σ H' => ∃ (ds : List Int) (cv : Int) (v6 : Option V), σ = [some (.ref a), some (.int 0), some (.int 63), some (.ref d), some (.int (0 + (i : Int))), some (.int cv), v6, v7] ∧ Same H H' ∧ H' d = some (.lst (ds.map V.int)) ∧ ds.length ≤ 60 * i + j)
          ⟨ds, cv, v6, rfl, s1, hd, hl⟩ ?_ ?_⟩
        · rintro j σ H3 hj ⟨ds, cv, v6, rfl, s2, hd, hl⟩
          refine ⟨_, rfl, _, _, rfl, rfl, _, rfl, ite2 (fun _ => ?_) (fun _ => ?_)⟩
          · refine ⟨_, rfl, .inl ⟨rfl, _, SqL.of hd⟩, _, rfl, .inl ⟨_, rfl, _, _, rfl, rfl, (by show (0 : Int) < 1000; decide), d, _, _, rfl, rfl, hd, lt_size (by rw [List.length_map]; omega), ?_⟩⟩
            refine ⟨_, rfl, _, _, rfl, rfl, ⟨by decide, by decide⟩, ds ++ [cv % 1000], cv / 1000, _, rfl, same_mut s2 nd, ?_, ?_⟩
            · rw [upd_same, List.map_append]
              rfl
            · rw [List.length_append]
              show ds.length + 1 ≤ _
              omega
          · exact ⟨ds, cv, _, rfl, s2, hd, by omega⟩
        · rintro σ H3 ⟨ds, cv, v6, rfl, s2, hd, hl⟩
          exact ⟨ds, _, _, _, _, rfl, s2, hd, by omega⟩
      · refine ⟨_, rfl, _, _, rfl, rfl, .inr ⟨by decide, by decide⟩, _, rfl, _, _, rfl, rfl, .inr ⟨by decide, by decide⟩, _, _, rfl, rfl, _, _, rfl, rfl, .inl ⟨_, rfl, _, _, rfl, rfl, (by show (0 : Int) < 2147483399; decide), ?_⟩⟩
        refine ⟨12, rfl, by decide, by decide, for_range (lo := 0) (n := 12) (fun j σ H' => ∃ (ds : List Int) (sv : Int) (v6 : Option V), σ = [some (.ref a), some (.int 0), some (.int 63), some (.ref d), some (.int (0 + (i : Int))), some (.int cv), v6, some (.int sv)] ∧ Same H H' ∧ H' d = some (.lst (ds.map V.int)) ∧ ds.length ≤ 60 * i + j)
          ⟨ds, _, v6, rfl, s1, hd, hl⟩ ?_ ?_⟩
        · rintro j σ H3 hj ⟨ds, sv, v6, rfl, s2, hd, hl⟩
          refine ⟨_, rfl, _, _, rfl, rfl, .inr ⟨by decide, by decide⟩, _, rfl, _, _, rfl, rfl, .inl ⟨by decide, by decide⟩, _, _, rfl, rfl, _, _, rfl, rfl, .inl ⟨_, rfl, _, _, rfl, rfl, (by show (0 : Int) < 2147483563; decide), ?_⟩⟩
          refine ⟨_, rfl, .inl ⟨rfl, _, SqL.of hd⟩, _, rfl, _, _, rfl, rfl, ⟨by decide, by decide⟩, .inl ⟨_, rfl, _, _, rfl, rfl, (by show (0 : Int) < 1000; decide), d, _, _, rfl, rfl, hd, lt_size (by rw [List.length_map]; omega), ?_⟩⟩
          refine ⟨ds ++ [((sv * 40014 + 5 * (0 + (j : Int)) + 3) % 2147483563 / 1009) % 1000], _, _, rfl, same_mut s2 nd, ?_, ?_⟩
          · rw [upd_same, List.map_append]
            rfl
          · rw [List.length_append]
            show ds.length + 1 ≤ _
            omega
        · rintro σ H3 ⟨ds, sv, v6, rfl, s2, hd, hl⟩
          exact ⟨ds, _, _, _, _, rfl, s2, hd, by omega⟩
    · rintro σ H1 ⟨ds, v4, c, v6, v7, rfl, s1, hd, hl⟩
      exact ⟨_, rfl, q d ds H1 s1 nd hd⟩

/-! ### _law_draw -/
def spDraw : Sp := fun vs H Q _ => ∃ (b dg : Addr) (ds : List Int) (m : Int), vs = [.ref b, .int m] ∧ 0 < m ∧ Bx H b dg ds ∧
  ∀ (r : Int) (H' : Hp), 0 ≤ r → r < m → Fx b H H' → Bx H' b dg ds → Q (.int r) H'
theorem ok_law_draw {f : Addr} {fd : FuncData} (A : All w K mg ) (F : Fun K "_law_draw" "_law_draw" s_law_draw f fd) : FnOk P w K mg base CX0 1 f fd ["box", "many"] spDraw := by
  refine F.ok sc_law_draw (fun vs H Q E h => ?_) (fun cdv A' outer s H vs Q E hr h => ?_)
  · obtain ⟨b, dg, ds, m, rfl, _⟩ := h
    rfl
  · obtain ⟨b, dg, ds, m, rfl, hm, ⟨n, hb, hd⟩, q⟩ := h
    have nbd : dg ≠ b := ne_of hd hb (fun z => by
      cases ds with
      | nil => exact nomatch z
      | cons d r => exact nomatch (List.cons.inj (HO.lst.inj z)).1)
    refine ⟨_, (pss_cons (ps_set (i := 2) sc_law_draw.nd rfl (.inl rfl) (pe_ix ix_list (pv 0) pe_int (fun _ _ => rfl)))
(pss_cons (ps_asg (pe_op op_add (pv 2) pe_int) (pg_sub (pv 0) pe_int set_list))
(pss_cons (ps_if (pt_cmpR op_lt (pv 2) (pe_callB call_len_seq (by rfl) A.len PySem.boot_len (pa_cons (pe_ix ix_list (pv 0) pe_int (fun _ _ => rfl)) pa_nil)) (nomark _))
(pss_one (ps_ret (pe_op op_mod (pe_callTy call_int1 (by rfl) A.int (by decide +kernel) (pa_cons (pe_ix ix_list (pe_ix ix_list (pv 0) pe_int (fun _ _ => rfl)) (pv 2) (fun _ _ => rfl)) pa_nil)) (pv 1))))
pss_nil)
(pss_one (ps_ret (pe_op op_mod (pe_callTy call_int1 (by rfl) A.int (by decide +kernel) (pa_cons (pe_op op_add (pe_op op_mul (pv 2) pe_int) pe_int) pa_nil)) (pv 1))))))), ?_⟩
    refine ⟨_, rfl, b, _, 1, _, rfl, rfl, SqL.of hb, atI_nat (j := 1) rfl, ?_⟩
    refine ⟨_, rfl, _, _, rfl, rfl, _, rfl, b, _, 1, 1, rfl, rfl, hb, rfl, ?_⟩
    have hb2 : upd H b (.lst [.ref dg, .int ((n : Int) + 1)]) b = some (.lst [.ref dg, .int ((n : Int) + 1)]) := upd_same
    have hd2 : upd H b (.lst [.ref dg, .int ((n : Int) + 1)]) dg = some (.lst (ds.map V.int)) := by
      rw [upd_ne nbd]
      exact hd
    have fin : ∀ r : Int, 0 ≤ r → r < m → Q (.int r) (upd H b (.lst [.ref dg, .int ((n : Int) + 1)])) := fun r h1 h2 =>
      q r _ h1 h2 (fun c o nc e => by rw [upd_ne nc]; exact e) ⟨n + 1, by rw [hb2]; rfl, hd2⟩
    refine ⟨_, rfl, _, rfl, b, _, 0, _, rfl, rfl, SqL.of hb2, atI_nat (j := 0) rfl, dg, _, rfl, .inl (SqL.of hd2), _, _, rfl, rfl, _, rfl, ite2 (fun e => ?_) (fun e => ?_)⟩
    · have lt : n < ds.length := by
        have := of_decide_eq_true e
        rw [List.length_map] at this
        omega
      have g : (ds.map V.int)[n]? = some (.int ds[n]) := by
        rw [List.getElem?_map, List.getElem?_eq_getElem lt]
        rfl
      refine ⟨_, rfl, b, _, 0, _, rfl, rfl, SqL.of hb2, atI_nat (j := 0) rfl, _, rfl, dg, _, _, _, rfl, rfl, SqL.of hd2, atI_nat g, .inl ⟨_, rfl, _, rfl, _, _, rfl, rfl, hm, ?_⟩⟩
      exact fin _ (Int.emod_nonneg _ (by omega)) (Int.emod_lt_of_pos _ hm)
    · refine ⟨_, rfl, _, _, rfl, rfl, .inr ⟨by decide, by decide⟩, _, _, rfl, rfl, .inl ⟨_, rfl, _, rfl, _, _, rfl, rfl, hm, ?_⟩⟩
      exact fin _ (Int.emod_nonneg _ (by omega)) (Int.emod_lt_of_pos _ hm)

/-! ### is_rising -/
/-- < of numbers, or of tuples of numbers -/
def rLtB (K : PySem.W.Frag) : R2 := fun x y H Q => rI0 (fun i j => .bl (decide (i < j))) x y H Q ∨ rLtT K x y H Q
theorem op_ltB {X : Cx} (hu : X.A.units < cLine) : OpR X (compareOp .Lt) (rLtB X.K) := by
  intro pins s σ H x y v u Q I rx ry h
  rcases h with h | h
  · exact op_lt pins s σ H x y v u Q I rx ry h
  · exact op_ltT hu pins s σ H x y v u Q I rx ry h
/-- what a list of rising things is asked: two that follow, their answer -/
def Cmp (K : PySem.W.Frag) (H : Hp) (xs : List V) (bs : List Bool) : Prop := bs.length = (xs.zip (xs.drop 1)).length ∧
  ∀ (i : Nat) (x y : V) (b : Bool), xs[i]? = some x → (xs.drop 1)[i]? = some y → bs[i]? = some b → ∀ H', Same H H' → ∀ Q : VK, Q (.bl b) H' → rLtB K x y H' Q
def spRis (K : PySem.W.Frag) : Sp := fun vs H Q _ => ∃ (a : Addr) (xs : List V) (bs : List Bool), vs = [.ref a] ∧ SqL K H a xs ∧ xs.length ≤ 1000 ∧ Cmp K H xs bs ∧ ∀ H', Same H H' → Q (.bl (bs.all id)) H'
theorem ok_is_rising {f : Addr} {fd : FuncData} (A : All w K mg ) (F : Fun K "is_rising" "is_rising" s_is_rising f fd) : FnOk P w K mg base CX0 1 f fd ["row"] (spRis K) := by
  
  refine F.ok sc_is_rising (fun vs H Q E h => ?_) (fun cdv A' outer s H vs Q E hr h => ?_)
  · obtain ⟨a, xs, bs, rfl, _⟩ := h
    rfl
  · obtain ⟨a, xs, bs, rfl, hS, hl, ⟨hbl, hc⟩, q⟩ := h
    have hu0 : _ < cLine := Nat.lt_of_succ_lt (hu_of hr)
    refine ⟨_, (pss_one (ps_ret (pe_callB (cr_all rfl) (by rfl) A.all (by decide +kernel) (pa_cons (pe_lc (own := [("low", 1), ("high", 2)]) (tt := tYes) (g := gTup K 2 (gCons (gName 1) (gCons (gName 2) gNil))) rfl sc_is_rising.nd (pi_zip (by rfl) A.zip (pa_cons (pv 0) (pa_cons (pe_slice sl_list (pv 0) (po_some pe_int) po_none) pa_nil))) (blkOk_by (N := ["row", "low", "high"]) (sc := defScope s_is_rising) (by decide +kernel)) (fun _ _ _ _ _ => (pg_tup rfl (pgs_cons (pg_name (i := 1) sc_is_rising.nd rfl (Or.inl rfl)) (pgs_cons (pg_name (i := 2) sc_is_rising.nd rfl (Or.inl rfl)) pgs_nil)))) (fun _ _ _ _ _ => pts_nil) (fun _ _ _ _ _ => (pe_cmpR (show OpR _ _ (rLtB K) from op_ltB (by exact hu0)) (pv 1) (pv 2) (nomark _)))) pa_nil)))), ?_⟩
    refine ⟨_, rfl, _, rfl, _, rfl, a, _, rfl, hS, fun p np => ?_⟩
    have s1 := same_new (o := .lst (cutV xs (some (1 : Nat)) none)) (Same.refl H) np
    have hp : (upd H p (.lst (cutV xs (some (1 : Nat)) none))) p = some (.lst (xs.drop 1)) := by
      rw [upd_same]
      cases xs with
      | nil => rfl
      | cons c r =>
        rw [cut_drop _ (by simp)]
    generalize upd H p (.lst (cutV xs (some (1 : Nat)) none)) = H1 at s1 hp
    show ∃ a_1 b xs ys, [V.ref a, V.ref p] = [V.ref a_1, V.ref b] ∧ SqL K _ a_1 xs ∧ SqL K _ b ys ∧ _
    refine ⟨a, p, xs, xs.drop 1, rfl, s1.seq hS, SqL.of hp, fun D nD => ?_⟩
    have hn : (xs.zip (xs.drop 1)).length = min xs.length (xs.drop 1).length := List.length_zip
    refine lc_it (walk_zip (K := K) (a := a) (b := p) (n := (xs.zip (xs.drop 1)).length) hn) (fun i H' => H' D = some (.lst ((bs.take i).map V.bl)) ∧ Same H1 H') ⟨upd_same, same_new (Same.refl H1) nD⟩ (fun i H' _ h => ⟨h.2.seq (s1.seq hS), h.2.seq (SqL.of hp)⟩) ?_ ?_
    · rintro i v H2 H3 hi ⟨hD, s2⟩ ⟨T, x, y, rfl, nT, rfl, hx, hy⟩
      have hb : bs[i]? = some bs[i] := List.getElem?_eq_getElem (by omega)
      have s3 := same_new (o := .tup [x, y]) (Same.refl H2) nT
      refine ⟨T, _, rfl, SqT.of upd_same, rfl, _, _, rfl, _, _, rfl, rfl, ?_⟩
      refine ⟨rfl, _, rfl, _, rfl, hc i x y _ hx hy hb _ ((s1.trans s2).trans s3) _ ?_⟩
      refine ⟨_, s3 _ _ hD, ?_, ?_, same_mut (s2.trans s3) nD⟩
      · rw [List.length_map, List.length_take, sizeLine_eq]
        omega
      · rw [upd_same, List.take_succ, hb, List.map_append]
        rfl
    · rintro H2 ⟨hD, s2⟩
      rw [← hbl, List.take_length] at hD
      refine ⟨D, _, rfl, SqL.of hD, ?_⟩
      exact q _ (s1.trans s2)
theorem map_at {α : Type} {f : α → V} {l : List α} {i : Nat} {v : V} (h : (l.map f)[i]? = some v) : ∃ c, l[i]? = some c ∧ v = f c := by
  rw [List.getElem?_map] at h
  cases e : l[i]? with
  | none => rw [e] at h; cases h
  | some c => rw [e] at h; exact ⟨c, rfl, (Option.some.inj h).symm⟩
theorem cmp_ints {H : Hp} (ks : List Int) : Cmp K H (ks.map V.int) ((ks.zip (ks.drop 1)).map fun p => decide (p.1 < p.2)) := by
  refine ⟨by simp, fun i x y b hx hy hb H' _ Q q => .inl ?_⟩
  rw [← List.map_drop] at hy
  obtain ⟨c, hc, rfl⟩ := map_at hx
  obtain ⟨d, hd, rfl⟩ := map_at hy
  rw [List.getElem?_map, show (ks.zip (ks.drop 1))[i]? = some (c, d) from List.getElem?_zip_eq_some.mpr ⟨hc, hd⟩] at hb
  cases hb
  exact ⟨c, d, rfl, rfl, q⟩
theorem all_ris (ks : List Int) : ((ks.zip (ks.drop 1)).map fun p => decide (p.1 < p.2)).all id = ris ks := by
  rw [List.all_map]
  rfl
theorem lex_ltP (a b : Int × Int) : HT.lexLt [a.1, a.2] [b.1, b.2] = ltP a b := by
  unfold ltP
  simp only [HT.lexLt]
  by_cases h : a.1 = b.1
  · rw [if_pos h]
    by_cases h2 : a.2 = b.2
    · rw [if_pos h2, decide_eq_false (by omega)]
    · rw [if_neg h2]
      by_cases h3 : a.2 < b.2
      · rw [decide_eq_true h3, decide_eq_true (.inr ⟨h, h3⟩)]
      · rw [decide_eq_false h3, decide_eq_false (by omega)]
  · rw [if_neg h]
    by_cases h3 : a.1 < b.1
    · rw [decide_eq_true h3, decide_eq_true (.inl h3)]
    · rw [decide_eq_false h3, decide_eq_false (by omega)]
theorem cmp_pairs {H : Hp} {ts : List Addr} {rows : List (Int × Int)} (P : Paired (fun t p => H t = some (.tup [.int p.1, .int p.2])) ts rows) : Cmp K H (ts.map V.ref) ((rows.zip (rows.drop 1)).map fun p => ltP p.1 p.2) := by
  have hl := P.length
  refine ⟨by simp [hl], fun i x y b hx hy hb H' s Q q => .inr ?_⟩
  rw [← List.map_drop] at hy
  obtain ⟨c, hc, rfl⟩ := map_at hx
  obtain ⟨d, hd, rfl⟩ := map_at hy
  rw [List.getElem?_drop] at hd
  obtain ⟨r1, g1, e1⟩ := LiI.paired_get P hc
  obtain ⟨r2, g2, e2⟩ := LiI.paired_get P hd
  have g2' : (rows.drop 1)[i]? = some r2 := by rw [List.getElem?_drop]; exact g2
  rw [List.getElem?_map, show (rows.zip (rows.drop 1))[i]? = some (r1, r2) from List.getElem?_zip_eq_some.mpr ⟨g1, g2'⟩] at hb
  cases hb
  refine ⟨c, d, [r1.1, r1.2], [r2.1, r2.2], rfl, rfl, SqT.of (s _ _ e1), SqT.of (s _ _ e2), ?_⟩
  rw [lex_ltP]
  exact q
theorem all_risP (rows : List (Int × Int)) : ((rows.zip (rows.drop 1)).map fun p => ltP p.1 p.2).all id = risP rows := by
  rw [List.all_map]
  rfl
/-! ### _is_number -/
def spNum (_ : Unit) : Sp := fun vs H Q _ => ∃ (z : Str) (n : Int), vs = [.str z] ∧ z.length ≤ 1000 ∧ ((Txt.isdecimal z = true ∧ z.length ≤ 5) → intText? z = some n ∧ n.natAbs.log2 < 1920) ∧ Q (.bl (isNum z (some n))) H
theorem ok_is_number {f : Addr} {fd : FuncData} (A : All w K mg ) (F : Fun K "_is_number" "_is_number" s_is_number f fd) : FnOk P w K mg base CX0 1 f fd ["word"] (spNum ()) := by
  
  refine F.ok sc_is_number (fun vs H Q E h => ?_) (fun cdv A' outer s H vs Q E hr h => ?_)
  · obtain ⟨z, n, rfl, _⟩ := h
    rfl
  · obtain ⟨z, n, rfl, hzl, hn, q⟩ := h
    refine ⟨_, (pss_cons (ps_if (PW.pt (pw_or (pt_not (pt_val (pe_m0 PySem.F.slot_str_isdecimal (by rfl) mt_isdecimal (pv 0)))) (pw_or1 (pt_cmpR op_gt (pe_callB call_len_str (by rfl) A.len PySem.boot_len (pa_cons (pv 0) pa_nil)) (pe_cst (by rfl) A.c_DIGITS_MOST) (nomark _)))))
(pss_one (ps_ret pe_bl))
pss_nil)
(pss_one (ps_ret (pe_cmpR op_eq (pe_callTy call_str_int (by rfl) A.str (by decide +kernel) (pa_cons (pe_callTy call_int_str (by rfl) A.int (by decide +kernel) (pa_cons (pv 0) pa_nil)) pa_nil)) (pv 0) (nomark _))))), ?_⟩
    have no : ¬ (Txt.isdecimal z = true ∧ z.length ≤ 5) → isNum z (some n) = false := fun h => by
      unfold isNum
      cases e1 : Txt.isdecimal z with
      | false => rfl
      | true =>
        have : ¬ z.length ≤ 5 := fun y => h ⟨e1, y⟩
        rw [decide_eq_false this]
        rfl
    refine ⟨_, rfl, ⟨_, rfl⟩, z, rfl, rfl, trivial, _, rfl, ite2 (fun e => ?_) (fun e => ?_)⟩
    · refine iteT ?_
      rw [no (fun h => by rw [h.1] at e; cases e)] at q
      exact q
    have e1 : Txt.isdecimal z = true := by
      cases e1 : Txt.isdecimal z with
      | true => rfl
      | false => exact absurd (by rw [e1]; rfl) e
    refine ⟨_, rfl, z, rfl, by rw [sizeLine_eq]; omega, _, _, rfl, rfl, _, rfl, ite2 (fun e2 => ?_) (fun e2 => ?_)⟩
    · have h5 : ¬ z.length ≤ 5 := fun y => by
        have := of_decide_eq_true e2
        omega
      rw [no (fun h => h5 h.2)] at q
      exact q
    have h5 : z.length ≤ 5 := by
      have : ¬ (z.length : Int) > 5 := fun y => e2 (decide_eq_true y)
      omega
    obtain ⟨hi, hl⟩ := hn ⟨e1, h5⟩
    refine ⟨_, rfl, z, n, rfl, hi, by omega, n, rfl, hl, _, rfl, rfl, ?_⟩
    unfold isNum at q
    rw [e1, decide_eq_true h5] at q
    have e3 : decide (V.str (Str.ofString (toString n)) = V.str z) = decide (Str.ofString (toString n) = z) := by
      by_cases y : Str.ofString (toString n) = z
      · rw [y, decide_eq_true rfl, decide_eq_true rfl]
      · rw [decide_eq_false y, decide_eq_false (fun w => y (V.str.inj w))]
    rw [e3]
    exact q
/-! ### read_numbers -/
theorem at_map {α : Type} {f : α → V} {l : List α} {i : Nat} {v : V} (h : (l.map f)[i]? = some v) : ∃ c, l[i]? = some c ∧ v = f c := by
  rw [List.getElem?_map] at h
  cases e : l[i]? with
  | none => rw [e] at h; cases h
  | some c => rw [e] at h; exact ⟨c, rfl, (Option.some.inj h).symm⟩
def spNums (K : PySem.W.Frag) : Sp := fun vs H Q _ => ∃ (a : Addr) (zs : List Str), vs = [.ref a] ∧ SqL K H a (zs.map V.str) ∧ zs.length ≤ 10000 ∧ (∀ z ∈ zs, Plain z) ∧
  (zs.all okN = false → ∀ H', Same H H' → Q .non H') ∧ (zs.all okN = true → ∀ (p : Addr) (H' : Hp), Same H H' → H p = none → H' p = some (.lst ((zs.map num).map V.int)) → Q (.ref p) H')
theorem ok_read_numbers {f : Addr} {fd : FuncData} (A : All w K mg ) (F : Fun K "read_numbers" "read_numbers" s_read_numbers f fd) : FnOk P w K mg base CX0 2 f fd ["words"] (spNums K) := by
  obtain ⟨f_is_number, fd_is_number, F_is_number, g_is_number, b_is_number⟩ := A.is_number
  have G_is_number := ok_is_number (P := P) (w := w) (base := base) A F_is_number
  refine F.ok sc_read_numbers (fun vs H Q E h => ?_) (fun cdv A' outer s H vs Q E hr h => ?_)
  · obtain ⟨a, zs, rfl, _⟩ := h
    rfl
  · obtain ⟨a, zs, rfl, hS, hl, hp, q0, q1⟩ := h
    refine ⟨_, (pss_cons (ps_if (pt_val (pe_callB (cr_all rfl) (by rfl) A.all (by decide +kernel) (pa_cons (pe_lc (own := [("word", 1)]) (tt := tYes) rfl sc_read_numbers.nd (pi_list (pv 0)) (blkOk_by (N := ["words", "word"]) (sc := defScope s_read_numbers) (by decide +kernel)) (fun _ _ _ _ _ => pg_name (i := 1) sc_read_numbers.nd rfl (Or.inl rfl)) (fun _ _ _ _ _ => pts_nil) (fun _ _ _ _ _ => (pe_call G_is_number (hr.mono (by decide)) (by rfl) g_is_number F_is_number.kp b_is_number .nil pass0 (pa_cons (pv 1) pa_nil)))) pa_nil)))
(pss_one (ps_ret (pe_lc (own := [("word", 1)]) (tt := tYes) rfl sc_read_numbers.nd (pi_list (pv 0)) (blkOk_by (N := ["words", "word"]) (sc := defScope s_read_numbers) (by decide +kernel)) (fun _ _ _ _ _ => pg_name (i := 1) sc_read_numbers.nd rfl (Or.inl rfl)) (fun _ _ _ _ _ => pts_nil) (fun _ _ _ _ _ => (pe_callTy call_int_str (by rfl) A.int (by decide +kernel) (pa_cons (pv 1) pa_nil))))))
pss_nil)
(pss_one (ps_ret pe_non))), ?_⟩
    refine ⟨_, rfl, a, rfl, ⟨_, hS⟩, fun D nD => ?_⟩
    refine lc_list (K := K) (a := a) (xs := zs.map V.str) (fun i H' => H' D = some (.lst ((zs.take i).map fun z => V.bl (okN z))) ∧ Same H H') ⟨upd_same, same_new (Same.refl H) nD⟩ (fun i H' _ h => h.2.seq hS) ?_ ?_
    · rintro i v H1 hv ⟨hD, s1⟩
      obtain ⟨z, hz, rfl⟩ := at_map hv
      have pz := hp z (List.mem_of_getElem? hz)
      refine ⟨rfl, _, rfl, z, num z, rfl, by have := pz.1; omega, pz.2, _, hD, ?_, ?_, same_mut s1 nD⟩
      · rw [List.length_map, List.length_take, sizeLine_eq]
        omega
      · rw [upd_same, List.take_succ, hz, List.map_append]
        rfl
    · rintro H1 ⟨hD, s1⟩
      rw [List.length_map, List.take_length] at hD
      have hD' : H1 D = some (.lst ((zs.map okN).map V.bl)) := by
        rw [hD, List.map_map]
        rfl
      have ea : (zs.map okN).all id = zs.all okN := by
        rw [List.all_map]
        rfl
      refine ⟨D, _, rfl, SqL.of hD', _, rfl, ?_⟩
      rw [ea]
      cases e : zs.all okN with
      | false => exact iteF (q0 e _ s1)
      | true =>
        refine iteT ?_
        have ok : ∀ z ∈ zs, okN z = true := List.all_eq_true.mp e
        refine ⟨_, rfl, a, rfl, ⟨_, s1.seq hS⟩, fun D2 nD2 => ?_⟩
        refine lc_list (K := K) (a := a) (xs := zs.map V.str) (fun i H' => H' D2 = some (.lst ((zs.take i).map fun z => V.int (num z))) ∧ Same H1 H') ⟨upd_same, same_new (Same.refl H1) nD2⟩ (fun i H' _ h => h.2.seq (s1.seq hS)) ?_ ?_
        · rintro i v H2 hv ⟨hD2, s2⟩
          obtain ⟨z, hz, rfl⟩ := at_map hv
          have pz := hp z (List.mem_of_getElem? hz)
          have oz := okN_of (ok z (List.mem_of_getElem? hz))
          refine ⟨rfl, _, rfl, z, num z, rfl, (pz.2 ⟨oz.1, oz.2.1⟩).1, pz.1, _, hD2, ?_, ?_, same_mut s2 nD2⟩
          · rw [List.length_map, List.length_take, sizeLine_eq]
            omega
          · rw [upd_same, List.take_succ, hz, List.map_append]
            rfl
        · rintro H2 ⟨hD2, s2⟩
          rw [List.length_map, List.take_length] at hD2
          have nH : H D2 = none := by
            cases y : H D2 with
            | none => rfl
            | some o => exact absurd ((s1 _ _ y).symm.trans nD2) (fun z => nomatch z)
          exact q1 e D2 H2 (s1.trans s2) nH (by rw [hD2, List.map_map]; rfl)
end
end K45
set_option Elab.async false
set_option linter.all false
set_option maxRecDepth 100000
set_option maxHeartbeats 4000000
/-! K45b: events read. -/
namespace K45
open PySem PySem.Spec PyProof.Rows L2 Gd Com Bk Nw Xs
section
variable {P : Program} {w : World} {K : PySem.W.Frag} {mg : Str → Option Value} {base : Heap}
/-- what is read, as a value -/
def OutV (K : PySem.W.Frag) (H : Hp) : Option Ev → V → Prop
  | none, v => v = .non
  | some e, v => Dp K H v (dat e) ∧ ∃ p, v = .ref p
def Res (K : PySem.W.Frag) (H : Hp) (o : Option Ev) (Q : VK) : Prop := ∀ v H', Same H H' → OutV K H' o v → Q v H'
theorem out_none {H : Hp} : OutV K H none .non := rfl
/-- what the tuple of an event is, as data -/
theorem out_tup {H : Hp} {p : Addr} {xs : List V} {ds : List PyData} {e : Ev} (h : SqT K H p xs) (a : DpAll K H xs ds) (hd : dat e = .tuple ds) : OutV K H (some e) (.ref p) := ⟨by rw [hd]; exact .tup h a, _, rfl⟩
theorem paired_dpa {α : Type} {H : Hp} {f : α → PyData} {g : α → List V} (hf : ∀ (t : Addr) (a : α), H t = some (.tup (g a)) → Dp K H (.ref t) (f a)) : ∀ {ts : List Addr} {l : List α}, Paired (fun (t : Addr) (q : α) => H t = some (.tup (g q))) ts l → DpAll K H (ts.map V.ref) (l.map f)
  | _, _, .nil => .nil
  | _, _, .cons h t => .cons (hf _ _ h) (paired_dpa hf t)
theorem paired_map {α β γ : Type} {F : γ → β → Prop} {f : α → β} : ∀ {ts : List γ} {l : List α}, Paired F ts (l.map f) → Paired (fun t a => F t (f a)) ts l
  | [], [], _ => .nil
  | _ :: _, _ :: _, .cons h t => .cons h (paired_map t)
theorem paired_same {α : Type} {H H' : Hp} {g : α → List V} (s : Same H H') : ∀ {ts : List Addr} {l : List α}, Paired (fun (t : Addr) (q : α) => H t = some (.tup (g q))) ts l → Paired (fun (t : Addr) (q : α) => H' t = some (.tup (g q))) ts l
  | _, _, .nil => .nil
  | _, _, .cons h t => .cons (s _ _ h) (paired_same s t)
theorem bne_t {x y : V} (h : (!decide (x = y)) = true) : x ≠ y := fun e => by
  rw [decide_eq_true e] at h
  cases h
theorem bne_f {x y : V} (h : ¬ (!decide (x = y)) = true) : x = y := Classical.byContradiction fun e => h (by rw [decide_eq_false e]; rfl)
/-! ### _sending -/
def spSend (K : PySem.W.Frag) : Sp := fun vs H Q _ => ∃ (a : Addr) (ns : List Int), vs = [.ref a] ∧ SqL K H a (ns.map V.int) ∧ ns.length ≤ 1000 ∧ Res K H (rdSend ns) Q
theorem ok_sending {f : Addr} {fd : FuncData} (A : All w K mg ) (F : Fun K "_sending" "_sending" s_sending f fd) : FnOk P w K mg base CX0 1 f fd ["numbers"] (spSend K) := by
  
  refine F.ok sc_sending (fun vs H Q E h => ?_) (fun cdv A' outer s H vs Q E hr h => ?_)
  · obtain ⟨a, ns, rfl, _⟩ := h
    rfl
  · obtain ⟨a, ns, rfl, hS, hl, q⟩ := h
    refine ⟨_, (pss_cons (ps_if (pt_not (pt_chain op_le op_le pe_int (pe_callB call_len_seq (by rfl) A.len PySem.boot_len (pa_cons (pv 0) pa_nil)) (pe_op op_add pe_int (pe_cst (by rfl) A.cCARRIED_MOST))))
(pss_one (ps_ret pe_non))
pss_nil)
(pss_one (ps_ret (pe_tup (pa_cons pe_str (pa_cons (pe_ix ix_list (pv 0) pe_int (fun _ _ => rfl)) (pa_cons (pe_callTy call_tuple_of (by rfl) A.tuple (by decide +kernel) (pa_cons (pe_slice sl_list (pv 0) (po_some pe_int) po_none) pa_nil)) pa_nil))))))), ?_⟩
    have no : ¬ (1 ≤ ns.length ∧ ns.length ≤ 5) → Q .non H := fun h => by
      refine q _ _ (Same.refl H) ?_
      unfold rdSend
      rw [if_neg h]
      exact rfl
    refine ⟨_, rfl, a, _, rfl, .inl hS, 1, _, rfl, rfl, _, rfl, ite2 (fun e => ?_) (fun e => ?_)⟩
    · refine ⟨_, _, rfl, rfl, _, _, rfl, rfl, _, rfl, ?_⟩
      have e1 : 1 ≤ ns.length := by
        have := of_decide_eq_true e
        rw [List.length_map] at this
        omega
      by_cases h5 : ns.length ≤ 5
      · have e2 : decide (((ns.map V.int).length : Int) ≤ 1 + 4) = true := by
          rw [List.length_map]
          exact decide_eq_true (by omega)
        rw [e2]
        refine iteF ?_
        match ns, e1, h5, hS, q with
        | n :: r, _, h5, hS, q =>
          refine ⟨_, rfl, a, _, 0, _, rfl, rfl, hS, atI_nat (j := 0) rfl, ?_⟩
          refine ⟨_, rfl, 1, rfl, a, _, rfl, hS, fun p np => ?_⟩
          have ec : cutV ((n :: r).map V.int) (some 1) none = r.map V.int := by
            rw [show (some (1 : Int)) = some ((1 : Nat) : Int) from rfl, cut_drop _ (by simp)]
            rfl
          rw [ec] at *
          have s1 := same_new (o := .lst (r.map V.int)) (Same.refl H) np
          refine ⟨p, r.map V.int, rfl, .inl ⟨SqL.of upd_same, fun l nl => ?_⟩⟩
          refine ⟨by show 3 ≤ sizeLine; decide, fun t nt => ?_⟩
          have s2 := same_new (o := .tup (r.map V.int)) s1 nl
          have s3 := same_new (o := .tup [.str "send", .int n, .ref l]) s2 nt
          refine q (.ref t) _ s3 ?_
          unfold rdSend
          rw [if_pos ⟨by simp, h5⟩]
          refine out_tup (SqT.of upd_same) (.cons (.str _) (.cons (.int _) (.cons (.tup (SqT.of (xs := r.map V.int) ?_) (dp_ints r)) .nil))) rfl
          rw [upd_ne (ne_of_none upd_same nt), upd_same]
      · have e2 : decide (((ns.map V.int).length : Int) ≤ 1 + 4) = false := by
          rw [List.length_map]
          exact decide_eq_false (by omega)
        rw [e2]
        exact iteT (no fun h => h5 h.2)
    · refine ⟨_, rfl, iteT (no fun h => ?_)⟩
      have : ¬ (1 : Int) ≤ ((ns.map V.int).length : Int) := fun z => e (decide_eq_true z)
      rw [List.length_map] at this
      omega
/-! ### _removal -/
def spRem (K : PySem.W.Frag) : Sp := fun vs H Q _ => ∃ (a : Addr) (ns : List Int), vs = [.ref a] ∧ SqL K H a (ns.map V.int) ∧ ns.length ≤ 1000 ∧ Res K H (rdRem ns) Q
theorem ok_removal {f : Addr} {fd : FuncData} (A : All w K mg ) (F : Fun K "_removal" "_removal" s_removal f fd) : FnOk P w K mg base CX0 2 f fd ["numbers"] (spRem K) := by
  obtain ⟨f_is_rising, fd_is_rising, F_is_rising, g_is_rising, b_is_rising⟩ := A.is_rising
  have G_is_rising := ok_is_rising (P := P) (w := w) (base := base) A F_is_rising
  refine F.ok sc_removal (fun vs H Q E h => ?_) (fun cdv A' outer s H vs Q E hr h => ?_)
  · obtain ⟨a, ns, rfl, _⟩ := h
    rfl
  · obtain ⟨a, ns, rfl, hS, hl, q⟩ := h
    refine ⟨_, (pss_cons (ps_if (pt_cmpR op_eq (pe_op op_andM (pe_callB call_len_seq (by rfl) A.len PySem.boot_len (pa_cons (pv 0) pa_nil)) pe_int) pe_int (nomark _))
(pss_one (ps_ret pe_non))
pss_nil)
(pss_cons (ps_set (i := 1) sc_removal.nd rfl (.inl rfl) (pe_listZip rfl (by rfl) A.list (by decide +kernel) (by rfl) A.zip (pa_cons (pe_ev (pv 0) po_none) (pa_cons (pe_ev (pv 0) (po_some pe_int)) pa_nil))))
(pss_one (ps_ret (pe_ifExp (pt_val (pe_call G_is_rising (hr.mono (by decide)) (by rfl) g_is_rising F_is_rising.kp b_is_rising .nil pass0 (pa_cons (pv 1) pa_nil))) (pe_tup (pa_cons pe_str (pa_cons (pe_callTy call_tuple_of (by rfl) A.tuple (by decide +kernel) (pa_cons (pv 1) pa_nil)) pa_nil))) pe_non))))), ?_⟩
    refine ⟨_, rfl, a, _, rfl, .inl hS, _, 1, rfl, rfl, rfl, _, rfl, ?_⟩
    by_cases odd : ns.length % 2 = 1
    · have : decide (V.int (((ns.map V.int).length : Int) % 2 ^ 1) = V.int 1) = true := by
        rw [List.length_map]
        exact decide_eq_true (congrArg V.int (by omega))
      rw [this]
      refine iteT (q _ _ (Same.refl H) ?_)
      unfold rdRem
      rw [if_pos odd]
      exact rfl
    · have : decide (V.int (((ns.map V.int).length : Int) % 2 ^ 1) = V.int 1) = false := by
        rw [List.length_map]
        exact decide_eq_false (fun z => odd (by have := V.int.inj z; omega))
      rw [this]
      refine iteF ?_
      refine ⟨_, rfl, a, ns.map V.int, 0, rfl, hS, .inl ⟨rfl, rfl⟩, fun p np => ?_⟩
      have ep : ev ((ns.map V.int).drop 0) = (ev ns).map V.int := ev_map V.int ns
      rw [ep]
      have s1 := same_new (o := .lst ((ev ns).map V.int)) (Same.refl H) np
      refine ⟨_, rfl, 1, rfl, a, ns.map V.int, 1, rfl, s1.seq hS, .inr rfl, fun p2 np2 => ?_⟩
      have ep2 : ev ((ns.map V.int).drop 1) = (ev (ns.drop 1)).map V.int := by rw [← List.map_drop, ev_map]
      rw [ep2]
      have s2 := same_new (o := .lst ((ev (ns.drop 1)).map V.int)) (Same.refl _) np2
      refine ⟨p, p2, (ev ns).map V.int, (ev (ns.drop 1)).map V.int, rfl, SqL.of (s2 _ _ upd_same), SqL.of upd_same, fun H' L ts sH nL nT nin hL PT => ?_⟩
      have PR : Paired (fun (t : Addr) (p : Int × Int) => H' t = some (.tup [.int p.1, .int p.2])) ts ((ev ns).zip (ev (ns.drop 1))) := by
        rw [List.zip_map] at PT
        exact paired_map (F := fun (t : Addr) (q : V × V) => H' t = some (.tup [q.1, q.2])) (f := Prod.map V.int V.int) PT
      have sA : Same H H' := (s1.trans s2).trans sH
      have lz : ((ev ns).zip (ev (ns.drop 1))).length ≤ 1000 := by
        rw [List.length_zip, ev_len]
        omega
      have lt := PR.length
      refine ⟨_, rfl, L, _, _, rfl, SqL.of hL, by rw [List.length_map]; omega, cmp_pairs PR, fun H2 s3 => ⟨_, rfl, ?_⟩⟩
      rw [all_risP]
      cases er : risP ((ev ns).zip (ev (ns.drop 1))) with
      | false =>
        refine iteF (q _ _ (sA.trans s3) ?_)
        unfold rdRem
        rw [if_neg odd, er]
        exact rfl
      | true =>
        refine iteT ⟨_, rfl, L, ts.map V.ref, rfl, .inl ⟨SqL.of (s3 _ _ hL), fun l nl => ⟨by show 2 ≤ sizeLine; decide, fun t nt => ?_⟩⟩⟩
        have s4 := same_new (o := .tup (ts.map V.ref)) (Same.refl _) nl
        have s5 := same_new (o := .tup [.str "remove", .ref l]) s4 nt
        refine q _ _ ((sA.trans s3).trans s5) ?_
        unfold rdRem
        rw [if_neg odd, er]
        refine out_tup (SqT.of upd_same) (.cons (.str _) (.cons (.tup (SqT.of (xs := ts.map V.ref) ?_) (paired_dpa (f := prD) (g := fun p => [.int p.1, .int p.2]) (fun t p h => .tup (SqT.of h) (.cons (.int _) (.cons (.int _) .nil))) (paired_same (s3.trans s5) PR))) .nil)) rfl
        rw [upd_ne (ne_of_none upd_same nt), upd_same]
/-! ### _read_carried -/
def spCarried (K : PySem.W.Frag) : Sp := fun vs H Q _ => ∃ (a : Addr) (zs : List Str), vs = [.ref a] ∧ SqL K H a (zs.map V.str) ∧ zs.length ≤ 1000 ∧ (∀ z ∈ zs, Plain z) ∧
  (rdCarried zs = none → ∀ H', Same H H' → Q .non H') ∧
  (∀ c, rdCarried zs = some c → ∀ (p : Addr) (H' : Hp) (ts : List Addr), Same H H' → H' p = some (.lst (ts.map V.ref)) → Paired (fun (t : Addr) (q : Str × Int) => H' t = some (.tup [.str q.1, .int q.2])) ts c → Q (.ref p) H')
theorem ok_read_carried {f : Addr} {fd : FuncData} (A : All w K mg ) (F : Fun K "_read_carried" "_read_carried" s_read_carried f fd) : FnOk P w K mg base CX0 3 f fd ["words"] (spCarried K) := by
  obtain ⟨f_read_numbers, fd_read_numbers, F_read_numbers, g_read_numbers, b_read_numbers⟩ := A.read_numbers
  have G_read_numbers := ok_read_numbers (P := P) (w := w) (base := base) A F_read_numbers
  refine F.ok sc_read_carried (fun vs H Q E h => ?_) (fun cdv A' outer s H vs Q E hr h => ?_)
  · obtain ⟨a, zs, rfl, _⟩ := h
    rfl
  · obtain ⟨a, zs, rfl, hS, hl, hp, q0, q1⟩ := h
    refine ⟨_, (pss_cons (ps_set (i := 1) sc_read_carried.nd rfl (.inl rfl) (pe_ev (pv 0) po_none))
(pss_cons (ps_set (i := 2) sc_read_carried.nd rfl (.inl rfl) (pe_call G_read_numbers (hr.mono (by decide)) (by rfl) g_read_numbers F_read_numbers.kp b_read_numbers .nil pass0 (pa_cons (pe_ev (pv 0) (po_some pe_int)) pa_nil)))
(pss_cons (ps_if (PW.pt (pw_or (pt_cmp (pc_isN (pv 2))) (pw_or (pt_cmpR op_ne (pe_callB call_len_seq (by rfl) A.len PySem.boot_len (pa_cons (pv 2) pa_nil)) (pe_callB call_len_seq (by rfl) A.len PySem.boot_len (pa_cons (pv 1) pa_nil)) (nomark _)) (pw_or1 (pt_cmpR op_gt (pe_callB call_len_seq (by rfl) A.len PySem.boot_len (pa_cons (pv 1) pa_nil)) (pe_cst (by rfl) A.cCARRIED_MOST) (nomark _))))))
(pss_one (ps_ret pe_non))
pss_nil)
(pss_cons (ps_if (pt_not (pt_val (pe_callB (cr_all rfl) (by rfl) A.all (by decide +kernel) (pa_cons (pe_lc (own := [("kind", 3)]) (tt := tYes) rfl sc_read_carried.nd (pi_list (pv 1)) (blkOk_by (N := ["words", "kinds", "entries", "kind"]) (sc := defScope s_read_carried) (by decide +kernel)) (fun _ _ _ _ _ => pg_name (i := 3) sc_read_carried.nd rfl (Or.inl rfl)) (fun _ _ _ _ _ => pts_nil) (fun _ _ _ _ _ => (pe_cmpR (show OpR _ _ (rIn K false) from op_in_seq) (pv 3) (pe_tup (pa_cons pe_str (pa_cons pe_str pa_nil))) (by rfl)))) pa_nil))))
(pss_one (ps_ret pe_non))
pss_nil)
(pss_one (ps_ret (pe_listZip rfl (by rfl) A.list (by decide +kernel) (by rfl) A.zip (pa_cons (pv 1) (pa_cons (pv 2) pa_nil))))))))), ?_⟩
    refine ⟨_, rfl, a, zs.map V.str, 0, rfl, hS, .inl ⟨rfl, rfl⟩, fun p np => ?_⟩
    have ep : ev ((zs.map V.str).drop 0) = (ev zs).map V.str := ev_map V.str zs
    rw [ep]
    have s1 := same_new (o := .lst ((ev zs).map V.str)) (Same.refl H) np
    refine ⟨_, rfl, 1, rfl, a, zs.map V.str, 1, rfl, s1.seq hS, .inr rfl, fun p2 np2 => ?_⟩
    have ep2 : ev ((zs.map V.str).drop 1) = (ev (zs.drop 1)).map V.str := by rw [← List.map_drop, ev_map]
    rw [ep2]
    have s2 := same_new (o := .lst ((ev (zs.drop 1)).map V.str)) (Same.refl _) np2
    have h1 : (upd (upd H p (.lst ((ev zs).map V.str))) p2 (.lst ((ev (zs.drop 1)).map V.str))) p = some (.lst ((ev zs).map V.str)) := s2 _ _ upd_same
    have h2 : (upd (upd H p (.lst ((ev zs).map V.str))) p2 (.lst ((ev (zs.drop 1)).map V.str))) p2 = some (.lst ((ev (zs.drop 1)).map V.str)) := upd_same
    have sA := s1.trans s2
    generalize upd (upd H p (.lst ((ev zs).map V.str))) p2 (.lst ((ev (zs.drop 1)).map V.str)) = H2 at sA h1 h2
    have l1 := ev_len zs
    have l2 := ev_len (zs.drop 1)
    rw [List.length_drop] at l2
    refine ⟨p2, ev (zs.drop 1), rfl, SqL.of h2, by omega, fun z hz => hp z (ev_mem1 hz), fun no H3 s3 => ?_, fun yes p3 H3 s3 n3 h3 => ?_⟩
    · refine ⟨_, rfl, _, rfl, iteT (iteT (q0 ?_ _ (sA.trans s3)))⟩
      unfold rdCarried
      rw [if_neg (fun z => by rw [no] at z; exact Bool.false_ne_true z.1)]
    · refine ⟨_, rfl, _, rfl, iteF ⟨_, rfl, p3, _, rfl, .inl (SqL.of h3), _, rfl, p, _, rfl, .inl (s3.seq (SqL.of h1)), rfl, _, rfl, ?_⟩⟩
      have none_of : ¬ ((ev (zs.drop 1)).length = (ev zs).length ∧ (ev zs).length ≤ 4 ∧ (ev zs).all (fun k => decide (k = w_export ∨ k = w_return)) = true) → rdCarried zs = none := fun h => by
        unfold rdCarried
        rw [if_neg fun z => h z.2]
      refine ite2 (fun e => ?_) (fun e => ?_)
      · have e1 : ¬ (ev (zs.drop 1)).length = (ev zs).length := fun z => bne_t e (by rw [List.length_map, List.length_map, List.length_map, z])
        exact iteT (q0 (none_of fun h => e1 h.1) _ (sA.trans s3))
      have e1 : (ev (zs.drop 1)).length = (ev zs).length := by
        have := V.int.inj (bne_f e)
        rw [List.length_map, List.length_map, List.length_map] at this
        omega
      refine ⟨_, rfl, p, _, rfl, .inl (s3.seq (SqL.of h1)), _, _, rfl, rfl, _, rfl, ite2 (fun e => ?_) (fun e => ?_)⟩
      · have := of_decide_eq_true e
        rw [List.length_map] at this
        exact q0 (none_of fun h => by omega) _ (sA.trans s3)
      have e2 : (ev zs).length ≤ 4 := by
        have : ¬ (4 : Int) < (((ev zs).map V.str).length : Int) := fun z => e (decide_eq_true z)
        rw [List.length_map] at this
        omega
      refine ⟨_, rfl, p, rfl, ⟨_, s3.seq (SqL.of h1)⟩, fun D nD => ?_⟩
      refine lc_list (K := K) (a := p) (xs := (ev zs).map V.str) (fun i H' => H' D = some (.lst (((ev zs).take i).map fun k => V.bl (inV (.str k) [.str w_export, .str w_return]))) ∧ Same H3 H') ⟨upd_same, same_new (Same.refl H3) nD⟩ (fun i H' _ h => h.2.seq (s3.seq (SqL.of h1))) ?_ ?_
      · rintro i v H4 hv ⟨hD, s4⟩
        obtain ⟨k, hk, rfl⟩ := at_map hv
        refine ⟨rfl, _, rfl, by show 2 ≤ sizeLine; decide, fun T nT => ?_⟩
        have s5 := same_new (o := .tup [.str w_export, .str w_return]) (Same.refl H4) nT
        refine ⟨T, _, rfl, .inr (SqT.of upd_same), rfl, rfl, _, s5 _ _ hD, ?_, ?_, same_mut (s4.trans s5) nD⟩
        · rw [List.length_map, List.length_take, sizeLine_eq]
          omega
        · rw [upd_same, List.take_succ, hk, List.map_append]
          rfl
      · rintro H4 ⟨hD, s4⟩
        rw [List.length_map, List.take_length] at hD
        have iv : ∀ k : Str, inV (.str k) [.str w_export, .str w_return] = decide (k = w_export ∨ k = w_return) := fun k => by
          show ((w_export == k) || ((w_return == k) || false)) = _
          by_cases y1 : k = w_export
          · subst y1
            rw [decide_eq_true (.inl rfl), beq_self_eq_true]
            rfl
          · rw [beq_eq_false_iff_ne.mpr (Ne.symm y1)]
            by_cases y2 : k = w_return
            · subst y2
              rw [decide_eq_true (.inr rfl), beq_self_eq_true]
              rfl
            · rw [beq_eq_false_iff_ne.mpr (Ne.symm y2), decide_eq_false (fun z => z.elim y1 y2)]
              rfl
        have hD' : H4 D = some (.lst (((ev zs).map fun k => decide (k = w_export ∨ k = w_return)).map V.bl)) := by
          rw [hD, List.map_map]
          congr 2
          exact List.map_congr_left fun k _ => congrArg V.bl (iv k)
        refine ⟨D, _, rfl, SqL.of hD', _, rfl, ?_⟩
        have ea : ((ev zs).map fun k => decide (k = w_export ∨ k = w_return)).all id = (ev zs).all fun k => decide (k = w_export ∨ k = w_return) := by
          rw [List.all_map]
          rfl
        rw [ea]
        cases e3 : (ev zs).all fun k => decide (k = w_export ∨ k = w_return) with
        | false => exact iteT (q0 (none_of fun h => by rw [e3] at h; exact Bool.false_ne_true h.2.2) _ ((sA.trans s3).trans s4))
        | true =>
          refine iteF ⟨_, rfl, _, rfl, p, p3, (ev zs).map V.str, ((ev (zs.drop 1)).map num).map V.int, rfl, s4.seq (s3.seq (SqL.of h1)), s4.seq (SqL.of h3), fun H' L ts sH nL nT nin hL PT => ?_⟩
          rw [List.zip_map] at PT
          exact q1 ((ev zs).zip ((ev (zs.drop 1)).map num)) (by unfold rdCarried; rw [if_pos ⟨yes, e1, e2, e3⟩]) L H' ts (((sA.trans s3).trans s4).trans sH) hL (paired_map (F := fun (t : Addr) (q : V × V) => H' t = some (.tup [q.1, q.2])) (f := Prod.map V.str V.int) PT)
end
end K45
set_option Elab.async false
set_option linter.all false
set_option maxRecDepth 100000
set_option maxHeartbeats 4000000
/-! X12: the starred one among several targets. -/
namespace Xs
open PySem PySem.Spec PyProof.Rows L2
theorem pgs_starred {X : Cx} {e : Expr} {p : Pos} {es : List Expr} {t : TG} {u : TGs} (h1 : PG X e t) (h2 : PGs X es u) : PGs X (.Starred e p :: es) (gCons t u) := by
  refine ⟨fun pins s σ H vs us Q I r h => ?_⟩
  obtain ⟨v, vr, e1, h⟩ := h
  subst e1
  cases r with
  | cons r rr =>
    show wpAny _ _ (assignInOrder (assign e X.env :: (assignEach es X.env).map (·.2)) _) _ _ _
    refine assignInOrder_cons (thn (h1.run pins s σ H _ _ _ I r h) fun _ s1 ⟨σ1, H1, I1, q1⟩ => ?_)
    exact h2.run pins s1 σ1 H1 _ _ Q I1 rr q1
end Xs
set_option Elab.async false
set_option linter.all false
set_option maxRecDepth 100000
set_option maxHeartbeats 4000000
/-! K45c: texts read. -/
namespace K45
open PySem PySem.Spec PyProof.Rows L2 Gd Com Bk Nw Xs StX
section
variable {P : Program} {w : World} {K : PySem.W.Frag} {mg : Str → Option Value} {base : Heap}
theorem eqV_str {z y : Str} (h : eqV (.str z) (.str y) = true) : z = y := eq_of_beq (show (z == y) = true from h)
theorem inV_strs (k : Str) (zs : List Str) : inV (.str k) (zs.map V.str) = decide (k ∈ zs) := by
  induction zs with
  | nil => rfl
  | cons z r ih =>
    show ((z == k) || inV (.str k) (r.map V.str)) = _
    rw [ih]
    by_cases h : z = k
    · subst h
      rw [beq_self_eq_true, decide_eq_true List.mem_cons_self]
      rfl
    · rw [beq_eq_false_iff_ne.mpr h]
      by_cases h2 : k ∈ r
      · rw [decide_eq_true h2, decide_eq_true (.tail _ h2)]
        rfl
      · rw [decide_eq_false h2, decide_eq_false (fun z => (List.mem_cons.mp z).elim (fun e => h e.symm) h2)]
        rfl
theorem rcv_not {me : Int} {zs : List Str} {j : Nat} (hj : zs.idxOf w_carried = j) (h : (zs.take j).all okN = false ∨ (zs.take j).length < 3 ∨ rdCarried (zs.drop (j + 1)) = none) : rdRcv me zs = none := by
  unfold rdRcv
  split
  · rfl
  · dsimp only
    rw [hj]
    rcases h with h | h | h
    · cases rdCarried (zs.drop (j + 1)) with
      | none => rfl
      | some c => dsimp only; rw [if_pos (.inl h)]
    · cases rdCarried (zs.drop (j + 1)) with
      | none => rfl
      | some c => dsimp only; rw [if_pos (.inr h)]
    · rw [h]
theorem rcv_is {me : Int} {zs : List Str} {j : Nat} {c : List (Str × Int)} (hm : w_carried ∈ zs) (hj : zs.idxOf w_carried = j) (h1 : (zs.take j).all okN = true) (h2 : 3 ≤ (zs.take j).length) (hc : rdCarried (zs.drop (j + 1)) = some c) :
    rdRcv me zs = if ris (((zs.take j).drop 3).map num) = true then some (.rcv (num ((zs.take j).getD 0 Str.empty)) me (num ((zs.take j).getD 1 Str.empty)) (num ((zs.take j).getD 2 Str.empty)) (((zs.take j).drop 3).map num) c) else none := by
  unfold rdRcv
  rw [if_neg (fun z => z hm)]
  dsimp only
  rw [hj, hc, h1]
  dsimp only
  rw [if_neg (fun z => by
    rcases z with z | z
    · cases z
    · omega)]
/-! ### _read_receive -/
def spRcv (K : PySem.W.Frag) : Sp := fun vs H Q _ => ∃ (me : Int) (a : Addr) (zs : List Str), vs = [.int me, .ref a] ∧ SqL K H a (zs.map V.str) ∧ zs.length ≤ 1000 ∧ (∀ z ∈ zs, Plain z) ∧ Res K H (rdRcv me zs) Q
theorem ok_read_receive {f : Addr} {fd : FuncData} (A : All w K mg ) (F : Fun K "_read_receive" "_read_receive" s_read_receive f fd) : FnOk P w K mg base CX0 4 f fd ["number", "words"] (spRcv K) := by
  obtain ⟨f_read_numbers, fd_read_numbers, F_read_numbers, g_read_numbers, b_read_numbers⟩ := A.read_numbers
  have G_read_numbers := ok_read_numbers (P := P) (w := w) (base := base) A F_read_numbers
  obtain ⟨f_read_carried, fd_read_carried, F_read_carried, g_read_carried, b_read_carried⟩ := A.read_carried
  have G_read_carried := ok_read_carried (P := P) (w := w) (base := base) A F_read_carried
  obtain ⟨f_is_rising, fd_is_rising, F_is_rising, g_is_rising, b_is_rising⟩ := A.is_rising
  have G_is_rising := ok_is_rising (P := P) (w := w) (base := base) A F_is_rising
  refine F.ok sc_read_receive (fun vs H Q E h => ?_) (fun cdv A' outer s H vs Q E hr h => ?_)
  · obtain ⟨me, a, zs, rfl, _⟩ := h
    rfl
  · obtain ⟨me, a, zs, rfl, hS, hl, hp, q⟩ := h
    refine ⟨_, (pss_cons (ps_if (pt_cmpR op_notIn_seq pe_str (pv 1) (by rfl))
(pss_one (ps_ret pe_non))
pss_nil)
(pss_cons (ps_set (i := 2) sc_read_receive.nd rfl (.inl rfl) (pe_bm PySem.F.plainAttrs_list PySem.F.slot_list_index PySem.F.type_list_index mt_index (pv 1) (pa_cons pe_str pa_nil)))
(pss_cons (ps_set (i := 3) sc_read_receive.nd rfl (.inl rfl) (pe_call G_read_numbers (hr.mono (by decide)) (by rfl) g_read_numbers F_read_numbers.kp b_read_numbers .nil pass0 (pa_cons (pe_slice sl_list (pv 1) po_none (po_some (pv 2))) pa_nil)))
(pss_cons (ps_set (i := 4) sc_read_receive.nd rfl (.inl rfl) (pe_call G_read_carried (hr.mono (by decide)) (by rfl) g_read_carried F_read_carried.kp b_read_carried .nil pass0 (pa_cons (pe_slice sl_list (pv 1) (po_some (pe_op op_add (pv 2) pe_int)) po_none) pa_nil)))
(pss_cons (ps_if (PW.pt (pw_or (pt_cmp (pc_isN (pv 3))) (pw_or (pt_cmpR op_lt (pe_callB call_len_seq (by rfl) A.len PySem.boot_len (pa_cons (pv 3) pa_nil)) pe_int (nomark _)) (pw_or1 (pt_cmp (pc_isN (pv 4)))))))
(pss_one (ps_ret pe_non))
pss_nil)
(pss_cons (ps_asg (pv 3) (pg_star rfl (pgs_cons (pg_name (i := 5) sc_read_receive.nd rfl (.inl rfl)) (pgs_cons (pg_name (i := 6) sc_read_receive.nd rfl (.inl rfl)) (pgs_cons (pg_name (i := 7) sc_read_receive.nd rfl (.inl rfl)) (pgs_starred (pg_name (i := 8) sc_read_receive.nd rfl (.inl rfl)) pgs_nil))))))
(pss_cons (ps_if (pt_not (pt_val (pe_call G_is_rising (hr.mono (by decide)) (by rfl) g_is_rising F_is_rising.kp b_is_rising .nil pass0 (pa_cons (pv 8) pa_nil))))
(pss_one (ps_ret pe_non))
pss_nil)
(pss_one (ps_ret (pe_tup (pa_cons pe_str (pa_cons (pe_tup (pa_cons (pv 5) (pa_cons (pv 0) (pa_cons (pv 6) (pa_cons (pv 7) (pa_cons (pe_callTy call_tuple_of (by rfl) A.tuple (by decide +kernel) (pa_cons (pv 8) pa_nil)) (pa_cons (pe_callTy call_tuple_of (by rfl) A.tuple (by decide +kernel) (pa_cons (pv 4) pa_nil)) pa_nil))))))) pa_nil)))))))))))), ?_⟩
    refine ⟨_, rfl, a, _, rfl, .inl hS, rfl, ?_, _, rfl, ite2 (fun e => ?_) (fun e => ?_)⟩
    · rw [List.all_map]
      exact List.all_eq_true.mpr fun _ _ => rfl
    · have no : w_carried ∉ zs := fun h => by
        have : (!inV (.str w_carried) (zs.map V.str)) = true := e
        rw [inV_strs, decide_eq_true h] at this
        cases this
      refine q _ _ (Same.refl H) ?_
      unfold rdRcv
      rw [if_pos no]
      exact rfl
    have hm : w_carried ∈ zs := Classical.byContradiction fun h => e (by
      show (!inV (.str w_carried) (zs.map V.str)) = true
      rw [inV_strs, decide_eq_false h]
      rfl)
    have hj := List.idxOf_lt_length_of_mem hm
    have at_j : zs[zs.idxOf w_carried]? = some w_carried := by
      rw [List.getElem?_eq_getElem hj, List.getElem_idxOf hj]
    have before : ∀ (m : Nat) (z' : V), m < zs.idxOf w_carried → (zs.map V.str)[m]? = some z' → eqV z' (.str w_carried) = false := fun m z' lt hz => by
      obtain ⟨z, hz2, e⟩ := at_map hz
      subst e
      have := List.not_of_lt_findIdx lt
      show (z == w_carried) = false
      obtain ⟨h1, h2⟩ := List.getElem?_eq_some_iff.mp hz2
      rw [h2] at this
      exact this
    generalize hJ : zs.idxOf w_carried = j at *
    refine ⟨_, rfl, .inl ⟨rfl, _, hS⟩, a, _, _, j, .str w_carried, rfl, rfl, hS, rfl, ?_, by rw [List.getElem?_map, at_j]; rfl, beq_self_eq_true w_carried, before, ?_⟩
    · rw [List.all_map]
      exact List.all_eq_true.mpr fun _ _ => rfl
    refine ⟨_, rfl, _, rfl, _, rfl, a, _, rfl, hS, fun p np => ?_⟩
    have lm : (zs.map V.str).length = zs.length := List.length_map ..
    have e1 : cutV (zs.map V.str) none (some (j : Int)) = (zs.take j).map V.str := by
      rw [cut_take _ (by omega), List.map_take]
    rw [e1]
    have s1 := same_new (o := .lst ((zs.take j).map V.str)) (Same.refl H) np
    have l1 : (zs.take j).length = j := by rw [List.length_take]; omega
    have hpt : ∀ z ∈ zs.take j, Plain z := fun z hz => hp z (List.mem_of_mem_take hz)
    have hpd : ∀ z ∈ zs.drop (j + 1), Plain z := fun z hz => hp z (List.mem_of_mem_drop hz)
    have ld : (zs.drop (j + 1)).length ≤ 1000 := by rw [List.length_drop]; omega
    have e2 : cutV (zs.map V.str) (some ((j : Int) + 1)) none = (zs.drop (j + 1)).map V.str := by
      rw [show ((j : Int) + 1) = ((j + 1 : Nat) : Int) from rfl, cut_drop _ (by omega), List.map_drop]
    refine ⟨p, zs.take j, rfl, SqL.of upd_same, by omega, hpt, fun no H1 sH1 => ?_, fun yes p1 H1 sH1 n1 h1 => ?_⟩
    · have none : rdRcv me zs = none := rcv_not hJ (.inl no)
      rw [none] at q
      refine ⟨_, rfl, _, rfl, _, _, rfl, rfl, _, rfl, a, _, rfl, (s1.trans sH1).seq hS, fun p2 np2 => ?_⟩
      rw [e2]
      have s3 := same_new (o := .lst ((zs.drop (j + 1)).map V.str)) (Same.refl _) np2
      have fin : ∀ H2, Same (upd H1 p2 (.lst ((zs.drop (j + 1)).map V.str))) H2 → Q .non H2 := fun H2 s4 => q _ _ (((s1.trans sH1).trans s3).trans s4) rfl
      refine ⟨p2, zs.drop (j + 1), rfl, SqL.of upd_same, ld, hpd, fun _ H2 s4 => ?_, fun c _ p3 H2 ts s4 _ _ => ?_⟩
      · exact ⟨_, rfl, _, rfl, iteT (iteT (fin H2 s4))⟩
      · exact ⟨_, rfl, _, rfl, iteT (iteT (fin H2 s4))⟩
    · refine ⟨_, rfl, _, rfl, _, _, rfl, rfl, _, rfl, a, _, rfl, (s1.trans sH1).seq hS, fun p2 np2 => ?_⟩
      rw [e2]
      have s3 := same_new (o := .lst ((zs.drop (j + 1)).map V.str)) (Same.refl _) np2
      have l2 : (((zs.take j).map num).map V.int).length = j := by rw [List.length_map, List.length_map, l1]
      refine ⟨p2, zs.drop (j + 1), rfl, SqL.of upd_same, ld, hpd, fun hc H2 s4 => ?_, fun c hc p3 H2 ts s4 h3 PT => ?_⟩
      · have none : rdRcv me zs = none := rcv_not hJ (.inr (.inr hc))
        rw [none] at q
        have s5 := ((s1.trans sH1).trans s3).trans s4
        refine ⟨_, rfl, _, rfl, iteF ⟨_, rfl, p1, _, rfl, .inl (SqL.of ((s3.trans s4) _ _ h1)), _, _, rfl, rfl, _, rfl, ite2 (fun _ => ?_) (fun _ => ?_)⟩⟩
        · exact iteT (q _ _ s5 rfl)
        · exact ⟨_, rfl, _, rfl, iteT (q _ _ s5 rfl)⟩
      · have s5 := ((s1.trans sH1).trans s3).trans s4
        refine ⟨_, rfl, _, rfl, iteF ⟨_, rfl, p1, _, rfl, .inl (SqL.of ((s3.trans s4) _ _ h1)), _, _, rfl, rfl, _, rfl, ite2 (fun e3 => ?_) (fun e3 => ?_)⟩⟩
        · have := of_decide_eq_true e3
          rw [l2] at this
          have none : rdRcv me zs = none := rcv_not hJ (.inr (.inl (by omega)))
          rw [none] at q
          exact iteT (q _ _ s5 rfl)
        have j3 : 3 ≤ j := by
          have : ¬ ((((zs.take j).map num).map V.int).length : Int) < 3 := fun z => e3 (decide_eq_true z)
          rw [l2] at this
          omega
        refine ⟨_, rfl, _, rfl, iteF ?_⟩
        rw [rcv_is hm hJ yes (by omega) hc] at q
        have h1' := (s3.trans s4) _ _ h1
        have hlt : 3 ≤ (zs.take j).length := by omega
        have jl : j ≤ 1000 := by omega
        clear hJ e1 e2 hpt hpd ld l1 at_j before hj
        generalize zs.take j = l at h1' q l2 hlt yes
        match l, hlt with
        | x :: y :: z :: r, _ =>
          refine ⟨_, rfl, p1, _, rfl, SqL.of h1', by show 3 ≤ _; simp, fun p4 n4 => ?_⟩
          have s6 := same_new (o := .lst (((r.map num)).map V.int)) (Same.refl H2) n4
          have h4 : (upd H2 p4 (.lst ((r.map num).map V.int))) p4 = some (.lst ((r.map num).map V.int)) := upd_same
          change gCons (gName 5) (gCons (gName 6) (gCons (gName 7) (gCons (gName 8) gNil))) [.int (num x), .int (num y), .int (num z), .ref p4] _ (upd H2 p4 (.lst ((r.map num).map V.int))) _
          generalize upd H2 p4 (.lst ((r.map num).map V.int)) = H3 at s6 h4
          refine ⟨_, _, rfl, _, _, rfl, _, _, rfl, _, _, rfl, rfl, ?_⟩
          have lr : r.length ≤ 1000 := by
            rw [List.length_map, List.length_map] at l2
            simp at l2
            omega
          refine ⟨_, rfl, p4, _, _, rfl, SqL.of h4, by rw [List.length_map, List.length_map]; exact lr, cmp_ints _, fun H4 s7 => ⟨_, rfl, ?_⟩⟩
          rw [all_ris]
          have q' : Res K H (if ris (r.map num) = true then some (.rcv (num x) me (num y) (num z) (r.map num) c) else none) Q := q
          have s8 := (s5.trans s6).trans s7
          cases er : ris (r.map num) with
          | false =>
            rw [er] at q'
            exact iteT (q' _ _ s8 rfl)
          | true =>
            rw [er] at q'
            refine iteF ⟨_, rfl, _, rfl, _, rfl, _, rfl, _, rfl, p4, _, rfl, .inl ⟨s7.seq (SqL.of h4), fun a1 m1 => ?_⟩⟩
            have t1 := same_new (o := .tup ((r.map num).map V.int)) (Same.refl H4) m1
            refine ⟨_, rfl, p3, _, rfl, .inl ⟨((s6.trans s7).trans t1).seq (SqL.of h3), fun a2 m2 => ?_⟩⟩
            have t2 := same_new (o := .tup (ts.map V.ref)) (Same.refl _) m2
            refine ⟨by show 6 ≤ sizeLine; decide, fun a3 m3 => ?_⟩
            have t3 := same_new (o := .tup [.int (num x), .int me, .int (num y), .int (num z), .ref a1, .ref a2]) (Same.refl _) m3
            refine ⟨by show 2 ≤ sizeLine; decide, fun a4 m4 => ?_⟩
            have t4 := same_new (o := .tup [.str "receive", .ref a3]) (Same.refl _) m4
            refine q' _ _ ((((s8.trans t1).trans t2).trans t3).trans t4) ?_
            refine out_tup (SqT.of upd_same) (.cons (.str _) (.cons (.tup (SqT.of (t4 _ _ upd_same)) (.cons (.int _) (.cons (.int _) (.cons (.int _) (.cons (.int _) (.cons (.tup (SqT.of (((t2.trans t3).trans t4) _ _ upd_same)) (dp_ints _)) (.cons (.tup (SqT.of ((t3.trans t4) _ _ upd_same)) (paired_dpa (f := crD) (g := fun p => [.str p.1, .int p.2]) (fun t p h => .tup (SqT.of h) (.cons (.str _) (.cons (.int _) .nil))) (paired_same (((((s6.trans s7).trans t1).trans t2).trans t3).trans t4) PT))) .nil))))))) .nil)) rfl
theorem res_to {H H' : Hp} {o : Option Ev} {Q : VK} (q : Res K H o Q) (s : Same H H') : Res K H' o Q := fun v H2 s2 h => q v H2 (s.trans s2) h
theorem lay_str {z : Str} (h : Asc z) : PyData.canLay0 (.str z) = true := by
  simp only [PyData.canLay0, PyData.strOk]
  exact Array.all_eq_true_iff_forall_mem.mpr fun c hm => decide_eq_true (by have := h c (Array.mem_toList_iff.mpr hm); omega)
theorem lay_strs : ∀ {l : List Str}, (∀ w ∈ l, Asc w) → PyData.canLayAll0 (l.map PyData.str) = true
  | [], _ => by simp [PyData.canLayAll0]
  | w :: l, h => by
    simp only [List.map_cons, PyData.canLayAll0, lay_str (h w List.mem_cons_self), lay_strs fun z hz => h z (.tail _ hz), Bool.and_self]
theorem dep_strs : ∀ l : List Str, PyData.depthAll (l.map PyData.str) ≤ 0
  | [] => by simp [PyData.depthAll]
  | w :: l => by
    have := dep_strs l
    simp only [List.map_cons, PyData.depthAll, PyData.depth]
    omega
theorem shaped_strs {l : List Str} (h : ∀ w ∈ l, Asc w) : SeqAt.shaped (.list (l.map PyData.str)) = true := by
  have e : PyData.canLay0 (.list (l.map PyData.str)) = true := by
    simp only [PyData.canLay0]
    exact lay_strs h
  have d : PyData.depth (.list (l.map PyData.str)) ≤ 64 := by
    have := dep_strs l
    simp only [PyData.depth]
    omega
  unfold SeqAt.shaped
  rw [e, decide_eq_true d]
  rfl
theorem eqv_one (l : List Str) (u : Str) : PyData.eqv (.list (l.map PyData.str)) (.list [.str u]) = decide (l = [u]) := by
  match l with
  | [] => simp [PyData.eqv, PyData.eqvAll]
  | [a] =>
    by_cases h : a = u
    · subst h
      simp [PyData.eqv, PyData.eqvAll]
    · rw [decide_eq_false (fun z => h (List.cons.inj z).1)]
      simp [PyData.eqv, PyData.eqvAll, h]
      try (intro z; exact h (by cases a; cases u; exact congrArg _ z))
  | a :: b :: r => simp [PyData.eqv, PyData.eqvAll]
theorem dpa_strs {H : Hp} : ∀ l : List Str, DpAll K H (l.map V.str) (l.map PyData.str)
  | [] => .nil
  | w :: l => .cons (.str w) (dpa_strs l)
/-! ### read_event -/
def spRead (K : PySem.W.Frag) : Sp := fun vs H Q _ => ∃ (me : Int) (z : Str), vs = [.int me, .str z] ∧ Good z ∧ Res K H (rd me z) Q
theorem ok_read_event {f : Addr} {fd : FuncData} (A : All w K mg ) (F : Fun K "read_event" "read_event" s_read_event f fd) : FnOk P w K mg base CX0 5 f fd ["number", "text"] (spRead K) := by
  obtain ⟨f_read_numbers, fd_read_numbers, F_read_numbers, g_read_numbers, b_read_numbers⟩ := A.read_numbers
  have G_read_numbers := ok_read_numbers (P := P) (w := w) (base := base) A F_read_numbers
  obtain ⟨f_read_receive, fd_read_receive, F_read_receive, g_read_receive, b_read_receive⟩ := A.read_receive
  have G_read_receive := ok_read_receive (P := P) (w := w) (base := base) A F_read_receive
  obtain ⟨f_sending, fd_sending, F_sending, g_sending, b_sending⟩ := A.sending
  have G_sending := ok_sending (P := P) (w := w) (base := base) A F_sending
  obtain ⟨f_removal, fd_removal, F_removal, g_removal, b_removal⟩ := A.removal
  have G_removal := ok_removal (P := P) (w := w) (base := base) A F_removal
  refine F.ok sc_read_event (fun vs H Q E h => ?_) (fun cdv A' outer s H vs Q E hr h => ?_)
  · obtain ⟨me, z, rfl, _⟩ := h
    rfl
  · obtain ⟨me, z, rfl, hz, q⟩ := h
    have hu64 := hr.units
    obtain ⟨D0, gD0, TD0⟩ := A.t_NUMBERS
    refine ⟨_, (pss_cons (ps_asg (pe_split (pv 1) pe_str) (pg_star rfl (pgs_cons (pg_name (i := 2) sc_read_event.nd rfl (.inl rfl)) (pgs_starred (pg_name (i := 3) sc_read_event.nd rfl (.inl rfl)) pgs_nil))))
(pss_cons (ps_if (pt_cmpR op_eq (pv 2) pe_str (nomark _))
(pss_one (ps_ret (pe_call G_read_receive (hr.mono (by decide)) (by rfl) g_read_receive F_read_receive.kp b_read_receive .nil pass0 (pa_cons (pv 0) (pa_cons (pv 3) pa_nil)))))
pss_nil)
(Evl.pss_cut (ps_if (PW.pt (pw_and (pt_cmpR op_eq (pv 2) pe_str (nomark _)) (pw_and1 (pt_cmpR (op_eqD (by exact hu64)) (pe_slice sl_list (pv 3) (po_some pe_int) po_none) (pe_lst (pa_cons pe_str pa_nil)) (nomark _)))))
(pss_cons (ps_set (i := 4) sc_read_event.nd rfl (.inl rfl) (pe_call G_read_numbers (hr.mono (by decide)) (by rfl) g_read_numbers F_read_numbers.kp b_read_numbers .nil pass0 (pa_cons (pe_slice sl_list (pv 3) po_none (po_some pe_int)) pa_nil)))
(pss_one (ps_ret (pe_ifExp (pt_cmp (pc_isN (pv 4))) pe_non (pe_tup (pa_cons pe_str (pa_star (pv 4) (pa_cons pe_non pa_nil))))))))
pss_nil)
(pss_cons (ps_set (i := 4) sc_read_event.nd rfl (.inl rfl) (pe_call G_read_numbers (hr.mono (by decide)) (by rfl) g_read_numbers F_read_numbers.kp b_read_numbers .nil pass0 (pa_cons (pv 3) pa_nil)))
(pss_cons (ps_if (pt_cmp (pc_isN (pv 4)))
(pss_one (ps_ret pe_non))
pss_nil)
(pss_cons (ps_if (pt_cmpR op_eq (pv 2) pe_str (nomark _))
(pss_one (ps_ret (pe_call G_sending (hr.mono (by decide)) (by rfl) g_sending F_sending.kp b_sending .nil pass0 (pa_cons (pv 4) pa_nil))))
pss_nil)
(pss_cons (ps_if (pt_cmpR op_eq (pv 2) pe_str (nomark _))
(pss_one (ps_ret (pe_call G_removal (hr.mono (by decide)) (by rfl) g_removal F_removal.kp b_removal .nil pass0 (pa_cons (pv 4) pa_nil))))
pss_nil)
(pss_cons (ps_if (PW.pt (pw_and (pt_cmpR op_inTab (pv 2) (pe_glob (v := .ref D0) (by rfl) gD0 rfl) (by rfl)) (pw_and1 (pt_cmpR op_eq (pe_callB call_len_seq (by rfl) A.len PySem.boot_len (pa_cons (pv 4) pa_nil)) (pe_ix ix_tab (pe_glob (v := .ref D0) (by rfl) gD0 rfl) (pv 2) (fun _ _ => rfl)) (nomark _)))))
(pss_one (ps_ret (pe_tup (pa_cons (pv 2) (pa_star (pv 4) pa_nil)))))
pss_nil)
(pss_one (ps_ret pe_non)))))))))), ?_⟩
    refine ⟨_, rfl, ⟨_, rfl⟩, z, _, rfl, rfl, by decide +kernel, ?_, fun p np => ?_⟩
    · have := hz.len
      rw [sizeLine_eq]
      omega
    have s1 := same_new (o := .lst ((Txt.split z sps).map V.str)) (Same.refl H) np
    have hpl := plain_words hz.asc (by have := hz.len; omega)
    have hwa : ∀ w ∈ Txt.split z sps, Asc w := fun w hw c hc => hz.asc c (by
      have := (mem_join hw).1 c hc
      rw [StrLaws.join_split] at this
      exact this)
    have hsl := split_len z
    have hq : Res K H (rdWs me (Txt.split z sps)) Q := q
    have h1 : (upd H p (.lst ((Txt.split z sps).map V.str))) p = some (.lst ((Txt.split z sps).map V.str)) := upd_same
    change gStar K 1 (gCons (gName 2) (gCons (gName 3) gNil)) (.ref p) _ (upd H p (.lst ((Txt.split z sps).map V.str))) _
    generalize upd H p (.lst ((Txt.split z sps).map V.str)) = H1 at s1 h1
    cases hs : Txt.split z sps with
    | nil => exact absurd hs (split_ne z)
    | cons w rest =>
      rw [hs] at h1 hpl hwa hsl hq
      have lr : rest.length ≤ 1000 := by
        have := hz.len
        rw [List.length_cons] at hsl
        omega
      refine ⟨p, _, rfl, SqL.of h1, by simp, fun p2 np2 => ?_⟩
      have s2 := same_new (o := .lst (rest.map V.str)) (Same.refl H1) np2
      have h2 : (upd H1 p2 (.lst (rest.map V.str))) p2 = some (.lst (rest.map V.str)) := upd_same
      have sA := s1.trans s2
      change gCons (gName 2) (gCons (gName 3) gNil) [.str w, .ref p2] _ (upd H1 p2 (.lst (rest.map V.str))) _
      generalize upd H1 p2 (.lst (rest.map V.str)) = H2 at s2 h2 sA
      have hp' : ∀ z ∈ rest, Plain z := fun z hz => hpl z (.tail _ hz)
      have ha' : ∀ z ∈ rest, Asc z := fun z hz => hwa z (.tail _ hz)
      refine ⟨_, _, rfl, _, _, rfl, rfl, ?_⟩
      unfold rdWs at hq
      dsimp only at hq
      refine ⟨_, rfl, rfl, _, rfl, ite2 (fun e => ?_) (fun e => ?_)⟩
      · have ew : w = w_receive := V.str.inj (of_decide_eq_true e)
        rw [if_pos ew] at hq
        exact ⟨_, rfl, _, rfl, me, p2, rest, rfl, SqL.of h2, lr, hp', res_to hq sA⟩
      have ew : w ≠ w_receive := fun h => e (decide_eq_true (congrArg V.str h))
      rw [if_neg ew] at hq
      refine ⟨fun σ H3 => σ = [some (.int me), some (.str z), some (.str w), some (.ref p2), none] ∧ Same H2 H3 ∧ ¬ (w = w_write ∧ rest.drop 2 = [w_none]), ?_, ?_⟩
      · refine ⟨_, rfl, rfl, _, rfl, ite2 (fun e2 => ?_) (fun e2 => ?_)⟩
        · have ew2 : w = w_write := V.str.inj (of_decide_eq_true e2)
          refine ⟨_, rfl, 2, rfl, p2, _, rfl, SqL.of h2, fun p3 np3 => ?_⟩
          have e3 : cutV (rest.map V.str) (some 2) none = (rest.drop 2).map V.str := by
            by_cases l2 : 2 ≤ rest.length
            · rw [show (some (2 : Int)) = some ((2 : Nat) : Int) from rfl, cut_drop _ (by rw [List.length_map]; exact l2), List.map_drop]
            · match rest, l2 with
              | [], _ => rfl
              | [a], _ => rfl
              | a :: b :: r, l2 => simp at l2
          rw [e3]
          have s3 := same_new (o := .lst ((rest.drop 2).map V.str)) (Same.refl H2) np3
          refine ⟨by show 1 ≤ sizeLine; decide, fun p4 np4 => ?_⟩
          have s4 := same_new (o := .lst [.str w_none]) (Same.refl _) np4
          refine ⟨.list ((rest.drop 2).map .str), .list [.str w_none], .lst (SqL.of (s4 _ _ upd_same)) (dpa_strs _), .lst (SqL.of upd_same) (.cons (.str _) .nil), shaped_strs fun x hx => ha' x (List.mem_of_mem_drop hx), shaped_strs (l := [w_none]) (fun x hx => by rw [List.mem_singleton.mp hx]; decide +kernel), _, rfl, ?_⟩
          rw [eqv_one]
          have s5 := s3.trans s4
          generalize upd (upd H2 p3 (.lst ((rest.drop 2).map V.str))) p4 (.lst [.str w_none]) = H3 at s5
          refine ite2 (fun e4 => ?_) (fun e4 => ?_)
          · have en : rest.drop 2 = [w_none] := of_decide_eq_true e4
            rw [if_pos ⟨ew2, en⟩] at hq
            match rest, en with
            | [a, b, c], en =>
              have hq : Res K H (if [a, b].all okN = true then some (.wrN (num a) (num b)) else none) Q := hq
              refine ⟨_, rfl, 2, rfl, p2, _, rfl, s5.seq (SqL.of h2), fun p5 np5 => ?_⟩
              have e6 : cutV ([a, b, c].map V.str) none (some 2) = [a, b].map V.str := by
                rw [show (some (2 : Int)) = some ((2 : Nat) : Int) from rfl, cut_take _ (by simp)]
                rfl
              rw [e6]
              have s6 := same_new (o := .lst ([a, b].map V.str)) (Same.refl H3) np5
              refine ⟨p5, [a, b], rfl, SqL.of upd_same, by simp, fun x hx => hp' x (by
                rcases List.mem_cons.mp hx with rfl | hx
                · simp
                · rw [List.mem_singleton.mp hx]; simp), fun no H4 s7 => ?_, fun yes p6 H4 s7 n6 h6 => ?_⟩
              · rw [if_neg (fun y => by
                  have y : ([a, b].all okN) = true := y
                  rw [no] at y
                  cases y)] at hq
                exact ⟨_, rfl, _, rfl, iteT (hq _ _ (((sA.trans s5).trans s6).trans s7) rfl)⟩
              · rw [if_pos (show ([a, b].all okN) = true from yes)] at hq
                refine ⟨_, rfl, _, rfl, iteF ⟨_, rfl, p6, [.int (num a), .int (num b)], rfl, .inr (SqL.of h6), by show 4 ≤ sizeLine; decide, fun p7 np7 => ?_⟩⟩
                have s8 := same_new (o := .tup [.str "write", .int (num a), .int (num b), .non]) (Same.refl H4) np7
                exact hq _ _ ((((sA.trans s5).trans s6).trans s7).trans s8) (out_tup (SqT.of upd_same) (.cons (.str _) (.cons (.int _) (.cons (.int _) (.cons .non .nil)))) rfl)
          · exact ⟨rfl, s5, fun y => e4 (decide_eq_true y.2)⟩
        · exact ⟨rfl, Same.refl _, fun y => e2 (decide_eq_true (congrArg V.str y.1))⟩
      · rintro σ H3 ⟨rfl, s3, hn⟩
        rw [if_neg hn] at hq
        refine ⟨_, rfl, p2, rest, rfl, s3.seq (SqL.of h2), by omega, hp', fun no H4 s4 => ?_, fun yes p3 H4 s4 n3 h3 => ?_⟩
        · rw [if_neg (by rw [no]; exact Bool.false_ne_true)] at hq
          exact ⟨_, rfl, _, rfl, iteT (hq _ _ ((sA.trans s3).trans s4) rfl)⟩
        · rw [if_pos yes] at hq
          have sB := (sA.trans s3).trans s4
          have ln : (rest.map num).length ≤ 1000 := by rw [List.length_map]; exact lr
          refine ⟨_, rfl, _, rfl, iteF ?_⟩
          unfold rdW at hq
          refine ⟨_, rfl, rfl, _, rfl, ite2 (fun e4 => ?_) (fun e4 => ?_)⟩
          · have ew4 : w = w_send := V.str.inj (of_decide_eq_true e4)
            rw [if_pos ew4] at hq
            exact ⟨_, rfl, p3, _, rfl, SqL.of h3, ln, res_to hq sB⟩
          have ew4 : w ≠ w_send := fun h => e4 (decide_eq_true (congrArg V.str h))
          rw [if_neg ew4] at hq
          refine ⟨_, rfl, rfl, _, rfl, ite2 (fun e5 => ?_) (fun e5 => ?_)⟩
          · have ew5 : w = w_remove := V.str.inj (of_decide_eq_true e5)
            rw [if_pos ew5] at hq
            exact ⟨_, rfl, p3, _, rfl, SqL.of h3, ln, res_to hq sB⟩
          have ew5 : w ≠ w_remove := fun h => e5 (decide_eq_true (congrArg V.str h))
          rw [if_neg ew5] at hq
          refine ⟨_, rfl, w, D0, nWords, rfl, rfl, TD0, _, rfl, ?_⟩
          cases el : nWords.lookup w with
          | none =>
            rw [if_neg (by rw [el]; exact fun y => nomatch y)] at hq
            exact iteF (hq _ _ sB rfl)
          | some k =>
            refine iteT ⟨_, rfl, p3, _, rfl, .inl (SqL.of h3), _, rfl, w, D0, nWords, k, rfl, rfl, TD0, el, rfl, _, rfl, ite2 (fun e6 => ?_) (fun e6 => ?_)⟩
            · have e7 : (((rest.map num).map V.int).length : Int) = k := V.int.inj (of_decide_eq_true e6)
              rw [List.length_map] at e7
              rw [if_pos (by rw [el, e7])] at hq
              refine ⟨_, rfl, _, rfl, p3, _, rfl, .inr (SqL.of h3), ?_, fun p4 np4 => ?_⟩
              · rw [List.length_cons, List.length_append, List.length_map, sizeLine_eq]
                simp only [List.length_nil]
                omega
              · have s5 := same_new (o := .tup (.str w :: ((rest.map num).map V.int ++ []))) (Same.refl H4) np4
                refine hq _ _ (sB.trans s5) (out_tup (SqT.of upd_same) (.cons (.str _) ?_) rfl)
                rw [List.append_nil]
                exact dp_ints _
            · have e7 : ¬ (((rest.map num).length : Int)) = k := fun y => e6 (decide_eq_true (congrArg V.int (by rw [List.length_map]; exact y)))
              rw [if_neg (by rw [el]; exact fun y => e7 (Option.some.inj y).symm)] at hq
              exact hq _ _ sB rfl
end
end K45
set_option Elab.async false
set_option linter.all false
set_option maxRecDepth 100000
set_option maxHeartbeats 4000000
/-! K45d: events written. -/
namespace K45
open PySem PySem.Spec PyProof.Rows L2 Gd Com Bk Nw Xs StX
/-! two fors -/
section
variable {J J1 : It} {n n1 : Nat} {G G1 : Hp → Prop} {Y Y1 : Nat → Hp → V → Hp → Prop}
theorem in_it (w : Walk J1 n1 G1 Y1) {g1 : TG} {tt1 : TT} {te : TE} {vs1 : List Nat} {σ2 : L2.St} {H4 : Hp} {D : Addr} {Nx : Hp → Prop} (Pv : Nat → Hp → Prop) (h0 : Pv 0 H4) (hG : ∀ i H, i ≤ n1 → Pv i H → G1 H)
    (hs : ∀ i x H H', i < n1 → Pv i H → Y1 i H x H' → g1 x (wipe σ2 vs1) H' fun σ3 H5 => wipe σ3 vs1 = wipe σ2 vs1 ∧ tt1 σ3 H5 fun b H6 =>
      if b = true then te σ3 H6 fun y H7 => ∃ acc, H7 D = some (.lst acc) ∧ acc.length < sizeLine ∧ Pv (i + 1) (upd H7 D (.lst (acc ++ [y]))) else Pv (i + 1) H6) (hd : ∀ H, Pv n1 H → Nx H) :
    ∃ W1 : Nat → Nat → Hp → Prop, (∃ m, W1 0 m H4) ∧ ∀ j k H, W1 j k H →
      (J1.stop j H ∧ Nx H) ∨ (J1.go j H ∧ ∃ Nx1 : Hp → Prop, (∀ H', Nx1 H' → ∃ k', k' < k ∧ W1 (j + 1) k' H') ∧ ∀ x H', J1.yld j H x H' → g1 x (wipe σ2 vs1) H' fun σ3 H5 => wipe σ3 vs1 = wipe σ2 vs1 ∧ tt1 σ3 H5 fun b H6 =>
        if b = true then te σ3 H6 fun y H7 => ∃ acc, H7 D = some (.lst acc) ∧ acc.length < sizeLine ∧ Nx1 (upd H7 D (.lst (acc ++ [y]))) else Nx1 H6) := by
  refine ⟨fun i m H => m = n1 - i ∧ i ≤ n1 ∧ Pv i H, ⟨n1, by simp, Nat.zero_le _, h0⟩, ?_⟩
  rintro i m H ⟨rfl, hi, p⟩
  have q := hG i H hi p
  by_cases hlt : i < n1
  · refine .inr ⟨w.goes i H hlt q, Pv (i + 1), fun H' p' => ⟨n1 - (i + 1), by omega, rfl, hlt, p'⟩, fun x H' y => hs i x H H' hlt p (w.yields i H x H' hlt q y)⟩
  · have e : i = n1 := by omega
    subst e
    exact .inl ⟨w.stops H q, hd H p⟩
theorem lc2_it (w : Walk J n G Y) {wi1 : TI} {g g1 : TG} {tt tt1 : TT} {te : TE} {vs vs1 : List Nat} {σ : L2.St} {H1 : Hp} {D : Addr} {Qd : Hp → Prop} (Pv : Nat → Hp → Prop) (h0 : Pv 0 (upd H1 D (.lst []))) (hG : ∀ i H, i ≤ n → Pv i H → G H)
    (hs : ∀ i x H H', i < n → Pv i H → Y i H x H' → g x (wipe σ vs) H' fun σ2 H2 => wipe σ2 vs = wipe σ vs ∧ tt σ2 H2 fun b H3 =>
      if b = true then wi1 σ2 H3 fun J1 H4 => ∃ W1 : Nat → Nat → Hp → Prop, (∃ m, W1 0 m H4) ∧ ∀ j k H, W1 j k H →
        (J1.stop j H ∧ Pv (i + 1) H) ∨ (J1.go j H ∧ ∃ Nx1 : Hp → Prop, (∀ H', Nx1 H' → ∃ k', k' < k ∧ W1 (j + 1) k' H') ∧ ∀ x H', J1.yld j H x H' → g1 x (wipe σ2 vs1) H' fun σ3 H5 => wipe σ3 vs1 = wipe σ2 vs1 ∧ tt1 σ3 H5 fun b H6 =>
          if b = true then te σ3 H6 fun y H7 => ∃ acc, H7 D = some (.lst acc) ∧ acc.length < sizeLine ∧ Nx1 (upd H7 D (.lst (acc ++ [y]))) else Nx1 H6)
      else Pv (i + 1) H3) (hd : ∀ H, Pv n H → Qd H) :
    ∃ W : Nat → Nat → Hp → Prop, (∃ m, W 0 m (upd H1 D (.lst []))) ∧ ∀ i m H, W i m H →
      (J.stop i H ∧ Qd H) ∨ (J.go i H ∧ ∃ Nx : Hp → Prop, (∀ H', Nx H' → ∃ m', m' < m ∧ W (i + 1) m' H') ∧ ∀ x H', J.yld i H x H' → g x (wipe σ vs) H' fun σ2 H2 => wipe σ2 vs = wipe σ vs ∧ tt σ2 H2 fun b H3 =>
        if b = true then wi1 σ2 H3 fun J1 H4 => ∃ W1 : Nat → Nat → Hp → Prop, (∃ m, W1 0 m H4) ∧ ∀ j k H, W1 j k H →
          (J1.stop j H ∧ Nx H) ∨ (J1.go j H ∧ ∃ Nx1 : Hp → Prop, (∀ H', Nx1 H' → ∃ k', k' < k ∧ W1 (j + 1) k' H') ∧ ∀ x H', J1.yld j H x H' → g1 x (wipe σ2 vs1) H' fun σ3 H5 => wipe σ3 vs1 = wipe σ2 vs1 ∧ tt1 σ3 H5 fun b H6 =>
            if b = true then te σ3 H6 fun y H7 => ∃ acc, H7 D = some (.lst acc) ∧ acc.length < sizeLine ∧ Nx1 (upd H7 D (.lst (acc ++ [y]))) else Nx1 H6)
        else Nx H3) := by
  refine ⟨fun i m H => m = n - i ∧ i ≤ n ∧ Pv i H, ⟨n, by simp, Nat.zero_le _, h0⟩, ?_⟩
  rintro i m H ⟨rfl, hi, p⟩
  have q := hG i H hi p
  by_cases hlt : i < n
  · refine .inr ⟨w.goes i H hlt q, Pv (i + 1), fun H' p' => ⟨n - (i + 1), by omega, rfl, hlt, p'⟩, fun x H' y => hs i x H H' hlt p (w.yields i H x H' hlt q y)⟩
  · have e : i = n := by omega
    subst e
    exact .inl ⟨w.stops H q, hd H p⟩
end
/-! ### what the words are made of -/
def strOf : V → Str
  | .int n => tx n
  | .str z => z
  | _ => Str.empty
def isW : V → Prop
  | .int n => n.natAbs.log2 < 1920
  | .str _ => True
  | _ => False
def tvs : Ev → List V
  | .nums _ ns => ns.map V.int
  | .wrN a b => [.int a, .int b, .str w_none]
  | .send to rs => .int to :: rs.map V.int
  | .rem rows => rows.flatMap fun p => [V.int p.1, V.int p.2]
  | .rcv s _ n seen held c => V.int s :: V.int n :: V.int seen :: (held.map V.int ++ V.str w_carried :: c.flatMap fun p => [V.str p.1, V.int p.2])
def wordOf : Ev → Str
  | .nums w _ => w
  | .wrN _ _ => w_write
  | .send _ _ => w_send
  | .rem _ => w_remove
  | .rcv .. => w_receive
theorem map_ints (l : List Int) : (l.map V.int).map strOf = l.map tx := by
  rw [List.map_map]
  rfl
theorem wd_tvs : ∀ e : Ev, wd e = wordOf e :: (tvs e).map strOf
  | .nums w ns => by show w :: _ = w :: _; rw [tvs, map_ints]
  | .wrN a b => rfl
  | .send to rs => by show w_send :: tx to :: _ = w_send :: tx to :: _; rw [map_ints]
  | .rem rows => by
    show w_remove :: _ = w_remove :: _
    rw [tvs, List.map_flatMap]
    rfl
  | .rcv s _ n seen held c => by
    show w_receive :: tx s :: tx n :: tx seen :: _ = w_receive :: tx s :: tx n :: tx seen :: (held.map V.int ++ V.str w_carried :: c.flatMap fun p => [V.str p.1, V.int p.2]).map strOf
    rw [List.map_append, map_ints, List.map_cons, List.map_flatMap]
    rfl
theorem log5 {n : Int} (h : In5 n) : n.natAbs.log2 < 1920 := by
  have h1 := h.1
  have h2 := h.2
  by_cases e0 : n.natAbs = 0
  · rw [e0]; decide
  · exact (Nat.log2_lt e0).mpr (Nat.lt_of_lt_of_le (show n.natAbs < 2 ^ 17 by omega) (Nat.pow_le_pow_right (by decide) (by decide)))
theorem isW_tvs : ∀ {e : Ev}, Wf e → ∀ v ∈ tvs e, isW v
  | .nums _ ns, h, v, hv => by
    obtain ⟨n, hn, rfl⟩ := List.mem_map.mp hv
    exact log5 (h.2 n hn)
  | .wrN a b, h, v, hv => by
    have hv : v ∈ [V.int a, .int b, .str w_none] := hv
    simp only [List.mem_cons, List.not_mem_nil, or_false] at hv
    rcases hv with rfl | rfl | rfl
    · exact log5 h.1
    · exact log5 h.2
    · trivial
  | .send to rs, h, v, hv => by
    rcases List.mem_cons.mp hv with rfl | hv
    · exact log5 h.1
    · obtain ⟨n, hn, rfl⟩ := List.mem_map.mp hv
      exact log5 (h.2.1 n hn)
  | .rem rows, h, v, hv => by
    obtain ⟨p, hp, hv⟩ := List.mem_flatMap.mp hv
    simp only [List.mem_cons, List.not_mem_nil, or_false] at hv
    rcases hv with rfl | rfl
    · exact log5 (h.1 p hp).1
    · exact log5 (h.1 p hp).2
  | .rcv s _ n seen held c, h, v, hv => by
    obtain ⟨h1, h2, h3, hh, hr, hc, hl⟩ := h
    rcases List.mem_cons.mp hv with rfl | hv
    · exact log5 h1
    rcases List.mem_cons.mp hv with rfl | hv
    · exact log5 h2
    rcases List.mem_cons.mp hv with rfl | hv
    · exact log5 h3
    rcases List.mem_append.mp hv with hv | hv
    · obtain ⟨n, hn, rfl⟩ := List.mem_map.mp hv
      exact log5 (hh n hn)
    rcases List.mem_cons.mp hv with rfl | hv
    · trivial
    obtain ⟨p, hp, hv⟩ := List.mem_flatMap.mp hv
    simp only [List.mem_cons, List.not_mem_nil, or_false] at hv
    rcases hv with rfl | rfl
    · trivial
    · exact log5 (hc p hp).2
section
variable {P : Program} {w : World} {K : PySem.W.Frag} {mg : Str → Option Value} {base : Heap}
theorem dpa_pairs {α : Type} {H : Hp} {f : α → PyData} {g : α → List V} (hf : ∀ (v : V) (a : α), Dp K H v (f a) → ∃ t : Addr, v = .ref t ∧ SqT K H t (g a)) : ∀ {vs : List V} {l : List α}, DpAll K H vs (l.map f) → Paired (fun v a => ∃ t : Addr, v = .ref t ∧ SqT K H t (g a)) vs l
  | _, [], .nil => .nil
  | _, a :: l, .cons h t => .cons (hf _ _ h) (dpa_pairs hf t)
theorem pr_inv {H : Hp} (v : V) (p : Int × Int) (h : Dp K H v (prD p)) : ∃ t : Addr, v = .ref t ∧ SqT K H t [.int p.1, .int p.2] := by
  obtain ⟨a, xs, rfl, hx, hd⟩ := dp_tup h
  cases hd with
  | cons h1 t =>
    cases t with
    | cons h2 t =>
      cases t
      cases h1
      cases h2
      exact ⟨a, rfl, hx⟩
theorem cr_inv {H : Hp} (v : V) (p : Str × Int) (h : Dp K H v (crD p)) : ∃ t : Addr, v = .ref t ∧ SqT K H t [.str p.1, .int p.2] := by
  obtain ⟨a, xs, rfl, hx, hd⟩ := dp_tup h
  cases hd with
  | cons h1 t =>
    cases t with
    | cons h2 t =>
      cases t
      cases h1
      cases h2
      exact ⟨a, rfl, hx⟩
/-- what a message is -/
structure MsgAt (K : PySem.W.Frag) (H : Hp) (p : Addr) (s me n seen : Int) (held : List Int) (c : List (Str × Int)) (ph pc : Addr) (cs : List V) : Prop where
  top : SqT K H p [.int s, .int me, .int n, .int seen, .ref ph, .ref pc]
  hel : SqT K H ph (held.map V.int)
  car : SqT K H pc cs
  its : Paired (fun v (a : Str × Int) => ∃ t : Addr, v = .ref t ∧ SqT K H t [.str a.1, .int a.2]) cs c
theorem msg_of {H : Hp} {v : V} {s me n seen : Int} {held : List Int} {c : List (Str × Int)} (h : Dp K H v (.tuple [.int s, .int me, .int n, .int seen, .tuple (held.map .int), .tuple (c.map crD)])) : ∃ p ph pc cs, v = .ref p ∧ MsgAt K H p s me n seen held c ph pc cs := by
  obtain ⟨a, xs, rfl, hx, hd⟩ := dp_tup h
  cases hd with
  | cons h1 t => cases t with
  | cons h2 t => cases t with
  | cons h3 t => cases t with
  | cons h4 t => cases t with
  | cons h5 t => cases t with
  | cons h6 t =>
    cases t
    cases h1; cases h2; cases h3; cases h4
    obtain ⟨ph, ys, rfl, hy, hd⟩ := dp_tup h5
    rw [dpa_ints_inv hd] at hy
    obtain ⟨pc, cs, rfl, hc, hd⟩ := dp_tup h6
    exact ⟨a, ph, pc, cs, rfl, hx, hy, hc, dpa_pairs cr_inv hd⟩
theorem paired_at {α β : Type} {F : α → β → Prop} : ∀ {xs : List α} {ys : List β}, Paired F xs ys → ∀ {i : Nat} {x : α}, xs[i]? = some x → ∃ y, ys[i]? = some y ∧ F x y := fun h => LiI.paired_get h
theorem take_flat {α β : Type} (f : α → List β) {l : List α} {i : Nat} {x : α} (h : l[i]? = some x) : (l.take (i + 1)).flatMap f = (l.take i).flatMap f ++ f x := by
  rw [List.take_succ, h, List.flatMap_append]
  simp
/-! ### _words_of_message -/
def spMsg (K : PySem.W.Frag) : Sp := fun vs H Q _ => ∃ (p : Addr) (s me n seen : Int) (held : List Int) (c : List (Str × Int)) (ph pc : Addr) (cs : List V), vs = [.ref p] ∧ MsgAt K H p s me n seen held c ph pc cs ∧ held.length ≤ 1000 ∧ c.length ≤ 1000 ∧
  ∀ (q : Addr) (H' : Hp), Same H H' → H q = none → H' q = some (.lst (tvs (.rcv s me n seen held c))) → Q (.ref q) H'
theorem ok_words_of_message {f : Addr} {fd : FuncData} (A : All w K mg ) (F : Fun K "_words_of_message" "_words_of_message" s_words_of_message f fd) : FnOk P w K mg base CX0 1 f fd ["message"] (spMsg K) := by
  
  refine F.ok sc_words_of_message (fun vs H Q E h => ?_) (fun cdv A' outer s H vs Q E hr h => ?_)
  · obtain ⟨p, _, _, _, _, _, _, _, _, _, rfl, _⟩ := h
    rfl
  · obtain ⟨p, s, me, n, seen, held, c, ph, pc, cs, rfl, M, lh, lc, q⟩ := h
    refine ⟨_, (pss_cons (ps_asg (pv 0) (pg_tup rfl (pgs_cons (pg_name (i := 1) sc_words_of_message.nd rfl (.inl rfl)) (pgs_cons (pg_name (i := 2) sc_words_of_message.nd rfl (.inl rfl)) (pgs_cons (pg_name (i := 3) sc_words_of_message.nd rfl (.inl rfl)) (pgs_cons (pg_name (i := 4) sc_words_of_message.nd rfl (.inl rfl)) (pgs_cons (pg_name (i := 5) sc_words_of_message.nd rfl (.inl rfl)) (pgs_cons (pg_name (i := 6) sc_words_of_message.nd rfl (.inl rfl)) pgs_nil))))))))
(pss_cons (ps_set (i := 7) sc_words_of_message.nd rfl (.inl rfl) (pe_lst (pa_cons (pv 1) (pa_cons (pv 3) (pa_cons (pv 4) (pa_star (pv 5) (pa_cons pe_str pa_nil)))))))
(pss_cons (ps_for PassesOwn.never rfl (pi_tup (pv 6)) (pg_tup rfl (pgs_cons (pg_name (i := 8) sc_words_of_message.nd rfl (.inl rfl)) (pgs_cons (pg_name (i := 9) sc_words_of_message.nd rfl (.inl rfl)) pgs_nil)))
(pss_one (ps_expr (pe_bm PySem.F.plainAttrs_list PySem.F.slot_list_extend PySem.F.type_list_extend mt_extend (pv 7) (pa_cons (pe_lst (pa_cons (pv 8) (pa_cons (pv 9) pa_nil))) pa_nil)))))
(pss_one (ps_ret (pv 7)))))), ?_⟩
    have lcs := M.its.length
    refine ⟨_, rfl, p, _, rfl, M.top, rfl, _, _, rfl, _, _, rfl, _, _, rfl, _, _, rfl, _, _, rfl, _, _, rfl, rfl, ?_⟩
    refine ⟨_, rfl, _, rfl, _, rfl, _, rfl, ph, _, rfl, .inl M.hel, ?_, fun q0 nq => ?_⟩
    · rw [List.length_cons, List.length_cons, List.length_cons, List.length_append, List.length_map, sizeLine_eq]
      simp only [List.length_cons, List.length_nil]
      omega
    have s1 := same_new (o := .lst (.int s :: .int n :: .int seen :: (held.map V.int ++ [.str w_carried]))) (Same.refl H) nq
    refine ⟨_, rfl, pc, rfl, ⟨_, sqt_same s1 M.car⟩, for_tup (xs := cs) (fun i σ H' => ∃ v8 v9, σ = [some (.ref p), some (.int s), some (.int me), some (.int n), some (.int seen), some (.ref ph), some (.ref pc), some (.ref q0), v8, v9] ∧ Same H H' ∧ H' q0 = some (.lst (.int s :: .int n :: .int seen :: (held.map V.int ++ V.str w_carried :: (c.take i).flatMap fun p => [V.str p.1, V.int p.2])))) ⟨none, none, rfl, s1, upd_same⟩ (fun i σ H' _ h => by
      obtain ⟨_, _, _, s2, _⟩ := h
      exact sqt_same s2 M.car) ?_ ?_⟩
    · rintro i σ v H1 hv ⟨v8, v9, rfl, s2, h2⟩
      obtain ⟨a, ha, t, rfl, ht⟩ := paired_at M.its hv
      refine ⟨t, _, rfl, sqt_same s2 ht, rfl, _, _, rfl, _, _, rfl, rfl, ?_⟩
      refine ⟨_, rfl, .inl ⟨rfl, _, SqL.of h2⟩, _, rfl, _, rfl, by show 2 ≤ sizeLine; decide, fun b nb => ?_⟩
      have ic : i < c.length := (List.getElem?_eq_some_iff.mp ha).1
      have fl : ((c.take i).flatMap fun p => [V.str p.1, V.int p.2]).length ≤ 2000 := by
        have : ∀ l : List (Str × Int), (l.flatMap fun p => [V.str p.1, V.int p.2]).length = 2 * l.length := fun l => by
          induction l with
          | nil => rfl
          | cons p r ih => rw [List.flatMap_cons, List.length_append, ih]; simp; omega
        rw [this, List.length_take]
        omega
      refine ⟨q0, b, _, _, rfl, rfl, (same_new (o := .lst [.str a.1, .int a.2]) (Same.refl H1) nb) _ _ h2, upd_same, ?_, ?_⟩
      · simp only [List.length_cons, List.length_append, List.length_map, List.length_nil]
        rw [sizeLine_eq]
        omega
      · refine ⟨_, _, rfl, same_mut (s2.trans (same_new (Same.refl H1) nb)) nq, ?_⟩
        rw [upd_same, take_flat _ ha]
        simp
    · rintro σ H1 ⟨v8, v9, rfl, s2, h2⟩
      rw [lcs, List.take_length] at h2
      exact ⟨_, rfl, q q0 H1 s2 nq h2⟩
theorem slice1 {n : Nat} {Z : Prop} (h : 1 ≤ n) : ¬ (HT.sIx n 0 (some 1) = 0 ∧ Z) := fun y => by
  have := y.1
  rw [show (some (1 : Int)) = some ((1 : Nat) : Int) from rfl, HT.sIx_nat, Nat.min_eq_left h] at this
  cases this
/-! ### write_event -/
theorem dat_head : ∀ e : Ev, ∃ ds, dat e = .tuple (.str (wordOf e) :: ds)
  | .nums _ _ => ⟨_, rfl⟩
  | .wrN _ _ => ⟨_, rfl⟩
  | .send _ _ => ⟨_, rfl⟩
  | .rem _ => ⟨_, rfl⟩
  | .rcv .. => ⟨_, rfl⟩
def spWrite (K : PySem.W.Frag) : Sp := fun vs H Q _ => ∃ (p : Addr) (e : Ev), vs = [.ref p] ∧ Dp K H (.ref p) (dat e) ∧ Wf e ∧ (wd e).length ≤ 700 ∧ ∀ H', Same H H' → Q (.str (text e)) H'
theorem tvs_len (e : Ev) : (tvs e).length + 1 = (wd e).length := by rw [wd_tvs, List.length_cons, List.length_map]
theorem ok_write_event {f : Addr} {fd : FuncData} (A : All w K mg ) (F : Fun K "write_event" "write_event" s_write_event f fd) : FnOk P w K mg base CX0 2 f fd ["event"] (spWrite K) := by
  obtain ⟨f_words_of_message, fd_words_of_message, F_words_of_message, g_words_of_message, b_words_of_message⟩ := A.words_of_message
  have G_words_of_message := ok_words_of_message (P := P) (w := w) (base := base) A F_words_of_message
  refine F.ok sc_write_event (fun vs H Q E h => ?_) (fun cdv A' outer s H vs Q E hr h => ?_)
  · obtain ⟨p, e, rfl, _⟩ := h
    rfl
  · obtain ⟨p, e, rfl, hD, hW, hl, q⟩ := h
    have htl := tvs_len e
    have his := isW_tvs hW
    have hsum := sum_le fun w hw => (wd_asc hW w hw).2
    have hww : wd e = wordOf e :: (tvs e).map strOf := wd_tvs e
    refine ⟨_, (pss_cons (ps_set (i := 1) sc_write_event.nd rfl (.inl rfl) (pe_ix ix_tup (pv 0) pe_int (fun _ _ => rfl)))
(Evl.pss_cut (ps_if (pt_cmpR op_eq (pv 1) pe_str (nomark _))
(pss_one (ps_set (i := 2) sc_write_event.nd rfl (.inl rfl) (pe_call G_words_of_message (hr.mono (by decide)) (by rfl) g_words_of_message F_words_of_message.kp b_words_of_message .nil pass0 (pa_cons (pe_ix ix_tup (pv 0) pe_int (fun _ _ => rfl)) pa_nil))))
(pss_one (ps_if (pt_cmpR op_eq (pv 1) pe_str (nomark _))
(pss_one (ps_set (i := 2) sc_write_event.nd rfl (.inl rfl) (pe_lst (pa_cons (pe_ix ix_tup (pv 0) pe_int (fun _ _ => rfl)) (pa_star (pe_ix ix_tup (pv 0) pe_int (fun _ _ => rfl)) pa_nil)))))
(pss_one (ps_if (pt_cmpR op_eq (pv 1) pe_str (nomark _))
(pss_one (ps_setLc2 (i := 2) (own := [("entry", 3), ("number", 4)]) (vs1 := [4]) (tt := tYes) (tt1 := tYes) rfl sc_write_event.nd rfl rfl (sw_true rfl rfl rfl (by decide +kernel)) (pi_tup (pe_ix ix_tup (pv 0) pe_int (fun _ _ => rfl))) (blkOk_by (N := ["event", "word", "told", "entry", "number", "part"]) (sc := defScope s_write_event) (by decide +kernel)) (by decide) (fun _ _ _ _ _ => pg_name (i := 3) sc_write_event.nd rfl (Or.inl rfl)) (fun _ _ _ _ _ => pts_nil) (fun _ _ _ _ _ => (show PI _ _ _ (iTup K (tVar 3)) from pi_tup (pv 3))) (fun _ _ _ _ _ => pg_name (i := 4) sc_write_event.nd rfl (Or.inl rfl)) (fun _ _ _ _ _ => pts_nil) (fun _ _ _ _ _ => (pv 4))))
(pss_one (ps_setLc (i := 2) (own := [("number", 4)]) (tt := tYes) rfl sc_write_event.nd rfl rfl (sw_true rfl rfl rfl (by decide +kernel)) (pi_tup (pe_slice sl_tup (pv 0) (po_some pe_int) po_none)) (blkOk_by (N := ["event", "word", "told", "entry", "number", "part"]) (sc := defScope s_write_event) (by decide +kernel)) (fun _ _ _ _ _ => pg_name (i := 4) sc_write_event.nd rfl (Or.inl rfl)) (fun _ _ _ _ _ => pts_nil) (fun _ _ _ _ _ => (pe_ifExp (pt_cmp (pc_isN (pv 4))) pe_str (pv 4))))))))))
(pss_one (ps_ret (pe_join pe_str (pe_lc (own := [("part", 5)]) (tt := tYes) rfl sc_write_event.nd (pi_list (pe_lst (pa_cons (pv 1) (pa_star (pv 2) pa_nil)))) (blkOk_by (N := ["event", "word", "told", "entry", "number", "part"]) (sc := defScope s_write_event) (by decide +kernel)) (fun _ _ _ _ _ => pg_name (i := 5) sc_write_event.nd rfl (Or.inl rfl)) (fun _ _ _ _ _ => pts_nil) (fun _ _ _ _ _ => (pe_callTy cr_strV (by rfl) A.str (by decide +kernel) (pa_cons (pv 5) pa_nil))))))))), ?_⟩
    obtain ⟨ds, ed⟩ := dat_head e
    have hD2 := hD
    rw [ed] at hD2
    obtain ⟨pa, xs, epa, hx, hds⟩ := dp_tup hD2
    cases epa
    cases hds with
    | cons hw hds => cases hw with
    | str =>
    rename_i ys
    refine ⟨_, rfl, p, _, 0, _, rfl, rfl, hx, atI_nat (j := 0) rfl, ?_⟩
    refine ⟨fun σ H1 => ∃ t v3 v4 v5, σ = [some (.ref p), some (.str (wordOf e)), some (.ref t), v3, v4, v5] ∧ Same H H1 ∧ H1 t = some (.lst (tvs e)), ?_, ?_⟩
    · have ne : ∀ {a b : Str}, a ≠ b → ¬ decide (V.str a = V.str b) = true := fun h z => h (V.str.inj (of_decide_eq_true z))
      cases e with
      | nums v ns =>
        obtain ⟨n1, n2, n3, _⟩ := lk_ne hW.1
        have e1 : ds = ns.map PyData.int := (List.cons.inj (PyData.tuple.inj ed)).2.symm
        subst e1
        rw [dpa_ints_inv hds] at hx
        refine ⟨_, rfl, rfl, _, rfl, ite2 (fun z => absurd z (ne n1)) (fun _ => ?_)⟩
        refine ⟨_, rfl, rfl, _, rfl, ite2 (fun z => absurd z (ne n2)) (fun _ => ?_)⟩
        refine ⟨_, rfl, rfl, _, rfl, ite2 (fun z => absurd z (ne n3)) (fun _ => ?_)⟩
        refine ⟨_, rfl, 1, rfl, p, _, rfl, hx, slice1 (by simp), fun p1 np1 => ?_⟩
        have ec : cutV (.str (wordOf (.nums v ns)) :: ns.map V.int) (some 1) none = ns.map V.int := by
          rw [show (some (1 : Int)) = some ((1 : Nat) : Int) from rfl, cut_drop _ (by simp)]
          rfl
        have s1 := same_new (o := .tup (ns.map V.int)) (Same.refl H) np1
        have h1 : (upd H p1 (.tup (ns.map V.int))) p1 = some (.tup (ns.map V.int)) := upd_same
        rw [ec]
        generalize upd H p1 (.tup (ns.map V.int)) = H1 at s1 h1
        refine ⟨p1, rfl, ⟨_, SqT.of h1⟩, fun D nD => ?_⟩
        refine lc_tup (K := K) (a := p1) (xs := ns.map V.int) (fun i H' => H' D = some (.lst (((ns.map V.int).take i).map fun v => if v = V.non then .str w_none else v)) ∧ Same H1 H') ⟨upd_same, same_new (Same.refl H1) nD⟩ (fun i H' _ h => sqt_same h.2 (SqT.of h1)) ?_ ?_
        · rintro i v H2 hv ⟨hD, s2⟩
          refine ⟨rfl, _, rfl, _, rfl, ite2 (fun e => ?_) (fun e => ?_)⟩
          · have ev : v = V.non := of_decide_eq_true e
            refine ⟨_, hD, (by rw [List.length_map, List.length_take, List.length_map, sizeLine_eq]; have : ns.length + 1 ≤ 700 := (by simpa [wd] using hl); omega), ?_, same_mut s2 nD⟩
            rw [upd_same, List.take_succ, hv, List.map_append]
            show some (HO.lst (_ ++ [V.str w_none])) = some (HO.lst (_ ++ [if v = V.non then V.str w_none else v]))
            rw [if_pos ev]
          · have ev : ¬ v = V.non := fun z => e (decide_eq_true z)
            refine ⟨_, rfl, _, hD, (by rw [List.length_map, List.length_take, List.length_map, sizeLine_eq]; have : ns.length + 1 ≤ 700 := (by simpa [wd] using hl); omega), ?_, same_mut s2 nD⟩
            rw [upd_same, List.take_succ, hv, List.map_append]
            show some (HO.lst (_ ++ [v])) = some (HO.lst (_ ++ [if v = V.non then V.str w_none else v]))
            rw [if_neg ev]
        · rintro H2 ⟨hD, s2⟩
          rw [List.take_length] at hD
          exact ⟨D, _, _, _, rfl, s1.trans s2, by rw [hD]; show some (HO.lst ((ns.map V.int).map fun v => if v = V.non then .str w_none else v)) = some (.lst (ns.map V.int)); rw [List.map_map]; rfl⟩
      | wrN a b =>
        have e1 : ds = [.int a, .int b, .none] := (List.cons.inj (PyData.tuple.inj ed)).2.symm
        subst e1
        obtain rfl : ys = [.int a, .int b, .non] := by
          cases hds with
          | cons h1 t => cases t with
          | cons h2 t => cases t with
          | cons h3 t =>
            cases t
            cases h1; cases h2; cases h3
            rfl
        refine ⟨_, rfl, rfl, _, rfl, ite2 (fun z => absurd z (ne (show w_write ≠ _ by decide +kernel))) (fun _ => ?_)⟩
        refine ⟨_, rfl, rfl, _, rfl, ite2 (fun z => absurd z (ne (show w_write ≠ _ by decide +kernel))) (fun _ => ?_)⟩
        refine ⟨_, rfl, rfl, _, rfl, ite2 (fun z => absurd z (ne (show w_write ≠ _ by decide +kernel))) (fun _ => ?_)⟩
        refine ⟨_, rfl, 1, rfl, p, _, rfl, hx, slice1 (by simp), fun p1 np1 => ?_⟩
        have ec : cutV (.str (wordOf (.wrN a b)) :: [.int a, .int b, .non]) (some 1) none = [.int a, .int b, .non] := by
          rw [show (some (1 : Int)) = some ((1 : Nat) : Int) from rfl, cut_drop _ (by simp)]
          rfl
        have s1 := same_new (o := .tup ([.int a, .int b, .non])) (Same.refl H) np1
        have h1 : (upd H p1 (.tup ([.int a, .int b, .non]))) p1 = some (.tup ([.int a, .int b, .non])) := upd_same
        rw [ec]
        generalize upd H p1 (.tup ([.int a, .int b, .non])) = H1 at s1 h1
        refine ⟨p1, rfl, ⟨_, SqT.of h1⟩, fun D nD => ?_⟩
        refine lc_tup (K := K) (a := p1) (xs := [.int a, .int b, .non]) (fun i H' => H' D = some (.lst ((([.int a, .int b, .non]).take i).map fun v => if v = V.non then .str w_none else v)) ∧ Same H1 H') ⟨upd_same, same_new (Same.refl H1) nD⟩ (fun i H' _ h => sqt_same h.2 (SqT.of h1)) ?_ ?_
        · rintro i v H2 hv ⟨hD, s2⟩
          refine ⟨rfl, _, rfl, _, rfl, ite2 (fun e => ?_) (fun e => ?_)⟩
          · have ev : v = V.non := of_decide_eq_true e
            refine ⟨_, hD, (by rw [List.length_map, List.length_take, sizeLine_eq]; simp only [List.length_cons, List.length_nil]; omega), ?_, same_mut s2 nD⟩
            rw [upd_same, List.take_succ, hv, List.map_append]
            show some (HO.lst (_ ++ [V.str w_none])) = some (HO.lst (_ ++ [if v = V.non then V.str w_none else v]))
            rw [if_pos ev]
          · have ev : ¬ v = V.non := fun z => e (decide_eq_true z)
            refine ⟨_, rfl, _, hD, (by rw [List.length_map, List.length_take, sizeLine_eq]; simp only [List.length_cons, List.length_nil]; omega), ?_, same_mut s2 nD⟩
            rw [upd_same, List.take_succ, hv, List.map_append]
            show some (HO.lst (_ ++ [v])) = some (HO.lst (_ ++ [if v = V.non then V.str w_none else v]))
            rw [if_neg ev]
        · rintro H2 ⟨hD, s2⟩
          rw [List.take_length] at hD
          exact ⟨D, _, _, _, rfl, s1.trans s2, by rw [hD]; rfl⟩
      | send to rs =>
        have e1 : ds = [.int to, .tuple (rs.map .int)] := (List.cons.inj (PyData.tuple.inj ed)).2.symm
        subst e1
        obtain ⟨pr, rfl, hr⟩ : ∃ pr, ys = [.int to, .ref pr] ∧ SqT K H pr (rs.map V.int) := by
          cases hds with
          | cons h1 t => cases t with
          | cons h2 t =>
            cases t
            cases h1
            obtain ⟨a, xs, rfl, hx, hd⟩ := dp_tup h2
            rw [dpa_ints_inv hd] at hx
            exact ⟨a, rfl, hx⟩
        refine ⟨_, rfl, rfl, _, rfl, ite2 (fun z => absurd z (ne (show w_send ≠ _ by decide +kernel))) (fun _ => ?_)⟩
        refine ⟨_, rfl, rfl, _, rfl, ite2 (fun _ => ?_) (fun z => absurd (decide_eq_true rfl) z)⟩
        refine ⟨_, rfl, p, _, 1, _, rfl, rfl, hx, atI_nat (j := 1) rfl, _, rfl, p, _, 2, _, rfl, rfl, hx, atI_nat (j := 2) rfl, pr, _, rfl, .inl hr, ?_, fun t nt => ?_⟩
        · rw [List.length_cons, List.length_append, List.length_map, sizeLine_eq]
          have := hW.2.2
          simp only [List.length_nil]
          omega
        · exact ⟨t, _, _, _, rfl, same_new (Same.refl H) nt, by rw [upd_same, List.append_nil]; rfl⟩
      | rem rows =>
        have e1 : ds = [.tuple (rows.map prD)] := (List.cons.inj (PyData.tuple.inj ed)).2.symm
        subst e1
        obtain ⟨pr, cs, rfl, hr, hP⟩ : ∃ pr cs, ys = [.ref pr] ∧ SqT K H pr cs ∧ Paired (fun v (a : Int × Int) => ∃ t : Addr, v = .ref t ∧ SqT K H t [.int a.1, .int a.2]) cs rows := by
          cases hds with
          | cons h1 t =>
            cases t
            obtain ⟨a, xs, rfl, hx, hd⟩ := dp_tup h1
            exact ⟨a, xs, rfl, hx, dpa_pairs pr_inv hd⟩
        have lcs := hP.length
        have flt : ∀ l : List (Int × Int), (l.flatMap fun p => [V.int p.1, V.int p.2]).length = 2 * l.length := fun l => by
          induction l with
          | nil => rfl
          | cons p r ih => rw [List.flatMap_cons, List.length_append, ih]; simp; omega
        have lrows : rows.length ≤ 350 := by
          have e2 : (tvs (.rem rows)).length = 2 * rows.length := flt rows
          omega
        refine ⟨_, rfl, rfl, _, rfl, ite2 (fun z => absurd z (ne (show w_remove ≠ _ by decide +kernel))) (fun _ => ?_)⟩
        refine ⟨_, rfl, rfl, _, rfl, ite2 (fun z => absurd z (ne (show w_remove ≠ _ by decide +kernel))) (fun _ => ?_)⟩
        refine ⟨_, rfl, rfl, _, rfl, ite2 (fun _ => ?_) (fun z => absurd (decide_eq_true rfl) z)⟩
        refine ⟨_, rfl, p, _, 1, _, rfl, rfl, hx, atI_nat (j := 1) rfl, pr, rfl, ⟨_, hr⟩, fun D nD => ?_⟩
        refine lc2_it (walk_tup (K := K) (a := pr) (xs := cs)) (fun i H' => H' D = some (.lst ((rows.take i).flatMap fun p => [V.int p.1, V.int p.2])) ∧ Same H H') ⟨upd_same, same_new (Same.refl H) nD⟩ (fun i H' _ h => sqt_same h.2 hr) ?_ ?_
        · rintro i v H1 H2 hi ⟨hD, s1⟩ ⟨rfl, hv⟩
          obtain ⟨a, ha, t, rfl, ht⟩ := paired_at hP hv
          refine ⟨rfl, _, rfl, t, rfl, ⟨_, sqt_same s1 ht⟩, ?_⟩
          refine in_it (walk_tup (K := K) (a := t) (xs := [.int a.1, .int a.2])) (fun j H' => H' D = some (.lst ((rows.take i).flatMap (fun p => [V.int p.1, V.int p.2]) ++ ([V.int a.1, V.int a.2].take j))) ∧ Same H H') ⟨by rw [hD]; simp, s1⟩ (fun j H' _ h => sqt_same h.2 ht) ?_ ?_
          · rintro j u H3 H4 hj ⟨hD3, s3⟩ ⟨rfl, hu⟩
            refine ⟨rfl, _, rfl, _, hD3, ?_, ?_, same_mut s3 nD⟩
            · rw [List.length_append, flt, List.length_take, List.length_take, sizeLine_eq]
              simp only [List.length_cons, List.length_nil]
              omega
            · rw [upd_same, List.take_succ, hu, List.append_assoc]
              rfl
          · rintro H3 ⟨hD3, s3⟩
            refine ⟨?_, s3⟩
            rw [hD3, take_flat _ ha]
            rfl
        · rintro H1 ⟨hD, s1⟩
          rw [lcs, List.take_length] at hD
          exact ⟨D, _, _, _, rfl, s1, hD⟩
      | rcv s me n seen held c =>
        have e1 : ds = [.tuple [.int s, .int me, .int n, .int seen, .tuple (held.map .int), .tuple (c.map crD)]] := (List.cons.inj (PyData.tuple.inj ed)).2.symm
        subst e1
        obtain ⟨pm, ph, pc, cs, rfl, M⟩ : ∃ pm ph pc cs, ys = [.ref pm] ∧ MsgAt K H pm s me n seen held c ph pc cs := by
          cases hds with
          | cons h1 t =>
            cases t
            obtain ⟨pm, ph, pc, cs, rfl, M⟩ := msg_of h1
            exact ⟨pm, ph, pc, cs, rfl, M⟩
        have lh : held.length ≤ 1000 := by
          have e2 : (tvs (.rcv s me n seen held c)).length ≥ held.length := by
            simp only [tvs, List.length_cons, List.length_append, List.length_map]
            omega
          omega
        have lc : c.length ≤ 1000 := by
          have := hW.2.2.2.2.2.2
          omega
        refine ⟨_, rfl, rfl, _, rfl, ite2 (fun _ => ?_) (fun z => absurd (decide_eq_true rfl) z)⟩
        exact ⟨_, rfl, p, _, 1, _, rfl, rfl, hx, atI_nat (j := 1) rfl, pm, s, me, n, seen, held, c, ph, pc, cs, rfl, M, lh, lc, fun q0 H' s1 _ h1 => ⟨q0, _, _, _, rfl, s1, h1⟩⟩
    · rintro σ H1 ⟨t, v3, v4, v5, rfl, s1, h1⟩
      refine ⟨⟨_, rfl⟩, ?_⟩
      refine ⟨_, rfl, _, rfl, t, _, rfl, .inr (SqL.of h1), ?_, fun L nL => ?_⟩
      · rw [List.length_cons, List.length_append, sizeLine_eq]
        simp only [List.length_nil]
        omega
      have s2 := same_new (o := .lst (.str (wordOf e) :: (tvs e ++ []))) (Same.refl H1) nL
      have h2 : (upd H1 L (.lst (.str (wordOf e) :: (tvs e ++ [])))) L = some (.lst (.str (wordOf e) :: tvs e)) := by rw [upd_same, List.append_nil]
      generalize upd H1 L (.lst (.str (wordOf e) :: (tvs e ++ []))) = H2 at s2 h2
      refine ⟨L, rfl, ⟨_, SqL.of h2⟩, fun D nD => ?_⟩
      refine lc_list (K := K) (a := L) (xs := .str (wordOf e) :: tvs e) (fun i H' => H' D = some (.lst ((((V.str (wordOf e) :: tvs e).take i).map strOf).map V.str)) ∧ Same H2 H') ⟨upd_same, same_new (Same.refl H2) nD⟩ (fun i H' _ h => h.2.seq (SqL.of h2)) ?_ ?_
      · rintro i v H3 hv ⟨hD, s3⟩
        have hi : i < (tvs e).length + 1 := by
          have := (List.getElem?_eq_some_iff.mp hv).1
          rwa [List.length_cons] at this
        have ls : ((((V.str (wordOf e) :: tvs e).take i).map strOf).map V.str).length < sizeLine := by
          rw [List.length_map, List.length_map, List.length_take, List.length_cons, sizeLine_eq]
          omega
        have iw : isW v := by
          rcases List.mem_cons.mp (List.mem_of_getElem? hv) with rfl | hm
          · trivial
          · exact his v hm
        have nx : ∀ z : Str, z = strOf v → (upd H3 D (.lst ((((V.str (wordOf e) :: tvs e).take i).map strOf).map V.str ++ [.str z]))) D = some (.lst ((((V.str (wordOf e) :: tvs e).take (i + 1)).map strOf).map V.str)) := fun z hz => by
          rw [upd_same, List.take_succ, hv, hz, List.map_append, List.map_append]
          rfl
        match v, iw, nx with
        | .int k, iw, nx => exact ⟨rfl, _, rfl, .inl ⟨k, rfl, iw, _, hD, ls, nx _ rfl, same_mut s3 nD⟩⟩
        | .str z, iw, nx => exact ⟨rfl, _, rfl, .inr ⟨z, rfl, _, hD, ls, nx _ rfl, same_mut s3 nD⟩⟩
      · rintro H3 ⟨hD, s3⟩
        rw [List.take_length] at hD
        have hD' : H3 D = some (.lst ((wd e).map V.str)) := by
          rw [hD, hww]
          rfl
        refine ⟨_, D, wd e, rfl, rfl, .inl (SqL.of hD'), ?_, ?_⟩
        · have : Str.length (" " : Str) = 1 := by decide +kernel
          rw [this]
          omega
        · rw [txt_join]
          exact q H3 ((s1.trans s2).trans s3)
end
end K45
set_option Elab.async false
set_option linter.all false
set_option maxRecDepth 100000
set_option maxHeartbeats 8000000
/-! K45e: the law's own words. -/
namespace K45
open PySem PySem.Spec PyProof.Rows L2 Gd Com Bk Nw Xs StX
theorem cr_strN {X : Cx} : CallR X (.type "str") (fun xs H Q => (∃ i : Int, xs = [.int i] ∧ i.natAbs.log2 < 1920 ∧ Q (.str (Str.ofString (toString i))) H) ∨ (∃ a : Str, xs = [.str a] ∧ Q (.str a) H) ∨ (xs = [.non] ∧ Q (.str "None") H)) := by
  intro pins s σ H xs us Q I r h
  rcases h with h | h | ⟨rfl, q⟩
  · exact call_str_int pins s σ H xs us Q I r h
  · exact SkE.call_str_str pins s σ H xs us Q I r h
  · obtain ⟨u, rfl, rx⟩ := vals1 r
    obtain rfl : u = Value.none := rx
    exact PySem.P.str_of_none ⟨.str _, H, I.tok _, ⟨_, rfl⟩, q⟩
section
variable {P : Program} {w : World} {K : PySem.W.Frag} {mg : Str → Option Value} {base : Heap}
/-! ### _law_alike -/
def spAlike (K : PySem.W.Frag) : Sp := fun vs H Q _ => ∃ (a b : Addr) (d : PyData), vs = [.ref a, .ref b] ∧ Dp K H (.ref a) d ∧ Dp K H (.ref b) d ∧
  (d.showable = true ∧ d.hasDict = false ∧ d.depth ≤ 60 ∧ d.shown.length ≤ sizeLine) ∧ Q (.bl true) H
theorem ok_law_alike {f : Addr} {fd : FuncData} (A : All w K mg ) (F : Fun K "_law_alike" "_law_alike" s_law_alike f fd) : FnG P w K mg base 1 f fd ["one", "two"] (spAlike K) := by
  refine fn_G F sc_law_alike (fun vs H Q E h => ?_) (fun cdv A' outer s H vs Q E hgd hr h => ?_)
  · obtain ⟨a, b, d, rfl, _⟩ := h
    rfl
  · obtain ⟨a, b, d, rfl, hd, he, ⟨d1, d2, d3, d4⟩, q⟩ := h
    have hu64 := hr.units
    refine ⟨_, (pss_one (ps_ret (pe_cmpR op_eq (pe_callB (call_reprG (by exact hgd) (by exact hu64)) (by rfl) A.repr (by decide +kernel) (pa_cons (pv 0) pa_nil)) (pe_callB (call_reprG (by exact hgd) (by exact hu64)) (by rfl) A.repr (by decide +kernel) (pa_cons (pv 1) pa_nil)) (nomark _)))), ?_⟩
    refine ⟨_, rfl, a, d, rfl, hd, d1, d2, d3, d4, _, rfl, b, d, rfl, he, d1, d2, d3, d4, rfl, ?_⟩
    rw [decide_eq_true rfl]
    exact q
/-! ### _law_rank -/
def spRank (K : PySem.W.Frag) : Sp := fun vs H Q _ => ∃ (a : Addr) (ks : List Int) (j : Nat) (k : Int), vs = [.ref a, .int k] ∧ SqL K H a (ks.map V.int) ∧ ks[j]? = some k ∧ (∀ m, m < j → ks[m]? ≠ some k) ∧ Q (.int ((j / 2 : Nat) : Int)) H
theorem ok_law_rank {f : Addr} {fd : FuncData} (A : All w K mg ) (F : Fun K "_law_rank" "_law_rank" s_law_rank f fd) : FnOk P w K mg base CX0 1 f fd ["held", "number"] (spRank K) := by
  refine F.ok sc_law_rank (fun vs H Q E h => ?_) (fun cdv A' outer s H vs Q E hr h => ?_)
  · obtain ⟨a, ks, j, k, rfl, _⟩ := h
    rfl
  · obtain ⟨a, ks, j, k, rfl, hS, hj, hb, q⟩ := h
    refine ⟨_, (pss_one (ps_ret (pe_op op_fdiv (pe_bm PySem.F.plainAttrs_list PySem.F.slot_list_index PySem.F.type_list_index mt_index (pv 0) (pa_cons (pv 1) pa_nil)) pe_int))), ?_⟩
    refine ⟨_, rfl, .inl ⟨rfl, _, hS⟩, _, rfl, a, _, _, j, .int k, rfl, rfl, hS, rfl, ?_, by rw [List.getElem?_map, hj]; rfl, by show (k == k) = true; simp, ?_, _, _, rfl, rfl, ⟨by decide, by decide⟩, ?_⟩
    · rw [List.all_map]
      exact List.all_eq_true.mpr fun _ _ => rfl
    · intro m z' lt hz
      obtain ⟨c, hc, rfl⟩ := map_at hz
      show (c == k) = false
      exact beq_eq_false_iff_ne.mpr fun e => hb m lt (by rw [hc, e])
    · have : ((j : Int) / 2) = ((j / 2 : Nat) : Int) := by omega
      rw [← this] at q
      exact q
/-! ### _law_event_text -/
theorem tyx_tup {H : Hp} {a : Addr} {xs : List V} (h : SqT K H a xs) : TyX K H (.ref a) (.type "tuple") := by
  rcases h with (h | ⟨o, h⟩) | ⟨o, its, n, hl, hc, _⟩
  · exact .base (.tup h)
  · exact .fTuple h
  · exact .kTuple hl hc
/-- the words behind i parts -/
def acOf : Ev → Nat → List Str
  | .nums w ns, i => w :: (ns.take i).map tx
  | .wrN a b, i => (wd (.wrN a b)).take (i + 1)
  | .send to rs, i => if i = 0 then [w_send] else if i = 1 then [w_send, tx to] else wd (.send to rs)
  | .rem rows, i => if i = 0 then [w_remove] else wd (.rem rows)
  | .rcv s me n seen held c, i => if i = 0 then [w_receive] else wd (.rcv s me n seen held c)
theorem acOf_0 : ∀ e : Ev, acOf e 0 = [wordOf e]
  | .nums _ _ => rfl
  | .wrN _ _ => rfl
  | .send _ _ => rfl
  | .rem _ => rfl
  | .rcv .. => rfl
theorem acOf_end {H : Hp} {ys : List V} {ds : List PyData} : ∀ {e : Ev}, DpAll K H ys ds → dat e = .tuple (.str (wordOf e) :: ds) → acOf e ys.length = wd e
  | .nums w ns, h, ed => by
    have e1 : ds = ns.map PyData.int := (List.cons.inj (PyData.tuple.inj ed)).2.symm
    rw [dpa_len h, e1, List.length_map]
    show w :: (ns.take ns.length).map tx = _
    rw [List.take_length]
    rfl
  | .wrN a b, h, ed => by
    have e1 : ds = [.int a, .int b, .none] := (List.cons.inj (PyData.tuple.inj ed)).2.symm
    rw [dpa_len h, e1]
    rfl
  | .send to rs, h, ed => by
    have e1 : ds = [.int to, .tuple (rs.map .int)] := (List.cons.inj (PyData.tuple.inj ed)).2.symm
    rw [dpa_len h, e1]
    rfl
  | .rem rows, h, ed => by
    have e1 : ds = [.tuple (rows.map prD)] := (List.cons.inj (PyData.tuple.inj ed)).2.symm
    rw [dpa_len h, e1]
    rfl
  | .rcv s me n seen held c, h, ed => by
    have e1 : ds = [_] := (List.cons.inj (PyData.tuple.inj ed)).2.symm
    rw [dpa_len h, e1]
    rfl
def PvT (p p1 : Addr) (ys : List V) (H : Hp) (ac : List Str) (σ : L2.St) (H' : Hp) : Prop := ∃ La v2 v3 v4 v5 v6 v7 v8 v9 v10 v11 v12, σ = [some (.ref p), some (.ref La), v2, v3, v4, v5, v6, v7, v8, v9, v10, v11, v12] ∧ Same H H' ∧ H La = none ∧ H' p1 = some (.tup ys) ∧ H' La = some (.lst (ac.map V.str))
theorem ok_law_event_text {f : Addr} {fd : FuncData} (A : All w K mg ) (F : Fun K "_law_event_text" "_law_event_text" s_law_event_text f fd) : FnOk P w K mg base CX0 1 f fd ["event"] (spWrite K) := by
  
  refine F.ok sc_law_event_text (fun vs H Q E h => ?_) (fun cdv A' outer s H vs Q E hr h => ?_)
  · obtain ⟨p, e, rfl, _⟩ := h
    rfl
  · obtain ⟨p, e, rfl, hD, hW, hl, q⟩ := h
    have hsum := sum_le fun w hw => (wd_asc hW w hw).2
    refine ⟨_, (pss_cons (ps_set (i := 1) sc_law_event_text.nd rfl (.inl rfl) (pe_lst (pa_cons (pe_ix ix_tup (pv 0) pe_int (fun _ _ => rfl)) pa_nil)))
(pss_cons (ps_for PassesOwn.never rfl (pi_tup (pe_slice sl_tup (pv 0) (po_some pe_int) po_none)) (pg_name (i := 2) sc_law_event_text.nd rfl (.inl rfl))
(pss_one (ps_if (pt_cmpR op_eq (pe_ix ix_tup (pv 0) pe_int (fun _ _ => rfl)) pe_str (nomark _))
(pss_cons (ps_asg (pv 2) (pg_tup rfl (pgs_cons (pg_name (i := 3) sc_law_event_text.nd rfl (.inl rfl)) (pgs_cons (pg_name (i := 4) sc_law_event_text.nd rfl (.inl rfl)) (pgs_cons (pg_name (i := 5) sc_law_event_text.nd rfl (.inl rfl)) (pgs_cons (pg_name (i := 6) sc_law_event_text.nd rfl (.inl rfl)) (pgs_cons (pg_name (i := 7) sc_law_event_text.nd rfl (.inl rfl)) (pgs_cons (pg_name (i := 8) sc_law_event_text.nd rfl (.inl rfl)) pgs_nil))))))))
(pss_cons (ps_set (i := 1) sc_law_event_text.nd rfl (.inl rfl) (pe_op op_cat (pe_op op_cat (pe_op op_cat (pv 1) (pe_lst (pa_cons (pe_callTy call_str_int (by rfl) A.str (by decide +kernel) (pa_cons (pv 3) pa_nil)) (pa_cons (pe_callTy call_str_int (by rfl) A.str (by decide +kernel) (pa_cons (pv 5) pa_nil)) (pa_cons (pe_callTy call_str_int (by rfl) A.str (by decide +kernel) (pa_cons (pv 6) pa_nil)) pa_nil))))) (pe_lc (own := [("entry", 9)]) (tt := tYes) rfl sc_law_event_text.nd (pi_tup (pv 7)) (blkOk_by (N := ["event", "words", "part", "sender", "receiver", "number", "seen", "held", "carried", "entry", "kind", "to", "root"]) (sc := defScope s_law_event_text) (by decide +kernel)) (fun _ _ _ _ _ => pg_name (i := 9) sc_law_event_text.nd rfl (Or.inl rfl)) (fun _ _ _ _ _ => pts_nil) (fun _ _ _ _ _ => (pe_callTy call_str_int (by rfl) A.str (by decide +kernel) (pa_cons (pv 9) pa_nil))))) (pe_lst (pa_cons pe_str pa_nil))))
(pss_one (ps_for PassesOwn.never rfl (pi_tup (pv 8)) (pg_tup rfl (pgs_cons (pg_name (i := 10) sc_law_event_text.nd rfl (.inl rfl)) (pgs_cons (pg_name (i := 9) sc_law_event_text.nd rfl (.inl rfl)) pgs_nil)))
(pss_one (ps_set (i := 1) sc_law_event_text.nd rfl (.inl rfl) (pe_op op_cat (pv 1) (pe_lst (pa_cons (pv 10) (pa_cons (pe_callTy call_str_int (by rfl) A.str (by decide +kernel) (pa_cons (pv 9) pa_nil)) pa_nil))))))))))
(pss_one (ps_if (pt_cmpR op_eq (pe_ix ix_tup (pv 0) pe_int (fun _ _ => rfl)) pe_str (nomark _))
(pss_one (ps_for PassesOwn.never rfl (pi_tup (pv 2)) (pg_tup rfl (pgs_cons (pg_name (i := 11) sc_law_event_text.nd rfl (.inl rfl)) (pgs_cons (pg_name (i := 9) sc_law_event_text.nd rfl (.inl rfl)) pgs_nil)))
(pss_one (ps_set (i := 1) sc_law_event_text.nd rfl (.inl rfl) (pe_op op_cat (pv 1) (pe_lst (pa_cons (pe_callTy call_str_int (by rfl) A.str (by decide +kernel) (pa_cons (pv 11) pa_nil)) (pa_cons (pe_callTy call_str_int (by rfl) A.str (by decide +kernel) (pa_cons (pv 9) pa_nil)) pa_nil))))))))
(pss_one (ps_if (pt_val (pe_callB call_isi (by rfl) A.isinstance (by decide +kernel) (pa_cons (pv 2) (pa_cons (pe_bltn (v := V.ty "tuple") (u := .type "tuple") (by rfl) A.tuple (by decide +kernel) rfl) pa_nil))))
(pss_one (ps_set (i := 1) sc_law_event_text.nd rfl (.inl rfl) (pe_op op_cat (pv 1) (pe_lc (own := [("root", 12)]) (tt := tYes) rfl sc_law_event_text.nd (pi_tup (pv 2)) (blkOk_by (N := ["event", "words", "part", "sender", "receiver", "number", "seen", "held", "carried", "entry", "kind", "to", "root"]) (sc := defScope s_law_event_text) (by decide +kernel)) (fun _ _ _ _ _ => pg_name (i := 12) sc_law_event_text.nd rfl (Or.inl rfl)) (fun _ _ _ _ _ => pts_nil) (fun _ _ _ _ _ => (pe_callTy call_str_int (by rfl) A.str (by decide +kernel) (pa_cons (pv 12) pa_nil)))))))
(pss_one (ps_expr (pe_bm PySem.F.plainAttrs_list PySem.F.slot_list_append PySem.F.type_list_append mt_append (pv 1) (pa_cons (pe_ix ix_list (pe_lst (pa_cons pe_str (pa_cons (pe_callTy cr_strN (by rfl) A.str (by decide +kernel) (pa_cons (pv 2) pa_nil)) pa_nil))) (pe_callTy call_int1 (by rfl) A.int (by decide +kernel) (pa_cons (pe_cmp (pc_notN (pv 2)) rfl) pa_nil)) (fun _ _ => rfl)) pa_nil)))))))))))
(pss_one (ps_ret (pe_join pe_str (pv 1)))))), ?_⟩
    obtain ⟨ds, ed⟩ := dat_head e
    have hD2 := hD
    rw [ed] at hD2
    obtain ⟨pa, xs, epa, hx, hds⟩ := dp_tup hD2
    cases epa
    cases hds with
    | cons hw hds => cases hw with
    | str =>
    rename_i ys
    refine ⟨_, rfl, p, _, 0, _, rfl, rfl, hx, atI_nat (j := 0) rfl, by show 1 ≤ sizeLine; decide, fun L nL => ?_⟩
    have s1 := same_new (o := .lst [.str (wordOf e)]) (Same.refl H) nL
    refine ⟨_, rfl, 1, rfl, p, _, rfl, sqt_same s1 hx, slice1 (by simp), fun p1 np1 => ?_⟩
    have ec : cutV (.str (wordOf e) :: ys) (some 1) none = ys := by
      rw [show (some (1 : Int)) = some ((1 : Nat) : Int) from rfl, cut_drop _ (by simp)]
      rfl
    have s2 := same_new (o := .tup ys) s1 np1
    have h1 : (upd (upd H L (.lst [.str (wordOf e)])) p1 (.tup ys)) p1 = some (.tup ys) := upd_same
    have hL : (upd (upd H L (.lst [.str (wordOf e)])) p1 (.tup ys)) L = some (.lst [.str (wordOf e)]) := by rw [upd_ne (ne_of_none upd_same np1), upd_same]
    rw [ec]
    generalize upd (upd H L (.lst [.str (wordOf e)])) p1 (.tup ys) = H1 at s2 h1 hL
    have ne : ∀ {a b : Str}, a ≠ b → ¬ decide (V.str a = V.str b) = true := fun h z => h (V.str.inj (of_decide_eq_true z))
    refine ⟨p1, rfl, ⟨_, SqT.of h1⟩, for_tup (xs := ys) (fun i σ H' => PvT p p1 ys H (acOf e i) σ H') ⟨L, none, none, none, none, none, none, none, none, none, none, none, rfl, s2, nL, h1, by rw [acOf_0]; exact hL⟩ (fun i σ H' _ h => by
      obtain ⟨_, _, _, _, _, _, _, _, _, _, _, _, _, _, _, h, _⟩ := h
      exact SqT.of h) ?_ ?_⟩
    · rintro i σ v H2 hv ⟨La, v2, v3, v4, v5, v6, v7, v8, v9, v10, v11, v12, rfl, s3, nLa, hp1, hLa⟩
      have hx2 := sqt_same s3 hx
      cases e with
      | nums v ns =>
        obtain ⟨n1, n2, n3, _⟩ := lk_ne hW.1
        have e1 : ds = ns.map PyData.int := (List.cons.inj (PyData.tuple.inj ed)).2.symm
        subst e1
        have ey := dpa_ints_inv hds
        subst ey
        refine ⟨_, rfl, p, _, 0, _, rfl, rfl, hx2, atI_nat (j := 0) rfl, rfl, _, rfl, ite2 (fun z => absurd z (ne n1)) (fun _ => ?_)⟩
        refine ⟨_, rfl, p, _, 0, _, rfl, rfl, hx2, atI_nat (j := 0) rfl, rfl, _, rfl, ite2 (fun z => absurd z (ne n3)) (fun _ => ?_)⟩
        obtain ⟨n, hn, rfl⟩ := map_at hv
        have n5 := hW.2 n (List.mem_of_getElem? hn)
        refine ⟨_, rfl, .int n, .ty "tuple", _, _, false, rfl, .ty "tuple", .base (.int n), kit_ty (by decide +kernel), _, rfl, iteF ?_⟩
        refine ⟨_, rfl, .inl ⟨rfl, _, SqL.of hLa⟩, _, rfl, .inl ⟨n, rfl, log5 n5, by show 2 ≤ sizeLine; decide, fun l nl => ?_⟩⟩
        have s4 := same_new (o := .lst [.str "none", .str (tx n)]) (Same.refl H2) nl
        refine ⟨_, rfl, .inr ⟨_, rfl, l, _, 1, _, rfl, rfl, SqL.of upd_same, atI_nat (j := 1) rfl, La, _, _, rfl, rfl, s4 _ _ hLa, (by rw [List.length_map]; simp only [acOf, List.length_cons, List.length_map, List.length_take]; rw [sizeLine_eq]; have : ns.length + 1 ≤ 700 := (by simpa [wd] using hl); omega), ?_⟩⟩
        refine ⟨La, _, _, _, _, _, _, _, _, _, _, _, rfl, same_mut (s3.trans s4) nLa, nLa, ?_, ?_⟩
        · rw [upd_ne (fun z => by rw [z] at hp1; rw [hp1] at hLa; cases hLa)]
          exact s4 _ _ hp1
        · rw [upd_same]
          show some (HO.lst ((v :: (ns.take i).map tx).map V.str ++ [V.str (tx n)])) = some (.lst ((v :: (ns.take (i + 1)).map tx).map V.str))
          rw [List.take_succ, hn, List.map_append]
          simp
      | wrN a b =>
        have e1 : ds = [.int a, .int b, .none] := (List.cons.inj (PyData.tuple.inj ed)).2.symm
        subst e1
        obtain rfl : ys = [.int a, .int b, .non] := by
          cases hds with
          | cons g1 t => cases t with
          | cons g2 t => cases t with
          | cons g3 t =>
            cases t
            cases g1; cases g2; cases g3
            rfl
        refine ⟨_, rfl, p, _, 0, _, rfl, rfl, hx2, atI_nat (j := 0) rfl, rfl, _, rfl, ite2 (fun z => absurd z (ne (show w_write ≠ w_receive by decide +kernel))) (fun _ => ?_)⟩
        refine ⟨_, rfl, p, _, 0, _, rfl, rfl, hx2, atI_nat (j := 0) rfl, rfl, _, rfl, ite2 (fun z => absurd z (ne (show w_write ≠ w_remove by decide +kernel))) (fun _ => ?_)⟩
        match i, hv, hLa with
        | 0, hv, hLa =>
          cases hv
          refine ⟨_, rfl, .int a, .ty "tuple", _, _, false, rfl, .ty "tuple", .base (.int a), kit_ty (by decide +kernel), _, rfl, iteF ?_⟩
          refine ⟨_, rfl, .inl ⟨rfl, _, SqL.of hLa⟩, _, rfl, .inl ⟨a, rfl, log5 hW.1, by show 2 ≤ sizeLine; decide, fun l nl => ?_⟩⟩
          have s4 := same_new (o := .lst [.str "none", .str (tx a)]) (Same.refl H2) nl
          refine ⟨_, rfl, .inr ⟨_, rfl, l, _, 1, _, rfl, rfl, SqL.of upd_same, atI_nat (j := 1) rfl, La, _, _, rfl, rfl, s4 _ _ hLa, (by rw [List.length_map]; show _ < sizeLine; rw [sizeLine_eq]; simp [acOf, wd]), ?_⟩⟩
          refine ⟨La, _, _, _, _, _, _, _, _, _, _, _, rfl, same_mut (s3.trans s4) nLa, nLa, ?_, ?_⟩
          · rw [upd_ne (fun z => by rw [z] at hp1; rw [hp1] at hLa; cases hLa)]
            exact s4 _ _ hp1
          · rw [upd_same]
            rfl
        | 1, hv, hLa =>
          cases hv
          refine ⟨_, rfl, .int b, .ty "tuple", _, _, false, rfl, .ty "tuple", .base (.int b), kit_ty (by decide +kernel), _, rfl, iteF ?_⟩
          refine ⟨_, rfl, .inl ⟨rfl, _, SqL.of hLa⟩, _, rfl, .inl ⟨b, rfl, log5 hW.2, by show 2 ≤ sizeLine; decide, fun l nl => ?_⟩⟩
          have s4 := same_new (o := .lst [.str "none", .str (tx b)]) (Same.refl H2) nl
          refine ⟨_, rfl, .inr ⟨_, rfl, l, _, 1, _, rfl, rfl, SqL.of upd_same, atI_nat (j := 1) rfl, La, _, _, rfl, rfl, s4 _ _ hLa, (by rw [List.length_map]; show _ < sizeLine; rw [sizeLine_eq]; simp [acOf, wd]), ?_⟩⟩
          refine ⟨La, _, _, _, _, _, _, _, _, _, _, _, rfl, same_mut (s3.trans s4) nLa, nLa, ?_, ?_⟩
          · rw [upd_ne (fun z => by rw [z] at hp1; rw [hp1] at hLa; cases hLa)]
            exact s4 _ _ hp1
          · rw [upd_same]
            rfl
        | 2, hv, hLa =>
          cases hv
          refine ⟨_, rfl, .non, .ty "tuple", _, _, false, rfl, .ty "tuple", .base .non, kit_ty (by decide +kernel), _, rfl, iteF ?_⟩
          refine ⟨_, rfl, .inl ⟨rfl, _, SqL.of hLa⟩, _, rfl, .inr (.inr ⟨rfl, by show 2 ≤ sizeLine; decide, fun l nl => ?_⟩)⟩
          have s4 := same_new (o := .lst [.str "none", .str "None"]) (Same.refl H2) nl
          refine ⟨_, rfl, .inr ⟨_, rfl, l, _, 0, _, rfl, rfl, SqL.of upd_same, atI_nat (j := 0) rfl, La, _, _, rfl, rfl, s4 _ _ hLa, (by rw [List.length_map]; show _ < sizeLine; rw [sizeLine_eq]; simp [acOf, wd]), ?_⟩⟩
          refine ⟨La, _, _, _, _, _, _, _, _, _, _, _, rfl, same_mut (s3.trans s4) nLa, nLa, ?_, ?_⟩
          · rw [upd_ne (fun z => by rw [z] at hp1; rw [hp1] at hLa; cases hLa)]
            exact s4 _ _ hp1
          · rw [upd_same]
            rfl
        | k + 3, hv, hLa => simp at hv
      | send to rs =>
        have e1 : ds = [.int to, .tuple (rs.map .int)] := (List.cons.inj (PyData.tuple.inj ed)).2.symm
        subst e1
        obtain ⟨pr, rfl, hr2⟩ : ∃ pr, ys = [.int to, .ref pr] ∧ SqT K H pr (rs.map V.int) := by
          cases hds with
          | cons g1 t => cases t with
          | cons g2 t =>
            cases t
            cases g1
            obtain ⟨a, xs, rfl, hx, hd⟩ := dp_tup g2
            rw [dpa_ints_inv hd] at hx
            exact ⟨a, rfl, hx⟩
        refine ⟨_, rfl, p, _, 0, _, rfl, rfl, hx2, atI_nat (j := 0) rfl, rfl, _, rfl, ite2 (fun z => absurd z (ne (show w_send ≠ w_receive by decide +kernel))) (fun _ => ?_)⟩
        refine ⟨_, rfl, p, _, 0, _, rfl, rfl, hx2, atI_nat (j := 0) rfl, rfl, _, rfl, ite2 (fun z => absurd z (ne (show w_send ≠ w_remove by decide +kernel))) (fun _ => ?_)⟩
        match i, hv, hLa with
        | 0, hv, hLa =>
          cases hv
          refine ⟨_, rfl, .int to, .ty "tuple", _, _, false, rfl, .ty "tuple", .base (.int to), kit_ty (by decide +kernel), _, rfl, iteF ?_⟩
          refine ⟨_, rfl, .inl ⟨rfl, _, SqL.of hLa⟩, _, rfl, .inl ⟨to, rfl, log5 hW.1, by show 2 ≤ sizeLine; decide, fun l nl => ?_⟩⟩
          have s4 := same_new (o := .lst [.str "none", .str (tx to)]) (Same.refl H2) nl
          refine ⟨_, rfl, .inr ⟨_, rfl, l, _, 1, _, rfl, rfl, SqL.of upd_same, atI_nat (j := 1) rfl, La, _, _, rfl, rfl, s4 _ _ hLa, (by rw [List.length_map]; show _ < sizeLine; rw [sizeLine_eq]; simp [acOf, wd]), ?_⟩⟩
          refine ⟨La, _, _, _, _, _, _, _, _, _, _, _, rfl, same_mut (s3.trans s4) nLa, nLa, ?_, ?_⟩
          · rw [upd_ne (fun z => by rw [z] at hp1; rw [hp1] at hLa; cases hLa)]
            exact s4 _ _ hp1
          · rw [upd_same]
            rfl
        | 1, hv, hLa =>
          cases hv
          refine ⟨_, rfl, .ref pr, .ty "tuple", _, _, true, rfl, .ty "tuple", tyx_tup (sqt_same s3 hr2), kit_ty (by decide +kernel), _, rfl, iteT ?_⟩
          refine ⟨_, rfl, _, rfl, pr, rfl, ⟨_, sqt_same s3 hr2⟩, fun D nD => ?_⟩
          refine lc_tup (K := K) (a := pr) (xs := rs.map V.int) (fun j H' => H' D = some (.lst (((rs.take j).map tx).map V.str)) ∧ Same H2 H') ⟨upd_same, same_new (Same.refl H2) nD⟩ (fun j H' _ h => sqt_same (s3.trans h.2) hr2) ?_ ?_
          · rintro j u H3 hu ⟨hD3, s4⟩
            obtain ⟨r, hr3, rfl⟩ := map_at hu
            refine ⟨rfl, _, rfl, r, rfl, log5 (hW.2.1 r (List.mem_of_getElem? hr3)), _, hD3, ?_, ?_, same_mut s4 nD⟩
            · rw [List.length_map, List.length_map, List.length_take, sizeLine_eq]
              have := hW.2.2
              omega
            · rw [upd_same, List.take_succ, hr3, List.map_append, List.map_append]
              rfl
          · rintro H3 ⟨hD3, s4⟩
            rw [List.length_map, List.take_length] at hD3
            refine ⟨La, D, _, _, rfl, rfl, s4 _ _ hLa, hD3, ?_, fun L2 nL2 => ?_⟩
            · rw [List.length_map, List.length_map, List.length_map, sizeLine_eq]
              have := hW.2.2
              simp [acOf]
              omega
            · have s5 := same_new (o := .lst (([w_send, tx to].map V.str) ++ ((rs.map tx).map V.str))) (Same.refl H3) nL2
              exact ⟨L2, _, _, _, _, _, _, _, _, _, _, _, rfl, (s3.trans s4).trans s5, (s3.trans s4).free nL2, s5 _ _ (s4 _ _ hp1), by rw [upd_same]; rfl⟩
        | k + 2, hv, hLa => simp at hv
      | rem rows =>
        have e1 : ds = [.tuple (rows.map prD)] := (List.cons.inj (PyData.tuple.inj ed)).2.symm
        subst e1
        obtain ⟨pr, cs, rfl, hr2, hP⟩ : ∃ pr cs, ys = [.ref pr] ∧ SqT K H pr cs ∧ Paired (fun v (a : Int × Int) => ∃ t : Addr, v = .ref t ∧ SqT K H t [.int a.1, .int a.2]) cs rows := by
          cases hds with
          | cons g1 t =>
            cases t
            obtain ⟨a, xs, rfl, hx, hd⟩ := dp_tup g1
            exact ⟨a, xs, rfl, hx, dpa_pairs pr_inv hd⟩
        have lcs := hP.length
        have lrows : 1 + 2 * rows.length ≤ 700 := by
          have e2 : (wd (.rem rows)).length = 1 + 2 * rows.length := by
            show (w_remove :: rows.flatMap fun p => [tx p.1, tx p.2]).length = _
            rw [List.length_cons, flat_len]
            omega
          omega
        match i, hv, hLa with
        | 0, hv, hLa =>
          cases hv
          refine ⟨_, rfl, p, _, 0, _, rfl, rfl, hx2, atI_nat (j := 0) rfl, rfl, _, rfl, ite2 (fun z => absurd z (ne (show w_remove ≠ w_receive by decide +kernel))) (fun _ => ?_)⟩
          refine ⟨_, rfl, p, _, 0, _, rfl, rfl, hx2, atI_nat (j := 0) rfl, rfl, _, rfl, ite2 (fun _ => ?_) (fun z => absurd (decide_eq_true rfl) z)⟩
          refine ⟨_, rfl, pr, rfl, ⟨_, sqt_same s3 hr2⟩, for_tup (xs := cs) (fun j σ H' => ∃ La v2 v3 v4 v5 v6 v7 v8 v9 v10 v11 v12, σ = [some (.ref p), some (.ref La), v2, v3, v4, v5, v6, v7, v8, v9, v10, v11, v12] ∧ Same H H' ∧ H La = none ∧ H' p1 = some (.tup [.ref pr]) ∧ H' La = some (.lst ((w_remove :: (rows.take j).flatMap fun p => [tx p.1, tx p.2]).map V.str))) ⟨La, _, _, _, _, _, _, _, _, _, _, _, rfl, s3, nLa, hp1, hLa⟩ (fun j σ H' _ h => by
            obtain ⟨_, _, _, _, _, _, _, _, _, _, _, _, _, h, _⟩ := h
            exact sqt_same h hr2) ?_ ?_⟩
          · rintro j σ u H3 hu ⟨Lb, v2, v3, v4, v5, v6, v7, v8, v9, v10, v11, v12, rfl, s4, nLb, hp1', hLb⟩
            obtain ⟨a, ha, t, rfl, ht⟩ := paired_at hP hu
            have a5 := hW.1 a (List.mem_of_getElem? ha)
            refine ⟨t, _, rfl, sqt_same s4 ht, rfl, _, _, rfl, _, _, rfl, rfl, ?_⟩
            refine ⟨_, rfl, _, rfl, _, rfl, log5 a5.1, _, rfl, _, rfl, log5 a5.2, by show 2 ≤ sizeLine; decide, fun b nb => ?_⟩
            have s5 := same_new (o := .lst [.str (tx a.1), .str (tx a.2)]) (Same.refl H3) nb
            refine ⟨Lb, b, _, _, rfl, rfl, s5 _ _ hLb, upd_same, ?_, fun L2 nL2 => ?_⟩
            · rw [List.length_map, List.length_cons, flat_len, List.length_take, sizeLine_eq]
              simp only [List.length_cons, List.length_nil]
              omega
            · have s6 := same_new (o := .lst ((w_remove :: (rows.take j).flatMap fun p => [tx p.1, tx p.2]).map V.str ++ [.str (tx a.1), .str (tx a.2)])) (Same.refl _) nL2
              refine ⟨L2, _, _, _, _, _, _, _, _, _, _, _, rfl, (s4.trans s5).trans s6, (s4.trans s5).free nL2, s6 _ _ (s5 _ _ hp1'), ?_⟩
              rw [upd_same, take_flat _ ha, List.map_cons, List.map_cons, List.map_append]
              rfl
          · rintro σ H3 ⟨Lb, v2, v3, v4, v5, v6, v7, v8, v9, v10, v11, v12, rfl, s4, nLb, hp1', hLb⟩
            rw [lcs, List.take_length] at hLb
            exact ⟨Lb, _, _, _, _, _, _, _, _, _, _, _, rfl, s4, nLb, hp1', hLb⟩
        | k + 1, hv, hLa => simp at hv
      | rcv s' me n seen held c =>
        have e1 : ds = [.tuple [.int s', .int me, .int n, .int seen, .tuple (held.map .int), .tuple (c.map crD)]] := (List.cons.inj (PyData.tuple.inj ed)).2.symm
        subst e1
        obtain ⟨pm, ph, pc, cs, rfl, M⟩ : ∃ pm ph pc cs, ys = [.ref pm] ∧ MsgAt K H pm s' me n seen held c ph pc cs := by
          cases hds with
          | cons g1 t =>
            cases t
            obtain ⟨pm, ph, pc, cs, rfl, M⟩ := msg_of g1
            exact ⟨pm, ph, pc, cs, rfl, M⟩
        have lcs := M.its.length
        obtain ⟨w1, w2, w3, wh, wr, wc, wl⟩ := hW
        have lh : held.length ≤ 700 := by
          have e : (wd (.rcv s' me n seen held c)).length ≥ held.length := by
            show held.length ≤ (w_receive :: tx s' :: tx n :: tx seen :: (held.map tx ++ w_carried :: c.flatMap fun p => [p.1, tx p.2])).length
            simp
            omega
          omega
        match i, hv, hLa with
        | 0, hv, hLa =>
          cases hv
          refine ⟨_, rfl, p, _, 0, _, rfl, rfl, hx2, atI_nat (j := 0) rfl, rfl, _, rfl, ite2 (fun _ => ?_) (fun z => absurd (decide_eq_true rfl) z)⟩
          refine ⟨_, rfl, pm, _, rfl, sqt_same s3 M.top, rfl, _, _, rfl, _, _, rfl, _, _, rfl, _, _, rfl, _, _, rfl, _, _, rfl, rfl, ?_⟩
          refine ⟨_, rfl, _, rfl, s', rfl, log5 w1, _, rfl, n, rfl, log5 w2, _, rfl, seen, rfl, log5 w3, by show 3 ≤ sizeLine; decide, fun b1 nb1 => ?_⟩
          have t1 := same_new (o := .lst [.str (tx s'), .str (tx n), .str (tx seen)]) (Same.refl H2) nb1
          refine ⟨La, b1, [.str w_receive], _, rfl, rfl, t1 _ _ hLa, upd_same, by show 4 ≤ sizeLine; decide, fun L1 nL1 => ?_⟩
          have t2 := same_new (o := .lst [.str w_receive, .str (tx s'), .str (tx n), .str (tx seen)]) t1 nL1
          have hL1 : (upd (upd H2 b1 (.lst [.str (tx s'), .str (tx n), .str (tx seen)])) L1 (.lst [.str w_receive, .str (tx s'), .str (tx n), .str (tx seen)])) L1 = some (.lst [.str w_receive, .str (tx s'), .str (tx n), .str (tx seen)]) := upd_same
          change tLc _ _ _ _ _ _ (upd (upd H2 b1 (.lst [.str (tx s'), .str (tx n), .str (tx seen)])) L1 (.lst [.str w_receive, .str (tx s'), .str (tx n), .str (tx seen)])) _
          generalize upd (upd H2 b1 (.lst [.str (tx s'), .str (tx n), .str (tx seen)])) L1 (.lst [.str w_receive, .str (tx s'), .str (tx n), .str (tx seen)]) = H3 at t2 hL1
          have hph := sqt_same (s3.trans t2) M.hel
          refine ⟨_, rfl, ph, rfl, ⟨_, hph⟩, fun D nD => ?_⟩
          refine lc_tup (K := K) (a := ph) (xs := held.map V.int) (fun j H' => H' D = some (.lst (((held.take j).map tx).map V.str)) ∧ Same H3 H') ⟨upd_same, same_new (Same.refl H3) nD⟩ (fun j H' _ h => sqt_same h.2 hph) ?_ ?_
          · rintro j u H4 hu ⟨hD3, s4⟩
            obtain ⟨r, hr3, rfl⟩ := map_at hu
            refine ⟨rfl, _, rfl, r, rfl, log5 (wh r (List.mem_of_getElem? hr3)), _, hD3, ?_, ?_, same_mut s4 nD⟩
            · rw [List.length_map, List.length_map, List.length_take, sizeLine_eq]
              omega
            · rw [upd_same, List.take_succ, hr3, List.map_append, List.map_append]
              rfl
          · rintro H4 ⟨hD3, s4⟩
            rw [List.length_map, List.take_length] at hD3
            refine ⟨L1, D, _, _, rfl, rfl, s4 _ _ hL1, hD3, ?_, fun L2 nL2 => ?_⟩
            · rw [List.length_map, List.length_map, sizeLine_eq]
              simp only [List.length_cons, List.length_nil]
              omega
            have t5 := same_new (o := .lst ([.str w_receive, .str (tx s'), .str (tx n), .str (tx seen)] ++ (held.map tx).map V.str)) (Same.refl H4) nL2
            refine ⟨by show 1 ≤ sizeLine; decide, fun b2 nb2 => ?_⟩
            have t6 := same_new (o := .lst [.str w_carried]) (Same.refl _) nb2
            refine ⟨L2, b2, _, _, rfl, rfl, t6 _ _ upd_same, upd_same, ?_, fun L3 nL3 => ?_⟩
            · rw [List.length_append, List.length_map, List.length_map, sizeLine_eq]
              simp only [List.length_cons, List.length_nil]
              omega
            have t7 := same_new (o := .lst (([.str w_receive, .str (tx s'), .str (tx n), .str (tx seen)] ++ (held.map tx).map V.str) ++ [.str w_carried])) (Same.refl _) nL3
            have sZ := (((s3.trans t2).trans s4).trans t5).trans t6
            have hLz : (upd (upd (upd H4 L2 (.lst ([.str w_receive, .str (tx s'), .str (tx n), .str (tx seen)] ++ (held.map tx).map V.str))) b2 (.lst [.str w_carried])) L3 (.lst (([.str w_receive, .str (tx s'), .str (tx n), .str (tx seen)] ++ (held.map tx).map V.str) ++ [.str w_carried]))) L3 = some (.lst ((w_receive :: tx s' :: tx n :: tx seen :: (held.map tx ++ w_carried :: (c.take 0).flatMap fun p => [p.1, tx p.2])).map V.str)) := by
              rw [upd_same]
              simp
            have nZ := sZ.free nL3
            have hpz := t7 _ _ (t6 _ _ (t5 _ _ (s4 _ _ (t2 _ _ hp1))))
            have sZ := sZ.trans t7
            refine ⟨_, rfl, pc, rfl, ⟨_, sqt_same sZ M.car⟩, for_tup (xs := cs) (fun j σ H' => ∃ La v2 v3 v4 v5 v6 v7 v8 v9 v10 v11 v12, σ = [some (.ref p), some (.ref La), v2, v3, v4, v5, v6, v7, v8, v9, v10, v11, v12] ∧ Same H H' ∧ H La = none ∧ H' p1 = some (.tup [.ref pm]) ∧ H' La = some (.lst ((w_receive :: tx s' :: tx n :: tx seen :: (held.map tx ++ w_carried :: (c.take j).flatMap fun p => [p.1, tx p.2])).map V.str))) ⟨L3, _, _, _, _, _, _, _, _, _, _, _, rfl, sZ, nZ, hpz, hLz⟩ (fun j σ H' _ h => by
              obtain ⟨_, _, _, _, _, _, _, _, _, _, _, _, _, h, _⟩ := h
              exact sqt_same h M.car) ?_ ?_⟩
            · rintro j σ u H5 hu ⟨Lb, v2, v3, v4, v5, v6, v7, v8, v9, v10, v11, v12, rfl, s5, nLb, hp1', hLb⟩
              obtain ⟨a, ha, t, rfl, ht⟩ := paired_at M.its hu
              have a5 := (wc a (List.mem_of_getElem? ha)).2
              refine ⟨t, _, rfl, sqt_same s5 ht, rfl, _, _, rfl, _, _, rfl, rfl, ?_⟩
              refine ⟨_, rfl, _, rfl, _, rfl, _, rfl, log5 a5, by show 2 ≤ sizeLine; decide, fun b nb => ?_⟩
              have s6 := same_new (o := .lst [.str a.1, .str (tx a.2)]) (Same.refl H5) nb
              refine ⟨Lb, b, _, _, rfl, rfl, s6 _ _ hLb, upd_same, ?_, fun L4 nL4 => ?_⟩
              · simp only [List.length_map, List.length_cons, List.length_append, List.length_nil]
                rw [flat_len, List.length_take, sizeLine_eq]
                omega
              · have s7 := same_new (o := .lst ((w_receive :: tx s' :: tx n :: tx seen :: (held.map tx ++ w_carried :: (c.take j).flatMap fun p => [p.1, tx p.2])).map V.str ++ [.str a.1, .str (tx a.2)])) (Same.refl _) nL4
                refine ⟨L4, _, _, _, _, _, _, _, _, _, _, _, rfl, (s5.trans s6).trans s7, (s5.trans s6).free nL4, s7 _ _ (s6 _ _ hp1'), ?_⟩
                rw [upd_same, take_flat _ ha]
                simp only [List.map_cons, List.map_append, List.cons_append, List.append_assoc, List.nil_append, List.map_nil]
                rfl
            · rintro σ H5 ⟨Lb, v2, v3, v4, v5, v6, v7, v8, v9, v10, v11, v12, rfl, s5, nLb, hp1', hLb⟩
              rw [lcs, List.take_length] at hLb
              exact ⟨Lb, _, _, _, _, _, _, _, _, _, _, _, rfl, s5, nLb, hp1', hLb⟩
        | k + 1, hv, hLa => simp at hv
    · rintro σ H2 ⟨La, v2, v3, v4, v5, v6, v7, v8, v9, v10, v11, v12, rfl, s3, nLa, hp1, hLa⟩
      have el : acOf e ys.length = wd e := acOf_end hds ed
      rw [el] at hLa
      refine ⟨⟨_, rfl⟩, _, rfl, _, La, wd e, rfl, rfl, .inl (SqL.of hLa), ?_, ?_⟩
      · have : Str.length (" " : Str) = 1 := by decide +kernel
        rw [this]
        omega
      · rw [txt_join]
        exact q H2 s3
end
end K45
set_option Elab.async false
set_option linter.all false
set_option maxRecDepth 100000
set_option maxHeartbeats 8000000
/-! K45f: the law's draws of events. -/
namespace K45
open PySem PySem.Spec PyProof.Rows L2 Gd Com Bk Nw Xs StX
section
variable {P : Program} {w : World} {K : PySem.W.Frag} {mg : Str → Option Value} {base : Heap}
theorem fx_dp {b dg : Addr} {ds : List Int} {H H' : Hp} (f : Fx b H H') (B : Bx H b dg ds) : ∀ a xs, H a = some (.tup xs) → H' a = some (.tup xs) := TupS.of_fx f B
def spEvent (K : PySem.W.Frag) : Sp := fun vs H Q _ => ∃ (b dg : Addr) (ds : List Int), vs = [.ref b] ∧ Bx H b dg ds ∧
  ∀ (e : Ev) (p : Addr) (H' : Hp), Wf e → With 2 e → (wd e).length ≤ 24 → Fx b H H' → Bx H' b dg ds → Dp K H' (.ref p) (dat e) → Q (.ref p) H'
theorem fx_same {b : Addr} {H H1 H2 : Hp} (f : Fx b H H1) (s : Same H1 H2) : Fx b H H2 := fun x o n h => s x o (f x o n h)
theorem bx_sm {b dg : Addr} {ds : List Int} {H H' : Hp} (s : Same H H') (B : Bx H b dg ds) : Bx H' b dg ds := by
  obtain ⟨n, h1, h2⟩ := B
  exact ⟨n, s _ _ h1, s _ _ h2⟩
theorem pickI {l : List Int} {r : Int} (h0 : 0 ≤ r) (h1 : r < l.length) : ∃ k, k ∈ l ∧ atI (l.map V.int) r = some (.int k) := by
  obtain ⟨k, rfl⟩ := Int.eq_ofNat_of_zero_le h0
  have hk : k < l.length := by omega
  refine ⟨l[k], List.getElem_mem hk, atI_nat ?_⟩
  rw [List.getElem?_map, List.getElem?_eq_getElem hk]
  rfl
theorem pickV {l : List V} {r : Int} (h0 : 0 ≤ r) (h1 : r < l.length) : ∃ v, v ∈ l ∧ atI l r = some v := by
  obtain ⟨k, rfl⟩ := Int.eq_ofNat_of_zero_le h0
  have hk : k < l.length := by omega
  exact ⟨l[k], List.getElem_mem hk, atI_nat (List.getElem?_eq_getElem hk)⟩
/-! ### rising lists, and their rows -/
theorem ris_of : ∀ {l : List Int}, l.Pairwise (· < ·) → ris l = true
  | [], _ => rfl
  | [_], _ => rfl
  | a :: b :: r, h => by
    have h1 := List.pairwise_cons.mp h
    have ih := ris_of h1.2
    unfold ris at ih ⊢
    show (decide (a < b) && _) = true
    rw [decide_eq_true (h1.1 b List.mem_cons_self)]
    exact ih
def rowsOf : Nat → List Int → List (Int × Int)
  | _, [] => []
  | j, h :: r => (((j / 2 : Nat) : Int), h) :: rowsOf (j + 1) r
theorem rowsOf_len : ∀ (j : Nat) (l : List Int), (rowsOf j l).length = l.length
  | _, [] => rfl
  | j, h :: r => congrArg (· + 1) (rowsOf_len (j + 1) r)
theorem rowsOf_at : ∀ (l : List Int) (j i : Nat) (h : Int), l[i]? = some h → (rowsOf j l)[i]? = some ((((j + i) / 2 : Nat) : Int), h)
  | [], _, _, _, e => by simp at e
  | a :: r, j, 0, h, e => by
    cases e
    rfl
  | a :: r, j, i + 1, h, e => by
    have := rowsOf_at r (j + 1) i h (by simpa using e)
    rw [show j + (i + 1) = j + 1 + i by omega]
    exact this
theorem rowsOf_ris : ∀ (j : Nat) {l : List Int}, l.Pairwise (· < ·) → risP (rowsOf j l) = true
  | _, [], _ => rfl
  | _, [_], _ => rfl
  | j, a :: b :: r, h => by
    have h1 := List.pairwise_cons.mp h
    have ih := rowsOf_ris (j + 1) h1.2
    unfold risP at ih ⊢
    show (ltP (((j / 2 : Nat) : Int), a) ((((j + 1) / 2 : Nat) : Int), b) && _) = true
    have hab := h1.1 b List.mem_cons_self
    have : ltP (((j / 2 : Nat) : Int), a) ((((j + 1) / 2 : Nat) : Int), b) = true := by
      unfold ltP
      refine decide_eq_true ?_
      dsimp only
      omega
    rw [this]
    exact ih
theorem rowsOf_mem : ∀ {l : List Int} {j : Nat} {p : Int × Int}, p ∈ rowsOf j l → p.2 ∈ l ∧ 0 ≤ p.1 ∧ p.1 ≤ j + l.length
  | [], _, _, h => nomatch h
  | a :: r, j, p, h => by
    rcases List.mem_cons.mp h with rfl | h
    · exact ⟨List.mem_cons_self, by dsimp only; omega, by dsimp only; simp only [List.length_cons]; omega⟩
    · obtain ⟨h1, h2, h3⟩ := rowsOf_mem h
      exact ⟨.tail _ h1, h2, by simp only [List.length_cons]; push_cast at h3 ⊢; omega⟩
theorem pw_at {l : List Int} (h : l.Pairwise (· < ·)) {j : Nat} {k : Int} (hj : l[j]? = some k) : ∀ m, m < j → l[m]? ≠ some k := fun m lt e => by
  obtain ⟨h1, e1⟩ := List.getElem?_eq_some_iff.mp hj
  obtain ⟨h2, e2⟩ := List.getElem?_eq_some_iff.mp e
  have := List.pairwise_iff_getElem.mp h m j h2 h1 lt
  rw [e1, e2] at this
  omega
theorem ints_in (k : Int) (l : List Int) : inV (.int k) (l.map V.int) = decide (k ∈ l) := by
  induction l with
  | nil => rfl
  | cons z r ih =>
    show ((z == k) || inV (.int k) (r.map V.int)) = _
    rw [ih]
    by_cases h : z = k
    · subst h
      rw [beq_self_eq_true, decide_eq_true List.mem_cons_self]
      rfl
    · rw [beq_eq_false_iff_ne.mpr h]
      by_cases h2 : k ∈ r
      · rw [decide_eq_true h2, decide_eq_true (.tail _ h2)]
        rfl
      · rw [decide_eq_false h2, decide_eq_false (fun z => (List.mem_cons.mp z).elim (fun e => h e.symm) h2)]
        rfl
theorem paired_mut {α : Type} {H : Hp} {D : Addr} {xs : List V} {o : HO} {g : α → List V} (h : H D = some (.lst xs)) : ∀ {ts : List Addr} {l : List α}, Paired (fun (t : Addr) (q : α) => H t = some (.tup (g q))) ts l → Paired (fun (t : Addr) (q : α) => upd H D o t = some (.tup (g q))) ts l
  | _, _, .nil => .nil
  | _, _, .cons e t => .cons (by
      rw [upd_ne (fun z => by rw [z, h] at e; cases e)]
      exact e) (paired_mut h t)
theorem paired_fx {α : Type} {H H' : Hp} {b dg : Addr} {ds : List Int} {g : α → List V} (f : Fx b H H') (B : Bx H b dg ds) : ∀ {ts : List Addr} {l : List α}, Paired (fun (t : Addr) (q : α) => H t = some (.tup (g q))) ts l → Paired (fun (t : Addr) (q : α) => H' t = some (.tup (g q))) ts l
  | _, _, .nil => .nil
  | _, _, .cons e t => .cons (TupS.of_fx f B _ _ e) (paired_fx f B t)
theorem ok_law_any_event {f : Addr} {fd : FuncData} (A : All w K mg ) (F : Fun K "_law_any_event" "_law_any_event" s_law_any_event f fd) : FnOk P w K mg base CX0 2 f fd ["box"] (spEvent K) := by
  obtain ⟨f_law_draw, fd_law_draw, F_law_draw, g_law_draw, b_law_draw⟩ := A.law_draw
  have G_law_draw := ok_law_draw (P := P) (w := w) (base := base) A F_law_draw
  obtain ⟨f_law_rank, fd_law_rank, F_law_rank, g_law_rank, b_law_rank⟩ := A.law_rank
  have G_law_rank := ok_law_rank (P := P) (w := w) (base := base) A F_law_rank
  refine F.ok sc_law_any_event (fun vs H Q E h => ?_) (fun cdv A' outer s H vs Q E hr h => ?_)
  · obtain ⟨b, dg, ds, rfl, _⟩ := h
    rfl
  · obtain ⟨b, dg, ds, rfl, B, q⟩ := h
    refine ⟨_, (pss_cons (ps_set (i := 1) sc_law_any_event.nd rfl (.inl rfl) (pe_call G_law_draw (hr.mono (by decide)) (by rfl) g_law_draw F_law_draw.kp b_law_draw .nil pass0 (pa_cons (pv 0) (pa_cons pe_int pa_nil))))
(pss_cons (ps_set (i := 3) sc_law_any_event.nd rfl (.inr rfl) (pe_lc (own := [("k", 2)]) (tt := tYes) rfl sc_law_any_event.nd (pi_range1 (by rfl) A.range (pa_cons pe_int pa_nil)) (blkOk_by (N := ["box", "kind", "k", "numbers", "held", "number", "carried"]) (sc := defScope s_law_any_event) (by decide +kernel)) (fun _ _ _ _ _ => pg_name (i := 2) sc_law_any_event.nd rfl (Or.inl rfl)) (fun _ _ _ _ _ => pts_nil) (fun _ _ _ _ _ => (pe_ix (show IxR _ (rIxL K) from ix_list) (pe_lst (pa_cons pe_int (pa_cons (pe_call G_law_draw (hr.mono (by decide)) (by rfl) g_law_draw F_law_draw.kp b_law_draw .nil pass0 (pa_cons (pv 0) (pa_cons pe_int pa_nil))) (pa_cons pe_int (pa_cons (pe_call G_law_draw (hr.mono (by decide)) (by rfl) g_law_draw F_law_draw.kp b_law_draw .nil pass0 (pa_cons (pv 0) (pa_cons pe_int pa_nil))) pa_nil))))) (pe_call G_law_draw (hr.mono (by decide)) (by rfl) g_law_draw F_law_draw.kp b_law_draw .nil pass0 (pa_cons (pv 0) (pa_cons pe_int pa_nil))) (fun _ _ => rfl)))))
(pss_cons (ps_if (pt_cmpR op_eq (pv 1) pe_int (nomark _))
(pss_one (ps_ret (pe_tup (pa_cons pe_str (pa_cons (pe_ix ix_list (pv 3) pe_int (fun _ _ => rfl)) pa_nil)))))
pss_nil)
(pss_cons (ps_if (pt_cmpR op_eq (pv 1) pe_int (nomark _))
(pss_one (ps_ret (pe_tup (pa_cons pe_str (pa_cons (pe_ix ix_list (pv 3) pe_int (fun _ _ => rfl)) (pa_cons (pe_ix ix_list (pv 3) pe_int (fun _ _ => rfl)) pa_nil))))))
pss_nil)
(pss_cons (ps_if (pt_cmpR op_eq (pv 1) pe_int (nomark _))
(pss_one (ps_ret (pe_tup (pa_cons pe_str (pa_cons (pe_ix ix_list (pv 3) pe_int (fun _ _ => rfl)) (pa_cons (pe_ix ix_list (pv 3) pe_int (fun _ _ => rfl)) (pa_cons (pe_ix ix_list (pe_lst (pa_cons pe_non (pa_cons (pe_ix ix_list (pv 3) pe_int (fun _ _ => rfl)) pa_nil))) (pe_call G_law_draw (hr.mono (by decide)) (by rfl) g_law_draw F_law_draw.kp b_law_draw .nil pass0 (pa_cons (pv 0) (pa_cons pe_int pa_nil))) (fun _ _ => rfl)) pa_nil)))))))
pss_nil)
(pss_cons (ps_if (pt_cmpR op_eq (pv 1) pe_int (nomark _))
(pss_one (ps_ret (pe_tup (pa_cons pe_str (pa_cons (pe_ix ix_list (pv 3) pe_int (fun _ _ => rfl)) pa_nil)))))
pss_nil)
(pss_cons (ps_if (pt_cmpR op_eq (pv 1) pe_int (nomark _))
(pss_one (ps_ret (pe_tup (pa_cons pe_str (pa_cons (pe_ix ix_list (pv 3) pe_int (fun _ _ => rfl)) (pa_cons (pe_callTy call_tuple_of (by rfl) A.tuple (by decide +kernel) (pa_cons (pe_slice sl_list (pv 3) (po_some pe_int) (po_some (pe_op op_add pe_int (pe_call G_law_draw (hr.mono (by decide)) (by rfl) g_law_draw F_law_draw.kp b_law_draw .nil pass0 (pa_cons (pv 0) (pa_cons pe_int pa_nil)))))) pa_nil)) pa_nil))))))
pss_nil)
(pss_cons (ps_if (pt_cmpR op_eq (pv 1) pe_int (nomark _))
(pss_one (ps_ret (pe_ix ix_list (pe_lst (pa_cons (pe_tup (pa_cons pe_str pa_nil)) (pa_cons (pe_tup (pa_cons pe_str pa_nil)) pa_nil))) (pe_call G_law_draw (hr.mono (by decide)) (by rfl) g_law_draw F_law_draw.kp b_law_draw .nil pass0 (pa_cons (pv 0) (pa_cons pe_int pa_nil))) (fun _ _ => rfl))))
pss_nil)
(pss_cons (ps_set (i := 4) sc_law_any_event.nd rfl (.inr rfl) (pe_lst pa_nil))
(pss_cons (ps_for PassesOwn.never rfl (pi_list (pe_callB cr_sortedI (by rfl) A.sorted (by decide +kernel) (pa_cons (pe_slice sl_list (pv 3) (po_some pe_int) po_none) pa_nil))) (pg_name (i := 5) sc_law_any_event.nd rfl (.inl rfl))
(pss_one (ps_if (PW.pt (pw_and (pt_cmpR op_notIn_seq (pv 5) (pv 4) (by rfl)) (pw_and1 (pt_cmpR op_eq (pe_call G_law_draw (hr.mono (by decide)) (by rfl) g_law_draw F_law_draw.kp b_law_draw .nil pass0 (pa_cons (pv 0) (pa_cons pe_int pa_nil))) pe_int (nomark _)))))
(pss_one (ps_expr (pe_bm PySem.F.plainAttrs_list PySem.F.slot_list_append PySem.F.type_list_append mt_append (pv 4) (pa_cons (pv 5) pa_nil))))
pss_nil)))
(pss_cons (ps_if (pt_cmpR op_eq (pv 1) pe_int (nomark _))
(pss_one (ps_ret (pe_tup (pa_cons pe_str (pa_cons (pe_callTy call_tuple_of (by rfl) A.tuple (by decide +kernel) (pa_cons (pe_lc (own := [("number", 5)]) (tt := tYes) rfl sc_law_any_event.nd (pi_list (pv 4)) (blkOk_by (N := ["box", "kind", "k", "numbers", "held", "number", "carried"]) (sc := defScope s_law_any_event) (by decide +kernel)) (fun _ _ _ _ _ => pg_name (i := 5) sc_law_any_event.nd rfl (Or.inl rfl)) (fun _ _ _ _ _ => pts_nil) (fun _ _ _ _ _ => (pe_tup (pa_cons (pe_call G_law_rank (hr.mono (by decide)) (by rfl) g_law_rank F_law_rank.kp b_law_rank .nil pass0 (pa_cons (pv 4) (pa_cons (pv 5) pa_nil))) (pa_cons (pv 5) pa_nil))))) pa_nil)) pa_nil)))))
pss_nil)
(pss_cons (ps_set (i := 6) sc_law_any_event.nd rfl (.inl rfl) (pe_callTy call_tuple_of (by rfl) A.tuple (by decide +kernel) (pa_cons (pe_lc (own := [("k", 2)]) (tt := tYes) rfl sc_law_any_event.nd (pi_range1 (by rfl) A.range (pa_cons (pe_call G_law_draw (hr.mono (by decide)) (by rfl) g_law_draw F_law_draw.kp b_law_draw .nil pass0 (pa_cons (pv 0) (pa_cons pe_int pa_nil))) pa_nil)) (blkOk_by (N := ["box", "kind", "k", "numbers", "held", "number", "carried"]) (sc := defScope s_law_any_event) (by decide +kernel)) (fun _ _ _ _ _ => pg_name (i := 2) sc_law_any_event.nd rfl (Or.inl rfl)) (fun _ _ _ _ _ => pts_nil) (fun _ _ _ _ _ => (pe_tup (pa_cons (pe_ix (show IxR _ (rIxL K) from ix_list) (pe_lst (pa_cons pe_str (pa_cons pe_str pa_nil))) (pe_call G_law_draw (hr.mono (by decide)) (by rfl) g_law_draw F_law_draw.kp b_law_draw .nil pass0 (pa_cons (pv 0) (pa_cons pe_int pa_nil))) (fun _ _ => rfl)) (pa_cons (pe_ix (show IxR _ (rIxL K) from ix_list) (pv 3) (pv 2) (fun _ _ => rfl)) pa_nil))))) pa_nil)))
(pss_one (ps_ret (pe_tup (pa_cons pe_str (pa_cons (pe_tup (pa_cons (pe_ix ix_list (pv 3) pe_int (fun _ _ => rfl)) (pa_cons pe_int (pa_cons (pe_ix ix_list (pv 3) pe_int (fun _ _ => rfl)) (pa_cons (pe_ix ix_list (pv 3) pe_int (fun _ _ => rfl)) (pa_cons (pe_callTy call_tuple_of (by rfl) A.tuple (by decide +kernel) (pa_cons (pv 4) pa_nil)) (pa_cons (pv 6) pa_nil))))))) pa_nil))))))))))))))))), ?_⟩
    refine ⟨_, rfl, b, dg, ds, 9, rfl, by decide, B, fun kind H1 k0 k9 f1 B1 => ?_⟩
    refine ⟨12, rfl, by decide, by decide, fun D nD => ?_⟩
    refine lc_range (lo := 0) (n := 12) (fun i H' => ∃ ks : List Int, H' D = some (.lst (ks.map V.int)) ∧ ks.length = i ∧ (∀ k ∈ ks, In5 k) ∧ Fx b H1 H' ∧ Bx H' b dg ds) ⟨[], upd_same, rfl, (fun _ h => nomatch h), Fx.new (Fx.refl _ _) nD, B1.new nD⟩ ?_ ?_
    · rintro i H2 hi ⟨ks, hD, hl, h5, f2, B2⟩
      have nb2 : D ≠ b := (Bx.nb B1 nD).1
      refine ⟨rfl, _, rfl, b, dg, ds, 10, rfl, by decide, B2, fun x H3 x0 x9 f3 B3 => ⟨_, rfl, b, dg, ds, 1000, rfl, by decide, B3, fun y H4 y0 y9 f4 B4 => ⟨by show 4 ≤ sizeLine; decide, fun l nl => ⟨_, rfl, b, dg, ds, 4, rfl, by decide, B4.new nl, fun r H5 r0 r4 f5 B5 => ?_⟩⟩⟩⟩
      obtain ⟨k, hk, ek⟩ := pickI (l := [0, x, 99999, y]) r0 r4
      have k5 : In5 k := by
        simp only [List.mem_cons, List.not_mem_nil, or_false] at hk
        rcases hk with rfl | rfl | rfl | rfl
        · exact ⟨by decide, by decide⟩
        · exact ⟨by omega, by omega⟩
        · exact ⟨by decide, by decide⟩
        · exact ⟨by omega, by omega⟩
      have fl : Fx b H2 H5 := ((f3.trans f4).new nl).trans f5
      have lb : l ≠ b := (Bx.nb B4 nl).1
      have hl5 : H5 l = some (.lst ([0, x, 99999, y].map V.int)) := f5 _ _ lb upd_same
      refine ⟨l, _, r, .int k, rfl, rfl, SqL.of hl5, ek, _, fl _ _ nb2 hD, ?_, ks ++ [k], ?_, by rw [List.length_append, hl]; rfl, fun j hj => ?_, Fx.mut (f2.trans fl) nD, B5.upd nb2 (Bx.nb B1 nD).2⟩
      · rw [List.length_map, hl, sizeLine_eq]
        omega
      · rw [upd_same, List.map_append]
        rfl
      · rcases List.mem_append.mp hj with hj | hj
        · exact h5 j hj
        · rw [List.mem_singleton.mp hj]
          exact k5
    · rintro H2 ⟨ks, hD, hl, h5, f2, B2⟩
      have nDb := (Bx.nb B1 nD).1
      have fA := f1.trans f2
      match ks, hl with
      | [c0, c1, c2, c3, c4, c5, c6, c7, c8, c9, c10, c11], _ =>
      have g0 := h5 c0 (by simp)
      have g1 := h5 c1 (by simp)
      have g2 := h5 c2 (by simp)
      refine ⟨_, rfl, rfl, _, rfl, ite2 (fun _ => ?_) (fun _ => ?_)⟩
      · refine ⟨_, rfl, D, _, 0, _, rfl, rfl, SqL.of hD, atI_nat (j := 0) rfl, by show 2 ≤ sizeLine; decide, fun p np => ?_⟩
        exact q (.nums "make" [c0]) p _ ⟨rfl, fun n hn => by rw [List.mem_singleton.mp hn]; exact g0⟩ trivial (by simp [wd]) (Fx.new fA np) (B2.new np) (.tup (SqT.of upd_same) (.cons (.str _) (.cons (.int _) .nil)))
      refine ⟨_, rfl, rfl, _, rfl, ite2 (fun _ => ?_) (fun _ => ?_)⟩
      · refine ⟨_, rfl, D, _, 0, _, rfl, rfl, SqL.of hD, atI_nat (j := 0) rfl, _, rfl, D, _, 1, _, rfl, rfl, SqL.of hD, atI_nat (j := 1) rfl, by show 3 ≤ sizeLine; decide, fun p np => ?_⟩
        exact q (.nums "read" [c0, c1]) p _ ⟨show nWords.lookup ("read" : Str) = some 2 by decide +kernel, fun n hn => by
          rcases List.mem_cons.mp hn with rfl | hn
          · exact g0
          · rw [List.mem_singleton.mp hn]; exact g1⟩ trivial (by simp [wd]) (Fx.new fA np) (B2.new np) (.tup (SqT.of upd_same) (.cons (.str _) (.cons (.int _) (.cons (.int _) .nil))))
      refine ⟨_, rfl, rfl, _, rfl, ite2 (fun _ => ?_) (fun _ => ?_)⟩
      · refine ⟨_, rfl, D, _, 0, _, rfl, rfl, SqL.of hD, atI_nat (j := 0) rfl, _, rfl, D, _, 1, _, rfl, rfl, SqL.of hD, atI_nat (j := 1) rfl, _, rfl, D, _, 2, _, rfl, rfl, SqL.of hD, atI_nat (j := 2) rfl, by show 2 ≤ sizeLine; decide, fun l nl => ?_⟩
        refine ⟨_, rfl, b, dg, ds, 2, rfl, by decide, B2.new nl, fun r H3 r0 r2 f3 B3 => ?_⟩
        have lb : l ≠ b := (Bx.nb B2 nl).1
        have hl3 : H3 l = some (.lst [.non, .int c2]) := f3 _ _ lb upd_same
        have hf := (fA.new nl).trans f3
        obtain rfl | rfl : r = 0 ∨ r = 1 := by omega
        · refine ⟨l, _, 0, _, rfl, rfl, SqL.of hl3, atI_nat (j := 0) rfl, by show 4 ≤ sizeLine; decide, fun p np => ?_⟩
          exact q (.wrN c0 c1) p _ ⟨g0, g1⟩ trivial (by simp [wd]) (Fx.new hf np) (B3.new np) (.tup (SqT.of upd_same) (.cons (.str _) (.cons (.int _) (.cons (.int _) (.cons .non .nil)))))
        · refine ⟨l, _, 1, _, rfl, rfl, SqL.of hl3, atI_nat (j := 1) rfl, by show 4 ≤ sizeLine; decide, fun p np => ?_⟩
          exact q (.nums "write" [c0, c1, c2]) p _ ⟨show nWords.lookup ("write" : Str) = some 3 by decide +kernel, fun n hn => by
            simp only [List.mem_cons, List.not_mem_nil, or_false] at hn
            rcases hn with rfl | rfl | rfl
            · exact g0
            · exact g1
            · exact g2⟩ trivial (by simp [wd]) (Fx.new hf np) (B3.new np) (.tup (SqT.of upd_same) (.cons (.str _) (.cons (.int _) (.cons (.int _) (.cons (.int _) .nil)))))
      refine ⟨_, rfl, rfl, _, rfl, ite2 (fun _ => ?_) (fun _ => ?_)⟩
      · refine ⟨_, rfl, D, _, 0, _, rfl, rfl, SqL.of hD, atI_nat (j := 0) rfl, by show 2 ≤ sizeLine; decide, fun p np => ?_⟩
        exact q (.nums "drop" [c0]) p _ ⟨show nWords.lookup ("drop" : Str) = some 1 by decide +kernel, fun n hn => by rw [List.mem_singleton.mp hn]; exact g0⟩ trivial (by simp [wd]) (Fx.new fA np) (B2.new np) (.tup (SqT.of upd_same) (.cons (.str _) (.cons (.int _) .nil)))
      refine ⟨_, rfl, rfl, _, rfl, ite2 (fun _ => ?_) (fun _ => ?_)⟩
      · refine ⟨_, rfl, D, _, 0, _, rfl, rfl, SqL.of hD, atI_nat (j := 0) rfl, ?_⟩
        refine ⟨_, rfl, 1, rfl, ?_⟩
        refine ⟨_, rfl, b, dg, ds, 5, rfl, by decide, B2, fun r H3 r0 r5 f3 B3 => ⟨_, _, rfl, rfl, _, rfl, D, _, rfl, SqL.of (f3 _ _ nDb hD), fun p1 np1 => ?_⟩⟩
        obtain ⟨k, rfl⟩ := Int.eq_ofNat_of_zero_le r0
        have ec : cutV ([c0, c1, c2, c3, c4, c5, c6, c7, c8, c9, c10, c11].map V.int) (some 1) (some (1 + (k : Int))) = (([c1, c2, c3, c4, c5, c6, c7, c8, c9, c10, c11]).take k).map V.int := by
          rw [show (some (1 : Int)) = some ((1 : Nat) : Int) from rfl, show (1 + (k : Int)) = ((1 + k : Nat) : Int) by omega, cutV_nat _ (by omega), List.map_take]
          rw [show 1 + k - 1 = k by omega]
          rfl
        rw [ec]
        have hrs : ∀ n ∈ ([c1, c2, c3, c4, c5, c6, c7, c8, c9, c10, c11]).take k, In5 n := fun n hn => h5 n (.tail _ (List.mem_of_mem_take hn))
        have hrl : (([c1, c2, c3, c4, c5, c6, c7, c8, c9, c10, c11]).take k).length ≤ 4 := by rw [List.length_take]; omega
        generalize ([c1, c2, c3, c4, c5, c6, c7, c8, c9, c10, c11]).take k = rs at hrs hrl
        have f4 := (fA.trans f3).new (o := .lst (rs.map V.int)) np1
        refine ⟨p1, rs.map V.int, rfl, .inl ⟨SqL.of upd_same, fun l nl => ⟨by show 3 ≤ sizeLine; decide, fun p np => ?_⟩⟩⟩
        refine q (.send c0 rs) p _ ⟨g0, hrs, hrl⟩ trivial ?_ ((f4.new nl).new np) (((B3.new np1).new nl).new np) (.tup (SqT.of upd_same) (.cons (.str _) (.cons (.int _) (.cons (.tup (SqT.of (xs := rs.map V.int) ?_) (dp_ints rs)) .nil))))
        · simp [wd]
          omega
        · rw [upd_ne (ne_of_none upd_same np), upd_same]
      refine ⟨_, rfl, rfl, _, rfl, ite2 (fun _ => ?_) (fun _ => ?_)⟩
      · refine ⟨by show 1 ≤ sizeLine; decide, fun t1 n1 => ⟨by show 1 ≤ sizeLine; decide, fun t2 n2 => ⟨by show 2 ≤ sizeLine; decide, fun l nl => ?_⟩⟩⟩
        have Bn := ((B2.new (o := .tup [.str "collect"]) n1).new (o := .tup [.str "report"]) n2).new (o := .lst [.ref t1, .ref t2]) nl
        have fn := ((fA.new (o := .tup [.str "collect"]) n1).new (o := .tup [.str "report"]) n2).new (o := .lst [.ref t1, .ref t2]) nl
        refine ⟨_, rfl, b, dg, ds, 2, rfl, by decide, Bn, fun r H3 r0 r2 f3 B3 => ?_⟩
        have e1 : H3 t1 = some (.tup [.str "collect"]) := f3 _ _ (Bx.nb B2 n1).1 (by rw [upd_ne (ne_of_none (by rw [upd_ne (ne_of_none upd_same n2), upd_same]) nl), upd_ne (ne_of_none upd_same n2), upd_same])
        have e2 : H3 t2 = some (.tup [.str "report"]) := f3 _ _ (Bx.nb (B2.new (o := .tup [.str "collect"]) n1) n2).1 (by rw [upd_ne (ne_of_none upd_same nl), upd_same])
        have e3 : H3 l = some (.lst [.ref t1, .ref t2]) := f3 _ _ (Bx.nb ((B2.new (o := .tup [.str "collect"]) n1).new (o := .tup [.str "report"]) n2) nl).1 upd_same
        obtain rfl | rfl : r = 0 ∨ r = 1 := by omega
        · refine ⟨l, _, 0, _, rfl, rfl, SqL.of e3, atI_nat (j := 0) rfl, ?_⟩
          exact q (.nums "collect" []) t1 _ ⟨show nWords.lookup ("collect" : Str) = some 0 by decide +kernel, fun n hn => nomatch hn⟩ trivial (by simp [wd]) (fn.trans f3) B3 (.tup (SqT.of e1) (.cons (.str _) .nil))
        · refine ⟨l, _, 1, _, rfl, rfl, SqL.of e3, atI_nat (j := 1) rfl, ?_⟩
          exact q (.nums "report" []) t2 _ ⟨show nWords.lookup ("report" : Str) = some 0 by decide +kernel, fun n hn => nomatch hn⟩ trivial (by simp [wd]) (fn.trans f3) B3 (.tup (SqT.of e2) (.cons (.str _) .nil))
      refine ⟨by show 0 ≤ sizeLine; decide, fun L nL => ?_⟩
      have fL := fA.new (o := .lst []) nL
      have BL := B2.new (o := .lst []) nL
      have nLb := (Bx.nb B2 nL).1
      have hDL : (upd H2 L (.lst [])) D = some (.lst ([c0, c1, c2, c3, c4, c5, c6, c7, c8, c9, c10, c11].map V.int)) := (same_new (Same.refl H2) nL) _ _ hD
      have hLL : (upd H2 L (.lst [])) L = some (.lst (([] : List Int).map V.int)) := upd_same
      have nLH : H L = none := fA.none B nL B2
      have nLD : D ≠ L := ne_of_none hD nL
      generalize upd H2 L (.lst []) = H3 at fL BL hDL hLL
      refine ⟨_, rfl, 3, rfl, D, _, rfl, SqL.of hDL, fun p1 np1 => ?_⟩
      have ec : cutV ([c0, c1, c2, c3, c4, c5, c6, c7, c8, c9, c10, c11].map V.int) (some 3) none = [c3, c4, c5, c6, c7, c8, c9, c10, c11].map V.int := by
        rw [show (some (3 : Int)) = some ((3 : Nat) : Int) from rfl, cut_drop _ (by simp)]
        rfl
      rw [ec]
      refine ⟨p1, [c3, c4, c5, c6, c7, c8, c9, c10, c11], rfl, SqL.of upd_same, fun ns p2 hperm hpw np2 => ?_⟩
      have n9 : ns.length = 9 := by rw [hperm.length_eq]; rfl
      have n5 : ∀ n ∈ ns, In5 n := fun n hn => h5 n (by
        have := hperm.mem_iff.mp hn
        exact .tail _ (.tail _ (.tail _ this)))
      have s4 := (same_new (o := .lst ([c3, c4, c5, c6, c7, c8, c9, c10, c11].map V.int)) (Same.refl H3) np1)
      have s5 := s4.trans (same_new (o := .lst (ns.map V.int)) (Same.refl _) np2)
      have h2 : (upd (upd H3 p1 (.lst ([c3, c4, c5, c6, c7, c8, c9, c10, c11].map V.int))) p2 (.lst (ns.map V.int))) p2 = some (.lst (ns.map V.int)) := upd_same
      have np2L : p2 ≠ L := (ne_of_none (s4 _ _ hLL) np2).symm
      have np2b : p2 ≠ b := (Bx.nb (bx_sm s4 BL) np2).1
      generalize upd (upd H3 p1 (.lst ([c3, c4, c5, c6, c7, c8, c9, c10, c11].map V.int))) p2 (.lst (ns.map V.int)) = H4 at s5 h2
      refine ⟨p2, rfl, ⟨_, SqL.of h2⟩, for_list (xs := ns.map V.int) (fun i σ H' => ∃ (hs : List Int) (v5 : Option V), σ = [some (.ref b), some (.int kind), none, some (.ref D), some (.ref L), v5, none] ∧ H' L = some (.lst (hs.map V.int)) ∧ hs.Pairwise (· < ·) ∧ (∀ h ∈ hs, h ∈ ns.take i) ∧ hs.length ≤ i ∧ H' p2 = some (.lst (ns.map V.int)) ∧ H' D = some (.lst ([c0, c1, c2, c3, c4, c5, c6, c7, c8, c9, c10, c11].map V.int)) ∧ Fx b H H' ∧ Bx H' b dg ds) ⟨[], none, rfl, s5 _ _ hLL, .nil, (fun _ h => nomatch h), Nat.le_refl _, h2, s5 _ _ hDL, fx_same fL s5, bx_sm s5 BL⟩ (fun i σ H' _ h => by
        obtain ⟨_, _, _, _, _, _, _, h, _⟩ := h
        exact SqL.of h) ?_ ?_⟩
      · rintro i v σ H5 hv ⟨hs, v5, rfl, hLs, hpw2, hmem, hlen, h2', hD', f5, B5⟩
        obtain ⟨x, hx, rfl⟩ := map_at hv
        have nLdg := (Bx.nb B2 nL).2
        have keep : ∀ H', Fx b H5 H' → Bx H' b dg ds → H' L = some (.lst (hs.map V.int)) ∧ H' p2 = some (.lst (ns.map V.int)) ∧ H' D = some (.lst ([c0, c1, c2, c3, c4, c5, c6, c7, c8, c9, c10, c11].map V.int)) ∧ Fx b H H' ∧ (∀ h ∈ hs, h ∈ ns.take (i + 1)) ∧ hs.length ≤ i + 1 := fun H' f B' =>
          ⟨f _ _ nLb hLs, f _ _ np2b h2', f _ _ nDb hD', f5.trans f, fun h hh => by
            rw [List.take_succ]
            exact List.mem_append_left _ (hmem h hh), by omega⟩
        refine ⟨_, rfl, _, rfl, L, _, rfl, .inl (SqL.of hLs), rfl, ?_, _, rfl, ite2 (fun e => ?_) (fun _ => ?_)⟩
        · rw [List.all_map]
          exact List.all_eq_true.mpr fun _ _ => rfl
        · refine ⟨_, rfl, b, dg, ds, 2, rfl, by decide, B5, fun r H6 r0 r2 f6 B6 => ⟨rfl, _, rfl, ite2 (fun _ => ?_) (fun _ => ?_)⟩⟩
          · obtain ⟨a1, a2, a3, a4, a5, a6⟩ := keep H6 f6 B6
            refine ⟨_, rfl, .inl ⟨rfl, _, SqL.of a1⟩, _, rfl, L, _, _, rfl, rfl, a1, ?_, ?_⟩
            · rw [List.length_map, sizeLine_eq]
              have := (List.getElem?_eq_some_iff.mp hx).1
              omega
            · have nin : x ∉ hs := fun h => by
                have e : (!inV (.int x) (hs.map V.int)) = true := e
                rw [ints_in, decide_eq_true h] at e
                cases e
              refine ⟨hs ++ [x], _, rfl, ?_, ?_, fun h hh => ?_, by rw [List.length_append]; exact Nat.succ_le_succ hlen, ?_, ?_, Fx.mut a4 nLH, B6.upd nLb nLdg⟩
              · rw [upd_same, List.map_append]
                rfl
              · refine List.pairwise_append.mpr ⟨hpw2, List.pairwise_singleton _ _, fun y hy z hz => ?_⟩
                rw [List.mem_singleton.mp hz]
                obtain ⟨m, hm⟩ := List.mem_iff_getElem?.mp (hmem y hy)
                have hm' := hm
                rw [List.getElem?_take] at hm'
                split at hm'
                · rename_i lt
                  obtain ⟨g1, e1⟩ := List.getElem?_eq_some_iff.mp hm'
                  obtain ⟨g2, e2⟩ := List.getElem?_eq_some_iff.mp hx
                  have le := List.pairwise_iff_getElem.mp hpw m i g1 g2 lt
                  rw [e1, e2] at le
                  have ne : y ≠ x := fun z => nin (z ▸ hy)
                  omega
                · cases hm'
              · rcases List.mem_append.mp hh with hh | hh
                · exact a5 h hh
                · rw [List.mem_singleton.mp hh, List.take_succ, hx]
                  exact List.mem_append_right _ List.mem_cons_self
              · rw [upd_ne np2L]
                exact a2
              · rw [upd_ne nLD]
                exact a3
          · obtain ⟨a1, a2, a3, a4, a5, a6⟩ := keep H6 f6 B6
            exact ⟨hs, _, rfl, a1, hpw2, a5, a6, a2, a3, a4, B6⟩
        · obtain ⟨a1, a2, a3, a4, a5, a6⟩ := keep H5 (Fx.refl _ _) B5
          exact ⟨hs, _, rfl, a1, hpw2, a5, a6, a2, a3, a4, B5⟩
      · rintro σ H5 ⟨hs, v5, rfl, hLs, hpw2, hmem, hlen, h2', hD', f5, B5⟩
        rw [List.length_map, n9] at hlen
        have hs5 : ∀ h ∈ hs, In5 h := fun h hh => n5 h (List.mem_of_mem_take (hmem h hh))
        refine ⟨_, rfl, rfl, _, rfl, ite2 (fun _ => ?_) (fun _ => ?_)⟩
        · refine ⟨_, rfl, L, rfl, ⟨_, SqL.of hLs⟩, fun D2 nD2 => ?_⟩
          have lr : (rowsOf 0 hs).length = hs.length := rowsOf_len 0 hs
          refine lc_list (K := K) (a := L) (xs := hs.map V.int) (fun i H' => ∃ as : List Addr, H' D2 = some (.lst (as.map V.ref)) ∧ Paired (fun (t : Addr) (p : Int × Int) => H' t = some (.tup [.int p.1, .int p.2])) as ((rowsOf 0 hs).take i) ∧ Same H5 H') ⟨[], upd_same, .nil, same_new (Same.refl H5) nD2⟩ (fun i H' _ h => by
            obtain ⟨_, _, _, h⟩ := h
            exact h.seq (SqL.of hLs)) ?_ ?_
          · rintro i v H6 hv ⟨as, hD6, P6, s6⟩
            obtain ⟨h, hh, rfl⟩ := map_at hv
            refine ⟨rfl, _, rfl, _, rfl, L, hs, i, h, rfl, s6.seq (SqL.of hLs), hh, pw_at hpw2 hh, _, rfl, by show 2 ≤ sizeLine; decide, fun T nT => ?_⟩
            have s7 := same_new (o := .tup [.int ((i / 2 : Nat) : Int), .int h]) (Same.refl H6) nT
            have l6 := P6.length
            have hr := rowsOf_at hs 0 i h hh
            rw [Nat.zero_add] at hr
            refine ⟨_, s7 _ _ hD6, ?_, as ++ [T], ?_, ?_, same_mut (s6.trans s7) nD2⟩
            · rw [List.length_map, l6, List.length_take, lr, sizeLine_eq]
              omega
            · rw [upd_same, List.map_append]
              rfl
            · rw [List.take_succ, hr]
              exact paired_mut (g := fun p : Int × Int => [.int p.1, .int p.2]) (s7 _ _ hD6) (paired_app (paired_same (g := fun p : Int × Int => [.int p.1, .int p.2]) s7 P6) (.cons upd_same .nil))
          · rintro H6 ⟨as, hD6, P6, s6⟩
            rw [List.length_map, ← lr, List.take_length] at P6
            refine ⟨D2, as.map V.ref, rfl, .inl ⟨SqL.of hD6, fun l nl => ⟨by show 2 ≤ sizeLine; decide, fun p np => ?_⟩⟩⟩
            have t1 := same_new (o := .tup (as.map V.ref)) (Same.refl H6) nl
            have t2 := same_new (o := .tup [.str "remove", .ref l]) t1 np
            refine q (.rem (rowsOf 0 hs)) p _ ⟨fun x hx => ?_, rowsOf_ris 0 hpw2⟩ trivial ?_ (fx_same f5 (s6.trans t2)) (bx_sm (s6.trans t2) B5) (.tup (SqT.of upd_same) (.cons (.str _) (.cons (.tup (SqT.of (xs := as.map V.ref) ?_) (paired_dpa (f := prD) (g := fun p => [.int p.1, .int p.2]) (fun t p h => .tup (SqT.of h) (.cons (.int _) (.cons (.int _) .nil))) (paired_same (g := fun p : Int × Int => [.int p.1, .int p.2]) t2 P6))) .nil)))
            · obtain ⟨m1, m2, m3⟩ := rowsOf_mem hx
              exact ⟨⟨m2, by omega⟩, hs5 _ m1⟩
            · show (w_remove :: (rowsOf 0 hs).flatMap fun p => [tx p.1, tx p.2]).length ≤ 24
              rw [List.length_cons, flat_len, lr]
              omega
            · rw [upd_ne (ne_of_none upd_same np), upd_same]
        · refine ⟨_, rfl, b, dg, ds, 5, rfl, by decide, B5, fun r H6 r0 r5 f6 B6 => ?_⟩
          obtain ⟨k, rfl⟩ := Int.eq_ofNat_of_zero_le r0
          have hD6 := f6 _ _ nDb hD'
          have hL6 := f6 _ _ nLb hLs
          refine ⟨k, rfl, by omega, by omega, fun D2 nD2 => ?_⟩
          refine lc_range (lo := 0) (n := k) (fun i H' => ∃ (as : List Addr) (c : List (Str × Int)), H' D2 = some (.lst (as.map V.ref)) ∧ Paired (fun (t : Addr) (p : Str × Int) => H' t = some (.tup [.str p.1, .int p.2])) as c ∧ c.length = i ∧ (∀ p ∈ c, (p.1 = w_export ∨ p.1 = w_return) ∧ In5 p.2) ∧ Fx b H6 H' ∧ Bx H' b dg ds) ⟨[], [], upd_same, .nil, rfl, (fun _ h => nomatch h), Fx.new (Fx.refl _ _) nD2, B6.new nD2⟩ ?_ ?_
          · rintro i H7 hi ⟨as, c, hD7, P7, lc, hc, f7, B7⟩
            have hDn := f7 _ _ nDb hD6
            have nD2b := (Bx.nb B6 nD2).1
            refine ⟨rfl, by show 2 ≤ sizeLine; decide, fun l nl => ⟨_, rfl, b, dg, ds, 2, rfl, by decide, B7.new nl, fun r H8 z0 z2 f8 B8 => ?_⟩⟩
            have lb : l ≠ b := (Bx.nb B7 nl).1
            have hl8 : H8 l = some (.lst [.str w_export, .str w_return]) := f8 _ _ lb upd_same
            have f9 : Fx b H7 H8 := (Fx.new (Fx.refl _ _) nl).trans f8
            obtain ⟨k0', hk0, ek0⟩ : ∃ z : Str, (z = w_export ∨ z = w_return) ∧ atI [.str w_export, .str w_return] r = some (V.str z) := by
              obtain rfl | rfl : r = 0 ∨ r = 1 := by omega
              · exact ⟨_, .inl rfl, rfl⟩
              · exact ⟨_, .inr rfl, rfl⟩
            obtain ⟨m, hm, em⟩ := pickI (l := [c0, c1, c2, c3, c4, c5, c6, c7, c8, c9, c10, c11]) (r := 0 + (i : Int)) (by omega) (by simp; omega)
            refine ⟨l, _, r, _, rfl, rfl, SqL.of hl8, ek0, _, rfl, _, rfl, D, _, _, _, rfl, rfl, SqL.of (f9 _ _ nDb hDn), em, by show 2 ≤ sizeLine; decide, fun T nT => ?_⟩
            have sT := same_new (o := .tup [.str k0', .int m]) (Same.refl H8) nT
            have P8 := paired_same (g := fun p : Str × Int => [.str p.1, .int p.2]) sT (paired_fx (g := fun p : Str × Int => [.str p.1, .int p.2]) f9 B7 P7)
            have hD8 := sT _ _ (f9 _ _ nD2b hD7)
            have l7 := P7.length
            refine ⟨_, hD8, ?_, as ++ [T], c ++ [(k0', m)], ?_, ?_, by rw [List.length_append, lc]; rfl, fun p hp => ?_, Fx.mut (fx_same (f7.trans f9) sT) nD2, (bx_sm sT B8).upd nD2b (Bx.nb B6 nD2).2⟩
            · rw [List.length_map, l7, lc, sizeLine_eq]
              omega
            · rw [upd_same, List.map_append]
              rfl
            · exact paired_mut (g := fun p : Str × Int => [.str p.1, .int p.2]) hD8 (paired_app P8 (.cons upd_same .nil))
            · rcases List.mem_append.mp hp with hp | hp
              · exact hc p hp
              · rw [List.mem_singleton.mp hp]
                exact ⟨hk0, h5 _ hm⟩
          · rintro H7 ⟨as, c, hD7, P7, lc, hc, f7, B7⟩
            have hDn := f7 _ _ nDb hD6
            have hLn := f7 _ _ nLb hL6
            have fin := (f5.trans f6).trans f7
            refine ⟨D2, as.map V.ref, rfl, .inl ⟨SqL.of hD7, fun l nl => ?_⟩⟩
            have t1 := same_new (o := .tup (as.map V.ref)) (Same.refl H7) nl
            refine ⟨_, rfl, D, _, 0, _, rfl, rfl, SqL.of (t1 _ _ hDn), atI_nat (j := 0) rfl, ?_⟩
            refine ⟨_, rfl, D, _, 1, _, rfl, rfl, SqL.of (t1 _ _ hDn), atI_nat (j := 1) rfl, ?_⟩
            refine ⟨_, rfl, D, _, 2, _, rfl, rfl, SqL.of (t1 _ _ hDn), atI_nat (j := 2) rfl, ?_⟩
            refine ⟨_, rfl, L, hs.map V.int, rfl, .inl ⟨SqL.of (t1 _ _ hLn), fun l2 nl2 => ?_⟩⟩
            have t2 := same_new (o := .tup (hs.map V.int)) (Same.refl _) nl2
            refine ⟨_, rfl, by show 6 ≤ sizeLine; decide, fun l3 nl3 => ?_⟩
            have t3 := same_new (o := .tup [.int c0, .int 2, .int c1, .int c2, .ref l2, .ref l]) (Same.refl _) nl3
            refine ⟨by show 2 ≤ sizeLine; decide, fun p np => ?_⟩
            have t4 := same_new (o := .tup [.str "receive", .ref l3]) (Same.refl _) np
            have sA := ((t1.trans t2).trans t3).trans t4
            refine q (.rcv c0 2 c1 c2 hs c) p _ ⟨g0, g1, g2, hs5, ris_of hpw2, hc, by omega⟩ rfl ?_ (fx_same fin sA) (bx_sm sA B7) ?_
            · show (w_receive :: tx c0 :: tx c1 :: tx c2 :: (hs.map tx ++ w_carried :: c.flatMap fun p => [p.1, tx p.2])).length ≤ 24
              simp only [List.length_cons, List.length_append, List.length_map]
              rw [flat_len]
              omega
            · exact .tup (SqT.of upd_same) (.cons (.str _) (.cons (.tup (SqT.of (t4 _ _ upd_same)) (.cons (.int _) (.cons (.int _) (.cons (.int _) (.cons (.int _) (.cons (.tup (SqT.of ((t3.trans t4) _ _ upd_same)) (dp_ints _)) (.cons (.tup (SqT.of (((t2.trans t3).trans t4) _ _ upd_same)) (paired_dpa (f := crD) (g := fun p => [.str p.1, .int p.2]) (fun t p h => .tup (SqT.of h) (.cons (.str _) (.cons (.int _) .nil))) (paired_same (g := fun p : Str × Int => [.str p.1, .int p.2]) sA P7))) .nil))))))) .nil))
end
end K45
set_option Elab.async false
set_option linter.all false
set_option maxRecDepth 100000
set_option maxHeartbeats 8000000
/-! K45g: texts spoilt; the law. -/
namespace K45
open PySem PySem.Spec PyProof.Rows L2 Gd Com Bk Nw Xs StX
section
variable {P : Program} {w : World} {K : PySem.W.Frag} {mg : Str → Option Value} {base : Heap}
def spSpoilt (K : PySem.W.Frag) : Sp := fun vs H Q _ => ∃ (b dg : Addr) (ds : List Int) (z : Str), vs = [.ref b, .str z] ∧ Bx H b dg ds ∧ Asc z ∧ 1 ≤ z.length ∧ z.length ≤ 264 ∧
  ∀ (o : Str) (H' : Hp), Good o → Fx b H H' → Bx H' b dg ds → Q (.str o) H'
theorem asc_cut {z : Str} (h : Asc z) (lo hi : Option Int) : Asc (cutS z lo hi) := fun c hc => h c (List.mem_of_mem_drop (List.mem_of_mem_take (by simpa [cutS] using hc)))
def menuL : List Str := ["", "make", "make 1 2", "make 100000", "make 01", "read 1", "write 1 2", "write 1 2 nil", "drop", "send", "send 1 2 3 4 5 6", "collect 1", "report ", "remove 1", "remove 1 2 1 2", "remove 1 2 0 3", "receive 1 2 3", "receive 1 2 carried", "receive 1 2 3 5 4 carried", "receive 1 2 3 carried export", "receive 1 2 3 carried keep 1", "receive 1 2 3 carried export 1 export 1 export 1 export 1 export 1"]
theorem menu_good : ∀ z ∈ menuL, Asc z ∧ z.length ≤ 600 := by decide +kernel
theorem ok_law_spoilt {f : Addr} {fd : FuncData} (A : All w K mg ) (F : Fun K "_law_spoilt" "_law_spoilt" s_law_spoilt f fd) : FnOk P w K mg base CX0 2 f fd ["box", "text"] (spSpoilt K) := by
  obtain ⟨f_law_draw, fd_law_draw, F_law_draw, g_law_draw, b_law_draw⟩ := A.law_draw
  have G_law_draw := ok_law_draw (P := P) (w := w) (base := base) A F_law_draw
  refine F.ok sc_law_spoilt (fun vs H Q E h => ?_) (fun cdv A' outer s H vs Q E hr h => ?_)
  · obtain ⟨b, dg, ds, z, rfl, _⟩ := h
    rfl
  · obtain ⟨b, dg, ds, z, rfl, B, ha, h1, h2, q⟩ := h
    refine ⟨_, (pss_cons (ps_set (i := 2) sc_law_spoilt.nd rfl (.inl rfl) (pe_call G_law_draw (hr.mono (by decide)) (by rfl) g_law_draw F_law_draw.kp b_law_draw .nil pass0 (pa_cons (pv 0) (pa_cons (pe_callB call_len_str (by rfl) A.len PySem.boot_len (pa_cons (pv 1) pa_nil)) pa_nil))))
(pss_cons (ps_set (i := 3) sc_law_spoilt.nd rfl (.inl rfl) (pe_ix ix_str pe_str (pe_call G_law_draw (hr.mono (by decide)) (by rfl) g_law_draw F_law_draw.kp b_law_draw .nil pass0 (pa_cons (pv 0) (pa_cons pe_int pa_nil))) (fun _ _ => rfl)))
(pss_cons (ps_set (i := 4) sc_law_spoilt.nd rfl (.inl rfl) (pe_call G_law_draw (hr.mono (by decide)) (by rfl) g_law_draw F_law_draw.kp b_law_draw .nil pass0 (pa_cons (pv 0) (pa_cons pe_int pa_nil))))
(pss_cons (ps_if (pt_cmpR op_eq (pv 4) pe_int (nomark _))
(pss_one (ps_ret (pe_op op_add_str (pe_slice sl_str (pv 1) po_none (po_some (pv 2))) (pe_slice sl_str (pv 1) (po_some (pe_op op_add (pv 2) pe_int)) po_none))))
pss_nil)
(pss_cons (ps_if (pt_cmpR op_eq (pv 4) pe_int (nomark _))
(pss_one (ps_ret (pe_op op_add_str (pe_op op_add_str (pe_slice sl_str (pv 1) po_none (po_some (pv 2))) (pv 3)) (pe_slice sl_str (pv 1) (po_some (pv 2)) po_none))))
pss_nil)
(pss_cons (ps_if (pt_cmpR op_eq (pv 4) pe_int (nomark _))
(pss_one (ps_ret (pe_op op_add_str (pe_op op_add_str (pe_slice sl_str (pv 1) po_none (po_some (pv 2))) (pv 3)) (pe_slice sl_str (pv 1) (po_some (pe_op op_add (pv 2) pe_int)) po_none))))
pss_nil)
(pss_cons (ps_set (i := 5) sc_law_spoilt.nd rfl (.inl rfl) (pe_lst (pa_cons pe_str (pa_cons pe_str (pa_cons pe_str (pa_cons pe_str (pa_cons pe_str (pa_cons pe_str (pa_cons pe_str (pa_cons pe_str (pa_cons pe_str (pa_cons pe_str (pa_cons pe_str (pa_cons pe_str pa_nil))))))))))))))
(pss_cons (ps_set (i := 5) sc_law_spoilt.nd rfl (.inl rfl) (pe_op op_cat (pv 5) (pe_lst (pa_cons pe_str (pa_cons pe_str (pa_cons pe_str (pa_cons pe_str (pa_cons pe_str (pa_cons pe_str (pa_cons pe_str pa_nil))))))))))
(pss_cons (ps_set (i := 5) sc_law_spoilt.nd rfl (.inl rfl) (pe_op op_cat (pv 5) (pe_lst (pa_cons pe_str (pa_cons pe_str (pa_cons pe_str pa_nil))))))
(pss_one (ps_ret (pe_ix ix_list (pv 5) (pe_call G_law_draw (hr.mono (by decide)) (by rfl) g_law_draw F_law_draw.kp b_law_draw .nil pass0 (pa_cons (pv 0) (pa_cons pe_int pa_nil))) (fun _ _ => rfl))))))))))))), ?_⟩
    refine ⟨_, rfl, _, rfl, z, rfl, by rw [sizeLine_eq]; omega, b, dg, ds, z.length, rfl, by omega, B, fun at' H1 a0 a1 f1 B1 => ?_⟩
    refine ⟨_, rfl, b, dg, ds, 6, rfl, by decide, B1, fun r H2 r0 r6 f2 B2 => ?_⟩
    have fA := f1.trans f2
    obtain ⟨c, hc, c128⟩ : ∃ c, atI ((" 0a9-," : Str).cps.toList) r = some c ∧ c < 128 := by
      obtain rfl | rfl | rfl | rfl | rfl | rfl : r = 0 ∨ r = 1 ∨ r = 2 ∨ r = 3 ∨ r = 4 ∨ r = 5 := by omega
      · exact ⟨32, by decide +kernel, by decide⟩
      · exact ⟨48, by decide +kernel, by decide⟩
      · exact ⟨97, by decide +kernel, by decide⟩
      · exact ⟨57, by decide +kernel, by decide⟩
      · exact ⟨45, by decide +kernel, by decide⟩
      · exact ⟨44, by decide +kernel, by decide⟩
    have hsz : ((" 0a9-," : Str)).length ≤ sizeLine := by rw [show ((" 0a9-," : Str)).length = 6 by decide +kernel, sizeLine_eq]; omega
    have asc1 : Asc ⟨#[c]⟩ := fun x hx => by
      have : x = c := by simpa using hx
      omega
    have len1 : Str.length ⟨#[c]⟩ = 1 := rfl
    have zl : z.length ≤ sizeLine := by rw [sizeLine_eq]; omega
    have cl : ∀ lo hi, (cutS z lo hi).length ≤ 264 := fun lo hi => Nat.le_trans (cutS_length z lo hi) h2
    have ca : ∀ lo hi, Asc (cutS z lo hi) := asc_cut ha
    have fit : ∀ {a b : Str}, a.length ≤ 300 → b.length ≤ 300 → a.length + b.length ≤ sizeLine := fun h1 h2 => by rw [sizeLine_eq]; omega
    have good2 : ∀ {a b : Str}, Asc a → Asc b → a.length ≤ 300 → b.length ≤ 300 → Good (a ++ b) := fun h1 h2 h3 h4 => ⟨asc_cat h1 h2, by rw [Str.length_append]; omega⟩
    refine ⟨_, r, c, rfl, rfl, hsz, hc, ?_⟩
    refine ⟨_, rfl, b, dg, ds, 4, rfl, by decide, B2, fun kd H3 k0 k4 f3 B3 => ?_⟩
    have fB := fA.trans f3
    refine ⟨_, rfl, rfl, _, rfl, ite2 (fun _ => ?_) (fun _ => ?_)⟩
    · exact ⟨_, rfl, _, rfl, _, rfl, z, rfl, zl, _, rfl, _, rfl, _, _, rfl, rfl, _, rfl, z, rfl, zl, _, _, rfl, rfl, fit (Nat.le_trans (cl _ _) (by decide)) (Nat.le_trans (cl _ _) (by decide)), q _ _ (good2 (ca _ _) (ca _ _) (Nat.le_trans (cl _ _) (by decide)) (Nat.le_trans (cl _ _) (by decide))) fB B3⟩
    have l3 : ∀ lo hi, (cutS z lo hi ++ (⟨#[c]⟩ : Str)).length ≤ 300 := fun lo hi => by rw [Str.length_append, len1]; have := cl lo hi; omega
    refine ⟨_, rfl, rfl, _, rfl, ite2 (fun _ => ?_) (fun _ => ?_)⟩
    · refine ⟨_, rfl, _, rfl, _, rfl, z, rfl, zl, _, rfl, _, _, rfl, rfl, fit (Nat.le_trans (cl _ _) (by decide)) (by rw [len1]; decide), ?_⟩
      exact ⟨_, rfl, _, rfl, _, rfl, z, rfl, zl, _, _, rfl, rfl, fit (l3 _ _) (Nat.le_trans (cl _ _) (by decide)), q _ _ (good2 (asc_cat (ca _ _) asc1) (ca _ _) (l3 _ _) (Nat.le_trans (cl _ _) (by decide))) fB B3⟩
    refine ⟨_, rfl, rfl, _, rfl, ite2 (fun _ => ?_) (fun _ => ?_)⟩
    · refine ⟨_, rfl, _, rfl, _, rfl, z, rfl, zl, _, rfl, _, _, rfl, rfl, fit (Nat.le_trans (cl _ _) (by decide)) (by rw [len1]; decide), ?_⟩
      exact ⟨_, rfl, _, rfl, _, _, rfl, rfl, _, rfl, z, rfl, zl, _, _, rfl, rfl, fit (l3 _ _) (Nat.le_trans (cl _ _) (by decide)), q _ _ (good2 (asc_cat (ca _ _) asc1) (ca _ _) (l3 _ _) (Nat.le_trans (cl _ _) (by decide))) fB B3⟩
    refine ⟨by show 12 ≤ sizeLine; decide, fun m1 n1 => ?_⟩
    refine ⟨_, rfl, by show 7 ≤ sizeLine; decide, fun m2 n2 => ?_⟩
    refine ⟨m1, m2, _, _, rfl, rfl, (by rw [upd_ne (ne_of_none upd_same n2), upd_same]), upd_same, by show 19 ≤ sizeLine; decide, fun m3 n3 => ?_⟩
    refine ⟨_, rfl, by show 3 ≤ sizeLine; decide, fun m4 n4 => ?_⟩
    refine ⟨m3, m4, _, _, rfl, rfl, (by rw [upd_ne (ne_of_none upd_same n4), upd_same]), upd_same, by show 22 ≤ sizeLine; decide, fun m5 n5 => ?_⟩
    have BZ := ((((B3.new n1).new n2).new n3).new n4 (o := .lst [.str "receive 1 2 3 carried export", .str "receive 1 2 3 carried keep 1", .str "receive 1 2 3 carried export 1 export 1 export 1 export 1 export 1"]))
    have fZ := ((((fB.new n1).new n2).new n3).new n4 (o := .lst [.str "receive 1 2 3 carried export", .str "receive 1 2 3 carried keep 1", .str "receive 1 2 3 carried export 1 export 1 export 1 export 1 export 1"])).new n5 (o := .lst (menuL.map V.str))
    have m5b : m5 ≠ b := (Bx.nb BZ n5).1
    refine ⟨_, rfl, _, rfl, b, dg, ds, 22, rfl, by decide, BZ.new n5 (o := .lst (menuL.map V.str)), fun x H4 x0 x2 f4 B4 => ?_⟩
    have h5 : H4 m5 = some (.lst (menuL.map V.str)) := f4 _ _ m5b upd_same
    obtain ⟨k, rfl⟩ := Int.eq_ofNat_of_zero_le x0
    have hk : k < menuL.length := by
      have : menuL.length = 22 := rfl
      omega
    refine ⟨m5, _, (k : Int), .str menuL[k], rfl, rfl, SqL.of h5, atI_nat (by rw [List.getElem?_map, List.getElem?_eq_getElem hk]; rfl), ?_⟩
    have mg := menu_good _ (List.getElem_mem hk)
    exact q _ _ ⟨mg.1, mg.2⟩ (fZ.trans f4) B4
end
end K45
set_option Elab.async false
set_option linter.all false
set_option maxRecDepth 100000
set_option maxHeartbeats 8000000
/-! K45h: the law. -/
namespace K45
open PySem PySem.Spec PyProof.Rows L2 Gd Com Bk Nw Xs StX
section
variable {P : Program} {w : World} {K : PySem.W.Frag} {mg : Str → Option Value} {base : Heap}
mutual
def noL : PyData → Bool
  | .list _ => false
  | .tuple ds => noLs ds
  | _ => true
def noLs : List PyData → Bool
  | [] => true
  | d :: ds => noL d && noLs ds
end
theorem noLs_of : ∀ {ds : List PyData}, (∀ d ∈ ds, noL d = true) → noLs ds = true
  | [], _ => by simp [noLs]
  | d :: ds, h => by simp [noLs, h d List.mem_cons_self, noLs_of fun e he => h e (.tail _ he)]
theorem noL_tup {ds : List PyData} (h : ∀ d ∈ ds, noL d = true) : noL (.tuple ds) = true := by
  simp only [noL]
  exact noLs_of h
theorem noL_ints (l : List Int) : noL (.tuple (l.map .int)) = true := noL_tup fun d hd => by
  obtain ⟨i, _, rfl⟩ := List.mem_map.mp hd
  simp [noL]
theorem noL_dat : ∀ e : Ev, noL (dat e) = true
  | .nums w ns => noL_tup fun d hd => by
    rcases List.mem_cons.mp hd with rfl | hd
    · simp [noL]
    · obtain ⟨i, _, rfl⟩ := List.mem_map.mp hd
      simp [noL]
  | .wrN a b => by simp [dat, noL, noLs]
  | .send to rs => by
    have := noL_ints rs
    simp [dat, noL, noLs] at this ⊢
    exact this
  | .rem rows => noL_tup fun d hd => by
    simp only [List.mem_cons, List.not_mem_nil, or_false] at hd
    rcases hd with rfl | rfl
    · simp [noL]
    · refine noL_tup fun d hd => ?_
      obtain ⟨i, _, rfl⟩ := List.mem_map.mp hd
      simp [prD, noL, noLs]
  | .rcv s me n seen held c => noL_tup fun d hd => by
    simp only [List.mem_cons, List.not_mem_nil, or_false] at hd
    rcases hd with rfl | rfl
    · simp [noL]
    · refine noL_tup fun d hd => ?_
      simp only [List.mem_cons, List.not_mem_nil, or_false] at hd
      rcases hd with rfl | rfl | rfl | rfl | rfl | rfl
      · simp [noL]
      · simp [noL]
      · simp [noL]
      · simp [noL]
      · exact noL_ints held
      · refine noL_tup fun d hd => ?_
        obtain ⟨i, _, rfl⟩ := List.mem_map.mp hd
        simp [crD, noL, noLs]
section
variable {b dg : Addr} {ds : List Int} {H H' : Hp}
theorem sqt_fx (f : Fx b H H') (B : Bx H b dg ds) {a : Addr} {xs : List V} (h : SqT K H a xs) : SqT K H' a xs := by
  obtain ⟨n, hb, _⟩ := B
  rcases h with (h | ⟨o, h⟩) | h
  · exact .inl (.inl (f _ _ (fun z => by rw [z, hb] at h; cases h) h))
  · exact .inl (.inr ⟨o, f _ _ (fun z => by rw [z, hb] at h; cases h) h⟩)
  · exact .inr h
mutual
theorem dp_fx (f : Fx b H H') (B : Bx H b dg ds) : ∀ {v : V} {d : PyData}, noL d = true → Dp K H v d → Dp K H' v d
  | _, _, _, .non => .non
  | _, _, _, .bl b => .bl b
  | _, _, _, .int i => .int i
  | _, _, _, .str x => .str x
  | _, _, h, .lst _ _ => by simp [noL] at h
  | _, _, h, .tup hs t => .tup (sqt_fx f B hs) (dpa_fx f B (by simpa only [noL] using h) t)
theorem dpa_fx (f : Fx b H H') (B : Bx H b dg ds) : ∀ {vs : List V} {es : List PyData}, noLs es = true → DpAll K H vs es → DpAll K H' vs es
  | _, _, _, .nil => .nil
  | _, _, h, .cons hd t => by
    simp only [noLs, Bool.and_eq_true] at h
    exact .cons (dp_fx f B h.1 hd) (dpa_fx f B h.2 t)
end
end
theorem word_rcv {e : Ev} (hW : Wf e) (h : wordOf e = w_receive) : ∃ s me n seen held c, e = .rcv s me n seen held c := by
  cases e with
  | nums w ns => exact absurd h (lk_ne hW.1).1
  | wrN a b => exact absurd h (show w_write ≠ w_receive by decide +kernel)
  | send to rs => exact absurd h (show w_send ≠ w_receive by decide +kernel)
  | rem rows => exact absurd h (show w_remove ≠ w_receive by decide +kernel)
  | rcv s me n seen held c => exact ⟨s, me, n, seen, held, c, rfl⟩
theorem slice2 {n : Nat} {Z : Prop} (h : 2 ≤ n) : ¬ (HT.sIx n 0 (some 2) = 0 ∧ Z) := fun y => by
  have := y.1
  rw [show (some (2 : Int)) = some ((2 : Nat) : Int) from rfl, HT.sIx_nat, Nat.min_eq_left h] at this
  cases this
def spLaw (K : PySem.W.Frag) : Sp := fun vs H Q _ => ∃ (a : Addr) (ns : List Int), vs = [.ref a] ∧ SqL K H a (ns.map V.int) ∧ ns.length ≤ 63 ∧ ∀ H', Q (.bl true) H'
theorem ok_law {f : Addr} {fd : FuncData} (A : All w K mg ) (F : Fun K "law" "law" s_law f fd) : FnG P w K mg base 9 f fd ["script"] (spLaw K) := by
  obtain ⟨f_law_digits, fd_law_digits, F_law_digits, g_law_digits, b_law_digits⟩ := A.law_digits
  have G_law_digits := ok_law_digits (P := P) (w := w) (base := base) A F_law_digits
  obtain ⟨f_law_any_event, fd_law_any_event, F_law_any_event, g_law_any_event, b_law_any_event⟩ := A.law_any_event
  have G_law_any_event := ok_law_any_event (P := P) (w := w) (base := base) A F_law_any_event
  obtain ⟨f_law_event_text, fd_law_event_text, F_law_event_text, g_law_event_text, b_law_event_text⟩ := A.law_event_text
  have G_law_event_text := ok_law_event_text (P := P) (w := w) (base := base) A F_law_event_text
  obtain ⟨f_law_spoilt, fd_law_spoilt, F_law_spoilt, g_law_spoilt, b_law_spoilt⟩ := A.law_spoilt
  have G_law_spoilt := ok_law_spoilt (P := P) (w := w) (base := base) A F_law_spoilt
  obtain ⟨f_read_event, fd_read_event, F_read_event, g_read_event, b_read_event⟩ := A.read_event
  have G_read_event := ok_read_event (P := P) (w := w) (base := base) A F_read_event
  obtain ⟨f_write_event, fd_write_event, F_write_event, g_write_event, b_write_event⟩ := A.write_event
  have G_write_event := ok_write_event (P := P) (w := w) (base := base) A F_write_event
  obtain ⟨f_law_alike, fd_law_alike, F_law_alike, g_law_alike, b_law_alike⟩ := A.law_alike
  have G_law_alike := ok_law_alike (P := P) (w := w) (base := base) A F_law_alike
  refine fn_G F sc_law (fun vs H Q E h => ?_) (fun cdv A' outer s H vs Q E hgd hr h => ?_)
  · obtain ⟨a, ns, rfl, _⟩ := h
    rfl
  · obtain ⟨a, ns, rfl, hS, hl, q⟩ := h
    refine ⟨_, (pss_cons (ps_set (i := 1) sc_law.nd rfl (.inl rfl) (pe_lst (pa_cons (pe_call G_law_digits (hr.mono (by decide)) (by rfl) g_law_digits F_law_digits.kp b_law_digits .nil pass0 (pa_cons (pv 0) (pa_cons pe_int (pa_cons pe_int pa_nil)))) (pa_cons pe_int pa_nil))))
(pss_cons (ps_for PassesOwn.never rfl (pi_range1 (by rfl) A.range (pa_cons pe_int pa_nil)) (pg_name (i := 2) sc_law.nd rfl (.inl rfl))
(pss_cons (ps_set (i := 3) sc_law.nd rfl (.inl rfl) (pe_call G_law_any_event (hr.mono (by decide)) (by rfl) g_law_any_event F_law_any_event.kp b_law_any_event .nil pass0 (pa_cons (pv 1) pa_nil)))
(pss_cons (ps_set (i := 4) sc_law.nd rfl (.inl rfl) (pe_call G_law_event_text (hr.mono (by decide)) (by rfl) g_law_event_text F_law_event_text.kp b_law_event_text .nil pass0 (pa_cons (pv 3) pa_nil)))
(pss_cons (ps_if (PW.pt (pw_or (pt_cmpR op_ne (pe_call G_write_event (hr.mono (by decide)) (by rfl) g_write_event F_write_event.kp b_write_event .nil pass0 (pa_cons (pv 3) pa_nil)) (pv 4) (nomark _)) (pw_or1 (pt_not (pt_val (pe_callG G_law_alike hgd (hr.mono (by decide)) (by rfl) g_law_alike F_law_alike.kp b_law_alike .nil (pa_cons (pe_call G_read_event (hr.mono (by decide)) (by rfl) g_read_event F_read_event.kp b_read_event .nil pass0 (pa_cons pe_int (pa_cons (pv 4) pa_nil))) (pa_cons (pv 3) pa_nil))))))))
(pss_one (ps_ret pe_bl))
pss_nil)
(pss_cons (ps_set (i := 5) sc_law.nd rfl (.inl rfl) (pe_call G_law_spoilt (hr.mono (by decide)) (by rfl) g_law_spoilt F_law_spoilt.kp b_law_spoilt .nil pass0 (pa_cons (pv 1) (pa_cons (pv 4) pa_nil))))
(pss_cons (ps_set (i := 6) sc_law.nd rfl (.inl rfl) (pe_call G_read_event (hr.mono (by decide)) (by rfl) g_read_event F_read_event.kp b_read_event .nil pass0 (pa_cons pe_int (pa_cons (pv 5) pa_nil))))
(Evl.pss_cut (ps_if (PW.pt (pw_and (pt_cmp (pc_notN (pv 6))) (pw_and1 (PW.pt (pw_or (pt_cmpR op_ne (pe_call G_law_event_text (hr.mono (by decide)) (by rfl) g_law_event_text F_law_event_text.kp b_law_event_text .nil pass0 (pa_cons (pv 6) pa_nil)) (pv 5) (nomark _)) (pw_or1 (pt_not (pt_val (pe_callG G_law_alike hgd (hr.mono (by decide)) (by rfl) g_law_alike F_law_alike.kp b_law_alike .nil (pa_cons (pe_call G_read_event (hr.mono (by decide)) (by rfl) g_read_event F_read_event.kp b_read_event .nil pass0 (pa_cons pe_int (pa_cons (pe_call G_law_event_text (hr.mono (by decide)) (by rfl) g_law_event_text F_law_event_text.kp b_law_event_text .nil pass0 (pa_cons (pv 6) pa_nil)) pa_nil))) (pa_cons (pv 6) pa_nil)))))))))))
(pss_one (ps_ret pe_bl))
pss_nil)
(pss_cons (ps_if (PW.pt (pw_or (pt_cmp (pc_notN (pe_call G_read_event (hr.mono (by decide)) (by rfl) g_read_event F_read_event.kp b_read_event .nil pass0 (pa_cons pe_int (pa_cons (pe_op op_add_str (pv 4) pe_str) pa_nil))))) (pw_or1 (pt_cmp (pc_notN (pe_call G_read_event (hr.mono (by decide)) (by rfl) g_read_event F_read_event.kp b_read_event .nil pass0 (pa_cons pe_int (pa_cons (pe_op op_add_str pe_str (pv 4)) pa_nil))))))))
(pss_one (ps_ret pe_bl))
pss_nil)
(pss_one (ps_if (pt_cmpR op_eq (pe_ix ix_tup (pv 3) pe_int (fun _ _ => rfl)) pe_str (nomark _))
(pss_cons (ps_set (i := 7) sc_law.nd rfl (.inl rfl) (pe_ix ix_tup (pv 3) pe_int (fun _ _ => rfl)))
(pss_one (ps_if (pt_not (pt_val (pe_callG G_law_alike hgd (hr.mono (by decide)) (by rfl) g_law_alike F_law_alike.kp b_law_alike .nil (pa_cons (pe_call G_read_event (hr.mono (by decide)) (by rfl) g_read_event F_read_event.kp b_read_event .nil pass0 (pa_cons pe_int (pa_cons (pv 4) pa_nil))) (pa_cons (pe_tup (pa_cons pe_str (pa_cons (pe_op op_catA (pe_tup (pa_cons (pe_ix ix_tup (pv 7) pe_int (fun _ _ => rfl)) (pa_cons pe_int pa_nil))) (pe_slice sl_tup (pv 7) (po_some pe_int) po_none)) pa_nil))) pa_nil)))))
(pss_one (ps_ret pe_bl))
pss_nil)))
pss_nil))))))))))
(pss_cons (ps_for PassesOwn.never rfl (pi_tup (pe_tup (pa_cons pe_str (pa_cons pe_str (pa_cons pe_str (pa_cons pe_str (pa_cons pe_str (pa_cons pe_str (pa_cons pe_str (pa_cons pe_str (pa_cons pe_str (pa_cons pe_str (pa_cons pe_str (pa_cons pe_str (pa_cons pe_str pa_nil))))))))))))))) (pg_name (i := 8) sc_law.nd rfl (.inl rfl))
(pss_one (ps_if (pt_cmp (pc_notN (pe_call G_read_event (hr.mono (by decide)) (by rfl) g_read_event F_read_event.kp b_read_event .nil pass0 (pa_cons pe_int (pa_cons (pv 8) pa_nil)))))
(pss_one (ps_ret pe_bl))
pss_nil)))
(pss_one (ps_ret pe_bl))))), ?_⟩
    refine ⟨_, rfl, a, ns, rfl, hS, fun dg ds H1 s1 nd hd => ⟨by show 2 ≤ sizeLine; decide, fun b nb => ?_⟩⟩
    have B0 : Bx (upd H1 b (.lst [.ref dg, .int 0])) b dg ds := ⟨0, upd_same, by rw [upd_ne (ne_of_none hd nb)]; exact hd⟩
    refine ⟨12, rfl, by decide, by decide, for_range (lo := 0) (n := 12) (fun i σ H' => ∃ v2 v3 v4 v5 v6 v7 v8, σ = [some (.ref a), some (.ref b), v2, v3, v4, v5, v6, v7, v8] ∧ Bx H' b dg ds) ⟨_, _, _, _, _, _, _, rfl, B0⟩ ?_ ?_⟩
    · rintro i σ H2 hi ⟨v2, v3, v4, v5, v6, v7, v8, rfl, B2⟩
      refine ⟨_, rfl, b, dg, ds, rfl, B2, fun e p H3 hW hMe hle f3 B3 hD3 => ?_⟩
      have fits := fun (e : Ev) (h : Wf e) (hm : ∃ me, In5 me ∧ With me e) (hl : (wd e).length ≤ 700) => (sh_dat h hm hl).fits
      have tl : (text e).length ≤ 264 := by
        have := text_len hW
        omega
      have gt : Good (text e) := ⟨text_asc hW, by omega⟩
      have two : In5 2 := ⟨by decide, by decide⟩
      refine ⟨_, rfl, p, e, rfl, hD3, hW, by omega, fun H4 s4 => ?_⟩
      have hD4 := dp_same s4 hD3
      refine ⟨_, rfl, p, e, rfl, hD4, hW, by omega, fun H5 s5 => ⟨_, rfl, rfl, _, rfl, ite2 (fun z => (bne_t z rfl).elim) (fun _ => ?_)⟩⟩
      refine ⟨_, rfl, 2, text e, rfl, gt, fun v H6 s6 out => ?_⟩
      rw [rd_of hW hMe] at out
      obtain ⟨od, p6, rfl⟩ := out
      have hD6 := dp_same (s5.trans s6) hD4
      refine ⟨_, rfl, p6, p, dat e, rfl, od, hD6, fits e hW ⟨2, two, hMe⟩ (by omega), _, rfl, iteF ?_⟩
      have B6 := bx_sm ((s4.trans s5).trans s6) B3
      refine ⟨_, rfl, _, rfl, b, dg, ds, text e, rfl, B6, gt.asc, text_pos hW, tl, fun o H7 go f7 B7 => ?_⟩
      have hD7 := dp_fx f7 B6 (noL_dat e) hD6
      refine ⟨_, rfl, 2, o, rfl, go, fun v H8 s8 out => ?_⟩
      have hD8 := dp_same s8 hD7
      have B8 := bx_sm s8 B7
      refine ⟨fun σ H9 => σ = [some (.ref a), some (.ref b), some (.int (0 + (i : Int))), some (.ref p), some (.str (text e)), some (.str o), some v, v7, v8] ∧ Bx H9 b dg ds ∧ Dp K H9 (.ref p) (dat e), ?_, ?_⟩
      · cases hrd : rd 2 o with
        | none =>
          rw [hrd] at out
          obtain rfl : v = .non := out
          exact ⟨_, rfl, _, rfl, iteF ⟨rfl, B8, hD8⟩⟩
        | some e2 =>
          rw [hrd] at out
          obtain ⟨od2, p8, rfl⟩ := out
          obtain ⟨hW2, hM2⟩ := rd_wf' go.asc hrd
          have hl2 : (wd e2).length ≤ 700 := by
            have := rd_len hrd
            have := go.len
            omega
          have ht2 : text e2 = o := rd_text hrd
          refine ⟨_, rfl, _, rfl, iteT ⟨_, rfl, p8, e2, rfl, od2, hW2, hl2, fun H9 s9 => ⟨_, rfl, rfl, _, rfl, ite2 (fun z => (bne_t z (by rw [ht2])).elim) (fun _ => ?_)⟩⟩⟩
          have od9 := dp_same s9 od2
          refine ⟨_, rfl, p8, e2, rfl, od9, hW2, hl2, fun H10 s10 => ?_⟩
          refine ⟨2, text e2, rfl, by rw [ht2]; exact go, fun u H11 s11 out2 => ?_⟩
          rw [ht2, hrd] at out2
          obtain ⟨od3, p9, rfl⟩ := out2
          have sA := (s9.trans s10).trans s11
          refine ⟨_, rfl, p9, p8, dat e2, rfl, od3, dp_same sA od2, fits e2 hW2 ⟨2, two, hM2⟩ hl2, _, rfl, iteF ?_⟩
          exact ⟨rfl, bx_sm sA B8, dp_same sA hD8⟩
      · rintro σ H9 ⟨rfl, B9, hD9⟩
        have g1 : Good (text e ++ sps) := ⟨asc_cat gt.asc asc_sps, by rw [Str.length_append, show sps.length = 1 by decide +kernel]; omega⟩
        have g2 : Good (sps ++ text e) := ⟨asc_cat asc_sps gt.asc, by rw [Str.length_append, show sps.length = 1 by decide +kernel]; omega⟩
        refine ⟨_, rfl, _, _, rfl, rfl, (by rw [sizeLine_eq, show Str.length (" " : Str) = 1 by decide +kernel]; omega), 2, text e ++ sps, rfl, g1, fun u H10 s10 out => ?_⟩
        rw [rd_after hW] at out
        obtain rfl : u = .non := out
        refine ⟨_, rfl, iteF ⟨_, rfl, _, _, rfl, rfl, (by rw [sizeLine_eq, show Str.length (" " : Str) = 1 by decide +kernel]; omega), 2, sps ++ text e, rfl, g2, fun u H11 s11 out => ?_⟩⟩
        rw [rd_ahead hW] at out
        obtain rfl : u = .non := out
        refine ⟨_, rfl, iteF ?_⟩
        have B11 := bx_sm (s10.trans s11) B9
        have hD11 := dp_same (s10.trans s11) hD9
        obtain ⟨es, ed⟩ := dat_head e
        have hDx := hD11
        rw [ed] at hDx
        obtain ⟨pa, xs, epa, hx, hds⟩ := dp_tup hDx
        cases epa
        cases hds with
        | cons hw hds => cases hw with
        | str =>
        rename_i ys
        refine ⟨_, rfl, p, _, 0, _, rfl, rfl, hx, atI_nat (j := 0) rfl, rfl, _, rfl, ite2 (fun z => ?_) (fun _ => ?_)⟩
        · obtain ⟨s', me, n, seen, held, c, rfl⟩ := word_rcv hW (V.str.inj (of_decide_eq_true z))
          have e1 : es = [.tuple [.int s', .int me, .int n, .int seen, .tuple (held.map .int), .tuple (c.map crD)]] := (List.cons.inj (PyData.tuple.inj ed)).2.symm
          subst e1
          obtain ⟨pm, ph, pc, cs, rfl, M, hph, hpc⟩ : ∃ pm ph pc cs, ys = [.ref pm] ∧ MsgAt K H11 pm s' me n seen held c ph pc cs ∧ Dp K H11 (.ref ph) (.tuple (held.map .int)) ∧ Dp K H11 (.ref pc) (.tuple (c.map crD)) := by
            cases hds with
            | cons g1 t =>
              cases t
              obtain ⟨pm, xs, rfl, hx, hd⟩ := dp_tup g1
              cases hd with
              | cons h1 t => cases t with
              | cons h2 t => cases t with
              | cons h3 t => cases t with
              | cons h4 t => cases t with
              | cons h5 t => cases t with
              | cons h6 t =>
                cases t
                cases h1; cases h2; cases h3; cases h4
                have h5' := h5
                have h6' := h6
                obtain ⟨ph, ys, rfl, hy, hd⟩ := dp_tup h5
                rw [dpa_ints_inv hd] at hy
                obtain ⟨pc, cs, rfl, hc, hd⟩ := dp_tup h6
                exact ⟨pm, ph, pc, cs, rfl, ⟨hx, hy, hc, dpa_pairs cr_inv hd⟩, h5', h6'⟩
          refine ⟨_, rfl, p, _, 1, _, rfl, rfl, hx, atI_nat (j := 1) rfl, ?_⟩
          have hW3 : Wf (.rcv s' 3 n seen held c) := hW
          have et : text (.rcv s' 3 n seen held c) = text (.rcv s' me n seen held c) := rfl
          refine ⟨_, rfl, 3, text (.rcv s' me n seen held c), rfl, gt, fun u H12 s12 out => ?_⟩
          rw [← et, rd_of hW3 rfl] at out
          obtain ⟨od, p12, rfl⟩ := out
          have hx12 := sqt_same s12 hx
          have M12 := sqt_same s12 M.top
          refine ⟨_, rfl, pm, _, 0, _, rfl, rfl, M12, atI_nat (j := 0) rfl, by show 2 ≤ sizeLine; decide, fun t1 n1 => ?_⟩
          have z1 := same_new (o := .tup [.int s', .int 3]) (Same.refl H12) n1
          have ecut : cutV [.int s', .int me, .int n, .int seen, .ref ph, .ref pc] (some 2) none = [.int n, .int seen, .ref ph, .ref pc] := by
            rw [show (some (2 : Int)) = some ((2 : Nat) : Int) from rfl, cut_drop _ (by simp)]
            rfl
          refine ⟨_, rfl, 2, rfl, pm, _, rfl, sqt_same z1 M12, slice2 (by simp), fun t2 n2 => ?_⟩
          rw [ecut]
          have z2 := same_new (o := .tup [.int n, .int seen, .ref ph, .ref pc]) (Same.refl _) n2
          refine ⟨t1, t2, [.int s', .int 3], [.int n, .int seen, .ref ph, .ref pc], rfl, rfl, SqT.of (z2 _ _ upd_same), SqT.of upd_same, by show 6 ≤ sizeLine; decide, (fun z => nomatch z), (fun _ z => nomatch z), fun _ _ t3 n3 => ?_⟩
          have z3 := same_new (o := .tup [.int s', .int 3, .int n, .int seen, .ref ph, .ref pc]) (Same.refl _) n3
          refine ⟨by show 2 ≤ sizeLine; decide, fun t4 n4 => ?_⟩
          have z4 := same_new (o := .tup [.str "receive", .ref t3]) (Same.refl _) n4
          have zA := ((z1.trans z2).trans z3).trans z4
          refine ⟨p12, t4, dat (.rcv s' 3 n seen held c), rfl, dp_same zA od, ?_, fits (.rcv s' 3 n seen held c) hW3 ⟨3, ⟨by decide, by decide⟩, rfl⟩ (by have : (wd (.rcv s' 3 n seen held c)).length ≤ 24 := hle; omega), _, rfl, iteF ?_⟩
          · exact .tup (SqT.of upd_same) (.cons (.str _) (.cons (.tup (SqT.of (z4 _ _ upd_same)) (.cons (.int _) (.cons (.int _) (.cons (.int _) (.cons (.int _) (.cons (dp_same (s12.trans zA) hph) (.cons (dp_same (s12.trans zA) hpc) .nil))))))) .nil))
          · exact ⟨_, _, _, _, _, _, _, rfl, bx_sm (s12.trans zA) B11⟩
        · exact ⟨_, _, _, _, _, _, _, rfl, B11⟩
    · rintro σ H2 ⟨v2, v3, v4, v5, v6, v7, v8, rfl, B2⟩
      refine ⟨by show 13 ≤ sizeLine; decide, fun T nT => ?_⟩
      have hT : (upd H2 T (.tup ((bads.map (·.1)).map V.str))) T = some (.tup ((bads.map (·.1)).map V.str)) := upd_same
      refine ⟨T, rfl, ⟨_, SqT.of hT⟩, for_tup (xs := (bads.map (·.1)).map V.str) (fun i σ H' => ∃ v8, σ = [some (.ref a), some (.ref b), v2, v3, v4, v5, v6, v7, v8] ∧ H' T = some (.tup ((bads.map (·.1)).map V.str))) ⟨v8, rfl, hT⟩ (fun i σ H' _ h => by
        obtain ⟨_, _, h⟩ := h
        exact SqT.of h) ?_ ?_⟩
      · rintro i v σ H3 hv ⟨v8, rfl, h3⟩
        obtain ⟨z, hz, rfl⟩ := at_map hv
        obtain ⟨gz, rz⟩ := bad_none z (List.mem_of_getElem? hz)
        refine ⟨_, rfl, 0, z, rfl, gz, fun u H4 s4 out => ?_⟩
        rw [rz] at out
        obtain rfl : u = .non := out
        exact ⟨_, rfl, iteF ⟨_, rfl, s4 _ _ h3⟩⟩
      · rintro σ H3 ⟨v8, rfl, h3⟩
        exact q _
end
end K45
set_option Elab.async false
set_option linter.all false
set_option maxRecDepth 100000
set_option maxHeartbeats 8000000
namespace K45
open PySem PySem.Spec PyProof.Rows L2 Gd Com Bk Nw Xs
/-! K45i: what the top has written; the end. -/
theorem all_mk {l : PySem.W.OpenLaw} {w : World} {K : PySem.W.Frag} {h : Heap} {mg : Str → Option Value} {fa p0 p1 p2 p3 p4 p5 p6 p7 p8 p9 p10 p11 p12 p13 p14 p15 p16 p17 p18 : Addr} (X : K.In h) (G : h.Ns mainGlobals mg) (hfa : mg "law" = some (.ref fa))
    {od0 an0 od1 an1 od2 an2 od3 an3 od4 an4 od5 an5 od6 an6 od7 an7 od8 an8 od9 an9 od10 an10 od11 an11 od12 an12 od13 an13 od14 an14 od15 an15 od16 an16 od17 an17 od18 an18 : Option Addr} {sl0 sl1 sl2 sl3 sl4 sl5 sl6 sl7 sl8 sl9 sl10 sl11 sl12 sl13 sl14 sl15 sl16 sl17 sl18 : Array (Option Value)} {oc0 kV0 dc0 pm0 cd0 ct0 oc1 kV1 dc1 pm1 cd1 ct1 oc2 kV2 dc2 pm2 cd2 ct2 oc3 kV3 dc3 pm3 cd3 ct3 oc4 kV4 dc4 pm4 cd4 ct4 oc5 kV5 dc5 pm5 cd5 ct5 oc6 kV6 dc6 pm6 cd6 ct6 oc7 kV7 dc7 pm7 cd7 ct7 oc8 kV8 dc8 pm8 cd8 ct8 oc9 kV9 dc9 pm9 cd9 ct9 oc10 kV10 dc10 pm10 cd10 ct10 oc11 kV11 dc11 pm11 cd11 ct11 oc12 kV12 dc12 pm12 cd12 ct12 oc13 kV13 dc13 pm13 cd13 ct13 oc14 kV14 dc14 pm14 cd14 ct14 oc15 kV15 dc15 pm15 cd15 ct15 oc16 kV16 dc16 pm16 cd16 ct16 oc17 kV17 dc17 pm17 cd17 ct17 oc18 kV18 dc18 pm18 cd18 ct18 : Value}
    (a0 : PySem.W.nsIn K mainGlobals "is_rising" = some (some (.ref p0))) (l0 : K.lookup p0 = some ⟨oc0, od0, .func (PySem.W.fnOf "is_rising" "is_rising" (defArgs s_is_rising) (defBody s_is_rising) (defScope s_is_rising) .none kV0 dc0 pm0 an0 cd0 ct0), sl0⟩) (c0 : PySem.W.codeIn K cd0 "is_rising" = true) (k0 : PySem.W.keepIn K (.ref p0) = true)
    (a1 : PySem.W.nsIn K mainGlobals "write_event" = some (some (.ref p1))) (l1 : K.lookup p1 = some ⟨oc1, od1, .func (PySem.W.fnOf "write_event" "write_event" (defArgs s_write_event) (defBody s_write_event) (defScope s_write_event) .none kV1 dc1 pm1 an1 cd1 ct1), sl1⟩) (c1 : PySem.W.codeIn K cd1 "write_event" = true) (k1 : PySem.W.keepIn K (.ref p1) = true)
    (a2 : PySem.W.nsIn K mainGlobals "read_event" = some (some (.ref p2))) (l2 : K.lookup p2 = some ⟨oc2, od2, .func (PySem.W.fnOf "read_event" "read_event" (defArgs s_read_event) (defBody s_read_event) (defScope s_read_event) .none kV2 dc2 pm2 an2 cd2 ct2), sl2⟩) (c2 : PySem.W.codeIn K cd2 "read_event" = true) (k2 : PySem.W.keepIn K (.ref p2) = true)
    (a3 : PySem.W.nsIn K mainGlobals "read_numbers" = some (some (.ref p3))) (l3 : K.lookup p3 = some ⟨oc3, od3, .func (PySem.W.fnOf "read_numbers" "read_numbers" (defArgs s_read_numbers) (defBody s_read_numbers) (defScope s_read_numbers) .none kV3 dc3 pm3 an3 cd3 ct3), sl3⟩) (c3 : PySem.W.codeIn K cd3 "read_numbers" = true) (k3 : PySem.W.keepIn K (.ref p3) = true)
    (a4 : PySem.W.nsIn K mainGlobals "_is_number" = some (some (.ref p4))) (l4 : K.lookup p4 = some ⟨oc4, od4, .func (PySem.W.fnOf "_is_number" "_is_number" (defArgs s_is_number) (defBody s_is_number) (defScope s_is_number) .none kV4 dc4 pm4 an4 cd4 ct4), sl4⟩) (c4 : PySem.W.codeIn K cd4 "_is_number" = true) (k4 : PySem.W.keepIn K (.ref p4) = true)
    (a5 : PySem.W.nsIn K mainGlobals "_words_of_message" = some (some (.ref p5))) (l5 : K.lookup p5 = some ⟨oc5, od5, .func (PySem.W.fnOf "_words_of_message" "_words_of_message" (defArgs s_words_of_message) (defBody s_words_of_message) (defScope s_words_of_message) .none kV5 dc5 pm5 an5 cd5 ct5), sl5⟩) (c5 : PySem.W.codeIn K cd5 "_words_of_message" = true) (k5 : PySem.W.keepIn K (.ref p5) = true)
    (a6 : PySem.W.nsIn K mainGlobals "_read_receive" = some (some (.ref p6))) (l6 : K.lookup p6 = some ⟨oc6, od6, .func (PySem.W.fnOf "_read_receive" "_read_receive" (defArgs s_read_receive) (defBody s_read_receive) (defScope s_read_receive) .none kV6 dc6 pm6 an6 cd6 ct6), sl6⟩) (c6 : PySem.W.codeIn K cd6 "_read_receive" = true) (k6 : PySem.W.keepIn K (.ref p6) = true)
    (a7 : PySem.W.nsIn K mainGlobals "_read_carried" = some (some (.ref p7))) (l7 : K.lookup p7 = some ⟨oc7, od7, .func (PySem.W.fnOf "_read_carried" "_read_carried" (defArgs s_read_carried) (defBody s_read_carried) (defScope s_read_carried) .none kV7 dc7 pm7 an7 cd7 ct7), sl7⟩) (c7 : PySem.W.codeIn K cd7 "_read_carried" = true) (k7 : PySem.W.keepIn K (.ref p7) = true)
    (a8 : PySem.W.nsIn K mainGlobals "_sending" = some (some (.ref p8))) (l8 : K.lookup p8 = some ⟨oc8, od8, .func (PySem.W.fnOf "_sending" "_sending" (defArgs s_sending) (defBody s_sending) (defScope s_sending) .none kV8 dc8 pm8 an8 cd8 ct8), sl8⟩) (c8 : PySem.W.codeIn K cd8 "_sending" = true) (k8 : PySem.W.keepIn K (.ref p8) = true)
    (a9 : PySem.W.nsIn K mainGlobals "_removal" = some (some (.ref p9))) (l9 : K.lookup p9 = some ⟨oc9, od9, .func (PySem.W.fnOf "_removal" "_removal" (defArgs s_removal) (defBody s_removal) (defScope s_removal) .none kV9 dc9 pm9 an9 cd9 ct9), sl9⟩) (c9 : PySem.W.codeIn K cd9 "_removal" = true) (k9 : PySem.W.keepIn K (.ref p9) = true)
    (a10 : PySem.W.nsIn K mainGlobals "_law_cell" = some (some (.ref p10))) (l10 : K.lookup p10 = some ⟨oc10, od10, .func (PySem.W.fnOf "_law_cell" "_law_cell" (defArgs s_law_cell) (defBody s_law_cell) (defScope s_law_cell) .none kV10 dc10 pm10 an10 cd10 ct10), sl10⟩) (c10 : PySem.W.codeIn K cd10 "_law_cell" = true) (k10 : PySem.W.keepIn K (.ref p10) = true)
    (a11 : PySem.W.nsIn K mainGlobals "_law_digits" = some (some (.ref p11))) (l11 : K.lookup p11 = some ⟨oc11, od11, .func (PySem.W.fnOf "_law_digits" "_law_digits" (defArgs s_law_digits) (defBody s_law_digits) (defScope s_law_digits) .none kV11 dc11 pm11 an11 cd11 ct11), sl11⟩) (c11 : PySem.W.codeIn K cd11 "_law_digits" = true) (k11 : PySem.W.keepIn K (.ref p11) = true)
    (a12 : PySem.W.nsIn K mainGlobals "_law_draw" = some (some (.ref p12))) (l12 : K.lookup p12 = some ⟨oc12, od12, .func (PySem.W.fnOf "_law_draw" "_law_draw" (defArgs s_law_draw) (defBody s_law_draw) (defScope s_law_draw) .none kV12 dc12 pm12 an12 cd12 ct12), sl12⟩) (c12 : PySem.W.codeIn K cd12 "_law_draw" = true) (k12 : PySem.W.keepIn K (.ref p12) = true)
    (a13 : PySem.W.nsIn K mainGlobals "_law_rank" = some (some (.ref p13))) (l13 : K.lookup p13 = some ⟨oc13, od13, .func (PySem.W.fnOf "_law_rank" "_law_rank" (defArgs s_law_rank) (defBody s_law_rank) (defScope s_law_rank) .none kV13 dc13 pm13 an13 cd13 ct13), sl13⟩) (c13 : PySem.W.codeIn K cd13 "_law_rank" = true) (k13 : PySem.W.keepIn K (.ref p13) = true)
    (a14 : PySem.W.nsIn K mainGlobals "_law_alike" = some (some (.ref p14))) (l14 : K.lookup p14 = some ⟨oc14, od14, .func (PySem.W.fnOf "_law_alike" "_law_alike" (defArgs s_law_alike) (defBody s_law_alike) (defScope s_law_alike) .none kV14 dc14 pm14 an14 cd14 ct14), sl14⟩) (c14 : PySem.W.codeIn K cd14 "_law_alike" = true) (k14 : PySem.W.keepIn K (.ref p14) = true)
    (a15 : PySem.W.nsIn K mainGlobals "_law_event_text" = some (some (.ref p15))) (l15 : K.lookup p15 = some ⟨oc15, od15, .func (PySem.W.fnOf "_law_event_text" "_law_event_text" (defArgs s_law_event_text) (defBody s_law_event_text) (defScope s_law_event_text) .none kV15 dc15 pm15 an15 cd15 ct15), sl15⟩) (c15 : PySem.W.codeIn K cd15 "_law_event_text" = true) (k15 : PySem.W.keepIn K (.ref p15) = true)
    (a16 : PySem.W.nsIn K mainGlobals "_law_any_event" = some (some (.ref p16))) (l16 : K.lookup p16 = some ⟨oc16, od16, .func (PySem.W.fnOf "_law_any_event" "_law_any_event" (defArgs s_law_any_event) (defBody s_law_any_event) (defScope s_law_any_event) .none kV16 dc16 pm16 an16 cd16 ct16), sl16⟩) (c16 : PySem.W.codeIn K cd16 "_law_any_event" = true) (k16 : PySem.W.keepIn K (.ref p16) = true)
    (a17 : PySem.W.nsIn K mainGlobals "_law_spoilt" = some (some (.ref p17))) (l17 : K.lookup p17 = some ⟨oc17, od17, .func (PySem.W.fnOf "_law_spoilt" "_law_spoilt" (defArgs s_law_spoilt) (defBody s_law_spoilt) (defScope s_law_spoilt) .none kV17 dc17 pm17 an17 cd17 ct17), sl17⟩) (c17 : PySem.W.codeIn K cd17 "_law_spoilt" = true) (k17 : PySem.W.keepIn K (.ref p17) = true)
    (a18 : PySem.W.nsIn K mainGlobals "law" = some (some (.ref p18))) (l18 : K.lookup p18 = some ⟨oc18, od18, .func (PySem.W.fnOf "law" "law" (defArgs s_law) (defBody s_law) (defScope s_law) .none kV18 dc18 pm18 an18 cd18 ct18), sl18⟩) (c18 : PySem.W.codeIn K cd18 "law" = true) (k18 : PySem.W.keepIn K (.ref p18) = true)
    (z_len : PySem.W.nsIn K mainGlobals "len" = some none)
    (z_int : PySem.W.nsIn K mainGlobals "int" = some none)
    (z_str : PySem.W.nsIn K mainGlobals "str" = some none)
    (z_range : PySem.W.nsIn K mainGlobals "range" = some none)
    (z_list : PySem.W.nsIn K mainGlobals "list" = some none)
    (z_tuple : PySem.W.nsIn K mainGlobals "tuple" = some none)
    (z_all : PySem.W.nsIn K mainGlobals "all" = some none)
    (z_zip : PySem.W.nsIn K mainGlobals "zip" = some none)
    (z_sorted : PySem.W.nsIn K mainGlobals "sorted" = some none)
    (z_repr : PySem.W.nsIn K mainGlobals "repr" = some none)
    (z_isinstance : PySem.W.nsIn K mainGlobals "isinstance" = some none)
    (z_min : PySem.W.nsIn K mainGlobals "min" = some none)
    (z_max : PySem.W.nsIn K mainGlobals "max" = some none)
    {tk0 : Tok} (q0 : PySem.W.nsIn K mainGlobals "CARRIED_MOST" = some (some (.int 4 tk0)))
    {tk1 : Tok} (q1 : PySem.W.nsIn K mainGlobals "_DIGITS_MOST" = some (some (.int 5 tk1)))
    {D0 : Addr} {es0 : Array DictEntry} {dn0 : Nat} (da0 : PySem.W.nsIn K mainGlobals "_NUMBERS" = some (some (.ref D0))) (db0 : K.lookup D0 = some ⟨.type "dict", none, .dict es0 dn0, #[]⟩) (dd0 : es0.toList.map He.keyOf = He.keysIn w.params (nWords.map (·.1))) (de0 : (D0 == sysModules) = false) (df0 : es0.toList.map entV = nWords.map some)
    : ∃ fd : FuncData, (∀ (s : Shared) (v : Value), BindsTo s fd ⟨[v], []⟩ [("script", v)]) ∧ ∀ base : Heap, K.In base → base.Ns mainGlobals mg → FnG l.prog w K mg base 9 fa fd ["script"] (spLaw K) := by
  have e := hfa.symm.trans (PySem.W.mg_of X G a18)
  cases e
  have F0 := fun_mk (st := s_is_rising) l0 c0 k0
  have b0 := F0.binds (ps := ["row"]) fun _ _ _ _ _ _ us hl => match us, hl with | [_], _ => rfl
  have F1 := fun_mk (st := s_write_event) l1 c1 k1
  have b1 := F1.binds (ps := ["event"]) fun _ _ _ _ _ _ us hl => match us, hl with | [_], _ => rfl
  have F2 := fun_mk (st := s_read_event) l2 c2 k2
  have b2 := F2.binds (ps := ["number", "text"]) fun _ _ _ _ _ _ us hl => match us, hl with | [_, _], _ => rfl
  have F3 := fun_mk (st := s_read_numbers) l3 c3 k3
  have b3 := F3.binds (ps := ["words"]) fun _ _ _ _ _ _ us hl => match us, hl with | [_], _ => rfl
  have F4 := fun_mk (st := s_is_number) l4 c4 k4
  have b4 := F4.binds (ps := ["word"]) fun _ _ _ _ _ _ us hl => match us, hl with | [_], _ => rfl
  have F5 := fun_mk (st := s_words_of_message) l5 c5 k5
  have b5 := F5.binds (ps := ["message"]) fun _ _ _ _ _ _ us hl => match us, hl with | [_], _ => rfl
  have F6 := fun_mk (st := s_read_receive) l6 c6 k6
  have b6 := F6.binds (ps := ["number", "words"]) fun _ _ _ _ _ _ us hl => match us, hl with | [_, _], _ => rfl
  have F7 := fun_mk (st := s_read_carried) l7 c7 k7
  have b7 := F7.binds (ps := ["words"]) fun _ _ _ _ _ _ us hl => match us, hl with | [_], _ => rfl
  have F8 := fun_mk (st := s_sending) l8 c8 k8
  have b8 := F8.binds (ps := ["numbers"]) fun _ _ _ _ _ _ us hl => match us, hl with | [_], _ => rfl
  have F9 := fun_mk (st := s_removal) l9 c9 k9
  have b9 := F9.binds (ps := ["numbers"]) fun _ _ _ _ _ _ us hl => match us, hl with | [_], _ => rfl
  have F10 := fun_mk (st := s_law_cell) l10 c10 k10
  have b10 := F10.binds (ps := ["script", "k"]) fun _ _ _ _ _ _ us hl => match us, hl with | [_, _], _ => rfl
  have F11 := fun_mk (st := s_law_digits) l11 c11 k11
  have b11 := F11.binds (ps := ["script", "first", "last"]) fun _ _ _ _ _ _ us hl => match us, hl with | [_, _, _], _ => rfl
  have F12 := fun_mk (st := s_law_draw) l12 c12 k12
  have b12 := F12.binds (ps := ["box", "many"]) fun _ _ _ _ _ _ us hl => match us, hl with | [_, _], _ => rfl
  have F13 := fun_mk (st := s_law_rank) l13 c13 k13
  have b13 := F13.binds (ps := ["held", "number"]) fun _ _ _ _ _ _ us hl => match us, hl with | [_, _], _ => rfl
  have F14 := fun_mk (st := s_law_alike) l14 c14 k14
  have b14 := F14.binds (ps := ["one", "two"]) fun _ _ _ _ _ _ us hl => match us, hl with | [_, _], _ => rfl
  have F15 := fun_mk (st := s_law_event_text) l15 c15 k15
  have b15 := F15.binds (ps := ["event"]) fun _ _ _ _ _ _ us hl => match us, hl with | [_], _ => rfl
  have F16 := fun_mk (st := s_law_any_event) l16 c16 k16
  have b16 := F16.binds (ps := ["box"]) fun _ _ _ _ _ _ us hl => match us, hl with | [_], _ => rfl
  have F17 := fun_mk (st := s_law_spoilt) l17 c17 k17
  have b17 := F17.binds (ps := ["box", "text"]) fun _ _ _ _ _ _ us hl => match us, hl with | [_, _], _ => rfl
  have F18 := fun_mk (st := s_law) l18 c18 k18
  have b18 := F18.binds (ps := ["script"]) fun _ _ _ _ _ _ us hl => match us, hl with | [_], _ => rfl
  have A : All w K mg := ⟨⟨_, _, F0, PySem.W.mg_of X G a0, b0⟩, ⟨_, _, F1, PySem.W.mg_of X G a1, b1⟩, ⟨_, _, F2, PySem.W.mg_of X G a2, b2⟩, ⟨_, _, F3, PySem.W.mg_of X G a3, b3⟩, ⟨_, _, F4, PySem.W.mg_of X G a4, b4⟩, ⟨_, _, F5, PySem.W.mg_of X G a5, b5⟩, ⟨_, _, F6, PySem.W.mg_of X G a6, b6⟩, ⟨_, _, F7, PySem.W.mg_of X G a7, b7⟩, ⟨_, _, F8, PySem.W.mg_of X G a8, b8⟩, ⟨_, _, F9, PySem.W.mg_of X G a9, b9⟩, ⟨_, _, F10, PySem.W.mg_of X G a10, b10⟩, ⟨_, _, F11, PySem.W.mg_of X G a11, b11⟩, ⟨_, _, F12, PySem.W.mg_of X G a12, b12⟩, ⟨_, _, F13, PySem.W.mg_of X G a13, b13⟩, ⟨_, _, F14, PySem.W.mg_of X G a14, b14⟩, ⟨_, _, F15, PySem.W.mg_of X G a15, b15⟩, ⟨_, _, F16, PySem.W.mg_of X G a16, b16⟩, ⟨_, _, F17, PySem.W.mg_of X G a17, b17⟩, ⟨_, _, F18, PySem.W.mg_of X G a18, b18⟩, PySem.W.mg_none_of X G z_len, PySem.W.mg_none_of X G z_int, PySem.W.mg_none_of X G z_str, PySem.W.mg_none_of X G z_range, PySem.W.mg_none_of X G z_list, PySem.W.mg_none_of X G z_tuple, PySem.W.mg_none_of X G z_all, PySem.W.mg_none_of X G z_zip, PySem.W.mg_none_of X G z_sorted, PySem.W.mg_none_of X G z_repr, PySem.W.mg_none_of X G z_isinstance, PySem.W.mg_none_of X G z_min, PySem.W.mg_none_of X G z_max, ⟨_, PySem.W.mg_of X G q0, ⟨_, rfl⟩⟩, ⟨_, PySem.W.mg_of X G q1, ⟨_, rfl⟩⟩, ⟨_, PySem.W.mg_of X G da0, ⟨_, _, db0, He.keysLit_of dd0, de0, df0⟩⟩⟩
  exact ⟨_, fun s v => .of_eq rfl, fun base _ _ => ok_law A F18⟩
end K45
open PySem PySem.W PyProof.Rows
set_option maxRecDepth 100000 in
set_option maxHeartbeats 0 in
theorem PySem.Challenge.cw_keptbywitness_k45_events_written_and_rea_holds : PySem.Challenge.rw_keptbywitness_k45_events_written_and_rea.Holds := by
  w_on; o_law; k_head; (case hw => w_witness2)
  k_fill
  refine Gd.walkG (l := PySem.Challenge.rw_keptbywitness_k45_events_written_and_rea) (n := 63) (k := 9) (x := "script") (sp := fun w => K45.spLaw _) rfl (by decide) rfl ⟨rfl, by decide, by decide⟩ (fun w h Y => PySem.W.kIn_of Y) ?F (fun w H a ns hl _ hS => ⟨a, ns, rfl, hS, hl, fun _ => rfl⟩)
  case F =>
    intro w mg fa h KX G hmg
    refine' K45.all_mk KX G hmg ?a0 ?l0 ?c0 ?k0 ?a1 ?l1 ?c1 ?k1 ?a2 ?l2 ?c2 ?k2 ?a3 ?l3 ?c3 ?k3 ?a4 ?l4 ?c4 ?k4 ?a5 ?l5 ?c5 ?k5 ?a6 ?l6 ?c6 ?k6 ?a7 ?l7 ?c7 ?k7 ?a8 ?l8 ?c8 ?k8 ?a9 ?l9 ?c9 ?k9 ?a10 ?l10 ?c10 ?k10 ?a11 ?l11 ?c11 ?k11 ?a12 ?l12 ?c12 ?k12 ?a13 ?l13 ?c13 ?k13 ?a14 ?l14 ?c14 ?k14 ?a15 ?l15 ?c15 ?k15 ?a16 ?l16 ?c16 ?k16 ?a17 ?l17 ?c17 ?k17 ?a18 ?l18 ?c18 ?k18 ?z_len ?z_int ?z_str ?z_range ?z_list ?z_tuple ?z_all ?z_zip ?z_sorted ?z_repr ?z_isinstance ?z_min ?z_max ?q0 ?q1 ?da0 ?db0 ?dd0 ?de0 ?df0
    (case a0 => k_is)
    (case l0 => k_is)
    (case c0 => k_is)
    (case k0 => k_is)
    (case a1 => k_is)
    (case l1 => k_is)
    (case c1 => k_is)
    (case k1 => k_is)
    (case a2 => k_is)
    (case l2 => k_is)
    (case c2 => k_is)
    (case k2 => k_is)
    (case a3 => k_is)
    (case l3 => k_is)
    (case c3 => k_is)
    (case k3 => k_is)
    (case a4 => k_is)
    (case l4 => k_is)
    (case c4 => k_is)
    (case k4 => k_is)
    (case a5 => k_is)
    (case l5 => k_is)
    (case c5 => k_is)
    (case k5 => k_is)
    (case a6 => k_is)
    (case l6 => k_is)
    (case c6 => k_is)
    (case k6 => k_is)
    (case a7 => k_is)
    (case l7 => k_is)
    (case c7 => k_is)
    (case k7 => k_is)
    (case a8 => k_is)
    (case l8 => k_is)
    (case c8 => k_is)
    (case k8 => k_is)
    (case a9 => k_is)
    (case l9 => k_is)
    (case c9 => k_is)
    (case k9 => k_is)
    (case a10 => k_is)
    (case l10 => k_is)
    (case c10 => k_is)
    (case k10 => k_is)
    (case a11 => k_is)
    (case l11 => k_is)
    (case c11 => k_is)
    (case k11 => k_is)
    (case a12 => k_is)
    (case l12 => k_is)
    (case c12 => k_is)
    (case k12 => k_is)
    (case a13 => k_is)
    (case l13 => k_is)
    (case c13 => k_is)
    (case k13 => k_is)
    (case a14 => k_is)
    (case l14 => k_is)
    (case c14 => k_is)
    (case k14 => k_is)
    (case a15 => k_is)
    (case l15 => k_is)
    (case c15 => k_is)
    (case k15 => k_is)
    (case a16 => k_is)
    (case l16 => k_is)
    (case c16 => k_is)
    (case k16 => k_is)
    (case a17 => k_is)
    (case l17 => k_is)
    (case c17 => k_is)
    (case k17 => k_is)
    (case a18 => k_is)
    (case l18 => k_is)
    (case c18 => k_is)
    (case k18 => k_is)
    (case z_len => k_is)
    (case z_int => k_is)
    (case z_str => k_is)
    (case z_range => k_is)
    (case z_list => k_is)
    (case z_tuple => k_is)
    (case z_all => k_is)
    (case z_zip => k_is)
    (case z_sorted => k_is)
    (case z_repr => k_is)
    (case z_isinstance => k_is)
    (case z_min => k_is)
    (case z_max => k_is)
    (case q0 => k_is)
    (case q1 => k_is)
    (case da0 => k_is)
    (case db0 => k_is)
    (case dd0 => first | rfl | k_is)
    (case de0 => first | rfl | k_is)
    (case df0 => first | rfl | k_is)
