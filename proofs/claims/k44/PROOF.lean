import PyProof.Rows.All
import Wide.All
import OpenK.AllK
import Wide.FinOn
import HandS.Conv
import HandS.Deep
import HandS.DictComp
import HandS.DictTup
import HandS.Evl
import HandS.ForExc
import HandS.ForMost
import HandS.IsInst
import HandS.Iter
import HandS.ListItems
import HandS.More
import HandS.SortInts
import HandS.SortRule
import HandS.Style
import HandS.TupAny
import HandS.TupLen
import HandS.TupSets
import HandS.Walk
import HandS.WideBits
import KE.KDictWalk
import PyProof.ReprRoads
import PyProof.Rows.ChunkEnd
import PyProof.StrOps2
import PySem.Challenge.RW_keptbywitness_k44_any_block_is_read_so
set_option Elab.async false
set_option linter.all false
set_option maxRecDepth 100000
/-! G: a def's promise for calls under which no repr is under way; repr of data; the end of a row by such a promise. -/
namespace Gd
open PySem PySem.Spec PyProof.Rows L2

/-- like FnOk, for the arounds in which no guarded builtin runs -/
structure FnG (P : Program) (w : World) (K : PySem.W.Frag) (mg : Str → Option Value) (base : Heap) (k : Nat)
    (f : Addr) (fd : FuncData) (ps : List Str) (sp : Sp) : Prop where
  len : ∀ vs H Q E, sp vs H Q E → vs.length = ps.length
  run : ∀ (A : Around) (out : List Env) (s : Shared) (H : Hp) (ar : Args) (us : List Value) (vs : List V) (Q : VK) (E : XK),
    A.guards = some [] → Room k A → Env0 P w K mg base A out s H → BindsTo s fd ar (ps.zip us) → Vals vs us → sp vs H Q E →
    codeAny (model P w) A (.call (.ref f) ar) (CR CX0 out P w H s Q E) s

theorem FnG.of {P : Program} {w : World} {K : PySem.W.Frag} {mg : Str → Option Value} {base : Heap} {k : Nat}
    {f : Addr} {fd : FuncData} {ps : List Str} {sp : Sp} (F : FnOk P w K mg base CX0 k f fd ps sp) : FnG P w K mg base k f fd ps sp :=
  ⟨F.len, fun A out s H ar us vs Q E _ r e b v h => F.run A out s H ar us vs Q E r e b v h⟩

section
variable {X : Cx} {k : Nat} {f : Addr} {fd : FuncData} {ps : List Str} {sp : Sp} {dvs : List V} {ds : List Value} {E : XK} {x : Str}
  {p pos : Pos} {e : Expr} {es : List Expr} {t : TA}

theorem runG {pins : List (Addr × Obj)} {σ : L2.St} {H : Hp} {s : Shared} {Q : VK} {us : List Value} {vs : List V}
    (F : FnG X.prog X.w X.K X.mg X.base k f fd ps sp) (hgd : X.A.guards = some []) (hr : Room k X.A) (hb : Binds X.K fd ps ds) (hd : Vals dvs ds)
    (I : Inv X pins σ H s) (r : Vals vs us) (h : sp (vs ++ dvs) H Q E) :
    wpAny (model X.prog X.w) X.A (call (.ref f) us) (EP X pins σ Q) X.xe s := by
  have rr : Vals (vs ++ dvs) (us ++ ds) := r.append hd
  have ln : (us ++ ds).length = ps.length := rr.length.symm.trans (F.len _ _ _ _ h)
  have c := F.run X.A X.stack s H ⟨us, []⟩ (us ++ ds) (vs ++ dvs) Q E hgd hr I.env0 (hb s us I.kIn ln) rr h
  refine wpAny_call (codeAny_mono c ?_)
  intro res s' hq
  match res, hq with
  | .error _, hq => exact False.elim hq
  | .ok (.ret u), hq => exact I.after hq
  | .ok .next, hq => exact False.elim hq
  | .ok .brk, hq => exact False.elim hq
  | .ok .cont, hq => exact False.elim hq

theorem pe_callG (F : FnG X.prog X.w X.K X.mg X.base k f fd ps sp) (hgd : X.A.guards = some []) (hr : Room k X.A) (hg : Gl X x)
    (hm : X.mg x = some (.ref f)) (hk : PySem.W.keepIn X.K (.ref f) = true) (hb : Binds X.K fd ps ds) (hd : Vals dvs ds)
    (ha : PA X (e :: es) t) (hdb : (x == ("__debug__" : Str)) = false := by decide)
    (hse : starEach (e :: es) X.env = (false, eval e X.env) :: starEach es X.env := by rfl)
    (hpl : (backTo pos (starEach es X.env)).any (·.1) = false := by rfl) :
    PE X (.Call (.Name x p) (e :: es) [] pos) (tCall sp dvs (fun _ _ _ => False) t) := by
  constructor
  intro pins s σ H Q I h
  refine wpAny_Call_Name_kw (ld_glob I hg hm (PySem.W.callWith_K (h₀ := X.base) I.ok.mod.kin hk ?_ hse hpl) hdb)
  exact thn (ha.run pos pins s σ H _ I h) fun us s1 ⟨vs, H1, J, r, q⟩ => ⟨J.kIn, runG F hgd hr hb hd J r q⟩
end

theorem fn_G {P : Program} {w : World} {K : PySem.W.Frag} {mg : Str → Option Value} {base : Heap} {k : Nat} {f : Addr} {nm qual : Str} {st : Stmt} {fd : FuncData}
    {N ps : List Str} {sp : Sp} (F : Fun K nm qual st f fd) (S : FnScope N ps (defScope st)) (len : ∀ vs H Q E, sp vs H Q E → vs.length = ps.length)
    (body : ∀ (cdv : Value) (A : Around) (out : List Env) (s : Shared) (H : Hp) (vs : List V) (Q : VK) (E : XK), A.guards = some [] →
      Room k (A.deeper (envOfC qual (defScope st) s.heap.objs.size f cdv)) → sp vs H Q E →
      ∃ t, PSs (cxOf CX0 P w K mg base N qual (defScope st) f cdv A out s H E).nox (defBody st) t ∧ t { nx := fun _ H' => Q .non H', rt := Q } (start N vs) H) :
    FnG P w K mg base (k + 1) f fd ps sp := by
  obtain ⟨oc, od, kV, doc, pm, an, cdv, ct, osl, rfl, lk, hcd⟩ := F.ex
  refine ⟨len, ?_⟩
  intro A out s H ar us vs Q E hgd hr e0 hb r hsp
  have kin : K.In s.heap := e0.mod.kin.keeps fun b o z => (e0.bs b o z).1
  have lim : s.heap.NoLimit := e0.mod.nolimit.keeps fun b o z => (e0.bs b o z).1
  have kinds : ∀ y ∈ ps.zip us, (defScope st).names.lookup y.1 = some .local ∨
      ((defScope st).names.lookup y.1 = some .cell ∧ ((cellsFrom (s.heap.objs.size + 1) (defScope st).names []).lookup y.1).isSome = true) := by
    rintro ⟨n, v⟩ hy
    exact (S.par n (List.of_mem_zip hy).1).imp id fun q => ⟨q, PySem.W.cellsFrom_some _ _ _ (.inl q)⟩
  refine codeAny_call_function hr.depth (kin _ _ lk) rfl S.co S.gen rfl (PySem.W.codeRec_of kin hcd) (hb _ _ _ _ ?_)
  refine wpAny_newFunctionEnv_cells S.kind kinds ?_
  intro env he s1 x
  subst he
  refine ⟨lim.keeps x.toInCall.keep, codeAny_func ?_⟩
  obtain ⟨t, ht, hq⟩ := body cdv A out s H vs Q E hgd (hr.deeper _) hsp
  have I := inv_start (CX := CX0) (qual := qual) (f := f) (cd := cdv) (E := E) (w := w) S hr.hd e0 (len _ _ _ _ hsp) r x
  refine wpAny_mono (ht.nox.run [] s1 (start N vs) H _ I hq) ?_ fun _ _ z => z
  intro fl s' hs
  have fin : ∀ {σ' : L2.St} {H' : Hp} {v : V} {u : Value}, Inv (cxOf CX0 P w K mg base N qual (defScope st) f cdv A out s H E) [] σ' H' s' →
      RelV v u → Q v H' → CE out P w H s Q u s' := fun J rv q => ⟨_, _, J.os, J.bare, J.base, J.hok, rv, q⟩
  match fl, hs with
  | .ret u, ⟨v, σ', H', J, rv, q⟩ => exact fin J rv q
  | .next, ⟨σ', H', J, q⟩ => exact fin (v := V.non) (u := Value.none) J rfl q
  | .brk, ⟨_, _, _, q⟩ => exact False.elim q
  | .cont, ⟨_, _, _, q⟩ => exact False.elim q

/-! ### repr of data -/
def rRepr (K : PySem.W.Frag) : List V → Hp → VK → Prop := fun xs H Q => ∃ (a : Addr) (d : PyData), xs = [.ref a] ∧ Dp K H (.ref a) d ∧
  d.showable = true ∧ d.hasDict = false ∧ d.depth ≤ 60 ∧ d.shown.length ≤ sizeLine ∧ Q (.str d.shown) H
theorem call_reprG {X : Cx} (hgd : X.A.guards = some []) (hu : X.A.units + 64 < cLine) : CallR X (.builtin "repr") (rRepr X.K) := by
  intro pins s σ H xs us Q I r h
  obtain ⟨a, d, rfl, hD, hs, hn, hdp, hz, q⟩ := h
  obtain ⟨u, rfl, rx⟩ := vals1 r
  obtain rfl : u = Value.ref a := rx
  obtain ⟨as, rd⟩ := Dp.reads I d (.ref a) (.ref a) hD rfl
  refine repr_of_reads' rd hs (fun z => ?_) hgd (by omega) (fun _ _ z => z) (fun h' v tk keep => ?_) hz
  · rw [hn] at z
    cases z
  · exact ⟨.str d.shown, H, I.kept keep, ⟨_, rfl⟩, q⟩

/-! ### l.extend(t), t a tuple -/
def rExtT (K : PySem.W.Frag) : V → List V → Hp → VK → Prop := fun x vs H Q => ∃ (l b : Addr) (xs zs : List V), x = .ref l ∧ vs = [.ref b] ∧
  H l = some (.lst xs) ∧ SqT K H b zs ∧ xs.length + zs.length ≤ sizeLine ∧ Q .non (upd H l (.lst (xs ++ zs)))
theorem ext_meets (l : Addr) (its : Array Value) (n : Nat) (b : Addr) (more : Array Value) (m : Nat) (dd : Option Addr) (sl : Array (Option Value))
    (h0 : ¬(!its.isEmpty && Builtin.List.listTooLong (its.size + more.size)) = true) (h1 : its.size ≤ sizeLine) (h2 : its.size + more.size ≤ sizeLine + 1) :
    Meets (Builtin.«list.extend» ⟨[.ref l, .ref b], []⟩) (fun _ R s =>
      s.heap.get? l = some { cls := .type "list", dict := none, data := .seq its n, slots := #[] } ∧
      s.heap.get? b = some { cls := .type "tuple", dict := dd, data := .seq more m, slots := sl } ∧
      R (.ok (.ret Value.none)) { s with heap := s.heap.update l (Obj.mapSeq fun x => x ++ more), toks := s.toks }) := by
  refine .of_wp fun prog w A R s h => ?_
  obtain ⟨hp, g, d, tk, os⟩ := s
  obtain ⟨hl, hb, h⟩ := h
  have f1 := AutoSeq1.idx_int
  have f2 := AutoSeq1.sub_tuple_tuple
  have f3 := AutoSeq1.sub_list_list
  have f4 := AutoSeq1.sub_tuple_list
  have f5 := AutoSeq1.sub_list_tuple
  have hz : (its ++ more).size ≤ sizeLine + 1 := by
    rw [Array.size_append]
    exact h2
  wp_walk using (wpAny_updateSeq hl rfl (hz := h1) (_hz' := hz)), AutoSeq1.wpAny_loadPart' hl, AutoSeq1.wpAny_loadPart' hb
  exact ⟨_, rfl, h⟩
theorem mt_extT {X : Cx} : MtM X "list.extend" (rExtT X.K) := by
  intro pins s σ H x vs v us Q I rx rv h
  obtain ⟨l, b, xs, zs, rfl, rfl, hH, hB, hz, q⟩ := h
  cases rx
  obtain ⟨u, rfl, ru⟩ := rv.one
  cases ru
  obtain ⟨z, its, n, r, hl, e⟩ := I.lstM hH
  obtain ⟨its2, r2, ⟨o, e2, hc, m, hd⟩, z2⟩ := I.tuple hB
  have l2 := r2.length
  obtain ⟨cls, dd, dat, sl⟩ := o
  cases hc
  cases hd
  have sz : its.toArray.size + its2.toArray.size ≤ sizeLine := by
    rw [List.size_toArray, List.size_toArray]
    omega
  refine call_meets F.slot_list_extend ⟨_, e, rfl⟩ F.entry_list_extend (F.args_list_extend_2 _ _)
    (ext_meets l its.toArray n b its2.toArray m dd sl (by rw [notLongL sz, Bool.and_false]; exact Bool.false_ne_true) (by omega) (by omega)) ⟨e, e2, ?_⟩
  refine ⟨.non, _, I.lset (its' := its ++ its2) hH e (by simp) (r.append r2) ?_, rfl, q⟩
  rw [List.length_append]
  omega

/-! ### the end of a row -/
section
variable {P : Program} {w : World} {K : PySem.W.Frag} {mg mb : Str → Option Value} {k : Nat} {fa a : Addr} {fd : FuncData} {x : Str} {sp : Sp} {s1 : Shared}
  {vs : List Value} {ns : List Int} {H : Hp}

theorem coreG (KX : K.In s1.heap) (hns : s1.heap.Ns mainGlobals mg) (hb : s1.heap.Ns builtinsNs mb) (hbb : ∀ x : Str, x ≠ "__name__" → mb x = bootBuiltins x)
    (hlim : s1.heap.NoLimit) (hg : s1.gens = #[]) (ha : s1.heap.get? a = some { cls := .type "list", data := .seq vs.toArray }) (hr : Room k callerA)
    (F : ∀ base : Heap, K.In base → base.Ns mainGlobals mg → FnG P w K mg base k fa fd [x] sp)
    (hbind : ∀ (s : Shared) (u : Value), BindsTo s fd ⟨[u], []⟩ [(x, u)])
    (hO : Only H) (hok : HOk P w H s1.heap) (one : ∀ b, H b ≠ none → b = a) (apart : H a ≠ none → K.lookup a = none)
    (hsp : sp [.ref a] H (fun v _ => v = .bl true) fun _ _ _ => False) :
    codeAny (model P w) callerA (.call (.ref fa) ⟨[.ref a], []⟩)
      (fun r s' => r = .ok (.ret (.bool true)) ∧ OldK s1.heap s'.heap ∧ s'.os = s1.os ∧ AllBare s'.gens) s1 := by
  have un : ∀ {b : Addr} {o : Obj}, s1.heap.get? b = some o → (b = a → False) → H b = none := fun {b o} _ h => by
    cases q : H b with
    | none => rfl
    | some u => exact (h (one b (by rw [q]; exact fun z => nomatch z))).elim
  have nd : ∀ {b : Addr} {o : Obj} {es : Array DictEntry} {ep : Nat}, s1.heap.get? b = some o → o.data = .dict es ep → H b = none := fun {b o es ep} e d =>
    un e fun z => by
      subst z
      rw [ha] at e
      cases e
      exact nomatch (d : Data.seq vs.toArray _ = Data.dict es ep)
  have ns' : ∀ {b : Addr} {m : Str → Option Value}, s1.heap.Ns b m → (hidT s1.heap H).Ns b m := fun {b m} h => by
    obtain ⟨o, es, ep, e, d, r⟩ := h
    exact ⟨o, es, ep, hidT_get e (nd e d), d, r⟩
  have kin : K.In (hidT s1.heap H) := fun b o e => by
    refine hidT_get (KX b o e) ?_
    cases q : H b with
    | none => rfl
    | some u =>
      have eb : b = a := one b (by rw [q]; exact fun z => nomatch z)
      subst eb
      have z := apart (by rw [q]; exact fun z => nomatch z)
      rw [z] at e
      cases e
  obtain ⟨mc, l1, l2⟩ := hlim
  have hM : Mod K mg (hidT s1.heap H) := ⟨kin, ns' hns, ⟨mb, ns' hb, hbb⟩, ⟨mc, ns' l1, l2⟩⟩
  have e0 : Env0 P w K mg (hidT s1.heap H) callerA [] s1 H :=
    { frames := rfl, mod := hM, bs := fun b o z => of_hidT z, bsz := Nat.le_of_eq (hidT_size _ _), funs := trivial, frf := fun b z => (List.not_mem_nil (show b ∈ ([] : List Addr) from z)).elim, hok := hok, bare := .of_eq hg }
  have run := (F _ kin (ns' hns)).run callerA [] s1 H ⟨[.ref a], []⟩ [.ref a] [.ref a] _ _ rfl hr e0 (hbind s1 (.ref a)) (.cons rfl .nil) hsp
  refine codeAny_mono run fun r s' h => ?_
  match r, h with
  | .error _, h => exact False.elim h
  | .ok .next, h => exact False.elim h
  | .ok .brk, h => exact False.elim h
  | .ok .cont, h => exact False.elim h
  | .ok (.ret u), ⟨v, H', os, bare, u2, hok', r', q⟩ =>
    obtain rfl : v = .bl true := q
    obtain rfl : u = Value.bool true := r'
    refine ⟨rfl, OldK.of_keep fun b o e => ?_, os, bare⟩
    cases q : H b with
    | none => exact u2.keep b o e q (fun z => nomatch z) (fun z => nomatch z)
    | some y =>
      rcases hO b with z | ⟨ob, xs, z⟩
      · rw [q] at z
        cases z
      · obtain ⟨e1, _⟩ := hok b _ z
        obtain ⟨e2, _⟩ := hok' b _ (u2.frzs b ob _ z)
        rw [e] at e1
        cases e1
        exact e2

theorem lawG (KX : K.In s1.heap) (hns : s1.heap.Ns mainGlobals mg) (hb : s1.heap.Ns builtinsNs mb) (hbb : ∀ x : Str, x ≠ "__name__" → mb x = bootBuiltins x)
    (hlim : s1.heap.NoLimit) (hg : s1.gens = #[]) (ha : s1.heap.get? a = some { cls := .type "list", data := .seq vs.toArray }) (hi : IntsAre vs ns)
    (hl : ns.length ≤ sizeLine) (hr : Room k callerA)
    (F : ∀ base : Heap, K.In base → base.Ns mainGlobals mg → FnG P w K mg base k fa fd [x] sp)
    (hbind : ∀ (s : Shared) (u : Value), BindsTo s fd ⟨[u], []⟩ [(x, u)])
    (hsp : ∀ H : Hp, Only H → SqL K H a (ns.map V.int) → sp [.ref a] H (fun v _ => v = .bl true) fun _ _ _ => False) :
    codeAny (model P w) callerA (.call (.ref fa) ⟨[.ref a], []⟩)
      (fun r s' => r = .ok (.ret (.bool true)) ∧ OldK s1.heap s'.heap ∧ s'.os = s1.os ∧ AllBare s'.gens) s1 := by
  have rv := vals_ints hi
  have lv := hi.length
  cases hk : K.lookup a with
  | some o =>
    have e := KX a o hk
    rw [ha] at e
    cases e
    have S : SqL K (fun _ => none) a (ns.map V.int) := .inr ⟨_, vs.toArray, _, hk, rfl, rfl, rfl, by rw [List.size_toArray, lv]; exact hl, rv⟩
    have O : Only (fun _ => none) := fun _ => .inl rfl
    exact coreG (H := fun _ => none) KX hns hb hbb hlim hg ha hr F hbind O (fun b u z => nomatch (z : (none : Option HO) = some u)) (fun b z => absurd rfl z) (fun z => absurd rfl z) (hsp _ O S)
  | none =>
    let o : Obj := { cls := .type "list", data := .seq vs.toArray }
    let G : Hp := fun b => if b = a then some (.frz o (.lst (ns.map V.int))) else none
    have Ga : G a = some (.frz o (.lst (ns.map V.int))) := if_pos rfl
    have Gn : ∀ b, b ≠ a → G b = none := fun b h => if_neg h
    have O : Only G := fun b => by
      by_cases q : b = a
      · subst q
        exact .inr ⟨_, _, Ga⟩
      · exact .inl (Gn b q)
    have ok : HOk P w G s1.heap := fun b u z => by
      by_cases q : b = a
      · subst q
        rw [Ga] at z
        cases z
        exact ⟨ha, by rw [List.length_map]; exact hl, vs, _, rv, ha⟩
      · rw [Gn b q] at z
        cases z
    refine coreG (H := G) KX hns hb hbb hlim hg ha hr F hbind O ok (fun b z => ?_) (fun _ => hk) (hsp G O (.inl (.inr ⟨o, Ga⟩)))
    by_cases q : b = a
    · exact q
    · exact absurd (Gn b q) z
end

theorem walkG {l : PySem.W.OpenLaw} {n k : Nat} {q : Program} {loose : List Str} {XP : (Str → Option Value) → Heap → Prop} {YP : World → Heap → Prop} {d : DefRec}
    {K : Params → PySem.W.Frag} {sp : World → Sp} {x : Str} (hn : l.most = some n) (hn2 : n ≤ sizeLine) (hdf : d.params.defaults = []) (hr : Room k callerA)
    (hY : ∀ (w : World) (h : Heap), YP w h → (K w.params).In h)
    (F : ∀ (w : World) (mg : Str → Option Value) (fa : Addr) (h : Heap), (K w.params).In h → h.Ns mainGlobals mg → mg d.name = some (.ref fa) →
      ∃ fd : FuncData, (∀ (s : Shared) (u : Value), BindsTo s fd ⟨[u], []⟩ [(x, u)]) ∧
        ∀ base : Heap, (K w.params).In base → base.Ns mainGlobals mg → FnG l.prog w (K w.params) mg base k fa fd [x] (sp w))
    (hsp : ∀ (w : World) (H : Hp) (a : Addr) (ns : List Int), ns.length ≤ n → Only H → SqL (K w.params) H a (ns.map V.int) →
      sp w [.ref a] H (fun v _ => v = .bl true) fun _ _ _ => False) :
    PySem.W.WalkO q loose XP YP l.row.toRowW d [] (fun f vs => PySem.call f vs) := by
  refine Att.attach_call hn hdf ?_
  intro w s0 s1 mg mb fa o pm cd doc a vs ns G Y ho hd hcd hmg hobj hints hlen hg
  have KX := hY w _ Y
  obtain ⟨fd, hb, hF⟩ := F w mg fa _ KX G.T.g hmg
  exact lawG KX G.T.g G.T.b G.T.builtins G.T.nolimit hg hobj hints (Nat.le_trans hlen hn2) hr hF hb fun H hO hS => hsp w H a ns hlen hO hS
end Gd
set_option Elab.async false
set_option linter.all false
set_option maxRecDepth 100000
/-! G2: small data: what repr and == ask of it. -/
namespace Gd
open PySem PySem.Spec PyProof.Rows L2
structure Sh (dp wt : Nat) (d : PyData) : Prop where
  s : d.showable = true
  n : d.hasDict = false
  dl : d.depth ≤ dp
  l : d.leavesShort 13 = true
  c : d.canLay0 = true
  w : d.weight ≤ wt
theorem Sh.none : Sh 0 64 .none := ⟨rfl, rfl, by simp [PyData.depth], rfl, rfl, by simp [PyData.weight]⟩
theorem Sh.bool (b : Bool) : Sh 0 64 (.bool b) := ⟨rfl, rfl, by simp [PyData.depth], rfl, rfl, by simp [PyData.weight]⟩
theorem log_lt {n k : Nat} (h : n < 2 ^ k) (hk : 0 < k) : n.log2 < k := PySem.Flt.log2_lt_of hk h
theorem Sh.int {i : Int} (h : i.natAbs < 10 ^ 12) : Sh 0 64 (.int i) := by
  have h63 : i.natAbs < 2 ^ 63 := by omega
  have lg := log_lt h63 (by decide)
  refine ⟨?_, rfl, by simp [PyData.depth], ?_, ?_, ?_⟩
  · simp only [PyData.showable]
    exact decide_eq_true (by omega)
  · simp only [PyData.leavesShort]
    exact decide_eq_true (PyData.shown_int_le h)
  · rfl
  · simp only [PyData.weight]
    split <;> omega
theorem Sh.str {x : Str} (h : ∀ c ∈ x.cps.toList, c < 0x110000) (hz : x.cps.size ≤ 64) : Sh 0 64 (.str x) := by
  have hc : PyData.canLay0 (.str x) = true := by
    simp only [PyData.canLay0, PyData.strOk]
    refine Array.all_eq_true_iff_forall_mem.mpr fun c hm => decide_eq_true (h c (Array.mem_toList_iff.mpr hm))
  refine ⟨rfl, rfl, by simp [PyData.depth], PyData.leavesShort_of_canLay0 13 _ hc rfl, hc, ?_⟩
  simp only [PyData.weight]
  exact hz
theorem Sh.mono {a b a' b' : Nat} {d : PyData} (h : Sh a b d) (h1 : a ≤ a') (h2 : b ≤ b') : Sh a' b' d := ⟨h.s, h.n, Nat.le_trans h.dl h1, h.l, h.c, Nat.le_trans h.w h2⟩
theorem Sh.all {dp wt : Nat} : ∀ {ds : List PyData}, (∀ d ∈ ds, Sh dp wt d) → PyData.showableAll ds = true ∧ PyData.hasDictAll ds = false ∧ PyData.depthAll ds ≤ dp ∧ PyData.leavesShortAll 13 ds = true ∧ PyData.canLayAll0 ds = true ∧ PyData.weightAll ds ≤ (wt + 1) * ds.length
  | [], _ => ⟨rfl, rfl, by simp [PyData.depthAll], rfl, rfl, by simp [PyData.weightAll]⟩
  | d :: ds, h => by
    obtain ⟨a1, a2, a3, a4, a5, a6⟩ := Sh.all (ds := ds) fun e he => h e (List.mem_cons_of_mem _ he)
    have x := h d List.mem_cons_self
    refine ⟨?_, ?_, ?_, ?_, ?_, ?_⟩
    · simp only [PyData.showableAll, a1, x.s, Bool.and_self]
    · simp only [PyData.hasDictAll, a2, x.n, Bool.or_self]
    · have := x.dl
      simp only [PyData.depthAll]
      omega
    · simp only [PyData.leavesShortAll, a4, x.l, Bool.and_self]
    · simp only [PyData.canLayAll0, a5, x.c, Bool.and_self]
    · have := x.w
      simp only [PyData.weightAll, List.length_cons, Nat.mul_succ]
      omega
theorem Sh.list {dp wt : Nat} {ds : List PyData} (h : ∀ d ∈ ds, Sh dp wt d) : Sh (dp + 1) ((wt + 1) * ds.length) (.list ds) := by
  obtain ⟨a1, a2, a3, a4, a5, a6⟩ := Sh.all h
  refine ⟨?_, ?_, ?_, ?_, ?_, ?_⟩
  · simp only [PyData.showable]; exact a1
  · simp only [PyData.hasDict]; exact a2
  · simp only [PyData.depth]; omega
  · simp only [PyData.leavesShort]; exact a4
  · simp only [PyData.canLay0]; exact a5
  · simp only [PyData.weight]; exact a6
theorem Sh.tup {dp wt : Nat} {ds : List PyData} (h : ∀ d ∈ ds, Sh dp wt d) : Sh (dp + 1) ((wt + 1) * ds.length) (.tuple ds) := by
  obtain ⟨a1, a2, a3, a4, a5, a6⟩ := Sh.all h
  refine ⟨?_, ?_, ?_, ?_, ?_, ?_⟩
  · simp only [PyData.showable]; exact a1
  · simp only [PyData.hasDict]; exact a2
  · simp only [PyData.depth]; omega
  · simp only [PyData.leavesShort]; exact a4
  · simp only [PyData.canLay0]; exact a5
  · simp only [PyData.weight]; exact a6
theorem Sh.fits {dp wt : Nat} {d : PyData} (h : Sh dp wt d) (h1 : dp ≤ 60 := by omega) (h2 : wt ≤ 1000000 := by omega) : d.showable = true ∧ d.hasDict = false ∧ d.depth ≤ 60 ∧ d.shown.length ≤ sizeLine :=
  ⟨h.s, h.n, Nat.le_trans h.dl h1, PyData.shown_fits (B := 13) (by decide) (by decide) h.l (Nat.le_trans (Nat.le_trans h.w h2) (by decide))⟩
theorem Sh.shaped {dp wt : Nat} {d : PyData} (h : Sh dp wt d) (h1 : dp ≤ 60 := by omega) : SeqAt.shaped d = true := by
  have := h.dl
  unfold SeqAt.shaped
  rw [h.c, decide_eq_true (by omega)]
  rfl
/-- a list of ints as data -/
theorem dp_ints {K : PySem.W.Frag} {H : Hp} : ∀ ns : List Int, DpAll K H (ns.map V.int) (ns.map PyData.int)
  | [] => .nil
  | n :: ns => .cons (.int n) (dp_ints ns)
theorem sh_ints {ns : List Int} (h : ∀ n ∈ ns, n.natAbs < 10 ^ 12) : Sh 1 (65 * ns.length) (.list (ns.map PyData.int)) := by
  have := Sh.list (dp := 0) (wt := 64) (ds := ns.map PyData.int) fun d hd => by
    obtain ⟨n, hn, rfl⟩ := List.mem_map.mp hd
    exact Sh.int (h n hn)
  rw [List.length_map] at this
  exact this
end Gd
set_option Elab.async false
set_option linter.all false
set_option maxRecDepth 100000
set_option maxHeartbeats 4000000
/-! Com: what several laws share: heaps that grow, the box of draws, references. -/
namespace Com
open PySem PySem.Spec PyProof.Rows L2 Gd
variable {K : PySem.W.Frag}
inductive Rf where
  | ob (i : Int)
  | im (o e : Int)
  deriving DecidableEq
theorem lt_size {n : Nat} (h : n ≤ 1000000) : n < sizeLine := Nat.lt_of_le_of_lt h (by decide)
theorem same_new {H H' : Hp} {p : Addr} {o : HO} (s : Same H H') (h : H' p = none) : Same H (upd H' p o) := fun b x e => by
  rw [upd_ne (ne_of_none (s b x e) h)]
  exact s b x e
theorem same_mut {H H' : Hp} {p : Addr} {o : HO} (s : Same H H') (h : H p = none) : Same H (upd H' p o) := fun b x e => by
  rw [upd_ne (ne_of_none e h)]
  exact s b x e
def Bx (H : Hp) (b dg : Addr) (ds : List Int) : Prop := ∃ n : Nat, H b = some (.lst [.ref dg, .int (n : Int)]) ∧ H dg = some (.lst (ds.map V.int))
/-- all stays but b -/
def Fx (b : Addr) (H H' : Hp) : Prop := ∀ c o, c ≠ b → H c = some o → H' c = some o
theorem Fx.refl (b : Addr) (H : Hp) : Fx b H H := fun _ _ _ h => h
theorem Fx.trans {b : Addr} {H H1 H2 : Hp} (a : Fx b H H1) (c : Fx b H1 H2) : Fx b H H2 := fun x o n h => c x o n (a x o n h)
theorem Fx.new {b p : Addr} {H H1 : Hp} {o : HO} (a : Fx b H H1) (h : H1 p = none) : Fx b H (upd H1 p o) := fun x u n e => by
  have := a x u n e
  rw [upd_ne (ne_of_none this h)]
  exact this
theorem Fx.mut {b p : Addr} {H H1 : Hp} {o : HO} (a : Fx b H H1) (h : H p = none) : Fx b H (upd H1 p o) := fun x u n e => by
  rw [upd_ne (ne_of_none e h)]
  exact a x u n e
theorem Bx.new {H : Hp} {b dg p : Addr} {ds : List Int} {o : HO} (B : Bx H b dg ds) (h : H p = none) : Bx (upd H p o) b dg ds := by
  obtain ⟨n, h1, h2⟩ := B
  exact ⟨n, by rw [upd_ne (ne_of_none h1 h)]; exact h1, by rw [upd_ne (ne_of_none h2 h)]; exact h2⟩
theorem Bx.upd {H : Hp} {b dg p : Addr} {ds : List Int} {o : HO} (B : Bx H b dg ds) (h1 : p ≠ b) (h2 : p ≠ dg) : Bx (upd H p o) b dg ds := by
  obtain ⟨n, e1, e2⟩ := B
  exact ⟨n, by rw [upd_ne h1.symm]; exact e1, by rw [upd_ne h2.symm]; exact e2⟩
theorem Bx.nb {H : Hp} {b dg p : Addr} {ds : List Int} (B : Bx H b dg ds) (h : H p = none) : p ≠ b ∧ p ≠ dg := by
  obtain ⟨n, e1, e2⟩ := B
  exact ⟨(ne_of_none e1 h).symm, (ne_of_none e2 h).symm⟩
theorem Fx.none {b p : Addr} {H H1 : Hp} (a : Fx b H H1) {dg : Addr} {ds : List Int} (B : Bx H b dg ds) (h : H1 p = Option.none) (B1 : Bx H1 b dg ds) : H p = Option.none := by
  cases e : H p with
  | none => rfl
  | some o =>
    have := a p o (B1.nb h).1 e
    rw [h] at this
    cases this
def RfV (H : Hp) : Option Rf → V → Prop
  | none, v => v = .non
  | some (.ob i), v => ∃ a, v = .ref a ∧ H a = some (.tup [.str "object", .int i])
  | some (.im o e), v => ∃ a, v = .ref a ∧ H a = some (.tup [.str "import", .int o, .int e])
abbrev RfAll (H : Hp) : List (Option Rf) → List V → Prop := Paired (RfV H)
/-- tuples stay -/
def TupS (H H' : Hp) : Prop := ∀ c xs, H c = some (.tup xs) → H' c = some (.tup xs)
theorem RfV.mono {H H' : Hp} (s : TupS H H') : ∀ {r : Option Rf} {v : V}, RfV H r v → RfV H' r v
  | none, _, h => h
  | some (.ob _), _, ⟨a, e, h⟩ => ⟨a, e, s _ _ h⟩
  | some (.im _ _), _, ⟨a, e, h⟩ => ⟨a, e, s _ _ h⟩
theorem RfAll.mono {H H' : Hp} (s : TupS H H') {rs : List (Option Rf)} {vs : List V} (h : RfAll H rs vs) : RfAll H' rs vs := Paired.mapP h fun _ _ x => x.mono s
theorem TupS.of_same {H H' : Hp} (s : Same H H') : TupS H H' := fun c xs e => s c _ e
theorem TupS.of_fx {H H' : Hp} {b dg : Addr} {ds : List Int} (f : Fx b H H') (B : Bx H b dg ds) : TupS H H' := fun c xs e => by
  obtain ⟨n, h1, _⟩ := B
  exact f c _ (ne_of e h1 (fun z => nomatch z)) e
theorem TupS.trans {H H1 H2 : Hp} (a : TupS H H1) (b : TupS H1 H2) : TupS H H2 := fun c xs e => b c xs (a c xs e)
theorem TupS.new {H H1 : Hp} {p : Addr} {o : HO} (a : TupS H H1) (h : H1 p = none) : TupS H (upd H1 p o) := fun c xs e => by
  have := a c xs e
  rw [upd_ne (ne_of_none this h)]
  exact this
theorem TupS.mut {H H1 : Hp} {p : Addr} {o u : HO} (a : TupS H H1) (h : H1 p = some u) (hu : ∀ xs, u ≠ .tup xs) : TupS H (upd H1 p o) := fun c xs e => by
  have := a c xs e
  rw [upd_ne (ne_of this h (fun z => hu xs z.symm))]
  exact this
theorem paired_app {α β : Type} {F : α → β → Prop} : ∀ {xs xs' : List α} {ys ys' : List β}, Paired F xs ys → Paired F xs' ys' → Paired F (xs ++ xs') (ys ++ ys')
  | _, _, _, _, .nil, h => h
  | _, _, _, _, .cons r t, h => .cons r (paired_app t h)
theorem paired_one {α β : Type} {F : α → β → Prop} {a : α} {b : β} (h : F a b) : Paired F [a] [b] := .cons h .nil
theorem valV_none {κ : Type} [DecidableEq κ] {kvs : List (κ × V)} {k : κ} (h : k ∉ kvs.map (·.1)) : valV kvs k = none := by
  unfold valV
  rw [Option.map_eq_none_iff, List.find?_eq_none]
  intro p hp z
  exact h (List.mem_map.mpr ⟨p, hp, of_decide_eq_true z⟩)
theorem nobimp : ¬ V.str "object" = V.str "import" := fun z => absurd (V.str.inj z) (by decide +kernel)
theorem nimpob : ¬ V.str "import" = V.str "object" := fun z => absurd (V.str.inj z) (by decide +kernel)
def rfD : Option Rf → PyData
  | none => .none
  | some (.ob i) => .tuple [.str "object", .int i]
  | some (.im o e) => .tuple [.str "import", .int o, .int e]
theorem rf_dp {H : Hp} : ∀ {r : Option Rf} {v : V}, RfV H r v → Dp K H v (rfD r)
  | none, v, h => by
    have e : v = .non := h
    subst e
    exact .non
  | some (.ob i), v, ⟨a, e, h⟩ => by
    subst e
    exact .tup (SqT.of h) (.cons (.str _) (.cons (.int _) .nil))
  | some (.im o e), v, ⟨a, e2, h⟩ => by
    subst e2
    exact .tup (SqT.of h) (.cons (.str _) (.cons (.int _) (.cons (.int _) .nil)))
theorem rf_dps {H : Hp} : ∀ {rs : List (Option Rf)} {vs : List V}, RfAll H rs vs → DpAll K H vs (rs.map rfD)
  | _, _, .nil => .nil
  | _, _, .cons h t => .cons (rf_dp h) (rf_dps t)
theorem rf_lay (r : Option Rf) : (rfD r).canLay0 = true := by
  rcases r with _ | ⟨i⟩ | ⟨o, e⟩ <;> simp [rfD, PyData.canLay0, PyData.canLayAll0] <;> decide +kernel
theorem rf_depth (r : Option Rf) : (rfD r).depth ≤ 1 := by
  rcases r with _ | ⟨i⟩ | ⟨o, e⟩ <;> simp [rfD, PyData.depth, PyData.depthAll]
theorem rfs_lay : ∀ rs : List (Option Rf), PyData.canLayAll0 (rs.map rfD) = true
  | [] => by simp [PyData.canLayAll0]
  | r :: rs => by simp [PyData.canLayAll0, rf_lay r, rfs_lay rs]
theorem rfs_depth : ∀ rs : List (Option Rf), PyData.depthAll (rs.map rfD) ≤ 1
  | [] => by simp [PyData.depthAll]
  | r :: rs => by
    have h1 := rfs_depth rs
    have h2 := rf_depth r
    simp only [List.map_cons, PyData.depthAll]
    omega
theorem rf_shaped (r : Option Rf) : SeqAt.shaped (rfD r) = true := by
  have h := rf_depth r
  unfold SeqAt.shaped
  rw [rf_lay r, decide_eq_true (by omega)]
  rfl
theorem rfs_shaped (rs : List (Option Rf)) : SeqAt.shaped (.list (rs.map rfD)) = true := by
  have h := rfs_depth rs
  have e : PyData.canLay0 (.list (rs.map rfD)) = true := by
    simp only [PyData.canLay0]
    exact rfs_lay rs
  have d : PyData.depth (.list (rs.map rfD)) ≤ 64 := by
    simp only [PyData.depth]
    omega
  unfold SeqAt.shaped
  rw [e, decide_eq_true d]
  rfl
theorem rf_eqv (r q : Option Rf) : PyData.eqv (rfD r) (rfD q) = decide (r = q) := by
  by_cases h : r = q
  · subst h
    rw [decide_eq_true rfl]
    exact SeqAt.eqv_refl _ (rf_lay r)
  · rw [decide_eq_false h]
    have s1 : (Str.ofString "object" == Str.ofString "import") = false := by decide +kernel
    have s2 : (Str.ofString "import" == Str.ofString "object") = false := by decide +kernel
    have s3 : ((Str.ofString "object").cps == (Str.ofString "import").cps) = false := by decide +kernel
    have s4 : ((Str.ofString "import").cps == (Str.ofString "object").cps) = false := by decide +kernel
    rcases r with _ | ⟨i⟩ | ⟨o, e⟩ <;> rcases q with _ | ⟨j⟩ | ⟨o', e'⟩ <;> simp [rfD, PyData.eqv, PyData.eqvAll] at h ⊢ <;> first | done | exact h | (intro z; exact h z) | (decide +kernel)
theorem rf_any (r : Rf) (G : List Rf) : ((G.map some).map rfD).any (fun z => PyData.eqv z (rfD (some r))) = decide (r ∈ G) := by
  induction G with
  | nil => simp
  | cons g G ih =>
    rw [List.map_cons, List.map_cons, List.any_cons, ih, rf_eqv]
    by_cases h : g = r
    · subst h; simp
    · simp [h, Ne.symm h]
theorem paired_back {α β : Type} {F : α → β → Prop} : ∀ {xs : List α} {ys : List β}, Paired F xs ys → ∀ {i : Nat} {y : β}, ys[i]? = some y → ∃ x, xs[i]? = some x ∧ F x y
  | _, _, .nil, _, _, h => by simp at h
  | _, _, .cons r t, 0, _, h => by simp at h; subst h; exact ⟨_, rfl, r⟩
  | _, _, .cons r t, i + 1, _, h => by
    obtain ⟨x, h1, h2⟩ := paired_back t (i := i) (by simpa using h)
    exact ⟨x, by simpa using h1, h2⟩
theorem take_fm {st : List (Option Rf)} {i : Nat} {r : Option Rf} (h : st[i]? = some r) : (st.take (i + 1)).filterMap id = (st.take i).filterMap id ++ r.toList := by
  rw [List.take_add_one, h, List.filterMap_append]
  cases r <;> rfl
theorem take_map {α β : Type} (f : α → Option β) {l : List α} {i : Nat} {x : α} (h : l[i]? = some x) : (l.take (i + 1)).filterMap f = (l.take i).filterMap f ++ (f x).toList := by
  rw [List.take_add_one, h, List.filterMap_append]
  show _ ++ List.filterMap f [x] = _
  cases e : f x with
  | none => rw [List.filterMap_cons_none e]; rfl
  | some y => rw [List.filterMap_cons_some e]; rfl
theorem filterMap_nodup {α β : Type} {f : α → Option β} (inj : ∀ a b y, f a = some y → f b = some y → a = b) : ∀ {l : List α}, l.Nodup → (l.filterMap f).Nodup
  | [], _ => .nil
  | x :: l, h => by
    have h1 := List.nodup_cons.mp h
    cases e : f x with
    | none => rw [List.filterMap_cons_none e]; exact filterMap_nodup inj h1.2
    | some y =>
      rw [List.filterMap_cons_some e, List.nodup_cons]
      refine ⟨fun m => ?_, filterMap_nodup inj h1.2⟩
      obtain ⟨a, ha, e2⟩ := List.mem_filterMap.mp m
      exact h1.1 (inj _ _ _ e2 e ▸ ha)
def prD (x : Int × Int) : PyData := .tuple [.int x.1, .int x.2]
end Com
set_option Elab.async false
set_option linter.all false
set_option maxRecDepth 100000
set_option maxHeartbeats 4000000
/-! B1: records in pieces, by plain lists; a text times a number. -/
namespace Bk
open PySem PySem.Spec PyProof.Rows L2

def mkS (cs : List Nat) : Str := ⟨cs.toArray⟩
theorem mkS_len (cs : List Nat) : (mkS cs).length = cs.length := by
  show cs.toArray.size = _
  simp
theorem mkS_cps (cs : List Nat) : (mkS cs).cps.toList = cs := by simp [mkS]
theorem mkS_app (a b : List Nat) : mkS a ++ mkS b = mkS (a ++ b) := by
  show (⟨a.toArray ++ b.toArray⟩ : Str) = ⟨(a ++ b).toArray⟩
  simp
theorem mkS_one (c : Nat) : (⟨#[c]⟩ : Str) = mkS [c] := rfl

def rRepS : R2 := fun x y H Q => ∃ (c : Nat) (k : Nat), x = .str ⟨#[c]⟩ ∧ y = .int (k : Int) ∧ 1 ≤ k ∧ k ≤ 100000 ∧ Q (.str (mkS (List.replicate k c))) H
theorem foldl_rep (c : Nat) : ∀ (k : Nat) (a : Array Nat), (List.replicate k #[c]).foldl (· ++ ·) a = a ++ (List.replicate k c).toArray
  | 0, a => by simp
  | k + 1, a => by
    rw [List.replicate_succ, List.foldl_cons, foldl_rep c k, List.replicate_succ]
    apply Array.ext'
    simp
theorem op_repS {X : Cx} : OpR X (binaryOp .Mult) rRepS := by
  intro pins s σ H x y v u Q I rx ry h
  obtain ⟨c, k, rfl, rfl, h1, h2, q⟩ := h
  obtain ⟨t, rfl⟩ := rx
  obtain ⟨t', rfl⟩ := ry
  have hl : (⟨#[c]⟩ : Str).length = 1 := rfl
  refine PySem.P.mul_str ?_ (fun _ _ => ?_) (fun _ _ => ?_) ?_
  · rw [decide_eq_false (by omega), decide_eq_false (by omega)]
    rfl
  · rw [hl]
    have : (2 ^ 63 - 1 : Int) / (k : Int) ≥ 1 := by
      rw [ge_iff_le, Int.le_ediv_iff_mul_le (by omega)]
      omega
    show ¬ ((1 : Int) > _)
    omega
  · rw [hl]
    unfold Builtin.Str.tooLong
    rw [decide_eq_false]
    have := sizeLine_eq
    omega
  · rw [if_neg (by omega)]
    by_cases e : k = 1
    · subst e
      rw [if_pos (by rfl)]
      exact ⟨.str _, H, I, ⟨t, rfl⟩, q⟩
    · have e2 : (((k : Int) == 1) || (⟨#[c]⟩ : Str).length == 0) = false := by
        rw [hl]
        have : ((k : Int) == 1) = false := by
          rw [beq_eq_false_iff_ne]
          omega
        rw [this]
        rfl
      rw [e2, if_neg (by decide), foldl_rep, Int.toNat_natCast]
      have e3 : (⟨#[] ++ (List.replicate k c).toArray⟩ : Str) = mkS (List.replicate k c) := by
        unfold mkS
        congr 1
        apply Array.ext'
        simp
      rw [e3]
      refine ⟨?_, .str _, H, I.tok _, ⟨_, rfl⟩, q⟩
      rw [mkS_len, List.length_replicate]
      have := sizeLine_eq
      omega

/-! ### the signs of texts -/
def SG : Str := " !\"#$&'()*+,-./0123456789:;<=>?@ABCDEFGHIJKLMNOPQRSTUVWXYZ[\\]^_`abcdefghijklmnopqrstuvwxyz{|}~"
def sgL : List Nat := List.range' 32 5 ++ List.range' 38 89
theorem SG_eq : SG = mkS sgL := by decide +kernel
theorem sgL_nodup : sgL.Nodup := by decide +kernel
theorem sgL_len : sgL.length = 94 := by decide +kernel
theorem mem_sgL {c : Nat} : c ∈ sgL ↔ 32 ≤ c ∧ c ≤ 126 ∧ c ≠ 37 := by
  unfold sgL
  rw [List.mem_append, List.mem_range'_1, List.mem_range'_1]
  omega
def kvOf (c : Nat) : Key × V := (.inl (c : Int), .str ⟨#[c]⟩)
theorem kv_get (x : Int) : ∀ l : List Nat, valV (l.map kvOf) (.inl x) = if 0 ≤ x ∧ x.toNat ∈ l then some (.str ⟨#[x.toNat]⟩) else none
  | [] => by
    rw [if_neg (fun z => nomatch z.2)]
    rfl
  | c :: l => by
    by_cases h : (c : Int) = x
    · subst h
      rw [List.map_cons, valV_pos (p := kvOf c) (by rfl), if_pos ⟨by omega, by rw [Int.toNat_natCast]; exact List.mem_cons_self⟩, Int.toNat_natCast]
      rfl
    · rw [List.map_cons, valV_neg (p := kvOf c) (fun z => h (Sum.inl.inj z)), kv_get x l]
      by_cases h2 : 0 ≤ x ∧ x.toNat ∈ l
      · rw [if_pos h2, if_pos ⟨h2.1, List.mem_cons_of_mem _ h2.2⟩]
      · rw [if_neg h2, if_neg (fun z => h2 ⟨z.1, by
          rcases List.mem_cons.mp z.2 with e | e
          · exact absurd (by omega) h
          · exact e⟩)]
def sgB (x : Int) : Bool := decide (32 ≤ x ∧ x ≤ 126 ∧ x ≠ 37)
theorem sg_get (x : Int) : valV (sgL.map kvOf) (.inl x) = if sgB x = true then some (.str ⟨#[x.toNat]⟩) else none := by
  rw [kv_get]
  unfold sgB
  by_cases h : 32 ≤ x ∧ x ≤ 126 ∧ x ≠ 37
  · rw [if_pos ⟨by omega, mem_sgL.mpr (by omega)⟩, if_pos (decide_eq_true h)]
  · rw [if_neg (fun z => h (by have := mem_sgL.mp z.2; omega)), decide_eq_false h, if_neg (by decide)]

/-! ### slices -/
theorem drop_take {α : Type} (l : List α) {a b n : Nat} (hn : n = l.length) (h : a ≤ b) : (l.drop (min a n)).take (min b n - min a n) = (l.drop a).take (b - a) := by
  subst hn
  by_cases h1 : a ≤ l.length
  · rw [Nat.min_eq_left h1]
    by_cases h2 : b ≤ l.length
    · rw [Nat.min_eq_left h2]
    · rw [Nat.min_eq_right (by omega), List.take_of_length_le (by rw [List.length_drop]; omega), List.take_of_length_le (by rw [List.length_drop]; omega)]
  · rw [List.drop_of_length_le (by omega), List.drop_of_length_le (by omega)]
    simp
theorem cutS_nat (cs : List Nat) {a b : Nat} (h : a ≤ b) : cutS (mkS cs) (some (a : Int)) (some (b : Int)) = mkS ((cs.drop a).take (b - a)) := by
  unfold cutS
  rw [HT.sIx_nat, HT.sIx_nat, mkS_cps, drop_take cs (mkS_len cs) h]
  rfl
theorem cutV_nat (l : List V) {a b : Nat} (h : a ≤ b) : cutV l (some (a : Int)) (some (b : Int)) = (l.drop a).take (b - a) := by
  unfold cutV
  rw [HT.sIx_nat, HT.sIx_nat, drop_take l rfl h]
def part (cs : List Nat) (k : Nat) : List Nat := (cs.drop (24 * k)).take 24
theorem cut_part (cs : List Nat) (k : Nat) : cutS (mkS cs) (some (24 * (k : Int))) (some (24 * (k : Int) + 24)) = mkS (part cs k) := by
  have e1 : (24 * (k : Int)) = ((24 * k : Nat) : Int) := by omega
  have e2 : (((24 * k : Nat) : Int) + 24) = ((24 * k + 24 : Nat) : Int) := by omega
  rw [e1, e2, cutS_nat cs (by omega)]
  unfold part
  rw [show 24 * k + 24 - 24 * k = 24 by omega]
theorem part_le (cs : List Nat) (k : Nat) : (part cs k).length ≤ 24 := by
  unfold part
  rw [List.length_take]
  omega
def nP (cs : List Nat) : Nat := (cs.length + 23) / 24
theorem part_pos {cs : List Nat} {k : Nat} (h : k < nP cs) : 1 ≤ (part cs k).length := by
  unfold nP at h
  unfold part
  rw [List.length_take, List.length_drop]
  omega
theorem part_mem {cs : List Nat} {k c : Nat} (h : c ∈ part cs k) : c ∈ cs := List.mem_of_mem_drop (List.mem_of_mem_take h)
/-- the block of one piece -/
def blkI (k many number : Nat) (p : List Nat) : List Int :=
  [75, (k : Int), (many : Int), (number : Int) / 256, (number : Int) % 256, (p.length : Int)] ++ p.map (fun c : Nat => (c : Int)) ++ List.replicate (25 - p.length) 0 ++ [75]
def blks (number : Nat) (cs : List Nat) : List (List Int) := (List.range (nP cs)).map fun k => blkI k (nP cs) number (part cs k)
theorem rep_flat (k : Nat) (x : V) : (List.replicate k [x]).flatten = List.replicate k x := by
  induction k with
  | zero => rfl
  | succ k ih => rw [List.replicate_succ, List.flatten_cons, ih, List.replicate_succ]; rfl
theorem blkI_v (k many number : Nat) (p : List Nat) : (blkI k many number p).map V.int =
    [.int 75, .int (k : Int), .int (many : Int), .int ((number : Int) / 256), .int ((number : Int) % 256), .int (p.length : Int)] ++ p.map (fun c : Nat => V.int (c : Int)) ++ List.replicate (25 - p.length) (.int 0) ++ [.int 75] := by
  unfold blkI
  rw [List.map_append, List.map_append, List.map_append, List.map_map, List.map_replicate]
  rfl
theorem blkI_len {k many number : Nat} {p : List Nat} (h : p.length ≤ 24) : (blkI k many number p).length = 32 := by
  unfold blkI
  simp
  omega

/-! ### what a block tells -/
structure Pc where
  b0 : Int
  b1 : Int
  b2 : Int
  b3 : Int
  b4 : Int
  b5 : Int
  m : List Int
  z : Int
def Pc.row (x : Pc) : List Int := [x.b0, x.b1, x.b2, x.b3, x.b4, x.b5] ++ (x.m ++ [x.z])
def Pc.is (x : Pc) : Bool := (decide (x.b0 = 75) && decide (x.z = 75) && decide (x.b1 < x.b2) && decide (1 ≤ x.b5) && decide (x.b5 ≤ 24)) && ((x.m.take x.b5.toNat).all sgB && (x.m.drop x.b5.toNat).all fun c => decide (c = 0))
def Pc.text (x : Pc) : List Nat := (x.m.take x.b5.toNat).map Int.toNat
theorem row_pc : ∀ (b : List Int), b.length = 32 → ∃ x : Pc, x.row = b ∧ x.m.length = 25
  | b0 :: b1 :: b2 :: b3 :: b4 :: b5 :: r, h => by
    have hr : r.length = 26 := by
      simp only [List.length_cons] at h
      omega
    have hne : r ≠ [] := fun z => by rw [z] at hr; cases hr
    refine ⟨⟨b0, b1, b2, b3, b4, b5, r.dropLast, r.getLast hne⟩, ?_, by simp [hr]⟩
    show [b0, b1, b2, b3, b4, b5] ++ (r.dropLast ++ [r.getLast hne]) = _
    rw [List.dropLast_concat_getLast]
    rfl
  | [], h | [_], h | [_, _], h | [_, _, _], h | [_, _, _, _], h | [_, _, _, _, _], h => by simp at h
def pcOf (k many number : Nat) (p : List Nat) : Pc := ⟨75, k, many, (number : Int) / 256, (number : Int) % 256, p.length, p.map (fun c : Nat => (c : Int)) ++ List.replicate (25 - p.length) 0, 75⟩
theorem pcOf_row (k many number : Nat) (p : List Nat) : (pcOf k many number p).row = blkI k many number p := by
  unfold pcOf Pc.row blkI
  simp
theorem pcOf_len {k many number : Nat} {p : List Nat} (h : p.length ≤ 24) : (pcOf k many number p).m.length = 25 := by
  unfold pcOf
  simp
  omega
theorem pcOf_is {k many number : Nat} {p : List Nat} (h1 : 1 ≤ p.length) (h2 : p.length ≤ 24) (hk : k < many) (hs : ∀ c ∈ p, c ∈ sgL) : (pcOf k many number p).is = true := by
  unfold Pc.is pcOf
  simp only [Int.toNat_natCast]
  rw [List.take_left' (by simp), List.drop_left' (by simp)]
  have a1 : (p.map (fun c : Nat => (c : Int))).all sgB = true := by
    rw [List.all_eq_true]
    intro x hx
    obtain ⟨c, hc, rfl⟩ := List.mem_map.mp hx
    have := mem_sgL.mp (hs c hc)
    unfold sgB
    exact decide_eq_true (by omega)
  have a2 : ((List.replicate (25 - p.length) (0 : Int)).all fun c => decide (c = 0)) = true := by
    rw [List.all_eq_true]
    intro x hx
    exact decide_eq_true (List.eq_of_mem_replicate hx)
  rw [a1, a2, decide_eq_true (show (k : Int) < many by omega), decide_eq_true (show (1 : Int) ≤ p.length by omega), decide_eq_true (show (p.length : Int) ≤ 24 by omega)]
  simp
theorem pcOf_text {k many number : Nat} {p : List Nat} : (pcOf k many number p).text = p := by
  unfold Pc.text pcOf
  simp only [Int.toNat_natCast]
  rw [List.take_left' (by simp), List.map_map]
  simp [Function.comp_def]
theorem rgc_pieces {cs : List Nat} (h : cs.length ≤ 100000) : RgC 0 (cs.length : Int) 24 (nP cs) := by
  have e : Builtin.Range.rangeSize 0 (cs.length : Int) 24 = ((nP cs : Nat) : Int) := by
    rw [rangeSize_pos (by decide) (by omega)]
    unfold nP
    omega
  refine ⟨by decide, by decide, ?_, e⟩
  unfold Builtin.Range.small
  rw [e]
  unfold nP Builtin.Range.rangeFitsLong
  rw [if_pos (show (24 : Int) > 0 by decide)]
  simp only [Bool.and_eq_true, Bool.or_eq_true, decide_eq_true_eq, beq_iff_eq]
  omega
theorem pc_no {x : Pc} (h : (!decide (V.int x.b0 = V.int 75)) = true ∨ (!decide (V.int x.z = V.int 75)) = true ∨ x.b1 ≥ x.b2 ∨ ¬ 1 ≤ x.b5 ∨ ¬ x.b5 ≤ 24 ∨ (x.m.take x.b5.toNat).all sgB = false ∨ (x.m.drop x.b5.toNat).all (fun c => decide (c = 0)) = false) : x.is = false := by
  unfold Pc.is
  rcases h with h | h | h | h | h | h | h
  · have : ¬ x.b0 = 75 := by simpa using h
    rw [decide_eq_false this]
    rfl
  · have : ¬ x.z = 75 := by simpa using h
    rw [decide_eq_false this]
    simp
  · rw [decide_eq_false (show ¬ x.b1 < x.b2 by omega)]
    simp
  · rw [decide_eq_false h]
    simp
  · rw [decide_eq_false h]
    simp
  · rw [h]
    simp
  · rw [h]
    simp
theorem nodup_take {c : Nat} : ∀ {l : List Nat} {i : Nat}, l.Nodup → l[i]? = some c → c ∉ l.take i
  | [], _, _, e => by simp at e
  | x :: l, 0, _, _ => by simp
  | x :: l, i + 1, h, e => by
    rw [List.nodup_cons] at h
    rw [List.getElem?_cons_succ] at e
    rw [List.take_succ_cons, List.mem_cons]
    rintro (z | z)
    · subst z
      exact h.1 (List.mem_of_getElem? e)
    · exact nodup_take h.2 e z
theorem map_at {f : Int → V} {l : List Int} {i : Nat} {v : V} (h : (l.map f)[i]? = some v) : ∃ c, l[i]? = some c ∧ v = f c := by
  rw [List.getElem?_map] at h
  cases e : l[i]? with
  | none => rw [e] at h; cases h
  | some c => rw [e] at h; exact ⟨c, rfl, (Option.some.inj h).symm⟩
theorem any_not {f : Int → Bool} {l : List Int} (h : (l.map fun c => !f c).any id = true) : l.all f = false := by
  rw [List.any_map] at h
  obtain ⟨c, hc, e⟩ := List.any_eq_true.mp h
  rw [List.all_eq_false]
  exact ⟨c, hc, by simpa using e⟩
theorem not_any {f : Int → Bool} {l : List Int} (h : ¬ (l.map fun c => !f c).any id = true) : l.all f = true := by
  rw [List.all_eq_true]
  intro c hc
  cases e : f c with
  | true => rfl
  | false =>
    refine absurd ?_ h
    rw [List.any_map, List.any_eq_true]
    exact ⟨c, hc, by simp [e]⟩
theorem join_s : ∀ l : List Int, Str.join (Str.ofString "") (l.map fun c => mkS [c.toNat]) = mkS (l.map Int.toNat)
  | [] => rfl
  | [_] => rfl
  | c :: d :: r => by
    have e0 : (Str.ofString "") = mkS [] := by decide +kernel
    show mkS [c.toNat] ++ Str.ofString "" ++ Str.join (Str.ofString "") ((d :: r).map fun c => mkS [c.toNat]) = _
    rw [join_s (d :: r), e0, mkS_app, mkS_app]
    rfl
theorem join_one (l : List Int) : Txt.join (Str.ofString "") (l.map fun c => mkS [c.toNat]) = mkS (l.map Int.toNat) := (TL.join_eq _ _).trans (join_s l)
theorem SG_len : SG.length = 94 := by
  rw [SG_eq]
  exact (mkS_len sgL).trans sgL_len
theorem sg_at {r : Int} (h0 : 0 ≤ r) (h1 : r < (SG.length : Int)) : ∃ c, atI SG.cps.toList r = some c ∧ c ∈ sgL := by
  rw [SG_len] at h1
  have lt : r.toNat < sgL.length := by
    rw [sgL_len]
    omega
  have h := atI_nat (List.getElem?_eq_getElem lt)
  rw [show ((r.toNat : Nat) : Int) = r by omega] at h
  refine ⟨sgL[r.toNat], ?_, List.getElem_mem lt⟩
  rw [SG_eq, mkS_cps]
  exact h
theorem mkS_nil : Str.ofString "" = mkS [] := by decide +kernel
/-! ### data of numbers -/
def iD (r : List Int) : PyData := .list (r.map PyData.int)
theorem ints_lay : ∀ r : List Int, PyData.canLayAll0 (r.map PyData.int) = true
  | [] => by simp [PyData.canLayAll0]
  | r :: rs => by simp [PyData.canLayAll0, PyData.canLay0, ints_lay rs]
theorem ints_depth : ∀ r : List Int, PyData.depthAll (r.map PyData.int) = 0
  | [] => by simp [PyData.depthAll]
  | r :: rs => by simp [PyData.depthAll, PyData.depth, ints_depth rs]
theorem rows_lay : ∀ r : List (List Int), PyData.canLayAll0 (r.map iD) = true
  | [] => by simp [PyData.canLayAll0]
  | r :: rs => by simp [PyData.canLayAll0, PyData.canLay0, iD, ints_lay r, rows_lay rs]
theorem rows_depth : ∀ r : List (List Int), PyData.depthAll (r.map iD) ≤ 1
  | [] => by simp [PyData.depthAll]
  | r :: rs => by
    have := rows_depth rs
    simp only [List.map_cons, PyData.depthAll, iD, PyData.depth, ints_depth]
    omega
theorem iD_shaped (r : List Int) : SeqAt.shaped (iD r) = true := by
  unfold SeqAt.shaped iD
  rw [show PyData.canLay0 (.list (r.map PyData.int)) = true from by simp only [PyData.canLay0]; exact ints_lay r, decide_eq_true (by simp only [PyData.depth, ints_depth]; omega)]
  rfl
theorem rows_shaped (rs : List (List Int)) : SeqAt.shaped (.list (rs.map iD)) = true := by
  have h := rows_depth rs
  unfold SeqAt.shaped
  rw [show PyData.canLay0 (.list (rs.map iD)) = true from by simp only [PyData.canLay0]; exact rows_lay rs, decide_eq_true (by simp only [PyData.depth]; omega)]
  rfl
theorem shaped_lay {d : PyData} (h : SeqAt.shaped d = true) : d.canLay0 = true := by
  unfold SeqAt.shaped at h
  rw [Bool.and_eq_true] at h
  exact h.1
theorem ints_dp {K : PySem.W.Frag} {H : Hp} : ∀ r : List Int, DpAll K H (r.map V.int) (r.map PyData.int)
  | [] => .nil
  | _ :: r => .cons (.int _) (ints_dp r)
theorem row_dp {K : PySem.W.Frag} {H : Hp} {a : Addr} {r : List Int} (h : SqL K H a (r.map V.int)) : Dp K H (.ref a) (iD r) := .lst h (ints_dp r)
theorem rows_dp {K : PySem.W.Frag} {H : Hp} : ∀ {rs : List (List Int)} {vs : List V}, Paired (fun r v => ∃ a, v = .ref a ∧ H a = some (.lst (r.map V.int))) rs vs → DpAll K H vs (rs.map iD)
  | _, _, .nil => .nil
  | _, _, .cons ⟨a, e, h⟩ t => .cons (e ▸ row_dp (SqL.of h)) (rows_dp t)
/-- what a piece tells, as data -/
def pcD (a b c : Int) (t : Str) : PyData := .tuple [.int a, .int b, .int c, .str t]
theorem strOk_of {cs : List Nat} (h : ∀ c ∈ cs, c < 1114112) : PyData.canLay0 (.str (mkS cs)) = true := by
  simp only [PyData.canLay0]
  unfold PyData.strOk mkS
  rw [Array.all_eq_true']
  intro x hx
  exact decide_eq_true (h x (by simpa using hx))
theorem pcD_shaped {a b c : Int} {cs : List Nat} (h : ∀ c ∈ cs, c < 1114112) : SeqAt.shaped (pcD a b c (mkS cs)) = true := by
  unfold SeqAt.shaped pcD
  rw [show PyData.canLay0 (.tuple [.int a, .int b, .int c, .str (mkS cs)]) = true from by
    have := strOk_of h
    simp only [PyData.canLay0] at this
    simp [PyData.canLay0, PyData.canLayAll0, this], decide_eq_true (by simp [PyData.depth, PyData.depthAll])]
  rfl
theorem pcD_dp {K : PySem.W.Frag} {H : Hp} {p : Addr} {a b c : Int} {t : Str} (h : SqT K H p [.int a, .int b, .int c, .str t]) : Dp K H (.ref p) (pcD a b c t) :=
  .tup h (.cons (.int _) (.cons (.int _) (.cons (.int _) (.cons (.str _) .nil))))
/-! ### the law's own reading -/
def SG2 : Str := " !\"#$?&'()*+,-./0123456789:;<=>?@ABCDEFGHIJKLMNOPQRSTUVWXYZ[\\]^_`abcdefghijklmnopqrstuvwxyz{|}~"
def sg2L : List Nat := List.range' 32 5 ++ 63 :: List.range' 38 89
theorem SG2_eq : SG2 = mkS sg2L := by decide +kernel
theorem SG2_len : SG2.length = 95 := by
  rw [SG2_eq, mkS_len]
  decide +kernel
theorem sg2_at {c : Int} (h : sgB c = true) : atI SG2.cps.toList (c - 32) = some c.toNat := by
  have hb : 32 ≤ c ∧ c ≤ 126 ∧ c ≠ 37 := of_decide_eq_true h
  have all : ∀ k, k < 95 → k ≠ 5 → sg2L[k]? = some (32 + k) := by decide +kernel
  rw [SG2_eq, mkS_cps, show c - 32 = (((c - 32).toNat : Nat) : Int) by omega]
  refine atI_nat ?_
  rw [all (c - 32).toNat (by omega) (by omega)]
  congr 1
  omega
theorem row_31 {x : Pc} (h : x.m.length = 25) : (x.row.map V.int)[31]? = some (.int x.z) := by
  unfold Pc.row
  rw [List.getElem?_map, List.getElem?_append_right (by simp), List.getElem?_append_right (by simp [h])]
  simp [h]
theorem row_len {x : Pc} (h : x.m.length = 25) : x.row.length = 32 := by
  unfold Pc.row
  simp only [List.length_append, List.length_cons, List.length_nil, h]
theorem cut_codes {x : Pc} (h : x.m.length = 25) (h0 : 0 ≤ x.b5) (h1 : x.b5 ≤ 24) : cutV (x.row.map V.int) (some 6) (some (6 + x.b5)) = (x.m.take x.b5.toNat).map V.int := by
  rw [show (6 : Int) + x.b5 = ((6 + x.b5.toNat : Nat) : Int) by omega, show (6 : Int) = ((6 : Nat) : Int) from rfl, cutV_nat _ (by omega)]
  unfold Pc.row
  rw [List.map_append, List.drop_left' (by rfl), show 6 + x.b5.toNat - 6 = x.b5.toNat by omega, List.map_append, List.take_append_of_le_length (by rw [List.length_map]; omega), List.map_take]
theorem cut_behind {x : Pc} (h : x.m.length = 25) (h0 : 0 ≤ x.b5) (h1 : x.b5 ≤ 24) : cutV (x.row.map V.int) (some (6 + x.b5)) (some 31) = (x.m.drop x.b5.toNat).map V.int := by
  have lr : (x.row.map V.int).length = 32 := by rw [List.length_map, row_len h]
  rw [show (6 : Int) + x.b5 = ((6 + x.b5.toNat : Nat) : Int) by omega, show (31 : Int) = ((31 : Nat) : Int) from rfl, cutV_nat _ (by omega)]
  unfold Pc.row
  rw [List.map_append, List.drop_append, List.drop_of_length_le (by simp), List.nil_append, List.map_append]
  rw [show 6 + x.b5.toNat - ([x.b0, x.b1, x.b2, x.b3, x.b4, x.b5].map V.int).length = x.b5.toNat by simp, List.drop_append_of_le_length (by rw [List.length_map]; omega), List.take_left' (by rw [List.length_drop, List.length_map]; omega), List.map_drop]
theorem filter_all {l : List Int} : ((l.filter fun c => !decide (c = 0)) = []) ↔ l.all (fun c => decide (c = 0)) = true := by
  rw [List.filter_eq_nil_iff, List.all_eq_true]
  constructor
  · intro h c hc
    have := h c hc
    cases e : decide (c = 0) with
    | true => rfl
    | false => rw [e] at this; exact absurd rfl this
  · intro h c hc
    rw [h c hc]
    decide
theorem eqv_nil {l : List Int} : PyData.eqv (iD l) (.list []) = decide (l = []) := by
  cases l with
  | nil => decide +kernel
  | cons a r =>
    rw [decide_eq_false (fun z => nomatch z)]
    unfold iD
    rw [List.map_cons]
    rfl
theorem row_31' {x : Pc} (h : x.m.length = 25) : x.row[31]? = some x.z := by
  unfold Pc.row
  rw [List.getElem?_append_right (by simp), List.getElem?_append_right (by simp [h])]
  simp [h]
theorem z_no {x : Pc} (h : x.m.length = 25) (e : x.row[31]? = some 0) : x.is = false := by
  rw [row_31' h] at e
  have : x.z = 0 := Option.some.inj e
  unfold Pc.is
  rw [this]
  simp
theorem b_no {x : Pc} (e : x.row[0]? = some 0) : x.is = false := by
  have : x.b0 = 0 := Option.some.inj e
  unfold Pc.is
  rw [this]
  simp
theorem cut_take (l : List V) {k : Nat} (h : k ≤ l.length) : cutV l none (some (k : Int)) = l.take k := by
  unfold cutV
  rw [HT.sIx_none, HT.sIx_nat, Nat.min_eq_left h]
  rfl
theorem cut_drop (l : List V) {k : Nat} (h : k ≤ l.length) : cutV l (some (k : Int)) none = l.drop k := by
  unfold cutV
  rw [HT.sIx_none, HT.sIx_nat, Nat.min_eq_left h, List.take_of_length_le (by rw [List.length_drop]; omega)]
theorem bx_same {H H' : Hp} {b dg : Addr} {ds : List Int} (s : Same H H') (B : Com.Bx H b dg ds) : Com.Bx H' b dg ds := by
  obtain ⟨n, h1, h2⟩ := B
  exact ⟨n, s _ _ h1, s _ _ h2⟩
theorem paired_get {α β : Type} {R : α → β → Prop} : ∀ {xs : List α} {ys : List β}, Paired R xs ys → ∀ {i : Nat} {x : α}, xs[i]? = some x → ∃ y, ys[i]? = some y ∧ R x y
  | _, _, .nil, _, _, h => by simp at h
  | _, _, .cons r _, 0, _, h => by
    cases h
    exact ⟨_, rfl, r⟩
  | _, _, .cons _ t, i + 1, _, h => by
    rw [List.getElem?_cons_succ] at h
    obtain ⟨y, h1, h2⟩ := paired_get t h
    exact ⟨y, h1, h2⟩
/-- blocks at new places -/
def BlksF (H0 H : Hp) : List (List Int) → List V → Prop := Paired fun r v => ∃ a, v = .ref a ∧ H0 a = none ∧ H a = some (.lst (r.map V.int))
theorem pick14 {y1 y2 : Int} (h0 : 0 ≤ y2) (h1 : y2 < 14) (h : 0 ≤ y1) : ∃ m : Int, atI [V.int 0, .int 10, .int 11, .int 24, .int 31, .int 32, .int 37, .int 72, .int 75, .int 83, .int 126, .int 127, .int 255, .int y1] y2 = some (.int m) ∧ 0 ≤ m := by
  obtain ⟨j, rfl⟩ : ∃ j : Nat, y2 = (j : Int) := ⟨y2.toNat, by omega⟩
  have hj : j < 14 := by omega
  have e : [V.int 0, .int 10, .int 11, .int 24, .int 31, .int 32, .int 37, .int 72, .int 75, .int 83, .int 126, .int 127, .int 255, .int y1] = ([0, 10, 11, 24, 31, 32, 37, 72, 75, 83, 126, 127, 255, y1] : List Int).map V.int := rfl
  have lt : j < ([0, 10, 11, 24, 31, 32, 37, 72, 75, 83, 126, 127, 255, y1] : List Int).length := hj
  refine ⟨[0, 10, 11, 24, 31, 32, 37, 72, 75, 83, 126, 127, 255, y1][j], ?_, ?_⟩
  · rw [e]
    exact atI_nat (by rw [List.getElem?_map, List.getElem?_eq_getElem lt]; rfl)
  · have : ∀ d ∈ ([0, 10, 11, 24, 31, 32, 37, 72, 75, 83, 126, 127, 255, y1] : List Int), 0 ≤ d := by
      intro d hd
      simp only [List.mem_cons, List.not_mem_nil, or_false] at hd
      omega
    exact this _ (List.getElem_mem lt)
/-- [..] + [z] * n + [..] -/
theorem three {σ : L2.St} {H : Hp} {Q : VK} {ta tz tb : TA} {xs ys : List V} {z : V} {n : Nat} (ha : ∀ {H : Hp} {R : List V → Hp → Prop}, R xs H → ta σ H R) (hz : ∀ {H : Hp} {R : List V → Hp → Prop}, R [z] H → tz σ H R) (hb : ∀ {H : Hp} {R : List V → Hp → Prop}, R ys H → tb σ H R)
    (small : xs.length + n + ys.length ≤ 1000) (hq : ∀ (p : Addr) (H' : Hp), Same H H' → H p = none → H' p = some (.lst (xs ++ List.replicate n z ++ ys)) → Q (.ref p) H') :
    tOp rCat (tOp rCat (tLst ta) (tOp rRep (tLst tz) (tC (.int (n : Int))))) (tLst tb) σ H Q := by
  have sz := sizeLine_eq
  refine ha ⟨by omega, fun p1 n1 => ?_⟩
  have s1 : Same H (upd H p1 (.lst xs)) := Com.same_new (Same.refl H) n1
  have h1 : (upd H p1 (.lst xs)) p1 = some (.lst xs) := upd_same
  generalize upd H p1 (.lst xs) = H1 at s1 h1 ⊢
  refine hz ⟨by show 1 ≤ sizeLine; omega, fun p2 n2 => ?_⟩
  have s2 := Com.same_new (o := .lst [z]) s1 n2
  have h12 := Com.same_new (o := .lst [z]) (Same.refl H1) n2 _ _ h1
  have h2 : (upd H1 p2 (.lst [z])) p2 = some (.lst [z]) := upd_same
  generalize upd H1 p2 (.lst [z]) = H2 at s2 h12 h2 ⊢
  refine ⟨p2, n, _, rfl, rfl, h2, by omega, by omega, by rw [Int.toNat_natCast]; simp only [List.length_cons, List.length_nil]; omega, fun p3 n3 => ?_⟩
  rw [Int.toNat_natCast, rep_flat]
  have s3 := Com.same_new (o := .lst (List.replicate n z)) s2 n3
  have h13 := Com.same_new (o := .lst (List.replicate n z)) (Same.refl H2) n3 _ _ h12
  have h3 : (upd H2 p3 (.lst (List.replicate n z))) p3 = some (.lst (List.replicate n z)) := upd_same
  generalize upd H2 p3 (.lst (List.replicate n z)) = H3 at s3 h13 h3 ⊢
  refine ⟨p1, p3, _, _, rfl, rfl, h13, h3, by rw [List.length_replicate]; omega, fun p4 n4 => ?_⟩
  have s4 := Com.same_new (o := .lst (xs ++ List.replicate n z)) s3 n4
  have h4 : (upd H3 p4 (.lst (xs ++ List.replicate n z))) p4 = some (.lst (xs ++ List.replicate n z)) := upd_same
  generalize upd H3 p4 (.lst (xs ++ List.replicate n z)) = H4 at s4 h4 ⊢
  refine hb ⟨by omega, fun p5 n5 => ?_⟩
  have s5 := Com.same_new (o := .lst ys) s4 n5
  have h45 := Com.same_new (o := .lst ys) (Same.refl H4) n5 _ _ h4
  have h5 : (upd H4 p5 (.lst ys)) p5 = some (.lst ys) := upd_same
  generalize upd H4 p5 (.lst ys) = H5 at s5 h45 h5 ⊢
  refine ⟨p4, p5, _, _, rfl, rfl, h45, h5, by rw [List.length_append, List.length_replicate]; omega, fun p6 n6 => ?_⟩
  refine hq p6 _ (Com.same_new s5 n6) ?_ upd_same
  cases e : H p6 with
  | none => rfl
  | some o => exact absurd ((s5 _ _ e).symm.trans n6) (fun z => nomatch z)
end Bk
set_option Elab.async false
set_option linter.all false
/-! Cst: a name of the module, by its value. -/
namespace Nw
open PySem PySem.Spec PyProof.Rows L2
section
variable {X : Cx}
/-- a name of the module, by its value -/
theorem pe_cst {x : Str} {v : V} {pos : Pos} (hg : Gl X x) (h : ∃ u, X.mg x = some u ∧ RelV v u) (hd : (x == ("__debug__" : Str)) = false := by decide) : PE X (.Name x pos) (tC v) :=
  let ⟨_, hm, r⟩ := h
  pe_glob hg hm r hd
end
end Nw
set_option Elab.async false
set_option linter.all false
set_option maxRecDepth 100000
set_option maxHeartbeats 4000000
/-! G3: a list or a tuple walked; a dict comprehension over anything that is walked; d == {}. -/
namespace Gd
open PySem PySem.Spec PyProof.Rows L2
theorem pi_seq {X : Cx} {tg l : Expr} {tl : TE} (hl : PE X l tl) : PI X tg l (fun σ H R => tl σ H fun x H1 => ∃ a, x = .ref a ∧ ((∃ xs, SqL X.K H1 a xs ∧ R (Itl X.K a) H1) ∨ ∃ xs, SqT X.K H1 a xs ∧ R (Itt X.K a) H1)) := by
  constructor
  intro pins s σ H R I h
  refine thn (hl.run pins s σ H _ I h) fun v s1 ⟨x, H1, J, rx, a, e, q⟩ => ?_
  subst e
  obtain rfl : v = Value.ref a := rx
  have kp : ∀ o : Obj, Inv X pins σ H1 { s1 with heap := s1.heap.push o } := fun o => J.kept (t' := s1.toks) fun b u z => Heap.get?_push_of_some _ z
  have fp : ∀ b ∈ [s1.heap.objs.size], FpOk X pins H1 b := fun b hb => by
    rw [List.mem_singleton.mp hb]
    exact J.fpOk (Nat.le_refl _) (J.hok.fresh (Nat.le_refl _))
  rcases q with ⟨xs, hs, q⟩ | ⟨xs, hs, q⟩
  · obtain ⟨its, rv, p, hz⟩ := J.list hs
    exact wpAny_pyIter_list p.isList ⟨s1.heap.objs.size, [s1.heap.objs.size], _, _, H1, rfl, kp _, turn_list a _, ⟨_, Heap.get?_push_size _ rfl, rfl, rfl⟩, fp, q⟩
  · obtain ⟨its, rv, p, hz⟩ := J.tuple hs
    exact wpAny_pyIter_tuple (show s1.heap.IsTuple a its.toArray from p) ⟨s1.heap.objs.size, [s1.heap.objs.size], _, _, H1, rfl, kp _, turn_tuple a _, ⟨_, Heap.get?_push_size _ rfl, rfl, rfl⟩, fp, q⟩

theorem dc_it {J : It} {n : Nat} {G : Hp → Prop} {Y : Nat → Hp → V → Hp → Prop} (w : Walk J n G Y) {g : TG} {tt : TT} {tk tv : TE} {vs : List Nat} {σ : L2.St} {H1 : Hp} {D : Addr} {Qd : Hp → Prop} (Pv : Nat → Hp → Prop)
    (h0 : Pv 0 (upd H1 D (.dK []))) (hG : ∀ i H, i ≤ n → Pv i H → G H)
    (hs : ∀ i x H H', i < n → Pv i H → Y i H x H' → g x (wipe σ vs) H' fun s2 H2 => wipe s2 vs = wipe σ vs ∧ tt s2 H2 fun b H3 =>
      if b = true then tk s2 H3 fun y H4 => tv s2 H4 fun z H5 => ∃ kvs k, y = kV k ∧ H5 D = some (.dK kvs) ∧ kvs.length < sizeLine ∧ Pv (i + 1) (upd H5 D (.dK (putK kvs k z))) else Pv (i + 1) H3)
    (hd : ∀ H, Pv n H → Qd H) :
    ∃ W : Nat → Nat → Hp → Prop, (∃ m, W 0 m (upd H1 D (.dK []))) ∧ ∀ i m H, W i m H → (J.stop i H ∧ Qd H) ∨ (J.go i H ∧ ∃ Nx : Hp → Prop, (∀ H', Nx H' → ∃ m', m' < m ∧ W (i + 1) m' H') ∧
      ∀ x H', J.yld i H x H' → g x (wipe σ vs) H' fun s2 H2 => wipe s2 vs = wipe σ vs ∧ tt s2 H2 fun b H3 =>
        if b = true then tk s2 H3 fun y H4 => tv s2 H4 fun z H5 => ∃ kvs k, y = kV k ∧ H5 D = some (.dK kvs) ∧ kvs.length < sizeLine ∧ Nx (upd H5 D (.dK (putK kvs k z))) else Nx H3) := by
  refine ⟨fun i m H => m + i = n ∧ Pv i H, ⟨n, rfl, h0⟩, ?_⟩
  intro i m H ⟨em, p⟩
  rcases Nat.lt_or_ge i n with l | l
  · have q := hG i H (Nat.le_of_lt l) p
    exact .inr ⟨w.goes i H l q, Pv (i + 1), fun H' p' => ⟨m - 1, by omega, by omega, p'⟩, fun x H' y => hs i x H H' l p (w.yields i H x H' l q y)⟩
  · have e : i = n := by omega
    subst e
    exact .inl ⟨w.stops H (hG i H (Nat.le_refl _) p), hd H p⟩

/-- d == {} -/
def rEqE : R2 := fun x y H Q => ∃ (a b : Addr) (ks : List (L2.Key × V)), x = .ref a ∧ y = .ref b ∧ H a = some (.dK ks) ∧ H b = some (.dK []) ∧ Q (.bl ks.isEmpty) H
theorem op_eqE {X : Cx} (hu : X.A.units < cLine) : OpR X (compareOp .Eq) rEqE := by
  intro pins s σ H x y v u Q I rx ry h
  obtain ⟨a, b, ks, rfl, rfl, ea, eb, q⟩ := h
  obtain rfl : v = Value.ref a := rx
  obtain rfl : u = Value.ref b := ry
  obtain ⟨_, ya, va, ra, da⟩ := (show ObjOk X.prog X.w H s.heap a (.dK ks) from I.hok a _ ea)
  obtain ⟨_, yb, vb, rb, db⟩ := (show ObjOk X.prog X.w H s.heap b (.dK []) from I.hok b _ eb)
  cases rb
  have ll : ks.length = va.length := Paired.length ra
  refine PySem.W.keq_eq (knd := mixKind X.prog X.w) (r := true) ya yb da db hu (fun z => ?_) ?_
  · cases va with
    | nil => exact .nil
    | cons _ _ => simp at z
  · refine ⟨.bl ks.isEmpty, H, I, ?_, q⟩
    show Value.bool _ = Value.bool _
    congr 1
    cases ks with
    | nil =>
      cases va with
      | nil => rfl
      | cons _ _ => simp at ll
    | cons _ _ =>
      cases va with
      | nil => simp at ll
      | cons _ _ => rfl
/-! name = {k: v for ..}: a dict comprehension given to a local -/
abbrev InBlk (X : Cx) (sc : Scope) (P : Cx → Prop) : Prop := ∀ s H C cl fp, P (X.blk s H sc (compEnvC sc cl C X.env) fp)
theorem ps_setDc {X : Cx} {i : Nat} {y : Str} {yp cp sp : Pos} {tg it kx vx : Expr} {fs : List Expr} {sc : Scope} {own : List (Str × Nat)} {ti : TI} {tg' : TG} {tf : TT} {tk tv : TE}
    (calm : X.calm = true) (nd : X.N.Nodup) (ey : X.N[i]? = some y) (loc : X.env.scope.names.lookup y = some .local)
    (sw : swapsWith (.DictComp kx vx [⟨tg, it, fs, 0⟩] sc cp) (some (.Name y yp)) sp.line X.env = pure true)
    (walks : PI X tg it ti) (blk : BlkOk X.N X.env.scope sc own)
    (hT : InBlk X sc fun Y => PG Y tg tg') (hF : InBlk X sc fun Y => PTs Y fs tf) (hK : InBlk X sc fun Y => PE Y kx tk) (hV : InBlk X sc fun Y => PE Y vx tv)
    (fold : ∀ z, foldedSetIterable it X.env z = pure z := by intro _; rfl) :
    PS X (.Assign [.Name y yp] (.DictComp kx vx [⟨tg, it, fs, 0⟩] sc cp) sp) (tAsg (tDc ti tg' tf tk tv (own.map (·.2))) (gName i)) := by
  refine ⟨fun pins s σ H D I w => ?_⟩
  rw [exec_Assign_Name_used _ _ _ _ sw]
  refine wpAny_bind ?_
  refine wpAny_standAt (wpAny_bind ?_)
  show wpAny _ X.A (do
    let _ ← comprehension (.DictComp kx vx [⟨tg, it, fs, 0⟩] sc cp) sc X.env
      (firstIterPos [⟨tg, it, fs, 0⟩] cp) newDict false (eval it X.env) (some (assign (.Name y yp) X.env))) _ _ s
  have w' : tDc ti tg' tf tk tv (own.map (·.2)) σ H (fun x H1 => gName i x σ H1 D.nx) := w
  refine wpAny_bind (thn (dc_core (Qf := fun _ t => SP X pins D .next t) calm nd I walks blk hT hF hK hV fold w' ?_) fun _ _ q => wpAny_pure (wpAny_pure q))
  intro L C t m H' I' q ns f
  show wpAny _ _ (assign (.Name y yp) X.env (.ref L)) _ _ _
  obtain ⟨a0, a1, a2, a3, a4, a5⟩ := f
  refine wpAny_assign_Name (store_ok2 (v := V.ref L) I' nd ey (.inl loc) rfl ?_ (.inr loc))
  rintro t2 I2 ⟨a, sb, ha⟩
  have ne : C ≠ a := ha.elim (fun z => z ▸ a1) fun z e => a4 y a z e.symm
  exact ⟨m, ns.sameBut sb ne, fun _ sc' => ⟨_, H', I2.turned (t' := t2.toks) (fun b o hb e => (sc'.2 b hb).trans e) a0 a1 a3 a4 a5, q⟩⟩
theorem sw_trueD {kx vx : Expr} {gs : List Comprehension} {sc : Scope} {cp yp : Pos} {y : Str} {l : Nat} {env : Env} (fn : env.scope.kind = .function) (loc : env.scope.names.lookup y = some .local)
    (line : (yp.line == cp.line) = true) (no : (sc.names.any fun (n, k) => n == y && (k == .local || k == .cell)) = false) :
    swapsWith (.DictComp kx vx gs sc cp) (some (.Name y yp)) l env = pure true := by
  have hb : env.blockKind = .function := by unfold Env.blockKind; rw [fn]; rfl
  have hk : env.kindOf y = some .local := loc
  unfold swapsWith
  simp only [hb, hk, no, Expr.pos, line]
  rfl
end Gd
set_option Elab.async false
set_option linter.all false
set_option maxRecDepth 100000
set_option maxHeartbeats 4000000
/-! S: sorted of any number of tuples of ints, of the keys of a dict: ints, or tuples of ints. -/
namespace Gs
open PySem PySem.Spec PyProof.Rows L2 Gd Com
/-- a tuple of whole numbers -/
def RwV (H : Hp) (r : List Int) (v : V) : Prop := ∃ t, v = .ref t ∧ H t = some (.tup (r.map V.int))
abbrev Rws (H : Hp) : List (List Int) → List V → Prop := Paired (RwV H)
theorem RwV.mono {H H' : Hp} (s : TupS H H') {r : List Int} {v : V} (h : RwV H r v) : RwV H' r v :=
  let ⟨t, e, ht⟩ := h
  ⟨t, e, s _ _ ht⟩
theorem Rws.mono {H H' : Hp} (s : TupS H H') {rs : List (List Int)} {vs : List V} (h : Rws H rs vs) : Rws H' rs vs := Paired.mapP h fun _ _ x => x.mono s
theorem paired_perm {α β : Type} {F : α → β → Prop} {ys xs : List β} (h : ys.Perm xs) : ∀ {rs : List α}, Paired F rs xs → ∃ rs' : List α, rs'.Perm rs ∧ Paired F rs' ys := by
  induction h with
  | nil => exact fun {rs} h => ⟨rs, .refl _, h⟩
  | cons x _ ih =>
    intro rs h
    cases h with
    | cons r t =>
      obtain ⟨rs', p, h'⟩ := ih t
      exact ⟨_ :: rs', p.cons _, .cons r h'⟩
  | swap x y l =>
    intro rs h
    cases h with
    | cons r1 t =>
      cases t with
      | cons r2 t => exact ⟨_, .swap _ _ _, .cons r2 (.cons r1 t)⟩
  | trans _ _ ih1 ih2 =>
    intro rs h
    obtain ⟨r2, p2, h2⟩ := ih2 h
    obtain ⟨r1, p1, h1⟩ := ih1 h2
    exact ⟨r1, p1.trans p2, h1⟩
theorem rws_mem {H : Hp} {rs : List (List Int)} {vs : List V} (h : Rws H rs vs) {x : V} (hx : x ∈ vs) : ∃ r ∈ rs, RwV H r x := by
  obtain ⟨i, hi⟩ := List.mem_iff_getElem?.mp hx
  obtain ⟨r, hr, rx⟩ := paired_back h hi
  exact ⟨r, List.mem_of_getElem? hr, rx⟩
/-- the numbers of a tuple in the heap -/
def hInts (H : Hp) : V → List Int
  | .ref t => match H t with
    | some (.tup vs) => vs.map fun | .int i => i | _ => 0
    | _ => []
  | _ => []
theorem hInts_of {H : Hp} {r : List Int} {v : V} (h : RwV H r v) : hInts H v = r := by
  obtain ⟨t, rfl, ht⟩ := h
  unfold hInts
  simp only [ht]
  rw [List.map_map]
  exact List.map_id r
theorem swo_num {α : Type} (r : α → Int) : SrtO.Swo fun v u => decide (r v < r u) := by
  refine ⟨fun x y h => ?_, fun x y z h1 h2 => ?_⟩
  · have a := of_decide_eq_true h
    exact decide_eq_false (by omega)
  · have a := of_decide_eq_false h1
    have b := of_decide_eq_false h2
    exact decide_eq_false (by omega)
section
variable {prog : Program} {w : World} {A : Around} {s : Shared}
theorem tups_cmp {d : Nat} {B : Int} {vs : List Value} {k : Value → List Int} (hp : ∀ v ∈ vs, TS.TupInts s.heap v (k v) ∧ (k v).length = d ∧ TS.Bd B (k v)) :
    SrtO.Cmp prog w A s (tuples' true) (fun p => p.1 ∈ vs) (SrtO.lt2 fun v u => decide (TS.code B (k v) < TS.code B (k u))) := by
  intro p q hm hm'
  obtain ⟨⟨a, xs, e1, ⟨o, ho, hc, n, hd⟩, i⟩, l1, b1⟩ := hp _ hm
  obtain ⟨⟨a', ys, e2, ⟨o', ho', hc', n', hd'⟩, i'⟩, l2, b2⟩ := hp _ hm'
  show wpAny (model prog w) A (keyLt' (tuples' true) p.1 q.1) (fun r s' => s' = s ∧ r = decide (TS.code B (k p.1) < TS.code B (k q.1))) (fun _ _ => False) s
  generalize k p.1 = ns at i l1 b1 ⊢
  generalize k q.1 = ms at i' l2 b2 ⊢
  rw [e1, e2]
  refine PySem.W.kat_lt ho hd ho' hd' ?_
  have sz : decide (xs.size < ys.size) = false := by
    have h1 := i.length
    have h2 := i'.length
    rw [Array.length_toList] at h1 h2
    exact decide_eq_false (by omega)
  rw [sz]
  exact TS.lex_ints 0 i i' (by omega) b1 b2 ⟨rfl, rfl⟩
theorem tups_sortable {a : Addr} {d : Nat} {B : Int} {vs : List Value} {k : Value → List Int} (h2 : 2 ≤ vs.length) (hd : 1 ≤ d) (hp : ∀ v ∈ vs, TS.TupInts s.heap v (k v) ∧ (k v).length = d ∧ TS.Bd B (k v))
    (ha : ∀ o, s.heap.get? a = some o → o.cls ≠ .type "tuple") : SrtO.SortableO prog w A s a vs fun v u => decide (TS.code B (k v) < TS.code B (k u)) := by
  intro h' keep
  have hp' : ∀ v ∈ vs, TS.TupInts h' v (k v) ∧ (k v).length = d ∧ TS.Bd B (k v) := fun v hm =>
    ⟨(hp v hm).1.keeps fun b o e c => keep b o (fun z => by subst z; exact ha o e c) e, (hp v hm).2⟩
  obtain ⟨fs, k1, k2, k3⟩ := TS.firsts_of (h := h') hd vs fun v hm => ⟨k v, (hp' v hm).1, (hp' v hm).2⟩
  refine ⟨tuples' true, fun Q E hq => ?_, tups_cmp hp'⟩
  refine PySem.W.kat_kind (T := .type "int") k1 (by omega) (fun f hm => ?_) (by rfl) ?_
  · obtain ⟨x, t, rfl⟩ := k3 f hm
    exact PySem.W.Looks.now
  · have ne : (Value.type "int" != Value.type "tuple") = true := by first | decide +kernel | rfl | decide
    rw [ne]
    exact hq
end
section
variable {X : Cx}
/-- sorted(xs), xs tuples of d whole numbers each in [0, B), any number of them -/
def rSortR (K : PySem.W.Frag) : List V → Hp → VK → Prop := fun vs H Q => ∃ (a : Addr) (xs : List V) (rs : List (List Int)) (d : Nat) (B : Int), vs = [V.ref a] ∧ SqL K H a xs ∧ Rws H rs xs ∧ 1 ≤ d ∧ (∀ r ∈ rs, r.length = d ∧ TS.Bd B r) ∧
  ∀ (ms : List (List Int)) (ys : List V) (p : Addr), ms.Perm rs → ms.Pairwise (fun x y => TS.code B x ≤ TS.code B y) → Rws H ms ys → H p = none → Q (.ref p) (upd H p (.lst ys))
/-- what a sorted list of tuples is, said of its rows -/
theorem rows_out {H : Hp} {B : Int} {xs ys : List V} {rs : List (List Int)} (hx : Rws H rs xs) (pm : ys.Perm xs) (pw : ys.Pairwise fun x y => TS.code B (hInts H x) ≤ TS.code B (hInts H y)) :
    ∃ ms : List (List Int), ms.Perm rs ∧ ms.Pairwise (fun x y => TS.code B x ≤ TS.code B y) ∧ Rws H ms ys := by
  obtain ⟨ms, pm', h⟩ := paired_perm pm hx
  refine ⟨ms, pm', ?_, h⟩
  refine List.pairwise_iff_getElem.mpr fun i j hi hj hij => ?_
  obtain ⟨y1, e1, r1⟩ := LiI.paired_get h (List.getElem?_eq_getElem hi)
  obtain ⟨y2, e2, r2⟩ := LiI.paired_get h (List.getElem?_eq_getElem hj)
  obtain ⟨b1, e1⟩ := List.getElem?_eq_some_iff.mp e1
  obtain ⟨b2, e2⟩ := List.getElem?_eq_some_iff.mp e2
  have := (List.pairwise_iff_getElem.mp pw) i j b1 b2 hij
  rwa [e1, e2, hInts_of r1, hInts_of r2] at this
theorem cr_sortR : CallR X (.builtin "sorted") (rSortR X.K) := by
  intro pins s σ H vs us Q I r h
  obtain ⟨a, xs, rs, d, B, rfl, hs, hR, hd, hb, q⟩ := h
  obtain ⟨its, rv, hl, hz⟩ := I.list hs
  obtain ⟨u, rfl, ru⟩ := vals1 r
  obtain rfl : u = Value.ref a := ru
  obtain ⟨e1, e2⟩ := refs_back rv fun x m => by
    obtain ⟨_, _, t, e, _⟩ := rws_mem hR m
    exact ⟨t, e⟩
  have hv : ∀ v ∈ its, TS.TupInts s.heap v (hInts H (backV v)) ∧ (hInts H (backV v)).length = d ∧ TS.Bd B (hInts H (backV v)) := fun v hv => by
    obtain ⟨t, rfl⟩ := e2 v hv
    have hm : V.ref t ∈ xs := by rw [e1]; exact List.mem_map.mpr ⟨_, hv, rfl⟩
    obtain ⟨r, hr, rx⟩ := rws_mem hR hm
    have e3 : hInts H (backV (Value.ref t)) = r := hInts_of rx
    rw [e3]
    obtain ⟨t', e, ht⟩ := rx
    cases e
    exact ⟨tupI_raw I (SqT.of ht), hb r hr⟩
  refine SrtO.sorted_ord (swo_num fun v => TS.code B (hInts H (backV v))) hl.isList (by rw [← rv.length]; exact hz) (fun h2 h₁ a' ha kk => ?_) fun out h1 h2 => ?_
  · refine tups_sortable (s := { s with heap := h₁ }) h2 hd (fun v hm => ⟨(hv v hm).1.keeps fun b o e _ => (kk b o e).2, (hv v hm).2⟩) fun o e => ?_
    have e' : some o = some (seqObj "list" its.toArray 0) := e.symm.trans ha
    cases e'
    intro c
    exact absurd (Value.type.inj c) (by decide)
  · have h3 : ∀ u ∈ out, ∃ a, u = Value.ref a := fun u hu => e2 u (h2.perm.mem_iff.mp hu)
    have pm : (out.map backV).Perm xs := by rw [e1]; exact h2.perm.map backV
    have pw : (out.map backV).Pairwise fun x y => TS.code B (hInts H x) ≤ TS.code B (hInts H y) :=
      List.pairwise_map.mpr (h1.imp fun {x y} h => Int.not_lt.mp (of_decide_eq_false h))
    obtain ⟨ms, pm2, pw2, hm⟩ := rows_out hR pm pw
    obtain ⟨ep, he'⟩ := PyProof.Rows.sortedAll_at s.heap its out.toArray
    refine ⟨.ref _, upd H (s.heap.objs.size + 1) (.lst (out.map backV)), I.laid (t' := s.toks) (fun _ _ => PyProof.Rows.sortedAll_old) (Nat.le_succ _) ⟨?_, out, ep, vals_back h3, he'⟩, rfl, q ms _ _ pm2 pw2 hm (I.hok.fresh (Nat.le_succ _))⟩
    rw [pm.length_eq]
    exact hz
end
end Gs
set_option Elab.async false
set_option linter.all false
set_option maxRecDepth 100000
set_option maxHeartbeats 4000000
/-! S2: sorted of a dict: its keys, whole numbers or tuples of them, any number. -/
namespace Gs
open PySem PySem.Spec PyProof.Rows L2 Gd Com
section
variable {X : Cx}
/-- sorted(d), whole numbers for keys -/
def rSortDI : List V → Hp → VK → Prop := fun xs H Q => ∃ (a : Addr) (kvs : List (Key × V)) (ks : List Int), xs = [.ref a] ∧ Rd H a (.dK kvs) ∧ kvs.map (·.1) = ks.map Sum.inl ∧
  ∀ (ys : List Int) (p : Addr), ys.Perm ks → ys.Pairwise (· ≤ ·) → H p = none → Q (.ref p) (upd H p (.lst (ys.map V.int)))
theorem cr_sortDI (cm : X.calm = true) : CallR X (.builtin "sorted") rSortDI := by
  intro pins s σ H xs us Q I r q
  obtain ⟨a, kvs, ks, rfl, hd, hks, q⟩ := q
  obtain ⟨u, rfl, rx⟩ := vals1 r
  cases rx
  obtain ⟨z, lo, vs, rel, dd⟩ := dk_rd I.hok hd
  obtain ⟨ep, hat⟩ := dd.dictAt
  have hkeys : vs.map (·.1) = ks.map Sum.inl := rel.keys.symm.trans hks
  have hl : vs.length = ks.length := by
    have e := congrArg List.length hkeys
    rwa [List.length_map, List.length_map] at e
  have hz : vs.length ≤ sizeLine := by rw [← rel.length]; exact z
  refine Calls.call_function_entry PyProof.Rows.kind_sorted PyProof.Rows.plain_sorted PyProof.Rows.entry_sorted (PyProof.Rows.args_sorted1 _) ?_
  unfold Builtin.«sorted»
  refine wpAny_bind (m := checkCount "sorted" 1 1 _) (wpAny_pure ?_)
  refine wpAny_bind (PySem.W.kdu_collect (A := X.A.in1) (PySem.W.kdl_dict (knd := mixKind X.prog X.w) (kvs := vs) (ep := ep) lo) (I.ok.hd cm) hat hz fun h' tk acc hk hacc => ?_)
  have hal : acc.toList.length = ks.length := by rw [Array.length_toList, hacc.1, hl]
  have hS : IntsAre acc.toList ks := ints_each hal fun j v e => by
    obtain ⟨k, x, f1, f2⟩ := hacc.2 j v (by rw [← Array.getElem?_toList]; exact e)
    have f3 : (vs.map (·.1))[j]? = some k := by rw [List.getElem?_map, f1]; rfl
    rw [hkeys, List.getElem?_map] at f3
    cases f4 : ks[j]? with
    | none => rw [f4] at f3; cases f3
    | some y =>
      rw [f4] at f3
      have f5 : Sum.inl y = k := Option.some.inj f3
      subst f5
      rcases keyIs_shape (show keyIs (Sum.inl y) v = true from f2) with ⟨i, t, ek, ev⟩ | ⟨z, t, ek, ev⟩
      · cases ek
        exact ⟨y, t, rfl, ev⟩
      · cases ek
  have I1 : Inv X pins σ H { s with heap := h', toks := tk } := I.kept hk
  have zz : acc.toList.length ≤ sizeLine := by rw [hal, ← hl]; exact hz
  refine wpAny_bind (wpAny_newList ?_ zz)
  have hoL : (h'.push (seqObj "list" acc.toList.toArray 0)).get? h'.objs.size = some (seqObj "list" acc.toList.toArray 0) := Heap.get?_push_size _ rfl
  show wpAny _ _ _ _ _ { s with heap := h'.push (seqObj "list" acc.toList.toArray 0), toks := tk }
  refine wpAny_bind (wpAny_holding (wpAny_call_entry PyProof.Rows.slot_list_sort ⟨_, hoL, rfl⟩ PyProof.Rows.entry_list_sort
    (SrtO.list_sort_ord (s := { s with heap := h'.push (seqObj "list" acc.toList.toArray 0), toks := tk }) SrtO.swo_int hoL zz (fun h2 => SrtO.ints_sortable hS h2) fun out h1 h2 => ⟨_, rfl, ?_⟩) (PyProof.Rows.args_list_sort _)))
  obtain ⟨k1, k2, k3⟩ := SrtO.ints_out hS h1 h2
  obtain ⟨ep', he'⟩ := PyProof.Rows.sortedHeap_at (vs := acc.toList) (out := out.toArray) hoL
  have hlen : ((out.map SrtO.iv).map V.int).length ≤ sizeLine := by
    rw [List.length_map, k2.length_eq, ← hl]
    exact hz
  refine wpAny_pure ⟨_, rfl, .ref h'.objs.size, upd H h'.objs.size (.lst ((out.map SrtO.iv).map V.int)), I1.laid (t' := tk) (fun b u e => ?_) (Nat.le_refl _) ⟨hlen, out, ep', vals_of_ints k1, he'⟩, rfl, q _ _ k2 k3 (I1.hok.fresh (Nat.le_refl _))⟩
  have hb : b < h'.objs.size := Heap.lt_size e
  rw [PyProof.Rows.sortedHeap_old (Nat.ne_of_lt hb) (by rw [size_push']; exact Nat.lt_succ_of_lt hb)]
  exact Heap.get?_push_of_some _ e
/-- sorted(d), tuples of d whole numbers for keys -/
def rSortDT : List V → Hp → VK → Prop := fun xs H Q => ∃ (a : Addr) (kvs : List (List Key × V)) (rs : List (List Int)) (d : Nat) (B : Int), xs = [.ref a] ∧ Rd H a (.dT kvs) ∧ kvs.map (·.1) = rs.map (fun l => l.map Sum.inl) ∧ 1 ≤ d ∧ (∀ r ∈ rs, r.length = d ∧ TS.Bd B r) ∧
  ∀ (ms : List (List Int)) (ys : List V) (p : Addr), ms.Perm rs → ms.Pairwise (fun x y => TS.code B x ≤ TS.code B y) → Rws H ms ys → H p = none → Q (.ref p) (upd H p (.lst ys))
theorem keys_rows {H : Hp} : ∀ {kvs : List (List Key × V)} {bs : List Addr} {rs : List (List Int)}, IsKeys H kvs bs → kvs.map (·.1) = rs.map (fun l => l.map Sum.inl) → Rws H rs (bs.map V.ref)
  | _, _, rs, .nil, e => by
    cases rs with
    | nil => exact .nil
    | cons _ _ => cases e
  | _, _, rs, .cons (a := kv) (b := b) h t, e => by
    cases rs with
    | nil => cases e
    | cons r rs =>
      rw [List.map_cons, List.map_cons] at e
      have e1 := (List.cons.inj e).1
      have e2 := (List.cons.inj e).2
      refine .cons ⟨b, rfl, ?_⟩ (keys_rows t e2)
      rw [h, e1, List.map_map]
      rfl
theorem cr_sortDT (cm : X.calm = true) : CallR X (.builtin "sorted") rSortDT := by
  intro pins s σ H xs us Q I r q
  obtain ⟨a, kvs, rs, d, B, rfl, hd, hks, hd1, hb, q⟩ := q
  obtain ⟨u, rfl, rx⟩ := vals1 r
  cases rx
  obtain ⟨z, hs, ks, pr, o, es, ep, ho, hx, hdt, he, hn⟩ := (show ObjOk X.prog X.w H s.heap a (.dT kvs) from hd.ok I.hok)
  have l1 : es.size = ks.length := size_of_entries he
  have l2 : kvs.length = ks.length := Paired.length pr
  refine Calls.call_function_entry PyProof.Rows.kind_sorted PyProof.Rows.plain_sorted PyProof.Rows.entry_sorted (PyProof.Rows.args_sorted1 _) ?_
  unfold Builtin.«sorted»
  refine wpAny_bind (m := checkCount "sorted" 1 1 _) (wpAny_pure ?_)
  refine wpAny_bind (PySem.W.kdu_collect (A := X.A.in1) (kdl_raw hs hx hdt) (I.ok.hd cm) ho (by omega) fun h' tk acc hk it => ?_)
  have ea : acc.toList = (ks.map fun x => x.2.1).map Value.ref := by
    have hl : acc.toList.length = ks.length := by rw [Array.length_toList, it.1]; exact l1
    apply List.ext_getElem?
    intro j
    rw [List.getElem?_map, List.getElem?_map]
    cases hj : acc.toList[j]? with
    | none =>
      have h1 := List.getElem?_eq_none_iff.mp hj
      rw [List.getElem?_eq_none (by omega)]
      all_goals rfl
    | some v =>
      obtain ⟨en, hen, hv⟩ := it.2 j v (by rw [← Array.getElem?_toList]; exact hj)
      have qe := entry_at he j
      rw [hen] at qe
      cases hb : ks[j]? with
      | none =>
        rw [hb] at qe
        exact nomatch (show some en = none from qe)
      | some x =>
        rw [hb] at qe
        have e2 : en = entryOfKey (tupleKind (mixKind X.prog X.w)) x := Option.some.inj qe
        rw [hv, e2]
        rfl
  have I1 : Inv X pins σ H { s with heap := h', toks := tk } := I.kept hk
  have hR : Rws H rs ((ks.map fun x => x.2.1).map V.ref) := keys_rows (isKeys_of pr) hks
  have zz : acc.toList.length ≤ sizeLine := by rw [ea, List.length_map, List.length_map]; omega
  have bk : ∀ t : Addr, backV (Value.ref t) = V.ref t := fun _ => rfl
  have hv : ∀ v ∈ acc.toList, TS.TupInts h' v (hInts H (backV v)) ∧ (hInts H (backV v)).length = d ∧ TS.Bd B (hInts H (backV v)) := fun v hv => by
    rw [ea] at hv
    obtain ⟨t, ht, rfl⟩ := List.mem_map.mp hv
    obtain ⟨r, hr, rx⟩ := rws_mem hR (List.mem_map.mpr ⟨t, ht, rfl⟩)
    rw [bk, hInts_of rx]
    obtain ⟨t', e, ht'⟩ := rx
    cases e
    exact ⟨tupI_raw I1 (SqT.of ht'), hb r hr⟩
  refine wpAny_bind (wpAny_newList ?_ zz)
  have hoL : (h'.push (seqObj "list" acc.toList.toArray 0)).get? h'.objs.size = some (seqObj "list" acc.toList.toArray 0) := Heap.get?_push_size _ rfl
  show wpAny _ _ _ _ _ { s with heap := h'.push (seqObj "list" acc.toList.toArray 0), toks := tk }
  refine wpAny_bind (wpAny_holding (wpAny_call_entry PyProof.Rows.slot_list_sort ⟨_, hoL, rfl⟩ PyProof.Rows.entry_list_sort
    (SrtO.list_sort_ord (s := { s with heap := h'.push (seqObj "list" acc.toList.toArray 0), toks := tk }) (swo_num fun v => TS.code B (hInts H (backV v))) hoL zz (fun h2 => ?_) fun out h1 h2 => ⟨_, rfl, ?_⟩) (PyProof.Rows.args_list_sort _)))
  · refine tups_sortable (s := { s with heap := h'.push (seqObj "list" acc.toList.toArray 0), toks := tk }) h2 hd1 (fun v hm => ⟨(hv v hm).1.keeps fun b o e _ => Heap.get?_push_of_some _ e, (hv v hm).2⟩) fun o e => ?_
    have e' : some o = some (seqObj "list" acc.toList.toArray 0) := e.symm.trans hoL
    cases e'
    intro c
    exact absurd (Value.type.inj c) (by decide)
  · have pm : (out.map backV).Perm ((ks.map fun x => x.2.1).map V.ref) := by
      have := h2.perm.map backV
      rw [ea, List.map_map] at this
      exact this
    have h3 : ∀ u ∈ out, ∃ a, u = Value.ref a := fun u hu => by
      have hm := h2.perm.mem_iff.mp hu
      rw [ea] at hm
      obtain ⟨t, _, e⟩ := List.mem_map.mp hm
      exact ⟨t, e.symm⟩
    have pw : (out.map backV).Pairwise fun x y => TS.code B (hInts H x) ≤ TS.code B (hInts H y) :=
      List.pairwise_map.mpr (h1.imp fun {x y} h => Int.not_lt.mp (of_decide_eq_false h))
    obtain ⟨ms, pm2, pw2, hm⟩ := rows_out hR pm pw
    obtain ⟨ep', he'⟩ := PyProof.Rows.sortedHeap_at (vs := acc.toList) (out := out.toArray) hoL
    refine wpAny_pure ⟨_, rfl, .ref h'.objs.size, upd H h'.objs.size (.lst (out.map backV)), I1.laid (t' := tk) (fun b u e => ?_) (Nat.le_refl _) ⟨?_, out, ep', vals_back h3, he'⟩, rfl, q ms _ _ pm2 pw2 hm (I1.hok.fresh (Nat.le_refl _))⟩
    · have hb : b < h'.objs.size := Heap.lt_size e
      rw [PyProof.Rows.sortedHeap_old (Nat.ne_of_lt hb) (by rw [size_push']; exact Nat.lt_succ_of_lt hb)]
      exact Heap.get?_push_of_some _ e
    · rw [pm.length_eq, List.length_map, List.length_map]
      omega
end
end Gs
set_option Elab.async false
set_option linter.all false
set_option maxRecDepth 100000
set_option maxHeartbeats 4000000
/-! D: dicts with tuples for keys: pop of a key that is there. -/
namespace Gs
open PySem PySem.Spec PyProof.Rows L2 Gd Com
section
variable {K : Type} [DecidableEq K] {prog : Program} {w : World} {knd : HeapKind prog w K}
theorem meetsPopIs {d b : Addr} {k : K} (hd : (d == sysModules) = false) :
    MeetsIn prog w (Builtin.«dict.pop» ⟨[.ref d, .ref b], []⟩) (fun A R s => ∃ xs p, knd.room A.in1 ∧ knd.is s.heap k b ∧ s.heap.DictOfH knd d xs ∧ xs.length ≤ sizeLine ∧ atKey xs k = some p ∧
      ∀ h' tk, h'.DictOfH knd d (DT.dropH xs k) → Heap.SameBut d s.heap h' → R (.ok (.ret p.2)) { s with heap := h', toks := tk }) :=
  .of_wp fun A R s ⟨xs, p, hu, hkey, hm, hsz, hp, hR⟩ => by
    obtain ⟨o, es, ep, ho, hc, hdat, he, his, hn⟩ := id hm
    have hes : es.size = xs.length := size_of_entries he
    have part : (keyPart (Value.ref b)).isSome = false := rfl
    unfold Builtin.«dict.pop»
    refine wpAny_bind ?_
    unfold Builtin.Dict.keyAndDefault
    refine wpAny_bind (wpAny_notOrdered_dict hm.typeIs ?_)
    show wpAny _ _ (pure (d, Value.ref b, none)) _ _ s
    refine wpAny_pure ?_
    simp only [part, Bool.false_eq_true, if_false]
    refine wpAny_bind (wpAny_dictEntries ho hdat (wpAny_bind (wpAny_pure ?_)))
    cases hem : es.isEmpty with
    | true =>
      have h0 : xs = [] := by
        have z : es.size = 0 := by simpa using hem
        exact List.length_eq_zero_iff.mp (by omega)
      rw [h0] at hp
      exact absurd (show (none : Option (Addr × Value)) = some p from hp) (by simp)
    | false =>
      simp only [Bool.false_eq_true, if_false]
      refine wpAny_bind (DT.takeH hu hkey hm hsz (fun no => ?_) fun p' e hp' hev h' hm' hs' => ?_)
      · rw [no] at hp
        cases hp
      · rw [hp] at hp'
        cases hp'
        simp only [Option.isNone_some, Bool.false_eq_true, if_false]
        exact wpAny_bind (wpAny_letGo (wpAny_pure ⟨e.val, rfl, by rw [hev]; exact hR h' _ hm' hs'⟩))
end
section
variable {X : Cx}
/-- d.pop(k), k a tuple that is there -/
def rPopK : V → List V → Hp → VK → Prop := fun x xs H Q => ∃ (a : Addr) (kvs : List (List L2.Key × V)) (k : List L2.Key) (b : Addr) (v : V), x = .ref a ∧ xs = [.ref b] ∧ H a = some (.dT kvs) ∧ H b = some (.tup (k.map kV)) ∧ valV kvs k = some v ∧
  Q v (upd H a (.dT (dropK kvs k)))
theorem mt_popK (hu : X.A.units + 1 < cLine) : MtR X "dict.pop" rPopK := by
  intro pins s σ H x xs v us Q I rx rxs h
  obtain ⟨a, kvs, k, b, v0, rfl, rfl, ha, hb, ev, q⟩ := h
  cases rx
  obtain ⟨u1, rfl, r1⟩ := vals1 rxs
  cases r1
  obtain ⟨z, hd, xs', rel, dd⟩ := L2.dt_of I.hok ha
  have hz : xs'.length ≤ sizeLine := by rw [← Paired.length rel]; exact z
  have r := rel.val k
  rw [ev] at r
  obtain ⟨p, hp, rv⟩ : ∃ p, atKey xs' k = some p ∧ RelV v0 p.2 := by
    cases e : atKey xs' k with
    | none =>
      rw [e] at r
      exact (show False from r).elim
    | some p =>
      rw [e] at r
      exact ⟨p, rfl, r⟩
  refine call_meetsIn PySem.F.slot_dict_pop dd.typeIs PySem.F.entry_dict_pop (PySem.F.args_dict_pop_2 _ _) (meetsPopIs (knd := tupleKind (mixKind X.prog X.w)) (k := k) hd)
    ⟨xs', p, tupleKind_room_in1 hu, key_of I.hok hb, dd, hz, hp, fun h' tk dd' hs => ?_⟩
  obtain ⟨o, es, ep, hq, h2, h3, h4, _, h5⟩ := dd'
  have stay : ∀ (c : Addr) (ys : List V), H c = some (.tup ys) → upd H a (.dT (dropK kvs k)) c = some (.tup ys) := fun c ys ec => by
    rw [upd_ne (ne_of ec ha (fun z => nomatch z))]
    exact ec
  have I2 : Inv X pins σ (upd H a (.dT (dropK kvs k))) { s with heap := h', toks := tk } :=
    d_write I (by rw [ha]; exact True.intro) hs ⟨o, hq⟩ ⟨Nat.le_trans (dropK_le kvs k) z, hd, _, (L2.DX.KT_drop k rel).keeps stay, o, es, ep, hq, h2, h3, h4, h5⟩
  exact ⟨v0, _, I2, rv, q⟩
end
end Gs
set_option Elab.async false
set_option linter.all false
set_option maxRecDepth 100000
set_option maxHeartbeats 4000000
/-! D2: the values and the items of a dict with tuples for keys. -/
namespace Gs
open PySem PySem.Spec PyProof.Rows L2 Gd Com
section
variable {X : Cx} {pins : List (Addr × Obj)} {σ : L2.St} {H : Hp} {s : Shared} {d : Addr} {o : Obj}
/-- what stands at the locked dict -/
theorem frz_at {kvs : List (List Key × V)} (I : Inv X pins σ H s) (h : H d = some (.frz o (.dT kvs))) :
    (d == sysModules) = false ∧ s.heap.get? d = some o ∧ o.ExactDict ∧ ∃ (es : Array DictEntry) (ep : Nat), o.data = .dict es ep ∧ es.size = kvs.length ∧
      ∀ (i : Nat) (k : List Key) (v : V), kvs[i]? = some (k, v) → ∃ (en : DictEntry) (q : Addr), es[i]? = some en ∧ en.key = .ref q ∧ H q = some (.tup (k.map kV)) ∧ RelV v en.val := by
  obtain ⟨hd, z, hs, xs, pr, o', es, ep, ho, hx, hdt, he, _⟩ := I.hok d _ h
  rw [hd] at ho
  cases ho
  have l1 : es.size = xs.length := size_of_entries he
  have l2 : kvs.length = xs.length := Paired.length pr
  refine ⟨hs, hd, hx, es, ep, hdt, by omega, ?_⟩
  intro i k v e
  obtain ⟨b, hb, e1, e2, e3⟩ := L2.paired_get pr e
  have q := entry_at he i
  rw [hb] at q
  exact ⟨_, b.2.1, q, rfl, e2, e3⟩
end
def Itdt (d : Addr) (o : Obj) (kvs : List (List Key × V)) : It :=
  ⟨fun i H => H d = some (.frz o (.dT kvs)) ∧ i < kvs.length, fun i H x H' => H' = H ∧ ∃ k, kvs[i]? = some (k, x), fun i H => H d = some (.frz o (.dT kvs)) ∧ kvs.length ≤ i⟩
def Itit (d : Addr) (o : Obj) (kvs : List (List Key × V)) : It :=
  ⟨fun i H => H d = some (.frz o (.dT kvs)) ∧ i < kvs.length,
    fun i H x H' => ∃ T k v q, kvs[i]? = some (k, v) ∧ x = .ref T ∧ H T = none ∧ H q = some (.tup (k.map kV)) ∧ H' = upd H T (.tup [.ref q, v]),
    fun i H => H d = some (.frz o (.dT kvs)) ∧ kvs.length ≤ i⟩
theorem walk_valsT {d : Addr} {o : Obj} {kvs : List (List Key × V)} : Walk (Itdt d o kvs) kvs.length (fun H => H d = some (.frz o (.dT kvs))) (fun i H x H' => H' = H ∧ ∃ k, kvs[i]? = some (k, x)) :=
  ⟨fun _ _ hi q => ⟨q, hi⟩, fun _ q => ⟨q, Nat.le_refl _⟩, fun _ _ _ _ _ _ y => y⟩
theorem walk_itemsT {d : Addr} {o : Obj} {kvs : List (List Key × V)} : Walk (Itit d o kvs) kvs.length (fun H => H d = some (.frz o (.dT kvs)))
    (fun i H x H' => ∃ T k v q, kvs[i]? = some (k, v) ∧ x = .ref T ∧ H T = none ∧ H q = some (.tup (k.map kV)) ∧ H' = upd H T (.tup [.ref q, v])) :=
  ⟨fun _ _ hi q => ⟨q, hi⟩, fun _ q => ⟨q, Nat.le_refl _⟩, fun _ _ _ _ _ _ y => y⟩
theorem fresh_ep {o : Obj} {es es' : Array DictEntry} {ep ep' : Nat} (h : o.data = .dict es ep) (h' : o.data = .dict es' ep') : es' = es ∧ ep' = ep := by
  rw [h] at h'
  cases h'
  exact ⟨rfl, rfl⟩
section
variable {P : Program} {w : World} {K : PySem.W.Frag} {tg : Expr} {d : Addr} {o : Obj} {es : Array DictEntry} {ep : Nat} {kvs : List (List Key × V)}
theorem turn_valsT (it : Addr) (hod : o.data = .dict es ep) : Turn P w K tg (Itdt d o kvs) [it] it (fun i h => h.IsValIter it d i kvs.length ep) := by
  refine ⟨by simp, ?_, fun i h h' st k => st.at fun oi e => k it (by simp) oi e, ?_, ?_, fun A i s Q E st h => wpAny_pyIter_valiter st h⟩
  · intro i h st b hb
    obtain rfl : b = it := by simpa using hb
    obtain ⟨oi, e, c, dd⟩ := st
    exact ⟨oi, e, fun v z => by rw [dd] at z; cases z⟩
  · intro X hP hw hK hc i pins s σ H E I hf st ⟨hd, hi⟩
    subst hP hw hK
    obtain ⟨g0, g1, g2, g3, g4, g5⟩ := hf it (by simp)
    obtain ⟨hs, at_, hx, es', ep', hdt, hsz, ent⟩ := frz_at I hd
    obtain ⟨rfl, rfl⟩ := fresh_ep hod hdt
    obtain ⟨⟨k, v⟩, hkv⟩ : ∃ p, kvs[i]? = some p := ⟨kvs[i], List.getElem?_eq_getElem hi⟩
    obtain ⟨en, q, hen, _, _, rv⟩ := ent i k v hkv
    obtain ⟨lt, een⟩ := Array.getElem?_eq_some_iff.mp hen
    rw [← hsz] at st
    refine wpAny_pyNext_values_item_raw st ⟨o, at_, hx, hdt⟩ lt fun h' st' sb => ?_
    have J : Inv X pins σ H { s with heap := h' } := I.turned (t' := s.toks) (fun b ob hb e => (sb.2 b hb).trans e) g0 g1 g3 g4 g5
    obtain ⟨oi, e, c, dd⟩ := id st'
    refine ⟨_, rfl, go_of (s := { s with heap := h' }) e c dd (by decide) ⟨v, H, J, by rw [een]; exact rv, ⟨rfl, k, hkv⟩, ?_, fun b hb => (hf b hb).1⟩⟩
    show h'.IsValIter it d (i + 1) kvs.length _
    rw [← hsz]
    exact st'
  · intro X hP hw hK hc i pins s σ H E I hf st ⟨hd, hi⟩
    subst hP hw hK
    obtain ⟨g0, g1, g2, g3, g4, g5⟩ := hf it (by simp)
    obtain ⟨hs, at_, hx, es', ep', hdt, hsz, ent⟩ := frz_at I hd
    obtain ⟨rfl, rfl⟩ := fresh_ep hod hdt
    rw [← hsz] at st
    exact wpAny_pyNext_values_end_raw (I.ok.hd hc) st ⟨o, at_, hx, hdt⟩ (by omega) fun h' eb => ⟨rfl, I.turned (t' := s.toks) (fun b ob hb e => eb b ob hb e) g0 g1 g3 g4 g5⟩
theorem turn_itemsT {elts : List Expr} {kk : Nat} {tpos : Pos} (it : Addr) (hod : o.data = .dict es ep) :
    Turn P w K (.Tuple elts kk tpos) (Itit d o kvs) [it] it (fun i h => ∃ ok ov, IsItemIter h it d i kvs.length ep ok ov) := by
  refine ⟨by simp, ?_, fun i h h' st k => let ⟨ok, ov, e⟩ := st; ⟨ok, ov, k it (by simp) _ e⟩, ?_, ?_, fun A i s Q E st h => let ⟨_, _, e⟩ := st; PySem.W.kcp_self e h⟩
  · intro i h st b hb
    obtain rfl : b = it := by simpa using hb
    obtain ⟨ok, ov, e⟩ := st
    exact ⟨_, e, fun v z => nomatch z⟩
  · intro X hP hw hK hc i pins s σ H E I hf st ⟨hd, hi⟩
    subst hP hw hK
    obtain ⟨hs, at_, hx, es', ep', hdt, hsz, ent⟩ := frz_at I hd
    obtain ⟨rfl, rfl⟩ := fresh_ep hod hdt
    obtain ⟨⟨k, v⟩, hkv⟩ : ∃ p, kvs[i]? = some p := ⟨kvs[i], List.getElem?_eq_getElem hi⟩
    obtain ⟨en, q, hen, hkey, hq, rv⟩ := ent i k v hkv
    obtain ⟨lt, een⟩ := Array.getElem?_eq_some_iff.mp hen
    obtain ⟨ok, ov, he⟩ := st
    rw [← hsz] at he
    have hlt : it < s.heap.objs.size := Heap.lt_size he
    refine wpAny_pyNext_items_item_raw he ⟨o, at_, hx, hdt⟩ lt fun h' ho hT hz hk => ?_
    rw [een] at ho hT
    refine ⟨_, rfl, wpAny_letOwnedTupleGo_items (s := { s with heap := h' }) ho fun h'' he' sb => ?_⟩
    have hT2 : h''.get? s.heap.objs.size = some { cls := .type "tuple", data := .seq #[en.key, en.val] } := (sb.2 _ (Nat.ne_of_gt hlt)).trans hT
    have two : Vals [.ref q, v] [en.key, en.val] := .cons (by rw [hkey]; rfl) (.cons rv .nil)
    have new : ObjOk X.prog X.w (upd H s.heap.objs.size (.tup [.ref q, v])) h'' s.heap.objs.size (.tup [.ref q, v]) :=
      ⟨by show 2 ≤ sizeLine; decide, [en.key, en.val], two, ⟨_, hT2, rfl, _, rfl⟩⟩
    have J : Inv X pins σ (upd H s.heap.objs.size (.tup [.ref q, v])) { s with heap := h'' } :=
      I.turnedNew (t' := s.toks) (ch := [it]) (fun b ob hb e => (sb.2 b (by simpa using hb)).trans (hk b ob (by simpa using hb) e)) hf (Nat.le_refl _) new
    refine ⟨.ref s.heap.objs.size, _, J, rfl, ⟨_, k, v, q, hkv, rfl, I.hok.fresh (Nat.le_refl _), hq, rfl⟩, ⟨en.key, en.val, ?_⟩, fun b hb => ?_⟩
    · rw [← hsz]; exact he'
    · obtain rfl : b = it := by simpa using hb
      rw [upd_ne (Nat.ne_of_lt hlt)]
      exact (hf b (by simp)).1
  · intro X hP hw hK hc i pins s σ H E I hf st ⟨hd, hi⟩
    subst hP hw hK
    obtain ⟨g0, g1, g2, g3, g4, g5⟩ := hf it (by simp)
    obtain ⟨hs, at_, hx, es', ep', hdt, hsz, ent⟩ := frz_at I hd
    obtain ⟨rfl, rfl⟩ := fresh_ep hod hdt
    obtain ⟨ok, ov, he⟩ := st
    rw [← hsz] at he
    exact wpAny_pyNext_items_end_raw (I.ok.hd hc) he ⟨o, at_, hx, hdt⟩ (by omega) fun h' eb => ⟨rfl, I.turned (t' := s.toks) (fun b ob hb e => eb b ob hb e) g0 g1 g3 g4 g5⟩
end
def iValsT (td : TE) : TI := fun σ H R => td σ H fun x H1 => ∃ d o kvs, x = .ref d ∧ H1 d = some (.frz o (.dT kvs)) ∧ R (Itdt d o kvs) H1
def iItemsT (td : TE) : TI := fun σ H R => td σ H fun x H1 => ∃ d o kvs, x = .ref d ∧ H1 d = some (.frz o (.dT kvs)) ∧ R (Itit d o kvs) H1
section
variable {X : Cx} {tg e : Expr} {td : TE} {apos cpos : Pos}
theorem pi_valuesT (he : PE X e td) (ab : attributeBase e "values" X.env (eval e X.env) = eval e X.env := by rfl) (ln : (apos.endLine == cpos.line) = true := by rfl) :
    PI X tg (.Call (.Attribute e "values" apos) [] [] cpos) (iValsT td) := by
  refine ⟨fun pins s σ H R I h => ?_⟩
  refine wpAny_Call_method (T := "dict") (id := "dict.values") ab rfl ln F.plainAttrs_dict F.slot_dict_values F.type_dict_values (thn (he.run pins s σ H _ I h) fun u s1 ⟨x, H1, J, rx, d, o, kvs, ex, hd, q⟩ => ?_)
  subst ex
  obtain rfl : u = Value.ref d := rx
  obtain ⟨hs, at_, hx, es, ep, hdt, hsz, ent⟩ := frz_at J hd
  have raw : s1.heap.DictRaw d es ep := ⟨o, at_, hx, hdt⟩
  refine ⟨raw.typeIs, fun a ea => ?_, ?_⟩
  · cases ea
    exact ⟨o, at_, hx.2.1⟩
  have J2 : Inv X pins σ H1 { s1 with heap := s1.heap.push { cls := .type "dict_values", data := .fields #[.ref d] } } := J.kept (t' := s1.toks) fun b ob q => Heap.get?_push_of_some _ q
  have fin : wpAny (model X.prog X.w) X.A (pyIter (.ref s1.heap.objs.size)) (PIE X pins σ tg R) X.xe { s1 with heap := s1.heap.push { cls := .type "dict_values", data := .fields #[.ref d] } } := by
    refine wpAny_pyIter_values_raw (d := d) ⟨_, Heap.get?_push_size _ rfl, rfl, rfl⟩ (raw.at fun o e => Heap.get?_push_of_some _ e) (pi_one (tk := s1.toks) J2 _ (turn_valsT _ hdt) ⟨_, Heap.get?_push_size _ rfl, rfl, ?_⟩ q)
    rw [hsz] <;> rfl
  show wpAny _ _ (callWith cpos (.builtin "dict.values") [.ref d] [] []) _ X.xe s1
  exact method_meetsIn F.slot_dict_values F.entry_dict_values rfl (PySem.evalArgs_none ⟨rfl, raw.typeIs, F.args_dict_values_1 _, _, meets_dict_values_raw d hs, ⟨_, _, raw⟩, fin⟩)
theorem pi_itemsT {elts : List Expr} {kk : Nat} {tpos : Pos} (he : PE X e td) (ab : attributeBase e "items" X.env (eval e X.env) = eval e X.env := by rfl) (ln : (apos.endLine == cpos.line) = true := by rfl) :
    PI X (.Tuple elts kk tpos) (.Call (.Attribute e "items" apos) [] [] cpos) (iItemsT td) := by
  refine ⟨fun pins s σ H R I h => ?_⟩
  refine wpAny_Call_method (T := "dict") (id := "dict.items") ab rfl ln F.plainAttrs_dict F.slot_dict_items F.type_dict_items (thn (he.run pins s σ H _ I h) fun u s1 ⟨x, H1, J, rx, d, o, kvs, ex, hd, q⟩ => ?_)
  subst ex
  obtain rfl : u = Value.ref d := rx
  obtain ⟨hs, at_, hx, es, ep, hdt, hsz, ent⟩ := frz_at J hd
  have raw : s1.heap.DictRaw d es ep := ⟨o, at_, hx, hdt⟩
  refine ⟨raw.typeIs, fun a ea => ?_, ?_⟩
  · cases ea
    exact ⟨o, at_, hx.2.1⟩
  have J2 : Inv X pins σ H1 { s1 with heap := s1.heap.push { cls := .type "dict_items", data := .fields #[.ref d] } } := J.kept (t' := s1.toks) fun b ob q => Heap.get?_push_of_some _ q
  have fin : wpAny (model X.prog X.w) X.A (pyIter (.ref s1.heap.objs.size)) (PIE X pins σ (.Tuple elts kk tpos) R) X.xe { s1 with heap := s1.heap.push { cls := .type "dict_items", data := .fields #[.ref d] } } := by
    refine wpAny_pyIter_items_raw (d := d) ⟨_, Heap.get?_push_size _ rfl, rfl, rfl⟩ (raw.at fun o e => Heap.get?_push_of_some _ e) (pi_one (tk := s1.toks) J2 _ (turn_itemsT _ hdt) ⟨.none, .none, ?_⟩ q)
    rw [← hsz]
    exact Heap.get?_push_size _ rfl
  show wpAny _ _ (callWith cpos (.builtin "dict.items") [.ref d] [] []) _ X.xe s1
  exact method_meetsIn F.slot_dict_items F.entry_dict_items rfl (PySem.evalArgs_none ⟨rfl, raw.typeIs, F.args_dict_items_1 _, _, meets_dict_items_raw d hs, ⟨_, _, raw⟩, fin⟩)
end
end Gs
set_option Elab.async false
set_option linter.all false
set_option maxRecDepth 100000
set_option maxHeartbeats 4000000
/-! DC: dict comprehensions whose keys may be tuples, with one for and with two. -/
namespace Gd
open PySem PySem.Spec PyProof.Rows L2
section
variable {X : Cx} {pins : List (Addr × Obj)} {σ : L2.St} {H H' : Hp} {s : Shared} {a : Addr} {y v : V} {u r : Value}
/-- what a comprehension does with a key and a value -/
theorem d_putAny {E : Value → Shared → Prop} {Q : Unit → Shared → Prop} (hu : X.A.units + 1 < cLine) (I : Inv X pins σ H s) (g : DPut H a y v H') (ry : RelV y u) (rv : RelV v r) (h : ∀ t, Inv X pins σ H' t → Q () t) :
    wpAny (model X.prog X.w) X.A (dictSet a u r) Q E s := by
  rcases g with ⟨kvs, k, e, ey, l, eH⟩ | ⟨kvs, k, b, e, ey, eb, l, eH⟩
  · subst ey eH
    exact d_dictSet I e l ry rv h
  · subst ey eH
    have eu : u = Value.ref b := ry
    subst eu
    obtain ⟨z, hd, xs, rel, dd⟩ := dt_of I.hok e
    have l1 := Paired.length rel
    have l2 := length_putK kvs k v
    refine wpAny_dictSet_heap (hsz := by omega) (show (tupleKind (mixKind X.prog X.w)).room X.A from Nat.lt_of_succ_lt hu) (key_of I.hok eb) dd fun g2 dd2 sb => h _ ?_
    obtain ⟨q, es, ep, c1, c2, c3, c4, _, c5⟩ := dd2
    have stay : ∀ (c : Addr) ys, H c = some (.tup ys) → (upd H a (.dT (putK kvs k v))) c = some (.tup ys) := fun c ys ec => (upd_ne (ne_of ec e (fun z => nomatch z))).trans ec
    exact d_write I (by rw [e]; exact True.intro) sb ⟨q, c1⟩ ⟨by omega, hd, _, (rel.put k eb rv).keeps stay, q, es, ep, c1, c2, c3, c4, c5⟩
end
/-- the two kinds of an empty dict -/
def Emp (o : HO) : Prop := o = .dK [] ∨ o = .dT []
theorem emp_ok {P : Program} {w : World} {H : Hp} {h : Heap} {o : HO} (e : Emp o) (big : sysModules < h.objs.size) : ObjOk P w H (h.push { cls := .type "dict", data := .dict #[] }) h.objs.size o := by
  rcases e with rfl | rfl
  · exact dk_empty h big
  · exact dt_empty h big
/-! the loops of the machine -/
section
variable {P : Program} {w : World} {A : Around} {R : Result → Shared → Prop} {s : Shared} {kx vx t0 i0 t1 i1 : Expr} {fs0 fs1 : List Expr} {sc : Scope} {pos : Pos} {it : Value} {D : Addr} {env : Env}
def tests (fs : List Expr) (env : Env) : Sem Bool := forIn fs true fun c r => if r = true then do let ok ← isTrue c env (eval c env); pure (ForInStep.yield ok) else pure (ForInStep.yield r)
abbrev Nb (P : Program) (w : World) (A : Around) (env : Env) (R : Result → Shared → Prop) := notedBy (model P w) A env fun e t => R (.error e) t
/-- the next item, stored and tested: then go, or sk -/
def goNext (P : Program) (w : World) (A : Around) (tg : Expr) (fs : List Expr) (it : Value) (env : Env) (R : Result → Shared → Prop) (go sk : Shared → Prop) (s : Shared) : Prop :=
  wpAny (model P w) A (pyNext it) (fun r u => match r with
    | none => R (.ok .next) u
    | some v => wpAny (model P w) A (letOwnedTupleGo tg it v) (fun _ u1 => wpAny (model P w) A (assign tg env v) (fun _ u2 =>
      wpAny (model P w) A (tests fs env) (fun ok u3 => if ok = true then go u3 else sk u3) (Nb P w A env R) u2) (Nb P w A env R) u1) (Nb P w A env R) u) (Nb P w A env R) s
/-- key, value, and the store -/
def keyPut (P : Program) (w : World) (A : Around) (kx vx : Expr) (D : Addr) (env : Env) (R : Result → Shared → Prop) (q : Shared → Prop) (s : Shared) : Prop :=
  wpAny (model P w) A (eval kx env) (fun k u => wpAny (model P w) A (eval vx env) (fun v u1 => wpAny (model P w) A (dictSet D k v) (fun _ u2 => q u2) (Nb P w A env R) u1) (Nb P w A env R) u) (Nb P w A env R) s
theorem loop_one (I : Nat → Shared → Prop) (turn : ∀ n s, I n s → goNext P w A t0 fs0 it env R (keyPut P w A kx vx D env R fun u => ∃ m, m < n ∧ I m u) (fun u => ∃ m, m < n ∧ I m u) s) (n : Nat) (h : I n s) :
    codeAny (model P w) A (.compLoop (.DictComp kx vx [⟨t0, i0, fs0, 0⟩] sc pos) 0 it (.ref D) env) R s := compLoop_anyD I turn n h
abbrev two (kx vx t0 i0 t1 i1 : Expr) (fs0 fs1 : List Expr) (sc : Scope) (pos : Pos) : Expr := .DictComp kx vx [⟨t0, i0, fs0, 0⟩, ⟨t1, i1, fs1, 0⟩] sc pos
/-- the second walk begins -/
def startTwo (P : Program) (w : World) (A : Around) (kx vx t0 i0 t1 i1 : Expr) (fs0 fs1 : List Expr) (sc : Scope) (pos : Pos) (D : Addr) (env : Env) (R : Result → Shared → Prop) (q : Shared → Prop) (s : Shared) : Prop :=
  wpAny (model P w) A (eval i1 env) (fun x u => wpAny (model P w) A (pyIter x) (fun j u1 => codeAny (model P w) A (.compStart (two kx vx t0 i0 t1 i1 fs0 fs1 sc pos) 1 j (.ref D) env) (fun r t => match r with
    | .ok _ => q t
    | .error _ => False) u1) (Nb P w A env R) u) (Nb P w A env R) s
theorem turn_out : compTurn (two kx vx t0 i0 t1 i1 fs0 fs1 sc pos) 0 it (.ref D) env = (do
    standAt i0.pos
    match ← pyNext it with
    | none => pure (.done .next)
    | some v =>
      letOwnedTupleGo t0 it v
      assign t0 env v
      let ok ← tests fs0 env
      if ok then
        let x ← eval i1 env
        standAt i1.pos
        let x ← foldedSetIterable i1 env x
        let _ ← runOwn (.compStart (two kx vx t0 i0 t1 i1 fs0 fs1 sc pos) 1 (← holding [x] (pyIter x)) (.ref D) env) env
      again (.compLoop (two kx vx t0 i0 t1 i1 fs0 fs1 sc pos) 0 it (.ref D) env)) := by rfl
theorem turn_in : compTurn (two kx vx t0 i0 t1 i1 fs0 fs1 sc pos) 1 it (.ref D) env = (do
    standAt i1.pos
    match ← pyNext it with
    | none => pure (.done .next)
    | some v =>
      letOwnedTupleGo t1 it v
      assign t1 env v
      let ok ← tests fs1 env
      if ok then
        (do
          let k ← eval kx env
          let v ← holding [k] (eval vx env)
          standAt { kx.pos with endLine := vx.pos.endLine, endCol := vx.pos.endCol }
          holding [k, v] (dictSet D k v))
      again (.compLoop (two kx vx t0 i0 t1 i1 fs0 fs1 sc pos) 1 it (.ref D) env)) := by rfl
/-- behind the tests -/
theorem after_tests {α : Type} {K : Bool → Sem α} {Q : α → Shared → Prop} {E : Value → Shared → Prop} {go sk : Shared → Prop} {tm : Sem Bool} {u : Shared} (h : wpAny (model P w) A tm (fun ok t => if ok = true then go t else sk t) E u)
    (yes : ∀ t, go t → wpAny (model P w) A (K true) Q E t) (no : ∀ t, sk t → wpAny (model P w) A (K false) Q E t) : wpAny (model P w) A (tm >>= K) Q E u :=
  wpAny_bind (wpAny_mono h (fun ok t ht => by
    cases ok with
    | false => exact no t ht
    | true => exact yes t ht) fun _ _ z => z)
theorem loop_out (hs : ∀ x, foldedSetIterable i1 env x = pure x) (I : Nat → Shared → Prop)
    (turn : ∀ n s, I n s → goNext P w A t0 fs0 it env R (startTwo P w A kx vx t0 i0 t1 i1 fs0 fs1 sc pos D env R fun u => ∃ m, m < n ∧ I m u) (fun u => ∃ m, m < n ∧ I m u) s) (n : Nat) (h : I n s) :
    codeAny (model P w) A (.compLoop (two kx vx t0 i0 t1 i1 fs0 fs1 sc pos) 0 it (.ref D) env) R s := by
  refine codeAny_loop rfl I (fun k t hI => ?_) n h
  show wpAny _ A ((compTurn (two kx vx t0 i0 t1 i1 fs0 fs1 sc pos) 0 it (.ref D) env).onRaise (fun x => do noteFrame x env; theTreesLotGoes x)) _ _ t
  refine wpAny_noted ?_
  rw [turn_out]
  refine wpAny_bind (wpAny_standAt (wpAny_bind (wpAny_mono (turn k t hI) (fun r t1' h1 => ?_) fun _ _ z => z)))
  cases r with
  | none => exact wpAny_pure h1
  | some v =>
    refine wpAny_bind (wpAny_mono h1 (fun _ t2 h2 => wpAny_bind (wpAny_mono h2 (fun _ t3 h3 => ?_) fun _ _ z => z)) fun _ _ z => z)
    refine after_tests h3 (fun t4 h4 => ?_) fun t4 h4 => wpAny_pure ⟨rfl, h4⟩
    refine wpAny_bind (wpAny_mono h4 (fun x t5 h5 => ?_) fun _ _ z => z)
    refine wpAny_bind (wpAny_standAt (wpAny_bind (wpAny_of_eq (hs x) (wpAny_bind (wpAny_holding (wpAny_mono h5 (fun j t6 h6 => ?_) fun _ _ z => z))))))
    refine wpAny_bind (wpAny_runOwn ?_)
    rw [Around.mark_none]
    refine codeAny_mono h6 fun r t7 h7 => ?_
    cases r with
    | ok f => first | exact wpAny_pure ⟨rfl, h7⟩ | exact wpAny_bind (wpAny_pure (wpAny_pure ⟨rfl, h7⟩))
    | error e => exact h7.elim
theorem loop_in (I : Nat → Shared → Prop) (turn : ∀ n s, I n s → goNext P w A t1 fs1 it env R (keyPut P w A kx vx D env R fun u => ∃ m, m < n ∧ I m u) (fun u => ∃ m, m < n ∧ I m u) s) (n : Nat) (h : I n s) :
    codeAny (model P w) A (.compLoop (two kx vx t0 i0 t1 i1 fs0 fs1 sc pos) 1 it (.ref D) env) R s := by
  refine codeAny_loop rfl I (fun k t hI => ?_) n h
  show wpAny _ A ((compTurn (two kx vx t0 i0 t1 i1 fs0 fs1 sc pos) 1 it (.ref D) env).onRaise (fun x => do noteFrame x env; theTreesLotGoes x)) _ _ t
  refine wpAny_noted ?_
  rw [turn_in]
  refine wpAny_bind (wpAny_standAt (wpAny_bind (wpAny_mono (turn k t hI) (fun r t1' h1 => ?_) fun _ _ z => z)))
  cases r with
  | none => exact wpAny_pure h1
  | some v =>
    refine wpAny_bind (wpAny_mono h1 (fun _ t2 h2 => wpAny_bind (wpAny_mono h2 (fun _ t3 h3 => ?_) fun _ _ z => z)) fun _ _ z => z)
    refine after_tests h3 (fun t4 h4 => ?_) fun t4 h4 => wpAny_pure ⟨rfl, h4⟩
    exact wpAny_bind (wpAny_bind (wpAny_mono h4 (fun k t5 h5 => wpAny_bind (wpAny_holding (wpAny_mono h5 (fun v t6 h6 => wpAny_bind (wpAny_standAt (wpAny_holding (wpAny_mono h6 (fun _ t7 h7 => wpAny_pure ⟨rfl, h7⟩) fun _ _ z => z)))) fun _ _ z => z))) fun _ _ z => z))
theorem start_in (h0 : codeAny (model P w) A (.compLoop (two kx vx t0 i0 t1 i1 fs0 fs1 sc pos) 1 it (.ref D) env) R s)
    (h : wpAny (model P w) A (pyIter it) (fun j u => codeAny (model P w) A (.compLoop (two kx vx t0 i0 t1 i1 fs0 fs1 sc pos) 1 j (.ref D) env) R u) (Nb P w A env R) s) :
    codeAny (model P w) A (.compStart (two kx vx t0 i0 t1 i1 fs0 fs1 sc pos) 1 it (.ref D) env) R s := by
  refine codeAny_of_tree ?_
  show wpAny _ _ ((compStart (two kx vx t0 i0 t1 i1 fs0 fs1 sc pos) 1 it (.ref D) env).onRaise (fun x => do noteFrame x env; standAt theWindowsPlace)) _ _ s
  refine wpAny_notedAt ?_
  unfold compStart
  show wpAny _ _ (ask >>= _) _ _ s
  refine wpAny_bind (wpAny_askSetting (wpAny_ite ?_))
  split
  · first | exact wpAny_bind (wpAny_pure (wpAny_pure ⟨rfl, h0⟩)) | exact wpAny_pure ⟨rfl, h0⟩
  · first
      | exact wpAny_bind (wpAny_rule (wpAny_bind (wpAny_standAt (wpAny_bind (wpAny_mono h (fun j u z => wpAny_pure ⟨rfl, z⟩) fun _ _ z => z)))))
      | (refine wpAny_bind (wpAny_rule ?_); show wpAny _ _ (standAt i1.pos >>= _) _ _ s; exact wpAny_bind (wpAny_standAt (wpAny_bind (wpAny_mono h (fun j u z => wpAny_pure ⟨rfl, z⟩) fun _ _ z => z))))
end
section
variable {X : Cx}
abbrev Body := L2.St → Hp → Addr → (Hp → Prop) → Prop
/-- a dict comprehension: o0 the empty dict that it begins with, body what a turn does behind the tests -/
def tDcA (wi : TI) (g : TG) (tt : TT) (body : Body) (vs : List Nat) (o0 : HO) : TE := fun σ H Q => wi σ H fun J H1 => ∀ D, H1 D = none → ∃ W : Nat → Nat → Hp → Prop, (∃ m, W 0 m (upd H1 D o0)) ∧ ∀ i m H, W i m H →
  (J.stop i H ∧ Q (.ref D) H) ∨ (J.go i H ∧ ∃ Nx : Hp → Prop, (∀ H', Nx H' → ∃ m', m' < m ∧ W (i + 1) m' H') ∧
    ∀ x H', J.yld i H x H' → g x (wipe σ vs) H' fun σ2 H2 => wipe σ2 vs = wipe σ vs ∧ tt σ2 H2 fun b H3 => if b = true then body σ2 H3 D Nx else Nx H3)
def bOne (tk tv : TE) : Body := fun σ H D Nx => tk σ H fun y H4 => tv σ H4 fun z H5 => ∃ H6, DPut H5 D y z H6 ∧ Nx H6
def bTwo (wi1 : TI) (g1 : TG) (tt1 : TT) (tk tv : TE) (vs1 : List Nat) : Body := fun σ2 H3 D Nx => wi1 σ2 H3 fun J1 H4 => ∃ W1 : Nat → Nat → Hp → Prop, (∃ m, W1 0 m H4) ∧ ∀ j k H, W1 j k H →
  (J1.stop j H ∧ Nx H) ∨ (J1.go j H ∧ ∃ N1 : Hp → Prop, (∀ H', N1 H' → ∃ k', k' < k ∧ W1 (j + 1) k' H') ∧
    ∀ x H', J1.yld j H x H' → g1 x (wipe σ2 vs1) H' fun σ3 H5 => wipe σ3 vs1 = wipe σ2 vs1 ∧ tt1 σ3 H5 fun b H6 => if b = true then bOne tk tv σ3 H6 D N1 else N1 H6)
abbrev MB := Env → (Result → Shared → Prop) → Addr → (Shared → Prop) → Shared → Prop
/-- the machine's way through a turn is what body reads -/
def BodyRun (Y : Cx) (ce : Env) (vs : List Nat) (body : Body) (B : MB) : Prop := ∀ (pins : List (Addr × Obj)) (σ : L2.St) (H : Hp) (s : Shared) (D : Addr) (Nx : Hp → Prop) (post : Shared → Prop) (R : Result → Shared → Prop), Inv Y pins σ H s → body σ H D Nx →
  (∀ (σ' : L2.St) (t : Shared) (H' : Hp), Inv Y pins σ' H' t → σ'.length = σ.length → (∀ (j : Nat) v, j ∉ vs → σ[j]? = some (some v) → σ'[j]? = some (some v)) → Nx H' → post t) → B ce R D post s
theorem dca_core {pins : List (Addr × Obj)} {s : Shared} {σ : L2.St} {H : Hp} {Q : VK} {kx vx tg iter : Expr} {fs : List Expr} {rest : List Comprehension} {sc : Scope} {own : List (Str × Nat)} {pos pos' : Pos} {wi : TI} {g : TG} {tt : TT} {body : Body} {B : MB} {o0 : HO} {use : Option (Value → Sem Unit)} {Qf : Value → Shared → Prop}
    (he : Emp o0) (calm : X.calm = true) (nd : X.N.Nodup) (I : Inv X pins σ H s) (walks : PI X tg iter wi) (blk : BlkOk X.N X.env.scope sc own)
    (hg : InBlk X sc fun Y => PG Y tg g) (ht : InBlk X sc fun Y => PTs Y fs tt)
    (hb : ∀ s H C cl fp, BodyRun (X.blk s H sc (compEnvC sc cl C X.env) fp) (compEnvC sc cl C X.env) (own.map (·.2)) body B)
    (loop : ∀ (ce : Env) (R : Result → Shared → Prop) (it : Value) (D : Addr) (J : Nat → Shared → Prop), (∀ n s, J n s → goNext X.prog X.w X.A tg fs it ce R (B ce R D fun u => ∃ m, m < n ∧ J m u) (fun u => ∃ m, m < n ∧ J m u) s) →
      ∀ n s, J n s → codeAny (model X.prog X.w) X.A (.compLoop (.DictComp kx vx (⟨tg, iter, fs, 0⟩ :: rest) sc pos) 0 it (.ref D) ce) R s)
    (hs : ∀ x, foldedSetIterable iter X.env x = pure x)
    (h : tDcA wi g tt body (own.map (·.2)) o0 σ H Q)
    (out : ∀ D C t m H', Inv X pins σ H' t → Q (.ref D) H' → t.heap.Ns C m → FpOk X pins H' C → compPost (model X.prog X.w) X.A X.xe use Qf (.ref D) C (.ok .next) t) :
    wpAny (model X.prog X.w) X.A (comprehension (.DictComp kx vx (⟨tg, iter, fs, 0⟩ :: rest) sc pos) sc X.env pos' newDict false (eval iter X.env) use) Qf X.xe s := by
  have free : ∀ y ∈ sc.names, y.2 = .free → ∃ c, X.env.cells.lookup y.1 = some c := fun y hy e => (blk.free y hy e).elim (fun k => I.ok.has _ (.inl k)) fun k => I.ok.has _ (.inr k)
  refine wpAny_comprehension_free (use := use) rfl hs (closure_ok free) blk.kind (fun y hy e => by rw [blk.uniq y hy, e]) (thn (walks.run pins s σ H _ I h) fun xv sa ha => thn ha fun itv sb hb' => ?_)
  obtain ⟨it, fp, tn, J, H2, e, I2, T, at0, f2, q⟩ := hb'
  subst e
  refine wpAny_newObj_type (newEnv_comp ?_)
  generalize hD : sb.heap.objs.size = D
  obtain ⟨W, ⟨m0, w0⟩, turn⟩ := q D (I2.hok.fresh (Nat.le_of_eq hD))
  generalize h3 : ({ sb with heap := sb.heap.push { cls := .type "dict", data := .dict #[] } } : Shared) = s3
  have hh3 : s3.heap = sb.heap.push { cls := .type "dict", data := .dict #[] } := by rw [← h3]
  have I3 : Inv X pins σ (upd H2 D o0) s3 := by
    rw [← h3]
    refine I2.laid (t' := sb.toks) (fun _ _ z => Heap.get?_push_of_some _ z) (Nat.le_of_eq hD) ?_
    rw [← hD]
    exact emp_ok he I2.big
  have small : ∀ b ∈ fp, b < sb.heap.objs.size := fun b hb => (T.obj _ _ at0 b hb).elim fun o z => Heap.lt_size z.1
  have f3 : ∀ b ∈ fp, FpOk X pins (upd H2 D o0) b ∧ b < s3.heap.objs.size := fun b hb => by
    have lt := small b hb
    have ne : b ≠ D := by rw [← hD]; exact Nat.ne_of_lt lt
    exact ⟨⟨(upd_ne ne).trans (f2 b hb).1, (f2 b hb).2⟩, by rw [hh3, Heap.size_push]; exact Nat.lt_succ_of_lt lt⟩
  have at3 : tn 0 s3.heap := T.keep _ _ _ at0 fun b _ o z => by rw [hh3]; exact Heap.get?_push_of_some _ z
  have I4 := block_start I3 blk nd f3
  have pg := hg s3 (upd H2 D o0) s3.heap.objs.size (cellsFrom (s3.heap.objs.size + 1) sc.names (cloFrom X.env.cells sc.names [])) fp
  have pt := ht s3 (upd H2 D o0) s3.heap.objs.size (cellsFrom (s3.heap.objs.size + 1) sc.names (cloFrom X.env.cells sc.names [])) fp
  have pb := hb s3 (upd H2 D o0) s3.heap.objs.size (cellsFrom (s3.heap.objs.size + 1) sc.names (cloFrom X.env.cells sc.names [])) fp
  show codeAny _ _ (.compStart (.DictComp kx vx (⟨tg, iter, fs, 0⟩ :: rest) sc pos) 0 (.ref it) (.ref D) (compEnvC sc (cellsFrom (s3.heap.objs.size + 1) sc.names (cloFrom X.env.cells sc.names [])) s3.heap.objs.size X.env)) (compPost (model X.prog X.w) X.A X.xe use Qf (.ref D) s3.heap.objs.size) { s3 with heap := pushCells (s3.heap.push { cls := .type "dict", data := .dict #[] }) sc.names }
  have none3 : ∀ b ∈ fp, (upd H2 D o0) b = none := fun b hb => (f3 b hb).1.1
  generalize hce : compEnvC sc (cellsFrom (s3.heap.objs.size + 1) sc.names (cloFrom X.env.cells sc.names [])) s3.heap.objs.size X.env = ce at I4 pg pt pb ⊢
  have loc : ce.locals = s3.heap.objs.size := by subst hce; rfl
  generalize hH3 : upd H2 D o0 = H3 at I3 I4 pg pt pb w0 none3 f3
  generalize h4 : ({ s3 with heap := pushCells (s3.heap.push { cls := .type "dict", data := .dict #[] }) sc.names } : Shared) = s4 at I4 ⊢
  have at4 : tn 0 s4.heap := T.keep _ _ _ at3 fun b _ o z => by rw [← h4]; exact pushCells_keeps _ _ _ _ (Heap.get?_push_of_some _ z)
  have fpo : ∀ {σ' : L2.St} {H' : Hp} {t : Shared}, Inv (X.blk s3 H3 sc ce fp) [] σ' H' t → (∀ b ∈ fp, H' b = none) → ∀ b ∈ fp, FpOk (X.blk s3 H3 sc ce fp) [] H' b := fun {σ' H' t} K n b hb =>
    ⟨n b hb, (K.ok.exf b hb).1, K.ok.exfs b hb, .inl hb, fun x c z => (K.ok.exf b hb).2 x c z, fun p hp => (nomatch (show p ∈ ([] : List (Addr × Obj)) from hp))⟩
  have all : codeAny (model X.prog X.w) X.A (.compLoop (.DictComp kx vx (⟨tg, iter, fs, 0⟩ :: rest) sc pos) 0 (.ref it) (.ref D) ce) (compPost (model X.prog X.w) X.A X.xe use Qf (.ref D) s3.heap.objs.size) s4 := by
    refine loop ce _ (.ref it) D (fun n t => ∃ i H', Inv (X.blk s3 H3 sc ce fp) [] (wipe σ (own.map (·.2))) H' t ∧ tn i t.heap ∧ (∀ b ∈ fp, H' b = none) ∧ W i n H') ?_ m0 s4 ⟨0, H3, I4, at4, none3, w0⟩
    rintro n s5 ⟨i, H5, I5, at5, n5, w5⟩
    rcases turn i n H5 w5 with ⟨stop, qq⟩ | ⟨go, Nx, hNx, step⟩
    · refine thnF (T.done (X.blk s3 H3 sc ce fp) rfl rfl rfl calm i [] s5 _ H5 (fun _ _ => False) I5 (fpo I5 n5) at5 stop) fun r s6 ⟨hr, I6⟩ => ?_
      subst hr
      have I7 : Inv X pins σ H5 s6 := I3.call' (ch := fp) I6.os I6.base I6.hok I6.bare fun b hb => ⟨(f3 b hb).1.2.2.2.1, (f3 b hb).1.2.1, (f3 b hb).1.2.2.2.2.1, (f3 b hb).1.2.2.2.2.2⟩
      have nC : H5 s3.heap.objs.size = none := by rw [← loc]; exact I6.free
      obtain ⟨m, hn, _⟩ := I6.loc
      exact out D s3.heap.objs.size s6 m H5 I7 qq (by rw [← loc]; exact hn) (I3.fpOk (Nat.le_refl _) nC)
    · refine thnF (T.item (X.blk s3 H3 sc ce fp) rfl rfl rfl calm i [] s5 _ H5 (fun _ _ => False) I5 (fpo I5 n5) at5 go) fun r s6 ⟨u, hr, h6⟩ => ?_
      subst hr
      refine thnF h6 fun _ s7 ⟨x, H7, I7, r7, y7, at7, n7⟩ => ?_
      have I7' := I7.pinned (fpo I7 n7) (T.obj _ _ at7)
      refine thnF (pg.run _ s7 _ H7 x u _ I7' r7 (step x H7 y7)) fun _ s8 ⟨σ8, H8, I8, hw, q8⟩ => ?_
      refine thnF (pt.run _ s8 σ8 H8 _ I8 q8) fun b s9 ⟨H9, I9, q9⟩ => ?_
      have fin : ∀ (σ9 : L2.St) (t : Shared) (H' : Hp), Inv (X.blk s3 H3 sc ce fp) ([] ++ pinsAt fp s7.heap) σ9 H' t → σ9.length = σ8.length → (∀ (j : Nat) v, j ∉ own.map (·.2) → σ8[j]? = some (some v) → σ9[j]? = some (some v)) → Nx H' →
          ∃ m, m < n ∧ ∃ i H', Inv (X.blk s3 H3 sc ce fp) [] (wipe σ (own.map (·.2))) H' t ∧ tn i t.heap ∧ (∀ b ∈ fp, H' b = none) ∧ W i m H' := fun σ9 t H' K hl hk nx => by
        obtain ⟨m', hm, w'⟩ := hNx H' nx
        have pin : ∀ b ∈ fp, ∀ o, s7.heap.get? b = some o → t.heap.get? b = some o ∧ H' b = none := fun b hb o z =>
          let y := K.pin (b, o) (List.mem_append_right _ (List.mem_append_right _ (mem_pinsAt hb z)))
          ⟨y.1, y.2.1⟩
        refine ⟨m', hm, i + 1, H', (K.unpinned (pins := [])).weak (by rw [hl, ← hw, wipe_length]) (fun j v z => ?_), T.keep _ _ _ at7 fun b hb o z => (pin b hb o z).1, fun b hb => ?_, w'⟩
        · rw [← hw] at z
          exact hk j v (wipe_some z).2 (wipe_some z).1
        · obtain ⟨o, z, _⟩ := T.obj _ _ at7 b hb
          exact (pin b hb o z).2
      cases b with
      | false =>
        simp only [Bool.false_eq_true, if_false] at q9 ⊢
        exact fin σ8 s9 H9 I9 rfl (fun _ _ _ z => z) q9
      | true =>
        simp only [if_true] at q9 ⊢
        exact pb _ σ8 H9 s9 D Nx _ _ I9 q9 fin
  exact codeAny_compStart_dict all (T.self X.A 0 _ _ _ at4 all)
theorem run_one {kx vx : Expr} {sc : Scope} {vs : List Nat} {tk tv : TE} (hu : X.A.units + 1 < cLine) {s0 : Shared} {H0 : Hp} {C : Addr} {cl : List (Str × Addr)} {fp : List Addr}
    (hk : PE (X.blk s0 H0 sc (compEnvC sc cl C X.env) fp) kx tk) (hv : PE (X.blk s0 H0 sc (compEnvC sc cl C X.env) fp) vx tv) :
    BodyRun (X.blk s0 H0 sc (compEnvC sc cl C X.env) fp) (compEnvC sc cl C X.env) vs (bOne tk tv) (fun ce R D q => keyPut X.prog X.w X.A kx vx D ce R q) := by
  intro pins σ H s D Nx post R I q fin
  refine thnF (hk.run _ s σ H _ I q) fun k s1 ⟨y, H1, I1, r1, q1⟩ => ?_
  refine thnF (hv.run _ s1 σ H1 _ I1 q1) fun v s2 ⟨z, H2, I2, r2, H3, g, nx⟩ => ?_
  exact d_putAny (X := X.blk s0 H0 sc (compEnvC sc cl C X.env) fp) hu I2 g r1 r2 fun t J => fin σ t H3 J rfl (fun _ _ _ z => z) nx
theorem run_two {kx vx t0 i0 t1 i1 : Expr} {fs0 fs1 : List Expr} {sc : Scope} {pos : Pos} {vs vs1 : List Nat} {tk tv : TE} {wi1 : TI} {g1 : TG} {tt1 : TT} (hu : X.A.units + 1 < cLine) (calm : X.calm = true) (sub : ∀ i ∈ vs1, i ∈ vs) {s0 : Shared} {H0 : Hp} {C : Addr} {cl : List (Str × Addr)} {fp : List Addr}
    (hi : PI (X.blk s0 H0 sc (compEnvC sc cl C X.env) fp) t1 i1 wi1) (hg : PG (X.blk s0 H0 sc (compEnvC sc cl C X.env) fp) t1 g1) (ht : PTs (X.blk s0 H0 sc (compEnvC sc cl C X.env) fp) fs1 tt1)
    (hk : PE (X.blk s0 H0 sc (compEnvC sc cl C X.env) fp) kx tk) (hv : PE (X.blk s0 H0 sc (compEnvC sc cl C X.env) fp) vx tv) :
    BodyRun (X.blk s0 H0 sc (compEnvC sc cl C X.env) fp) (compEnvC sc cl C X.env) vs (bTwo wi1 g1 tt1 tk tv vs1) (fun ce R D q => startTwo X.prog X.w X.A kx vx t0 i0 t1 i1 fs0 fs1 sc pos D ce R q) := by
  intro pins σ H s D Nx post R I q fin
  refine thnF (hi.run pins s σ H _ I q) fun x sa ha => thnF ha fun j sb hb => ?_
  obtain ⟨it, fq, tn, J, H1, e, I1, T, at0, f1, W, ⟨m0, w0⟩, turn⟩ := hb
  subst e
  have fpo : ∀ {H' : Hp}, (∀ b ∈ fq, H' b = none) → ∀ b ∈ fq, FpOk (X.blk s0 H0 sc (compEnvC sc cl C X.env) fp) pins H' b := fun n b hb => ⟨n b hb, (f1 b hb).2⟩
  have lp : codeAny (model X.prog X.w) X.A (.compLoop (two kx vx t0 i0 t1 i1 fs0 fs1 sc pos) 1 (.ref it) (.ref D) (compEnvC sc cl C X.env)) (fun r t => match r with
      | .ok _ => post t
      | .error _ => False) sb := by
    refine loop_in (fun n t => ∃ i H', Inv (X.blk s0 H0 sc (compEnvC sc cl C X.env) fp) pins (wipe σ vs1) H' t ∧ tn i t.heap ∧ (∀ b ∈ fq, H' b = none) ∧ W i n H') ?_ m0 ⟨0, H1, I1.weak (wipe_length _ _) (fun _ _ z => (wipe_some z).1), at0, fun b hb => (f1 b hb).1, w0⟩
    rintro n s2 ⟨i, H2, I2, at2, n2, w2⟩
    rcases turn i n H2 w2 with ⟨stop, nx⟩ | ⟨go, N1, hN, step⟩
    · refine thnF (T.done (X.blk s0 H0 sc (compEnvC sc cl C X.env) fp) rfl rfl rfl calm i _ s2 _ H2 (fun _ _ => False) I2 (fpo n2) at2 stop) fun r s3 ⟨hr, I3⟩ => ?_
      subst hr
      exact fin _ s3 H2 I3 (wipe_length σ vs1) (fun j v nj z => by rw [wipe_out fun q => nj (sub j q)]; exact z) nx
    · refine thnF (T.item (X.blk s0 H0 sc (compEnvC sc cl C X.env) fp) rfl rfl rfl calm i _ s2 _ H2 (fun _ _ => False) I2 (fpo n2) at2 go) fun r s3 ⟨u, hr, h3⟩ => ?_
      subst hr
      refine thnF h3 fun _ s4 ⟨y, H4, I4, r4, y4, at4, n4⟩ => ?_
      have I4' := I4.pinned (fpo n4) (T.obj _ _ at4)
      refine thnF (hg.run _ s4 _ H4 y u _ I4' r4 (step y H4 y4)) fun _ s5 ⟨σ5, H5, I5, hw, q5⟩ => ?_
      refine thnF (ht.run _ s5 σ5 H5 _ I5 q5) fun b s6 ⟨H6, I6, q6⟩ => ?_
      have end1 : ∀ {t : Shared} {H' : Hp}, Inv (X.blk s0 H0 sc (compEnvC sc cl C X.env) fp) (pins ++ pinsAt fq s4.heap) σ5 H' t → N1 H' → ∃ m, m < n ∧ ∃ i H', Inv (X.blk s0 H0 sc (compEnvC sc cl C X.env) fp) pins (wipe σ vs1) H' t ∧ tn i t.heap ∧ (∀ b ∈ fq, H' b = none) ∧ W i m H' := fun {t H'} K nx => by
        obtain ⟨m', hm, w'⟩ := hN H' nx
        have pin : ∀ b ∈ fq, ∀ o, s4.heap.get? b = some o → t.heap.get? b = some o ∧ H' b = none := fun b hb o z =>
          let k := K.pin (b, o) (List.mem_append_right _ (List.mem_append_right _ (mem_pinsAt hb z)))
          ⟨k.1, k.2.1⟩
        refine ⟨m', hm, i + 1, H', K.unpinned.weak (by rw [← hw, wipe_length]) (fun j v z => by rw [← hw] at z; exact (wipe_some z).1), T.keep _ _ _ at4 fun b hb o z => (pin b hb o z).1, fun b hb => ?_, w'⟩
        obtain ⟨o, z, _⟩ := T.obj _ _ at4 b hb
        exact (pin b hb o z).2
      cases b with
      | false =>
        simp only [Bool.false_eq_true, if_false] at q6 ⊢
        exact end1 I6 q6
      | true =>
        simp only [if_true] at q6 ⊢
        refine run_one (vs := []) hu hk hv _ σ5 H6 s6 D N1 _ _ I6 q6 fun σ7 t H7 K hl hk' nx => end1 (K.weak hl.symm fun j v z => hk' j v (by simp) z) nx
  exact start_in lp (T.self X.A 0 _ _ _ at0 lp)
theorem pe_dcA {kx vx tg iter : Expr} {fs : List Expr} {rest : List Comprehension} {sc : Scope} {own : List (Str × Nat)} {pos : Pos} {wi : TI} {g : TG} {tt : TT} {body : Body} {B : MB} {o0 : HO}
    (he : Emp o0) (calm : X.calm = true) (nd : X.N.Nodup) (walks : PI X tg iter wi) (blk : BlkOk X.N X.env.scope sc own) (hg : InBlk X sc fun Y => PG Y tg g) (ht : InBlk X sc fun Y => PTs Y fs tt)
    (hb : ∀ s H C cl fp, BodyRun (X.blk s H sc (compEnvC sc cl C X.env) fp) (compEnvC sc cl C X.env) (own.map (·.2)) body B)
    (loop : ∀ (ce : Env) (R : Result → Shared → Prop) (it : Value) (D : Addr) (J : Nat → Shared → Prop), (∀ n s, J n s → goNext X.prog X.w X.A tg fs it ce R (B ce R D fun u => ∃ m, m < n ∧ J m u) (fun u => ∃ m, m < n ∧ J m u) s) →
      ∀ n s, J n s → codeAny (model X.prog X.w) X.A (.compLoop (.DictComp kx vx (⟨tg, iter, fs, 0⟩ :: rest) sc pos) 0 it (.ref D) ce) R s)
    (hs : ∀ x, foldedSetIterable iter X.env x = pure x) : PE X (.DictComp kx vx (⟨tg, iter, fs, 0⟩ :: rest) sc pos) (tDcA wi g tt body (own.map (·.2)) o0) := by
  refine ⟨fun pins s σ H Q I h => ?_⟩
  rw [arm_eval_DictComp]
  refine dca_core he calm nd I walks blk hg ht hb loop hs h fun D C t m H' I' q hn f => ⟨m, hn, fun h2 sb => ?_⟩
  obtain ⟨f0, f1, f2, f3, f4, f5⟩ := f
  exact ⟨.ref D, H', I'.turned (t' := t.toks) (fun b o hb z => (sb.2 b hb).trans z) f0 f1 f3 f4 f5, rfl, q⟩
/-- {k: v for tg in iter if ..} -/
theorem pe_dc1 {kx vx tg iter : Expr} {fs : List Expr} {sc : Scope} {own : List (Str × Nat)} {pos : Pos} {wi : TI} {g : TG} {tt : TT} {tk tv : TE} {o0 : HO} (he : Emp o0) (hu : X.A.units + 1 < cLine) (calm : X.calm = true) (nd : X.N.Nodup) (walks : PI X tg iter wi) (blk : BlkOk X.N X.env.scope sc own)
    (hg : InBlk X sc fun Y => PG Y tg g) (ht : InBlk X sc fun Y => PTs Y fs tt) (hk : InBlk X sc fun Y => PE Y kx tk) (hv : InBlk X sc fun Y => PE Y vx tv) (hs : ∀ x, foldedSetIterable iter X.env x = pure x := by intro _; rfl) :
    PE X (.DictComp kx vx [⟨tg, iter, fs, 0⟩] sc pos) (tDcA wi g tt (bOne tk tv) (own.map (·.2)) o0) :=
  pe_dcA he calm nd walks blk hg ht (fun s H C cl fp => run_one hu (hk s H C cl fp) (hv s H C cl fp)) (fun ce R it D J turn n s h => loop_one J turn n h) hs
/-- {k: v for tg in iter if .. for t1 in i1 if ..} -/
theorem pe_dc2 {kx vx t0 i0 t1 i1 : Expr} {fs0 fs1 : List Expr} {sc : Scope} {own : List (Str × Nat)} {vs1 : List Nat} {pos : Pos} {wi wi1 : TI} {g g1 : TG} {tt tt1 : TT} {tk tv : TE} {o0 : HO} (he : Emp o0) (hu : X.A.units + 1 < cLine) (calm : X.calm = true) (nd : X.N.Nodup) (walks : PI X t0 i0 wi) (blk : BlkOk X.N X.env.scope sc own)
    (sub : ∀ i ∈ vs1, i ∈ own.map (·.2)) (hg : InBlk X sc fun Y => PG Y t0 g) (ht : InBlk X sc fun Y => PTs Y fs0 tt) (hi1 : InBlk X sc fun Y => PI Y t1 i1 wi1) (hg1 : InBlk X sc fun Y => PG Y t1 g1) (ht1 : InBlk X sc fun Y => PTs Y fs1 tt1)
    (hk : InBlk X sc fun Y => PE Y kx tk) (hv : InBlk X sc fun Y => PE Y vx tv) (hs : ∀ x, foldedSetIterable i0 X.env x = pure x := by intro _; rfl) (hs1 : ∀ env x, foldedSetIterable i1 env x = pure x := by intro _ _; rfl) :
    PE X (.DictComp kx vx [⟨t0, i0, fs0, 0⟩, ⟨t1, i1, fs1, 0⟩] sc pos) (tDcA wi g tt (bTwo wi1 g1 tt1 tk tv vs1) (own.map (·.2)) o0) :=
  pe_dcA he calm nd walks blk hg ht (fun s H C cl fp => run_two hu calm sub (hi1 s H C cl fp) (hg1 s H C cl fp) (ht1 s H C cl fp) (hk s H C cl fp) (hv s H C cl fp)) (fun ce R it D J turn n s h => loop_out (hs1 ce) J turn n h) hs
/-- name = {k: v for tg in iter if ..} -/
theorem ps_setDc1 {i : Nat} {y : Str} {yp cp sp : Pos} {kx vx tg iter : Expr} {fs : List Expr} {sc : Scope} {own : List (Str × Nat)} {wi : TI} {g : TG} {tt : TT} {tk tv : TE} {o0 : HO} (he : Emp o0) (hu : X.A.units + 1 < cLine) (calm : X.calm = true) (nd : X.N.Nodup) (ey : X.N[i]? = some y) (loc : X.env.scope.names.lookup y = some .local)
    (sw : swapsWith (.DictComp kx vx [⟨tg, iter, fs, 0⟩] sc cp) (some (.Name y yp)) sp.line X.env = pure true) (walks : PI X tg iter wi) (blk : BlkOk X.N X.env.scope sc own)
    (hg : InBlk X sc fun Y => PG Y tg g) (ht : InBlk X sc fun Y => PTs Y fs tt) (hk : InBlk X sc fun Y => PE Y kx tk) (hv : InBlk X sc fun Y => PE Y vx tv) (hs : ∀ x, foldedSetIterable iter X.env x = pure x := by intro _; rfl) :
    PS X (.Assign [.Name y yp] (.DictComp kx vx [⟨tg, iter, fs, 0⟩] sc cp) sp) (tAsg (tDcA wi g tt (bOne tk tv) (own.map (·.2)) o0) (gName i)) := by
  refine ⟨fun pins s σ H D I w => ?_⟩
  rw [exec_Assign_Name_used _ _ _ _ sw]
  refine wpAny_bind (wpAny_standAt (wpAny_bind ?_))
  have w' : tDcA wi g tt (bOne tk tv) (own.map (·.2)) o0 σ H (fun x H1 => gName i x σ H1 D.nx) := w
  show wpAny _ X.A (do
    let _ ← comprehension (.DictComp kx vx [⟨tg, iter, fs, 0⟩] sc cp) sc X.env (firstIterPos [⟨tg, iter, fs, 0⟩] cp) newDict false (eval iter X.env) (some (assign (.Name y yp) X.env))) _ _ s
  refine wpAny_bind (thn (dca_core (Qf := fun _ t => SP X pins D .next t) he calm nd I walks blk hg ht (fun s H C cl fp => run_one hu (hk s H C cl fp) (hv s H C cl fp)) (fun ce R it D J turn n s h => loop_one J turn n h) hs w' ?_) fun _ _ q => wpAny_pure (wpAny_pure q))
  intro L C t m H' I' q ns f
  show wpAny _ _ (assign (.Name y yp) X.env (.ref L)) _ _ _
  obtain ⟨a0, a1, a2, a3, a4, a5⟩ := f
  refine wpAny_assign_Name (store_ok2 (v := V.ref L) I' nd ey (.inl loc) rfl ?_ (.inr loc))
  rintro t2 I2 ⟨a, sb, ha⟩
  have ne : C ≠ a := ha.elim (fun z => z ▸ a1) fun z e => a4 y a z e.symm
  exact ⟨m, ns.sameBut sb ne, fun _ sc' => ⟨_, H', I2.turned (t' := t2.toks) (fun b o hb e => (sc'.2 b hb).trans e) a0 a1 a3 a4 a5, q⟩⟩
end
/-- any walk, in a comprehension -/
theorem walk_run {J : It} {n : Nat} {G : Hp → Prop} {Y : Nat → Hp → V → Hp → Prop} (wk : Walk J n G Y) {H1 : Hp} {Stop : Hp → Prop} {Step : V → Hp → (Hp → Prop) → Prop} (Pv : Nat → Hp → Prop) (h0 : Pv 0 H1) (hG : ∀ i H, i ≤ n → Pv i H → G H)
    (hs : ∀ i x H H', i < n → Pv i H → Y i H x H' → Step x H' (Pv (i + 1))) (hd : ∀ H, Pv n H → Stop H) :
    ∃ W : Nat → Nat → Hp → Prop, (∃ m, W 0 m H1) ∧ ∀ i m H, W i m H → (J.stop i H ∧ Stop H) ∨ (J.go i H ∧ ∃ Nx : Hp → Prop, (∀ H', Nx H' → ∃ m', m' < m ∧ W (i + 1) m' H') ∧ ∀ x H', J.yld i H x H' → Step x H' Nx) := by
  refine ⟨fun i m H => m + i = n ∧ Pv i H, ⟨n, rfl, h0⟩, fun i m H ⟨e, p⟩ => ?_⟩
  rcases Nat.lt_or_ge i n with l | l
  · have q := hG i H (Nat.le_of_lt l) p
    exact .inr ⟨wk.goes i H l q, Pv (i + 1), fun H' p' => ⟨m - 1, by omega, by omega, p'⟩, fun x H' y => hs i x H H' l p (wk.yields i H x H' l q y)⟩
  · have z : i = n := by omega
    subst z
    exact .inl ⟨wk.stops H (hG i H (Nat.le_refl _) p), hd H p⟩
end Gd
set_option Elab.async false
set_option linter.all false
set_option maxRecDepth 100000
set_option maxHeartbeats 4000000
/-! D3: list(d.values()). -/
namespace Gs
open PySem PySem.Spec PyProof.Rows L2 Gd Com
section
variable {X : Cx} {e : Expr} {te : TE} {apos cpos pos p : Pos}
/-- list(d.values()), ints or texts for keys -/
def tListVals (te : TE) : TE := fun σ H Q => te σ H fun x H1 => ∃ (d : Addr) (kvs : List (Key × V)), x = .ref d ∧ H1 d = some (.dK kvs) ∧ ∀ q, H1 q = none → Q (.ref q) (upd H1 q (.lst (kvs.map (·.2))))
theorem pe_listVals (cm : X.calm = true) (he : PE X e te) (hg : Gl X "list") (hm : X.mg "list" = none) (hv : bootBuiltins "list" = some (.type "list"))
    (ab : attributeBase e "values" X.env (eval e X.env) = eval e X.env := by rfl) (ln : (apos.endLine == cpos.line) = true := by rfl)
    (hs : starEach [.Call (.Attribute e "values" apos) [] [] cpos] X.env = (false, eval (.Call (.Attribute e "values" apos) [] [] cpos) X.env) :: starEach [] X.env := by rfl) :
    PE X (.Call (.Name "list" p) [.Call (.Attribute e "values" apos) [] [] cpos] [] pos) (tListVals te) := by
  refine ⟨fun pins s σ H Q I hq => ?_⟩
  refine wpAny_Call_Name_kw (ld_blt I hg hm hv ?_)
  refine PyProof.Rows.callWith_type1 ?_ hs rfl
  rw [hs]
  show wpAny _ _ (spliced ((false, eval (.Call (.Attribute e "values" apos) [] [] cpos) X.env) :: backTo pos (starEach [] X.env))) _ _ s
  refine Calls.spliced_cons ?_
  refine wpAny_Call_method (T := "dict") (id := "dict.values") ab rfl ln F.plainAttrs_dict F.slot_dict_values F.type_dict_values (thn (he.run pins s σ H _ I hq) fun u s1 ⟨x, H1, J, rx, d, kvs, ex, hd, q⟩ => ?_)
  subst ex
  obtain rfl : u = Value.ref d := rx
  obtain ⟨hz, hs0, vs, kv, hdo⟩ := J.hok d _ hd
  obtain ⟨ep, hat⟩ := hdo.dictAt
  have lk : kvs.length = vs.length := Paired.length kv
  have J2 : Inv X pins σ H1 { s1 with heap := s1.heap.push { cls := .type "dict_values", data := .fields #[.ref d] } } := J.kept (t' := s1.toks) fun b ob q => Heap.get?_push_of_some _ q
  refine ⟨hdo.typeIs, hdo.mapOf.noDict, ?_⟩
  show wpAny _ _ (callWith cpos (.builtin "dict.values") [.ref d] [] []) _ X.xe s1
  refine method_meetsIn F.slot_dict_values F.entry_dict_values rfl (PySem.evalArgs_none ⟨rfl, hdo.typeIs, F.args_dict_values_1 _, _, meets_dict_values (mixKind X.prog X.w) d hs0, ⟨vs, hdo⟩, ?_⟩)
  refine Calls.spliced_nil ?_
  have view : (s1.heap.push { cls := .type "dict_values", data := .fields #[.ref d] }).IsValuesView s1.heap.objs.size d := ⟨_, Heap.get?_push_size _ rfl, rfl, rfl⟩
  refine PySem.W.kdl_call (s := { s1 with heap := s1.heap.push { cls := .type "dict_values", data := .fields #[.ref d] } }) (PySem.W.kdl_values (knd := mixKind X.prog X.w) (kvs := vs) (ep := ep) (r := s1.heap.objs.size) (d := d)) (J.ok.hd cm) ⟨view, hat.push _⟩ (by omega) fun h' tk acc c hk hS it => ?_
  have el : acc.toList.length = kvs.length := by rw [Array.length_toList, it.1]; omega
  have rv : Vals (kvs.map (·.2)) acc.toList := vals_of_at (by rw [List.length_map, el]) fun j x u h1 h2 => by
    obtain ⟨k, hk2⟩ := it.2 j u (by rw [← Array.getElem?_toList]; exact h2)
    rw [List.getElem?_map] at h1
    cases e1 : kvs[j]? with
    | none => rw [e1] at h1; cases h1
    | some kx =>
      rw [e1] at h1
      have e2 : kx.2 = x := Option.some.inj h1
      obtain ⟨w', g1, g2⟩ := L2.paired_get kv e1
      rw [hk2] at g1
      cases g1
      rw [← e2]
      exact g2.2
  have nw : H1 (s1.heap.objs.size + 1) = none := J.hok.fresh (Nat.le_succ _)
  have sz : (s1.heap.push { cls := .type "dict_values", data := .fields #[.ref d] }).objs.size = s1.heap.objs.size + 1 := size_push' ..
  rw [sz] at hS
  show EP X pins σ Q (Value.ref (s1.heap.push { cls := .type "dict_values", data := .fields #[.ref d] }).objs.size) _
  rw [sz]
  exact ⟨.ref _, _, J2.laid (t' := tk) (o := .lst (kvs.map (·.2))) hk (by show (s1.heap.push _).objs.size ≤ _; rw [sz]; exact Nat.le_refl _) ⟨by rw [List.length_map]; exact hz, acc.toList, c, rv, by rw [Array.toArray_toList]; exact hS⟩, rfl, q _ nw⟩
end
end Gs
set_option Elab.async false
set_option linter.all false
set_option maxRecDepth 100000
set_option maxHeartbeats 4000000
/-! D4: a call of what an expression gives: one of several defs. -/
namespace Gs
open PySem PySem.Spec PyProof.Rows L2 Gd Com
/-- at f stands a def that keeps sp -/
structure HoldS (P : Program) (w : World) (K : PySem.W.Frag) (mg : Str → Option Value) (base : Heap) (CX : CXT) (k : Nat) (f : Addr) (sp : Sp) : Prop where
  ex : ∃ (fd : FuncData) (ps : List Str), FnOk P w K mg base CX k f fd ps sp ∧ PySem.W.keepIn K (.ref f) = true ∧ Binds K fd ps []
def tCallV (tf : TE) (S : Addr → Option Sp) (E : L2.St → XK) (t : TA) : TE := fun σ H Q => tf σ H fun x H0 => ∃ f sp, x = .ref f ∧ S f = some sp ∧ t σ H0 fun vs H1 => sp vs H1 Q (E σ)
section
variable {X : Cx} {CX : CXT} {k : Nat} {E : L2.St → XK} {pos : Pos} {fe e : Expr} {es : List Expr} {tf : TE} {t : TA}
theorem pe_callV {S : Addr → Option Sp} (hf : PE X fe tf) (A : ∀ f sp, S f = some sp → HoldS X.prog X.w X.K X.mg X.base CX k f sp) (hr : Room k X.A) (hx : ∀ σ, PassesAt CX X σ (E σ)) (ha : PA X (e :: es) t)
    (ev : eval (.Call fe (e :: es) [] pos) X.env = (do callWith pos (← eval fe X.env) [] (backTo pos (starEach (e :: es) X.env)) (backToKw pos (keywordEach [] X.env))) := by rfl)
    (he : starEach (e :: es) X.env = (false, eval e X.env) :: starEach es X.env := by rfl) (hpl : (backTo pos (starEach es X.env)).any (·.1) = false := by rfl) :
    PE X (.Call fe (e :: es) [] pos) (tCallV tf S E t) := by
  refine ⟨fun pins s σ H Q I h => ?_⟩
  rw [ev]
  refine wpAny_bind (thn (hf.run pins s σ H _ I h) fun v s0 ⟨x, H0, I0, rx, f, sp, ex, eS, q⟩ => ?_)
  subst ex
  obtain rfl : v = Value.ref f := rx
  obtain ⟨fd, ps, F, hk, hb⟩ := (A f sp eS).ex
  refine PySem.W.callWith_K (h₀ := X.base) I0.ok.mod.kin hk (thn (ha.run pos pins s0 σ H0 _ I0 q) fun us s1 ⟨vs, H1, I1, r, q1⟩ => ⟨I1.kIn, ?_⟩) he hpl
  exact run_fnS F hr hb (hx σ) I1 r q1
/-- the equation, for a subscript -/
theorem ev_sub {a b : Expr} {p q : Pos} {args : List Expr} {env : Env} : eval (.Call (.Subscript a b p) args [] q) env = (do callWith q (← eval (.Subscript a b p) env) [] (backTo q (starEach args env)) (backToKw q (keywordEach [] env))) := by rfl
end
end Gs
set_option Elab.async false
set_option linter.all false
set_option maxRecDepth 100000
set_option maxHeartbeats 4000000
/-! K44a: the law's digits and draws; what a block tells. -/
namespace K44
open PySem PySem.Spec PyProof.Rows L2 Gd Com Bk Nw
def topx (i : Nat) : Stmt := PySem.Challenge.pw_keptbywitness_k44_any_block_is_read_so.main.body.getD i (.Pass ⟨0, 0, 0, 0⟩)
abbrev s_law_cell : Stmt := topx 7
theorem sc_law_cell : FnScope ["script", "k"] ["script", "k"] (defScope s_law_cell) := ⟨rfl, rfl, rfl, by decide +kernel, rfl, by decide +kernel, by decide +kernel⟩
abbrev s_law_digits : Stmt := topx 8
theorem sc_law_digits : FnScope ["script", "first", "last", "digits", "k", "cell", "turn", "seed"] ["script", "first", "last"] (defScope s_law_digits) := ⟨rfl, rfl, rfl, by decide +kernel, rfl, by decide +kernel, by decide +kernel⟩
abbrev s_law_draw : Stmt := topx 9
theorem sc_law_draw : FnScope ["box", "many", "at"] ["box", "many"] (defScope s_law_draw) := ⟨rfl, rfl, rfl, by decide +kernel, rfl, by decide +kernel, by decide +kernel⟩
abbrev s_law_pieces : Stmt := topx 10
theorem sc_law_pieces : FnScope ["number", "text", "blocks", "many", "k", "part", "block", "sign"] ["number", "text"] (defScope s_law_pieces) := ⟨rfl, rfl, rfl, by decide +kernel, rfl, by decide +kernel, by decide +kernel⟩
abbrev s_law_signs : Stmt := topx 11
theorem sc_law_signs : FnScope ["box", "many", "signs", "text", "turn"] ["box", "many"] (defScope s_law_signs) := ⟨rfl, rfl, rfl, by decide +kernel, rfl, by decide +kernel, by decide +kernel⟩
abbrev s_decode_piece : Stmt := topx 5
theorem sc_decode_piece : FnScope ["block", "index", "many", "high", "low", "length", "sign", "signs", "codes", "behind", "code", "byte"] ["block"] (defScope s_decode_piece) := ⟨rfl, rfl, rfl, by decide +kernel, rfl, by decide +kernel, by decide +kernel⟩
abbrev s_law_due_piece : Stmt := topx 12
theorem sc_law_due_piece : FnScope ["block", "signs", "text", "code", "byte"] ["block"] (defScope s_law_due_piece) := ⟨rfl, rfl, rfl, by decide +kernel, rfl, by decide +kernel, by decide +kernel⟩
abbrev s_law_reads_so : Stmt := topx 13
theorem sc_law_reads_so : FnScope ["block", "handed"] ["block"] (defScope s_law_reads_so) := ⟨rfl, rfl, rfl, by decide +kernel, rfl, by decide +kernel, by decide +kernel⟩
abbrev s_law_torn_piece : Stmt := topx 14
theorem sc_law_torn_piece : FnScope ["block", "zeros", "many"] ["block"] (defScope s_law_torn_piece) := ⟨rfl, rfl, rfl, by decide +kernel, rfl, by decide +kernel, by decide +kernel⟩
abbrev s_law : Stmt := topx 15
theorem sc_law : FnScope ["script", "box", "turn", "number", "rows", "block", "step", "k", "other", "row"] ["script"] (defScope s_law) := ⟨rfl, rfl, rfl, by decide +kernel, rfl, by decide +kernel, by decide +kernel⟩
structure All (K : PySem.W.Frag) (mg : Str → Option Value) : Prop where
  law_cell : ∃ (f : Addr) (fd : FuncData), Fun K "_law_cell" "_law_cell" s_law_cell f fd ∧ mg "_law_cell" = some (.ref f) ∧ Binds K fd ["script", "k"] []
  law_digits : ∃ (f : Addr) (fd : FuncData), Fun K "_law_digits" "_law_digits" s_law_digits f fd ∧ mg "_law_digits" = some (.ref f) ∧ Binds K fd ["script", "first", "last"] []
  law_draw : ∃ (f : Addr) (fd : FuncData), Fun K "_law_draw" "_law_draw" s_law_draw f fd ∧ mg "_law_draw" = some (.ref f) ∧ Binds K fd ["box", "many"] []
  law_pieces : ∃ (f : Addr) (fd : FuncData), Fun K "_law_pieces" "_law_pieces" s_law_pieces f fd ∧ mg "_law_pieces" = some (.ref f) ∧ Binds K fd ["number", "text"] []
  law_signs : ∃ (f : Addr) (fd : FuncData), Fun K "_law_signs" "_law_signs" s_law_signs f fd ∧ mg "_law_signs" = some (.ref f) ∧ Binds K fd ["box", "many"] []
  decode_piece : ∃ (f : Addr) (fd : FuncData), Fun K "decode_piece" "decode_piece" s_decode_piece f fd ∧ mg "decode_piece" = some (.ref f) ∧ Binds K fd ["block"] []
  law_due_piece : ∃ (f : Addr) (fd : FuncData), Fun K "_law_due_piece" "_law_due_piece" s_law_due_piece f fd ∧ mg "_law_due_piece" = some (.ref f) ∧ Binds K fd ["block"] []
  law_reads_so : ∃ (f : Addr) (fd : FuncData), Fun K "_law_reads_so" "_law_reads_so" s_law_reads_so f fd ∧ mg "_law_reads_so" = some (.ref f) ∧ Binds K fd ["block"] []
  law_torn_piece : ∃ (f : Addr) (fd : FuncData), Fun K "_law_torn_piece" "_law_torn_piece" s_law_torn_piece f fd ∧ mg "_law_torn_piece" = some (.ref f) ∧ Binds K fd ["block"] []
  law : ∃ (f : Addr) (fd : FuncData), Fun K "law" "law" s_law f fd ∧ mg "law" = some (.ref f) ∧ Binds K fd ["script"] []
  len : mg "len" = none
  int : mg "int" = none
  range : mg "range" = none
  list : mg "list" = none
  ord : mg "ord" = none
  any : mg "any" = none
  cPIECE : ∃ u, mg "PIECE" = some u ∧ RelV (V.int 24) u
  c_MARK : ∃ u, mg "_MARK" = some u ∧ RelV (V.int 75) u
  c_HEAD : ∃ u, mg "_HEAD" = some u ∧ RelV (V.int 6) u
  c_SIGNS : ∃ u, mg "_SIGNS" = some u ∧ RelV (V.str SG) u
section
variable {P : Program} {w : World} {K : PySem.W.Frag} {mg : Str → Option Value} {base : Heap}
/-! ### _law_cell -/
def spCell (K : PySem.W.Frag) : Sp := fun vs H Q _ => ∃ (a : Addr) (ns : List Int) (k : Nat), vs = [.ref a, .int (k : Int)] ∧ SqL K H a (ns.map V.int) ∧ ∀ v : Int, Q (.int v) H
theorem ok_law_cell {f : Addr} {fd : FuncData} (A : All K mg) (F : Fun K "_law_cell" "_law_cell" s_law_cell f fd) : FnOk P w K mg base CX0 1 f fd ["script", "k"] (spCell K) := by
  refine F.ok sc_law_cell (fun vs H Q E h => ?_) (fun cdv A' outer s H vs Q E hr h => ?_)
  · obtain ⟨a, ns, k, rfl, _⟩ := h
    rfl
  · obtain ⟨a, ns, k, rfl, hS, q⟩ := h
    refine ⟨_, (pss_cons (ps_if (pt_cmpR op_lt (pv 1) (pe_callB call_len_seq (by rfl) A.len PySem.boot_len (pa_cons (pv 0) pa_nil)) (nomark _))
(pss_one (ps_ret (pe_ix ix_list (pv 0) (pv 1) (fun _ _ => rfl))))
pss_nil)
(pss_one (ps_ret pe_int))), ?_⟩
    refine ⟨_, rfl, _, rfl, a, _, rfl, .inl hS, _, _, rfl, rfl, _, rfl, ite2 (fun e => ?_) (fun e => ?_)⟩
    · have lt : k < (ns.map V.int).length := by
        have := of_decide_eq_true e
        omega
      have lt' := lt
      rw [List.length_map] at lt'
      have g : (ns.map V.int)[k]? = some (.int ns[k]) := by
        rw [List.getElem?_map, List.getElem?_eq_getElem lt']
        rfl
      exact ⟨_, rfl, _, rfl, a, _, _, _, rfl, rfl, hS, atI_nat g, q _⟩
    · exact q _

/-! ### _law_digits -/
def spDigits (K : PySem.W.Frag) : Sp := fun vs H Q _ => ∃ (a : Addr) (ns : List Int), vs = [.ref a, .int 0, .int 63] ∧ SqL K H a (ns.map V.int) ∧
  ∀ (p : Addr) (ds : List Int) (H' : Hp), Same H H' → H p = none → H' p = some (.lst (ds.map V.int)) → Q (.ref p) H'
theorem ok_law_digits {f : Addr} {fd : FuncData} (A : All K mg) (F : Fun K "_law_digits" "_law_digits" s_law_digits f fd) : FnOk P w K mg base CX0 2 f fd ["script", "first", "last"] (spDigits K) := by
  obtain ⟨f_law_cell, fd_law_cell, F_law_cell, g_law_cell, b_law_cell⟩ := A.law_cell
  have G_law_cell := ok_law_cell (P := P) (w := w) (base := base) A F_law_cell
  refine F.ok sc_law_digits (fun vs H Q E h => ?_) (fun cdv A' outer s H vs Q E hr h => ?_)
  · obtain ⟨a, ns, rfl, _⟩ := h
    rfl
  · obtain ⟨a, ns, rfl, hS, q⟩ := h
    refine ⟨_, (pss_cons (ps_set (i := 3) sc_law_digits.nd rfl (.inl rfl) (pe_lst pa_nil))
(pss_cons (ps_for PassesOwn.never rfl (pi_range2 (by rfl) A.range (pa_cons (pv 1) (pa_cons (pv 2) pa_nil))) (pg_name (i := 4) sc_law_digits.nd rfl (.inl rfl))
(pss_cons (ps_set (i := 5) sc_law_digits.nd rfl (.inl rfl) (pe_call G_law_cell (hr.mono (by decide)) (by rfl) g_law_cell F_law_cell.kp b_law_cell .nil pass0 (pa_cons (pv 0) (pa_cons (pv 4) pa_nil))))
(Evl.pss_cut (ps_if (pt_cmpR op_lt (pv 5) pe_int (nomark _))
(pss_one (ps_set (i := 5) sc_law_digits.nd rfl (.inl rfl) (pe_op op_sub pe_int (pe_op op_mul pe_int (pv 5)))))
pss_nil)
(pss_one (ps_if (pt_cmpR op_ge (pv 5) pe_int (nomark _))
(pss_one (ps_for PassesOwn.never rfl (pi_range1 (by rfl) A.range (pa_cons pe_int pa_nil)) (pg_name (i := 6) sc_law_digits.nd rfl (.inl rfl))
(pss_one (ps_if (pt_cmpR op_gt (pv 5) pe_int (nomark _))
(pss_cons (ps_expr (pe_bm PySem.F.plainAttrs_list PySem.F.slot_list_append PySem.F.type_list_append mt_append (pv 3) (pa_cons (pe_op op_mod (pe_callTy call_int1 (by rfl) A.int (by decide +kernel) (pa_cons (pv 5) pa_nil)) pe_int) pa_nil)))
(pss_one (ps_set (i := 5) sc_law_digits.nd rfl (.inl rfl) (pe_op op_fdiv (pv 5) pe_int))))
pss_nil))))
(pss_cons (ps_set (i := 7) sc_law_digits.nd rfl (.inl rfl) (pe_op op_mod (pe_callTy call_int1 (by rfl) A.int (by decide +kernel) (pa_cons (pe_op op_add (pe_op op_add (pe_op op_mul (pv 5) pe_int) (pe_op op_mul (pv 4) pe_int)) pe_int) pa_nil)) pe_int))
(pss_one (ps_for PassesOwn.never rfl (pi_range1 (by rfl) A.range (pa_cons pe_int pa_nil)) (pg_name (i := 6) sc_law_digits.nd rfl (.inl rfl))
(pss_cons (ps_set (i := 7) sc_law_digits.nd rfl (.inl rfl) (pe_op op_mod (pe_callTy call_int1 (by rfl) A.int (by decide +kernel) (pa_cons (pe_op op_add (pe_op op_add (pe_op op_mul (pv 7) pe_int) (pe_op op_mul pe_int (pv 6))) pe_int) pa_nil)) pe_int))
(pss_one (ps_expr (pe_bm PySem.F.plainAttrs_list PySem.F.slot_list_append PySem.F.type_list_append mt_append (pv 3) (pa_cons (pe_op op_mod (pe_callTy call_int1 (by rfl) A.int (by decide +kernel) (pa_cons (pe_op op_fdiv (pv 7) pe_int) pa_nil)) pe_int) pa_nil)))))))))))))
(pss_one (ps_ret (pv 3))))), ?_⟩
    refine ⟨Nat.zero_le _, fun d nd => ?_⟩
    refine ⟨_, rfl, _, rfl, 0, 63, rfl, by decide, ?_⟩
    let St1 : Nat → L2.St → Hp → Prop := fun m σ H' => ∃ (ds : List Int) (v4 c v6 v7 : Option V), σ = [some (.ref a), some (.int 0), some (.int 63), some (.ref d), v4, c, v6, v7] ∧ Same H H' ∧ H' d = some (.lst (ds.map V.int)) ∧ ds.length ≤ m
    refine for_range (lo := 0) (n := 63) (fun i => St1 (60 * i)) ⟨[], none, none, none, none, rfl, same_new (Same.refl H) nd, upd_same, Nat.le_refl _⟩ ?_ ?_
    · rintro i σ H1 hi ⟨ds, v4, c, v6, v7, rfl, s1, hd, hl⟩
      refine ⟨_, rfl, _, rfl, a, ns, i, by rw [Int.zero_add]; rfl, s1.seq hS, fun cv => ?_⟩
      refine ⟨fun σ H2 => H2 = H1 ∧ ∃ cv : Int, σ = [some (.ref a), some (.int 0), some (.int 63), some (.ref d), some (.int (0 + (i : Int))), some (.int cv), v6, v7], ?_, ?_⟩
      · refine ⟨_, rfl, _, _, rfl, rfl, _, rfl, ite2 (fun _ => ?_) (fun _ => ?_)⟩
        · exact ⟨_, rfl, _, _, rfl, rfl, .inl ⟨by decide, by decide⟩, _, _, rfl, rfl, rfl, _, rfl⟩
        · exact ⟨rfl, cv, rfl⟩
      rintro σ H2 ⟨rfl, cv, rfl⟩
      refine ⟨_, rfl, _, _, rfl, rfl, _, rfl, ite2 (fun _ => ?_) (fun _ => ?_)⟩
      · -- the digits of a great number
        refine ⟨60, rfl, by decide, by decide, for_range (lo := 0) (n := 60) (fun j σ H' => ∃ (ds : List Int) (cv : Int) (v6 : Option V), σ = [some (.ref a), some (.int 0), some (.int 63), some (.ref d), some (.int (0 + (i : Int))), some (.int cv), v6, v7] ∧ Same H H' ∧ H' d = some (.lst (ds.map V.int)) ∧ ds.length ≤ 60 * i + j)
          ⟨ds, cv, v6, rfl, s1, hd, hl⟩ ?_ ?_⟩
        · rintro j σ H3 hj ⟨ds, cv, v6, rfl, s2, hd, hl⟩
          refine ⟨_, rfl, _, _, rfl, rfl, _, rfl, ite2 (fun _ => ?_) (fun _ => ?_)⟩
          · refine ⟨_, rfl, .inl ⟨rfl, _, SqL.of hd⟩, _, rfl, .inl ⟨_, rfl, _, _, rfl, rfl, (by show (0 : Int) < 1000; decide), d, _, _, rfl, rfl, hd, lt_size (by rw [List.length_map]; omega), ?_⟩⟩
            refine ⟨_, rfl, _, _, rfl, rfl, ⟨by decide, by decide⟩, ds ++ [cv % 1000], cv / 1000, _, rfl, same_mut s2 nd, ?_, ?_⟩
            · rw [upd_same, List.map_append]
              rfl
            · rw [List.length_append]
              show ds.length + 1 ≤ _
              omega
          · exact ⟨ds, cv, _, rfl, s2, hd, by omega⟩
        · rintro σ H3 ⟨ds, cv, v6, rfl, s2, hd, hl⟩
          exact ⟨ds, _, _, _, _, rfl, s2, hd, by omega⟩
      · refine ⟨_, rfl, _, _, rfl, rfl, .inr ⟨by decide, by decide⟩, _, rfl, _, _, rfl, rfl, .inr ⟨by decide, by decide⟩, _, _, rfl, rfl, _, _, rfl, rfl, .inl ⟨_, rfl, _, _, rfl, rfl, (by show (0 : Int) < 2147483399; decide), ?_⟩⟩
        refine ⟨12, rfl, by decide, by decide, for_range (lo := 0) (n := 12) (fun j σ H' => ∃ (ds : List Int) (sv : Int) (v6 : Option V), σ = [some (.ref a), some (.int 0), some (.int 63), some (.ref d), some (.int (0 + (i : Int))), some (.int cv), v6, some (.int sv)] ∧ Same H H' ∧ H' d = some (.lst (ds.map V.int)) ∧ ds.length ≤ 60 * i + j)
          ⟨ds, _, v6, rfl, s1, hd, hl⟩ ?_ ?_⟩
        · rintro j σ H3 hj ⟨ds, sv, v6, rfl, s2, hd, hl⟩
          refine ⟨_, rfl, _, _, rfl, rfl, .inr ⟨by decide, by decide⟩, _, rfl, _, _, rfl, rfl, .inl ⟨by decide, by decide⟩, _, _, rfl, rfl, _, _, rfl, rfl, .inl ⟨_, rfl, _, _, rfl, rfl, (by show (0 : Int) < 2147483563; decide), ?_⟩⟩
          refine ⟨_, rfl, .inl ⟨rfl, _, SqL.of hd⟩, _, rfl, _, _, rfl, rfl, ⟨by decide, by decide⟩, .inl ⟨_, rfl, _, _, rfl, rfl, (by show (0 : Int) < 1000; decide), d, _, _, rfl, rfl, hd, lt_size (by rw [List.length_map]; omega), ?_⟩⟩
          refine ⟨ds ++ [((sv * 40014 + 5 * (0 + (j : Int)) + 3) % 2147483563 / 1009) % 1000], _, _, rfl, same_mut s2 nd, ?_, ?_⟩
          · rw [upd_same, List.map_append]
            rfl
          · rw [List.length_append]
            show ds.length + 1 ≤ _
            omega
        · rintro σ H3 ⟨ds, sv, v6, rfl, s2, hd, hl⟩
          exact ⟨ds, _, _, _, _, rfl, s2, hd, by omega⟩
    · rintro σ H1 ⟨ds, v4, c, v6, v7, rfl, s1, hd, hl⟩
      exact ⟨_, rfl, q d ds H1 s1 nd hd⟩

/-! ### _law_draw -/
def spDraw : Sp := fun vs H Q _ => ∃ (b dg : Addr) (ds : List Int) (m : Int), vs = [.ref b, .int m] ∧ 0 < m ∧ Bx H b dg ds ∧
  ∀ (r : Int) (H' : Hp), 0 ≤ r → r < m → Fx b H H' → Bx H' b dg ds → Q (.int r) H'
theorem ok_law_draw {f : Addr} {fd : FuncData} (A : All K mg) (F : Fun K "_law_draw" "_law_draw" s_law_draw f fd) : FnOk P w K mg base CX0 1 f fd ["box", "many"] spDraw := by
  refine F.ok sc_law_draw (fun vs H Q E h => ?_) (fun cdv A' outer s H vs Q E hr h => ?_)
  · obtain ⟨b, dg, ds, m, rfl, _⟩ := h
    rfl
  · obtain ⟨b, dg, ds, m, rfl, hm, ⟨n, hb, hd⟩, q⟩ := h
    have nbd : dg ≠ b := ne_of hd hb (fun z => by
      cases ds with
      | nil => exact nomatch z
      | cons d r => exact nomatch (List.cons.inj (HO.lst.inj z)).1)
    refine ⟨_, (pss_cons (ps_set (i := 2) sc_law_draw.nd rfl (.inl rfl) (pe_ix ix_list (pv 0) pe_int (fun _ _ => rfl)))
(pss_cons (ps_asg (pe_op op_add (pv 2) pe_int) (pg_sub (pv 0) pe_int set_list))
(pss_cons (ps_if (pt_cmpR op_lt (pv 2) (pe_callB call_len_seq (by rfl) A.len PySem.boot_len (pa_cons (pe_ix ix_list (pv 0) pe_int (fun _ _ => rfl)) pa_nil)) (nomark _))
(pss_one (ps_ret (pe_op op_mod (pe_callTy call_int1 (by rfl) A.int (by decide +kernel) (pa_cons (pe_ix ix_list (pe_ix ix_list (pv 0) pe_int (fun _ _ => rfl)) (pv 2) (fun _ _ => rfl)) pa_nil)) (pv 1))))
pss_nil)
(pss_one (ps_ret (pe_op op_mod (pe_callTy call_int1 (by rfl) A.int (by decide +kernel) (pa_cons (pe_op op_add (pe_op op_mul (pv 2) pe_int) pe_int) pa_nil)) (pv 1))))))), ?_⟩
    refine ⟨_, rfl, b, _, 1, _, rfl, rfl, SqL.of hb, atI_nat (j := 1) rfl, ?_⟩
    refine ⟨_, rfl, _, _, rfl, rfl, _, rfl, b, _, 1, 1, rfl, rfl, hb, rfl, ?_⟩
    have hb2 : upd H b (.lst [.ref dg, .int ((n : Int) + 1)]) b = some (.lst [.ref dg, .int ((n : Int) + 1)]) := upd_same
    have hd2 : upd H b (.lst [.ref dg, .int ((n : Int) + 1)]) dg = some (.lst (ds.map V.int)) := by
      rw [upd_ne nbd]
      exact hd
    have fin : ∀ r : Int, 0 ≤ r → r < m → Q (.int r) (upd H b (.lst [.ref dg, .int ((n : Int) + 1)])) := fun r h1 h2 =>
      q r _ h1 h2 (fun c o nc e => by rw [upd_ne nc]; exact e) ⟨n + 1, by rw [hb2]; rfl, hd2⟩
    refine ⟨_, rfl, _, rfl, b, _, 0, _, rfl, rfl, SqL.of hb2, atI_nat (j := 0) rfl, dg, _, rfl, .inl (SqL.of hd2), _, _, rfl, rfl, _, rfl, ite2 (fun e => ?_) (fun e => ?_)⟩
    · have lt : n < ds.length := by
        have := of_decide_eq_true e
        rw [List.length_map] at this
        omega
      have g : (ds.map V.int)[n]? = some (.int ds[n]) := by
        rw [List.getElem?_map, List.getElem?_eq_getElem lt]
        rfl
      refine ⟨_, rfl, b, _, 0, _, rfl, rfl, SqL.of hb2, atI_nat (j := 0) rfl, _, rfl, dg, _, _, _, rfl, rfl, SqL.of hd2, atI_nat g, .inl ⟨_, rfl, _, rfl, _, _, rfl, rfl, hm, ?_⟩⟩
      exact fin _ (Int.emod_nonneg _ (by omega)) (Int.emod_lt_of_pos _ hm)
    · refine ⟨_, rfl, _, _, rfl, rfl, .inr ⟨by decide, by decide⟩, _, _, rfl, rfl, .inl ⟨_, rfl, _, rfl, _, _, rfl, rfl, hm, ?_⟩⟩
      exact fin _ (Int.emod_nonneg _ (by omega)) (Int.emod_lt_of_pos _ hm)

/-! ### decode_piece -/
def spDecode (K : PySem.W.Frag) : Sp := fun vs H Q _ => ∃ (a : Addr) (x : Pc), vs = [.ref a] ∧ SqL K H a (x.row.map V.int) ∧ x.m.length = 25 ∧
  (x.is = false → ∀ H', Same H H' → Q .non H') ∧
  (x.is = true → ∀ (p : Addr) (H' : Hp), Same H H' → H p = none → H' p = some (.tup [.int x.b1, .int x.b2, .int (256 * x.b3 + x.b4), .str (mkS x.text)]) → Q (.ref p) H')
theorem ok_decode_piece {f : Addr} {fd : FuncData} (A : All K mg) (F : Fun K "decode_piece" "decode_piece" s_decode_piece f fd) : FnOk P w K mg base CX0 1 f fd ["block"] (spDecode K) := by
  refine F.ok sc_decode_piece (fun vs H Q E h => ?_) (fun cdv A' outer s H vs Q E hr h => ?_)
  · obtain ⟨a, x, rfl, _⟩ := h
    rfl
  · obtain ⟨a, x, rfl, hS, hm, q0, q1⟩ := h
    have hu := hu_of hr
    refine ⟨_, (pss_cons (ps_asg (pe_slice sl_list (pv 0) (po_some pe_int) (po_some (pe_cst (by rfl) A.c_HEAD))) (pg_lst (by rfl) (pgs_cons (pg_name (i := 1) sc_decode_piece.nd rfl (.inl rfl)) (pgs_cons (pg_name (i := 2) sc_decode_piece.nd rfl (.inl rfl)) (pgs_cons (pg_name (i := 3) sc_decode_piece.nd rfl (.inl rfl)) (pgs_cons (pg_name (i := 4) sc_decode_piece.nd rfl (.inl rfl)) (pgs_cons (pg_name (i := 5) sc_decode_piece.nd rfl (.inl rfl)) pgs_nil)))))))
(pss_cons (ps_if (PW.pt (pw_or (pt_cmpR op_ne (pe_ix ix_list (pv 0) pe_int (fun _ _ => rfl)) (pe_cst (by rfl) A.c_MARK) (nomark _)) (pw_or (pt_cmpR op_ne (pe_ix ix_list (pv 0) (pe_un un_neg pe_int) (fun _ _ => rfl)) (pe_cst (by rfl) A.c_MARK) (nomark _)) (pw_or (pt_cmpR op_ge (pv 1) (pv 2) (nomark _)) (pw_or1 (pt_not (pt_chain op_le op_le pe_int (pv 5) (pe_cst (by rfl) A.cPIECE))))))))
(pss_one (ps_ret pe_non))
pss_nil)
(pss_cons (ps_set (i := 7) sc_decode_piece.nd rfl (.inr rfl) (pe_dc1 (o0 := .dK []) (own := [("sign", 6)]) (tt := tYes) (.inl rfl) hu rfl sc_decode_piece.nd (pi_str (pe_cst (by rfl) A.c_SIGNS)) (blkOk_by (N := ["block", "index", "many", "high", "low", "length", "sign", "signs", "codes", "behind", "code", "byte"]) (sc := defScope s_decode_piece) (by decide +kernel)) (fun _ _ _ _ _ => pg_name (i := 6) sc_decode_piece.nd rfl (Or.inl rfl)) (fun _ _ _ _ _ => pts_nil) (fun _ _ _ _ _ => (pe_callB call_ord (by rfl) A.ord (by decide +kernel) (pa_cons (pv 6) pa_nil))) (fun _ _ _ _ _ => (pv 6))))
(pss_cons (ps_set (i := 8) sc_decode_piece.nd rfl (.inl rfl) (pe_slice sl_list (pv 0) (po_some (pe_cst (by rfl) A.c_HEAD)) (po_some (pe_op op_add (pe_cst (by rfl) A.c_HEAD) (pv 5)))))
(pss_cons (ps_set (i := 9) sc_decode_piece.nd rfl (.inl rfl) (pe_slice sl_list (pv 0) (po_some (pe_op op_add (pe_cst (by rfl) A.c_HEAD) (pv 5))) (po_some (pe_un un_neg pe_int))))
(pss_cons (ps_if (PW.pt (pw_or (pt_val (pe_callB (cr_any rfl) (by rfl) A.any (by decide +kernel) (pa_cons (pe_lc (own := [("code", 10)]) (tt := tYes) rfl sc_decode_piece.nd (pi_list (pv 8)) (blkOk_by (N := ["block", "index", "many", "high", "low", "length", "sign", "signs", "codes", "behind", "code", "byte"]) (sc := defScope s_decode_piece) (by decide +kernel)) (fun _ _ _ _ _ => pg_name (i := 10) sc_decode_piece.nd rfl (Or.inl rfl)) (fun _ _ _ _ _ => pts_nil) (fun _ _ _ _ _ => (pe_cmp (pc_dnotin hu (pv 10) (pv 7)) rfl))) pa_nil))) (pw_or1 (pt_val (pe_callB (cr_any rfl) (by rfl) A.any (by decide +kernel) (pa_cons (pe_lc (own := [("byte", 11)]) (tt := tYes) rfl sc_decode_piece.nd (pi_list (pv 9)) (blkOk_by (N := ["block", "index", "many", "high", "low", "length", "sign", "signs", "codes", "behind", "code", "byte"]) (sc := defScope s_decode_piece) (by decide +kernel)) (fun _ _ _ _ _ => pg_name (i := 11) sc_decode_piece.nd rfl (Or.inl rfl)) (fun _ _ _ _ _ => pts_nil) (fun _ _ _ _ _ => (pe_cmpR op_ne (pv 11) pe_int (nomark _)))) pa_nil))))))
(pss_one (ps_ret pe_non))
pss_nil)
(pss_one (ps_ret (pe_tup (pa_cons (pv 1) (pa_cons (pv 2) (pa_cons (pe_op op_add (pe_op op_mul pe_int (pv 3)) (pv 4)) (pa_cons (pe_join pe_str (pe_lc (own := [("code", 10)]) (tt := tYes) rfl sc_decode_piece.nd (pi_list (pv 8)) (blkOk_by (N := ["block", "index", "many", "high", "low", "length", "sign", "signs", "codes", "behind", "code", "byte"]) (sc := defScope s_decode_piece) (by decide +kernel)) (fun _ _ _ _ _ => pg_name (i := 10) sc_decode_piece.nd rfl (Or.inl rfl)) (fun _ _ _ _ _ => pts_nil) (fun _ _ _ _ _ => (pe_dget hu (pv 7) (pv 10) (fun _ _ => rfl))))) pa_nil))))))))))))), ?_⟩
    have v0 : (x.row.map V.int)[0]? = some (.int x.b0) := rfl
    have vz : atI (x.row.map V.int) (-1) = some (.int x.z) := by
      have e : x.row.map V.int = ([x.b0, x.b1, x.b2, x.b3, x.b4, x.b5] ++ x.m).map V.int ++ [V.int x.z] := by
        unfold Pc.row
        rw [← List.append_assoc, List.map_append]
        rfl
      rw [e]
      exact atI_last _ _
    have lr : (x.row.map V.int).length = 32 := by
      rw [List.length_map]
      unfold Pc.row
      simp only [List.length_append, List.length_cons, List.length_nil, hm]
    refine ⟨_, rfl, _, rfl, _, rfl, a, _, rfl, hS, fun p np => ?_⟩
    have c1 : cutV (x.row.map V.int) (some 1) (some 6) = [.int x.b1, .int x.b2, .int x.b3, .int x.b4, .int x.b5] := by
      rw [show (1 : Int) = ((1 : Nat) : Int) from rfl, show (6 : Int) = ((6 : Nat) : Int) from rfl, cutV_nat _ (by decide)]
      rfl
    have hp1 : (upd H p (.lst (cutV (x.row.map V.int) (some 1) (some 6)))) p = some (.lst [.int x.b1, .int x.b2, .int x.b3, .int x.b4, .int x.b5]) := by
      rw [upd_same, c1]
    let H1 := upd H p (.lst (cutV (x.row.map V.int) (some 1) (some 6)))
    have s1 : Same H H1 := same_new (Same.refl H) np
    have hS1 : SqL K H1 a (x.row.map V.int) := s1.seq hS
    refine ⟨p, _, rfl, SqL.of hp1, rfl, _, _, rfl, _, _, rfl, _, _, rfl, _, _, rfl, _, _, rfl, rfl, ?_⟩
    refine ⟨_, rfl, a, _, 0, _, rfl, rfl, hS1, atI_nat (j := 0) v0, rfl, _, rfl, ite2 (fun e => q0 (pc_no (.inl e)) _ s1) (fun e0 => ?_)⟩
    refine ⟨_, rfl, _, rfl, a, _, -1, _, rfl, rfl, hS1, vz, rfl, _, rfl, ite2 (fun e => q0 (pc_no (.inr (.inl e))) _ s1) (fun e1 => ?_)⟩
    refine ⟨_, rfl, _, rfl, _, _, rfl, rfl, _, rfl, ite2 (fun e => q0 (pc_no (.inr (.inr (.inl (of_decide_eq_true e))))) _ s1) (fun e2 => ?_)⟩
    refine ⟨_, rfl, _, _, rfl, rfl, _, rfl, ite2 (fun e3 => ⟨_, _, rfl, rfl, _, rfl, ?_⟩) (fun e3 => ⟨_, rfl, iteT (q0 (pc_no (.inr (.inr (.inr (.inl (by simpa using e3)))))) _ s1)⟩)⟩
    refine ite2 (fun e4 => q0 (pc_no (.inr (.inr (.inr (.inr (.inl (by simpa using e4))))))) _ s1) (fun e4 => ?_)
    have h15 : 1 ≤ x.b5 := of_decide_eq_true e3
    have h24 : x.b5 ≤ 24 := by simpa using e4
    have hb0 : x.b0 = 75 := by simpa using e0
    have hz : x.z = 75 := by simpa using e1
    have h12 : x.b1 < x.b2 := by
      have : ¬ x.b1 ≥ x.b2 := fun z => e2 (decide_eq_true z)
      omega
    refine ⟨_, rfl, fun D nD => ?_⟩
    have s2 : Same H1 (upd H1 D (.dK [])) := same_new (Same.refl H1) nD
    have hsg : SG.cps.size = 94 := by
      rw [SG_eq]
      exact (mkS_len sgL).trans sgL_len
    refine walk_run (walk_str (z := SG)) (fun i H' => H' D = some (.dK ((sgL.take i).map kvOf)) ∧ Same H1 H') ⟨upd_same, s2⟩ (fun _ _ _ _ => trivial) ?_ ?_
    · rintro i v H2 H2' hi ⟨hD, s3⟩ ⟨rfl, c, hc, rfl⟩
      have hc' : sgL[i]? = some c := by
        rw [← hc, SG_eq]
        simp [mkS]
      refine ⟨rfl, _, rfl, _, rfl, rfl, _, rfl, _, DPut.k (k := Sum.inl (c : Int)) hD ?_, ?_, same_mut s3 nD⟩
      · rw [List.length_map, List.length_take, sizeLine_eq]
        have := sgL_len
        omega
      · have nv : valV ((sgL.take i).map kvOf) (Sum.inl (c : Int)) = none := by
          rw [Bk.kv_get, if_neg]
          rintro ⟨_, hin⟩
          rw [Int.toNat_natCast] at hin
          exact nodup_take sgL_nodup hc' hin
        rw [upd_same, putK_new _ nv, List.take_succ, hc', List.map_append]
        rfl
    · rintro H2 ⟨hD, s3⟩
      rw [hsg, ← sgL_len, List.take_length] at hD
      have n5 : x.b5.toNat ≤ 24 := by omega
      have e5 : x.b5 = ((x.b5.toNat : Nat) : Int) := by omega
      have e65 : (6 : Int) + x.b5 = ((6 + x.b5.toNat : Nat) : Int) := by omega
      have c2 : cutV (x.row.map V.int) (some 6) (some (6 + x.b5)) = (x.m.take x.b5.toNat).map V.int := by
        rw [e65, show (6 : Int) = ((6 : Nat) : Int) from rfl, cutV_nat _ (by omega)]
        unfold Pc.row
        rw [List.map_append, List.drop_left' (by rfl), show 6 + x.b5.toNat - 6 = x.b5.toNat by omega, List.map_append, List.take_append_of_le_length (by rw [List.length_map]; omega), List.map_take]
      have c3 : cutV (x.row.map V.int) (some (6 + x.b5)) (some (-1)) = (x.m.drop x.b5.toNat).map V.int := by
        unfold cutV
        rw [e65, HT.sIx_nat, lr, Nat.min_eq_left (by omega), show HT.sIx 32 32 (some (-1)) = 31 from rfl]
        unfold Pc.row
        rw [List.map_append, List.drop_append, List.drop_of_length_le (by simp), List.nil_append, List.map_append]
        rw [show 6 + x.b5.toNat - ([x.b0, x.b1, x.b2, x.b3, x.b4, x.b5].map V.int).length = x.b5.toNat by simp, List.drop_append_of_le_length (by rw [List.length_map]; omega), List.take_left' (by rw [List.length_drop, List.length_map]; omega), List.map_drop]
      have s13 : Same H H2 := s1.trans s3
      have hS2 : SqL K H2 a (x.row.map V.int) := s13.seq hS
      refine ⟨_, rfl, _, rfl, _, rfl, _, _, rfl, rfl, _, rfl, a, _, rfl, hS2, fun cA nA => ?_⟩
      rw [c2]
      have s4 : Same H2 (upd H2 cA (.lst ((x.m.take x.b5.toNat).map V.int))) := same_new (Same.refl H2) nA
      have hS3 := s4.seq hS2
      refine ⟨_, rfl, _, rfl, _, _, rfl, rfl, _, rfl, _, rfl, _, rfl, a, _, rfl, hS3, fun bA nB => ?_⟩
      rw [c3]
      have s5 := same_new (o := .lst ((x.m.drop x.b5.toNat).map V.int)) s4 nB
      have hcA : (upd (upd H2 cA (.lst ((x.m.take x.b5.toNat).map V.int))) bA (.lst ((x.m.drop x.b5.toNat).map V.int))) cA = some (.lst ((x.m.take x.b5.toNat).map V.int)) := by
        rw [upd_ne (ne_of_none (o := .lst _) upd_same nB)]
        exact upd_same
      have hD5 := s5 _ _ hD
      have hbA : (upd (upd H2 cA (.lst ((x.m.take x.b5.toNat).map V.int))) bA (.lst ((x.m.drop x.b5.toNat).map V.int))) bA = some (.lst ((x.m.drop x.b5.toNat).map V.int)) := upd_same
      generalize hH5 : upd (upd H2 cA (.lst ((x.m.take x.b5.toNat).map V.int))) bA (.lst ((x.m.drop x.b5.toNat).map V.int)) = H5 at s5 hcA hD5 hbA ⊢
      -- any code that is none of the signs
      have lt25 : (x.m.take x.b5.toNat).length ≤ 25 := by
        rw [List.length_take]
        omega
      have lb25 : (x.m.drop x.b5.toNat).length ≤ 25 := by
        rw [List.length_drop]
        omega
      have s15 : Same H H5 := s13.trans s5
      refine ⟨_, rfl, cA, rfl, ⟨_, SqL.of hcA⟩, fun D6 n6 => ?_⟩
      refine lc_list (K := K) (a := cA) (xs := (x.m.take x.b5.toNat).map V.int) (fun i H' => H' D6 = some (.lst (((x.m.take x.b5.toNat).take i).map fun c => V.bl (!sgB c))) ∧ Same H5 H') ⟨upd_same, same_new (Same.refl H5) n6⟩ (fun i H' _ h => SqL.of (h.2 _ _ hcA)) ?_ ?_
      · rintro i v H6 hv ⟨h6, s6⟩
        obtain ⟨c, hc, rfl⟩ := map_at hv
        refine ⟨rfl, _, rfl, _, rfl, D, _, rfl, DGet.k (k := Sum.inl c) (s6 _ _ hD5), ?_⟩
        rw [sg_get]
        have e : (!(if sgB c = true then some (V.str ⟨#[c.toNat]⟩) else none).isSome) = !sgB c := by
          cases sgB c <;> rfl
        rw [e]
        refine ⟨_, h6, ?_, ?_, same_mut s6 n6⟩
        · rw [List.length_map, List.length_take, sizeLine_eq]
          omega
        · rw [upd_same, List.take_succ, hc, List.map_append]
          rfl
      · rintro H6 ⟨h6, s6⟩
        rw [List.length_map, List.take_length] at h6
        have h6' : H6 D6 = some (.lst (((x.m.take x.b5.toNat).map fun c => !sgB c).map V.bl)) := by
          rw [h6, List.map_map]
          rfl
        refine ⟨D6, _, rfl, SqL.of h6', _, rfl, ite2 (fun e => ?_) (fun e6 => ?_)⟩
        · refine q0 (pc_no (.inr (.inr (.inr (.inr (.inr (.inl ?_))))))) _ (s15.trans s6)
          exact any_not e
        have a1 : (x.m.take x.b5.toNat).all sgB = true := not_any e6
        have s16 := s15.trans s6
        have hb6 := s6 _ _ hbA
        refine ⟨_, rfl, bA, rfl, ⟨_, SqL.of hb6⟩, fun D7 n7 => ?_⟩
        refine lc_list (K := K) (a := bA) (xs := (x.m.drop x.b5.toNat).map V.int) (fun i H' => H' D7 = some (.lst (((x.m.drop x.b5.toNat).take i).map fun c => V.bl (!decide (c = 0)))) ∧ Same H6 H') ⟨upd_same, same_new (Same.refl H6) n7⟩ (fun i H' _ h => SqL.of (h.2 _ _ hb6)) ?_ ?_
        · rintro i v H7 hv ⟨h7, s7⟩
          obtain ⟨c, hc, rfl⟩ := map_at hv
          refine ⟨rfl, _, rfl, rfl, ?_⟩
          have e : (!decide (V.int c = V.int 0)) = !decide (c = 0) := by
            by_cases z : c = 0
            · subst z
              rw [decide_eq_true rfl, decide_eq_true rfl]
            · rw [decide_eq_false z, decide_eq_false (fun k => z (V.int.inj k))]
          rw [e]
          refine ⟨_, h7, ?_, ?_, same_mut s7 n7⟩
          · rw [List.length_map, List.length_take, sizeLine_eq]
            omega
          · rw [upd_same, List.take_succ, hc, List.map_append]
            rfl
        · rintro H7 ⟨h7, s7⟩
          rw [List.length_map, List.take_length] at h7
          have h7' : H7 D7 = some (.lst (((x.m.drop x.b5.toNat).map fun c => !decide (c = 0)).map V.bl)) := by
            rw [h7, List.map_map]
            rfl
          refine ⟨D7, _, rfl, SqL.of h7', _, rfl, ite2 (fun e => ?_) (fun e7 => ?_)⟩
          · refine q0 (pc_no (.inr (.inr (.inr (.inr (.inr (.inr ?_))))))) _ (s16.trans s7)
            exact any_not e
          have a2 : (x.m.drop x.b5.toNat).all (fun c => decide (c = 0)) = true := not_any e7
          have s17 := s16.trans s7
          have yes : x.is = true := by
            unfold Pc.is
            rw [a1, a2, decide_eq_true hb0, decide_eq_true hz, decide_eq_true h12, decide_eq_true h15, decide_eq_true h24]
            rfl
          have hc7 := s7 _ _ (s6 _ _ hcA)
          have hD7 := s7 _ _ (s6 _ _ hD5)
          refine ⟨_, rfl, _, rfl, _, rfl, _, _, rfl, rfl, .inl ⟨by decide, by decide⟩, _, rfl, _, _, rfl, rfl, ⟨_, rfl⟩, _, rfl, cA, rfl, ⟨_, SqL.of hc7⟩, fun D8 n8 => ?_⟩
          refine lc_list (K := K) (a := cA) (xs := (x.m.take x.b5.toNat).map V.int) (fun i H' => H' D8 = some (.lst (((x.m.take x.b5.toNat).take i).map fun c => V.str (mkS [c.toNat]))) ∧ Same H7 H') ⟨upd_same, same_new (Same.refl H7) n8⟩ (fun i H' _ h => SqL.of (h.2 _ _ hc7)) ?_ ?_
          · rintro i v H8 hv ⟨h8, s8⟩
            obtain ⟨c, hc, rfl⟩ := map_at hv
            have hs : sgB c = true := List.all_eq_true.mp a1 c (List.mem_of_getElem? hc)
            refine ⟨rfl, _, rfl, _, rfl, D, V.str ⟨#[c.toNat]⟩, rfl, ?_, _, h8, ?_, ?_, same_mut s8 n8⟩
            · have g := DGet.k (k := Sum.inl c) (s8 _ _ hD7)
              rw [sg_get, if_pos hs] at g
              exact g
            · rw [List.length_map, List.length_take, sizeLine_eq]
              omega
            · rw [upd_same, List.take_succ, hc, List.map_append]
              rfl
          · rintro H8 ⟨h8, s8⟩
            rw [List.length_map, List.take_length] at h8
            have h8' : H8 D8 = some (.lst (((x.m.take x.b5.toNat).map fun c => mkS [c.toNat]).map V.str)) := by
              rw [h8, List.map_map]
              rfl
            refine ⟨_, D8, _, rfl, rfl, .inl (SqL.of h8'), ?_, ?_, fun pT nT => ?_⟩
            · have : (((x.m.take x.b5.toNat).map fun c => mkS [c.toNat]).map (·.length)).sum = (x.m.take x.b5.toNat).length := by
                generalize x.m.take x.b5.toNat = l
                induction l with
                | nil => rfl
                | cons c l ih =>
                  rw [List.map_cons, List.map_cons, List.sum_cons, ih, mkS_len]
                  simp only [List.length_cons, List.length_nil]
                  omega
              rw [this, List.length_map]
              show _ + _ * 0 ≤ _
              omega
            · show 4 ≤ sizeLine
              decide
            · have s18 := s17.trans s8
              refine q1 yes pT _ (same_new s18 nT) (by
                cases e : H pT with
                | none => rfl
                | some o => exact absurd ((s18 _ _ e).symm.trans nT) (fun z => nomatch z)) ?_
              rw [upd_same]
              have ej : Txt.join (Str.ofString "") ((x.m.take x.b5.toNat).map fun c => mkS [c.toNat]) = mkS x.text := by
                unfold Pc.text
                exact join_one _
              rw [show Txt.join _ _ = _ from ej]
end
end K44
set_option Elab.async false
set_option linter.all false
set_option maxRecDepth 100000
set_option maxHeartbeats 4000000
/-! K44b: the law's own pieces and texts. -/
namespace K44
open PySem PySem.Spec PyProof.Rows L2 Gd Com Bk Nw
section
variable {P : Program} {w : World} {K : PySem.W.Frag} {mg : Str → Option Value} {base : Heap}
/-! ### _law_due_piece -/
def spDue (K : PySem.W.Frag) : Sp := fun vs H Q _ => ∃ (a : Addr) (x : Pc), vs = [.ref a] ∧ SqL K H a (x.row.map V.int) ∧ x.m.length = 25 ∧ 0 ≤ x.b5 ∧
  (x.is = false → ∀ H', Same H H' → Q .non H') ∧
  (x.is = true → ∀ (p : Addr) (H' : Hp), Same H H' → H p = none → H' p = some (.tup [.int x.b1, .int x.b2, .int (256 * x.b3 + x.b4), .str (mkS x.text)]) → Q (.ref p) H')
theorem ok_law_due_piece {f : Addr} {fd : FuncData} (A : All K mg) (F : Fun K "_law_due_piece" "_law_due_piece" s_law_due_piece f fd) : FnOk P w K mg base CX0 1 f fd ["block"] (spDue K) := by
  refine F.ok sc_law_due_piece (fun vs H Q E h => ?_) (fun cdv A' outer s H vs Q E hr h => ?_)
  · obtain ⟨a, x, rfl, _⟩ := h
    rfl
  · obtain ⟨a, x, rfl, hS, hm, h05, q0, q1⟩ := h
    have hu64 := hr.units
    refine ⟨_, (pss_cons (ps_if (PW.pt (pw_or (pt_cmpR op_ne (pe_ix ix_list (pv 0) pe_int (fun _ _ => rfl)) pe_int (nomark _)) (pw_or (pt_cmpR op_ne (pe_ix ix_list (pv 0) pe_int (fun _ _ => rfl)) pe_int (nomark _)) (pw_or (pt_cmpR op_ge (pe_ix ix_list (pv 0) pe_int (fun _ _ => rfl)) (pe_ix ix_list (pv 0) pe_int (fun _ _ => rfl)) (nomark _)) (pw_or (pt_cmpR op_gt (pe_ix ix_list (pv 0) pe_int (fun _ _ => rfl)) pe_int (nomark _)) (pw_or1 (pt_cmpR op_eq (pe_ix ix_list (pv 0) pe_int (fun _ _ => rfl)) pe_int (nomark _))))))))
(pss_one (ps_ret pe_non))
pss_nil)
(pss_cons (ps_set (i := 1) sc_law_due_piece.nd rfl (.inl rfl) pe_str)
(pss_cons (ps_set (i := 2) sc_law_due_piece.nd rfl (.inl rfl) pe_str)
(pss_cons (ps_for PassesOwn.never rfl (pi_list (pe_slice sl_list (pv 0) (po_some pe_int) (po_some (pe_op op_add pe_int (pe_ix ix_list (pv 0) pe_int (fun _ _ => rfl)))))) (pg_name (i := 3) sc_law_due_piece.nd rfl (.inl rfl))
(pss_cons (ps_if (PW.pt (pw_or (pt_cmpR op_eq (pv 3) pe_int (nomark _)) (pw_or (pt_cmpR op_lt (pv 3) pe_int (nomark _)) (pw_or1 (pt_cmpR op_gt (pv 3) pe_int (nomark _))))))
(pss_one (ps_ret pe_non))
pss_nil)
(pss_one (ps_set (i := 2) sc_law_due_piece.nd rfl (.inl rfl) (pe_op op_add_str (pv 2) (pe_ix ix_str (pv 1) (pe_op op_sub (pv 3) pe_int) (fun _ _ => rfl)))))))
(pss_cons (ps_if (pt_cmpR (op_neD (by exact hu64)) (pe_lc (own := [("byte", 4)]) rfl sc_law_due_piece.nd (pi_list (pe_slice sl_list (pv 0) (po_some (pe_op op_add pe_int (pe_ix ix_list (pv 0) pe_int (fun _ _ => rfl)))) (po_some pe_int))) (blkOk_by (N := ["block", "signs", "text", "code", "byte"]) (sc := defScope s_law_due_piece) (by decide +kernel)) (fun _ _ _ _ _ => pg_name (i := 4) sc_law_due_piece.nd rfl (Or.inl rfl)) (fun _ _ _ _ _ => (pts_one (pt_cmpR op_ne (pv 4) pe_int (nomark _)))) (fun _ _ _ _ _ => (pv 4))) (pe_lst pa_nil) (nomark _))
(pss_one (ps_ret pe_non))
pss_nil)
(pss_one (ps_ret (pe_tup (pa_cons (pe_ix ix_list (pv 0) pe_int (fun _ _ => rfl)) (pa_cons (pe_ix ix_list (pv 0) pe_int (fun _ _ => rfl)) (pa_cons (pe_op op_add (pe_op op_mul pe_int (pe_ix ix_list (pv 0) pe_int (fun _ _ => rfl))) (pe_ix ix_list (pv 0) pe_int (fun _ _ => rfl))) (pa_cons (pv 2) pa_nil)))))))))))), ?_⟩
    have v0 : (x.row.map V.int)[0]? = some (.int x.b0) := rfl
    have v1 : (x.row.map V.int)[1]? = some (.int x.b1) := rfl
    have v2 : (x.row.map V.int)[2]? = some (.int x.b2) := rfl
    have v3 : (x.row.map V.int)[3]? = some (.int x.b3) := rfl
    have v4 : (x.row.map V.int)[4]? = some (.int x.b4) := rfl
    have v5 : (x.row.map V.int)[5]? = some (.int x.b5) := rfl
    have v31 := row_31 hm
    have s0 := Same.refl H
    have hz2 : SG2.length ≤ sizeLine := by
      rw [SG2_len, sizeLine_eq]
      decide
    refine ⟨_, rfl, a, _, 0, _, rfl, rfl, hS, atI_nat (j := 0) v0, rfl, _, rfl, ite2 (fun e => q0 (pc_no (.inl e)) _ s0) (fun e0 => ?_)⟩
    refine ⟨_, rfl, a, _, 31, _, rfl, rfl, hS, atI_nat (j := 31) v31, rfl, _, rfl, ite2 (fun e => q0 (pc_no (.inr (.inl e))) _ s0) (fun e1 => ?_)⟩
    refine ⟨_, rfl, a, _, 1, _, rfl, rfl, hS, atI_nat (j := 1) v1, _, rfl, a, _, 2, _, rfl, rfl, hS, atI_nat (j := 2) v2, _, _, rfl, rfl, _, rfl, ite2 (fun e => q0 (pc_no (.inr (.inr (.inl (of_decide_eq_true e))))) _ s0) (fun e2 => ?_)⟩
    refine ⟨_, rfl, a, _, 5, _, rfl, rfl, hS, atI_nat (j := 5) v5, _, _, rfl, rfl, _, rfl, ite2 (fun e => q0 (pc_no (.inr (.inr (.inr (.inr (.inl (by have := of_decide_eq_true e; omega))))))) _ s0) (fun e3 => ?_)⟩
    refine ⟨_, rfl, a, _, 5, _, rfl, rfl, hS, atI_nat (j := 5) v5, rfl, _, rfl, ite2 (fun e => q0 (pc_no (.inr (.inr (.inr (.inl (by have := V.int.inj (of_decide_eq_true e); omega)))))) _ s0) (fun e4 => ?_)⟩
    have h24 : x.b5 ≤ 24 := by
      have : ¬ x.b5 > 24 := fun z => e3 (decide_eq_true z)
      omega
    have h15 : 1 ≤ x.b5 := by
      have : ¬ x.b5 = 0 := fun z => e4 (decide_eq_true (congrArg V.int z))
      omega
    have hb0 : x.b0 = 75 := by simpa using e0
    have hz : x.z = 75 := by simpa using e1
    have h12 : x.b1 < x.b2 := by
      have : ¬ x.b1 ≥ x.b2 := fun z => e2 (decide_eq_true z)
      omega
    have c2 := cut_codes hm h05 h24
    have c3 := cut_behind hm h05 h24
    refine ⟨_, rfl, _, rfl, _, rfl, a, _, 5, _, rfl, rfl, hS, atI_nat (j := 5) v5, _, _, rfl, rfl, _, rfl, a, _, rfl, hS, fun cA nA => ?_⟩
    have s1 : Same H (upd H cA (.lst (cutV (x.row.map V.int) (some 6) (some (6 + x.b5))))) := same_new s0 nA
    have hcA : (upd H cA (.lst (cutV (x.row.map V.int) (some 6) (some (6 + x.b5))))) cA = some (.lst ((x.m.take x.b5.toNat).map V.int)) := by
      rw [upd_same, c2]
    generalize upd H cA (.lst (cutV (x.row.map V.int) (some 6) (some (6 + x.b5)))) = H1 at s1 hcA ⊢
    refine ⟨cA, rfl, ⟨_, SqL.of hcA⟩, ?_⟩
    refine for_it (walk_list (K := K) (a := cA) (xs := (x.m.take x.b5.toNat).map V.int)) (fun i σ H' => H' = H1 ∧ ((x.m.take x.b5.toNat).take i).all sgB = true ∧ ∃ w3 w4 : Option V, σ = [some (.ref a), some (.str SG2), some (.str (mkS (((x.m.take x.b5.toNat).take i).map Int.toNat))), w3, w4])
      ⟨rfl, rfl, none, none, by
        show _ = [some (V.ref a), some (V.str SG2), some (V.str (mkS [])), none, none]
        rw [← mkS_nil]
        rfl⟩ (fun i σ H' _ h => by rw [h.1]; exact SqL.of hcA) ?_ ?_
    · rintro i v σ H2 H2' hi ⟨rfl, ha, w3, w4, rfl⟩ ⟨rfl, hv⟩
      obtain ⟨c, hc, rfl⟩ := map_at hv
      have bad : sgB c = false → x.is = false := fun hb => pc_no (.inr (.inr (.inr (.inr (.inr (.inl (by
        rw [List.all_eq_false]
        exact ⟨c, List.mem_of_getElem? hc, by rw [hb]; decide⟩)))))))
      refine ⟨_, rfl, rfl, _, rfl, ite2 (fun e => q0 (bad ?_) _ s1) (fun e5 => ?_)⟩
      · have := V.int.inj (of_decide_eq_true e)
        unfold sgB
        exact decide_eq_false (by omega)
      refine ⟨_, rfl, _, _, rfl, rfl, _, rfl, ite2 (fun e => q0 (bad ?_) _ s1) (fun e6 => ?_)⟩
      · have := of_decide_eq_true e
        unfold sgB
        exact decide_eq_false (by omega)
      refine ⟨_, rfl, _, _, rfl, rfl, _, rfl, ite2 (fun e => q0 (bad ?_) _ s1) (fun e7 => ?_)⟩
      · have := of_decide_eq_true e
        unfold sgB
        exact decide_eq_false (by omega)
      have hb : sgB c = true := by
        have g5 : ¬ c = 37 := fun z => e5 (decide_eq_true (congrArg V.int z))
        have g6 : ¬ c < 32 := fun z => e6 (decide_eq_true z)
        have g7 : ¬ c > 126 := fun z => e7 (decide_eq_true z)
        unfold sgB
        exact decide_eq_true (by omega)
      refine ⟨_, rfl, _, rfl, _, rfl, _, _, rfl, rfl, SG2, c - 32, c.toNat, rfl, rfl, hz2, sg2_at hb, _, _, rfl, rfl, ?_, rfl, ?_, some (.int c), w4, ?_⟩
      · rw [mkS_len, List.length_map, List.length_take, List.length_take, sizeLine_eq]
        show _ + 1 ≤ _
        omega
      · rw [List.take_succ, hc, List.all_append, ha]
        simp [hb]
      · rw [List.take_succ, hc, List.map_append]
        show _ = [some (V.ref a), some (V.str SG2), some (V.str (mkS (((x.m.take x.b5.toNat).take i).map Int.toNat ++ [c.toNat]))), some (.int c), w4]
        rw [← mkS_app]
        rfl
    · rintro σ H2 ⟨rfl, ha, w3, w4, rfl⟩
      rw [List.length_map, List.take_length] at ha
      rw [List.length_map, List.take_length]
      have hS2 := s1.seq hS
      refine ⟨_, rfl, _, rfl, a, _, 5, _, rfl, rfl, hS2, atI_nat (j := 5) v5, _, _, rfl, rfl, _, rfl, _, rfl, a, _, rfl, hS2, fun bA nB => ?_⟩
      have s2 : Same H2 (upd H2 bA (.lst (cutV (x.row.map V.int) (some (6 + x.b5)) (some 31)))) := same_new (Same.refl H2) nB
      have hbA : (upd H2 bA (.lst (cutV (x.row.map V.int) (some (6 + x.b5)) (some 31)))) bA = some (.lst ((x.m.drop x.b5.toNat).map V.int)) := by
        rw [upd_same, c3]
      generalize upd H2 bA (.lst (cutV (x.row.map V.int) (some (6 + x.b5)) (some 31))) = H3 at s2 hbA ⊢
      have s13 := s1.trans s2
      refine ⟨bA, rfl, ⟨_, SqL.of hbA⟩, fun D nD => ?_⟩
      refine lc_list (K := K) (a := bA) (xs := (x.m.drop x.b5.toNat).map V.int) (fun i H' => H' D = some (.lst ((((x.m.drop x.b5.toNat).take i).filter fun c => !decide (c = 0)).map V.int)) ∧ Same H3 H') ⟨upd_same, same_new (Same.refl H3) nD⟩ (fun i H' _ h => SqL.of (h.2 _ _ hbA)) ?_ ?_
      · rintro i v H4 hv ⟨hD, s4⟩
        obtain ⟨c, hc, rfl⟩ := map_at hv
        have e : (!decide (V.int c = V.int 0)) = !decide (c = 0) := by
          by_cases z : c = 0
          · subst z
            rw [decide_eq_true rfl, decide_eq_true rfl]
          · rw [decide_eq_false z, decide_eq_false (fun k => z (V.int.inj k))]
        refine ⟨rfl, _, rfl, rfl, _, rfl, ?_⟩
        rw [e]
        cases hb : decide (c = 0) with
        | true =>
          refine iteF ⟨?_, s4⟩
          rw [List.take_succ, hc, List.filter_append]
          simp only [Option.toList, List.filter_cons, hb]
          simpa using hD
        | false =>
          refine iteT ⟨_, rfl, _, hD, ?_, ?_, same_mut s4 nD⟩
          · have := List.length_filter_le (fun c => !decide (c = 0)) ((x.m.drop x.b5.toNat).take i)
            rw [List.length_take, List.length_drop] at this
            rw [List.length_map, sizeLine_eq]
            omega
          · rw [upd_same, List.take_succ, hc, List.filter_append]
            simp only [Option.toList, List.filter_cons, hb]
            simp
      · rintro H4 ⟨hD, s4⟩
        rw [List.length_map, List.take_length] at hD
        refine ⟨Nat.zero_le _, fun p0 n0 => ?_⟩
        have s5 := same_new (o := .lst []) s4 n0
        have hD5 := (same_new (o := .lst []) (Same.refl H4) n0) _ _ hD
        have s15 := s13.trans s5
        refine ⟨_, _, row_dp (SqL.of hD5), .lst (SqL.of upd_same) .nil, iD_shaped _, by decide +kernel, _, rfl, ?_⟩
        rw [eqv_nil]
        refine ite2 (fun e => q0 (pc_no (.inr (.inr (.inr (.inr (.inr (.inr ?_))))))) _ s15) (fun e8 => ?_)
        · have : ¬ ((x.m.drop x.b5.toNat).filter fun c => !decide (c = 0)) = [] := by simpa using e
          rw [Bk.filter_all] at this
          simpa using this
        have a2 : (x.m.drop x.b5.toNat).all (fun c => decide (c = 0)) = true := by
          rw [← Bk.filter_all]
          simpa using e8
        have yes : x.is = true := by
          unfold Pc.is
          rw [ha, a2, decide_eq_true hb0, decide_eq_true hz, decide_eq_true h12, decide_eq_true h15, decide_eq_true h24]
          rfl
        have hS5 := s15.seq hS
        refine ⟨_, rfl, a, _, 1, _, rfl, rfl, hS5, atI_nat (j := 1) v1, _, rfl, a, _, 2, _, rfl, rfl, hS5, atI_nat (j := 2) v2, _, rfl, a, _, 3, _, rfl, rfl, hS5, atI_nat (j := 3) v3, _, _, rfl, rfl, .inl ⟨by decide, by decide⟩, _, rfl, a, _, 4, _, rfl, rfl, hS5, atI_nat (j := 4) v4, _, _, rfl, rfl, _, rfl, (by show 4 ≤ sizeLine; decide), fun pT nT => ?_⟩
        refine q1 yes pT _ (same_new s15 nT) (by
          cases e : H pT with
          | none => rfl
          | some o => exact absurd ((s15 _ _ e).symm.trans nT) (fun z => nomatch z)) upd_same
end
end K44
set_option Elab.async false
set_option linter.all false
set_option maxRecDepth 100000
set_option maxHeartbeats 4000000
/-! K44c: the law's own pieces and texts. -/
namespace K44
open PySem PySem.Spec PyProof.Rows L2 Gd Com Bk Nw
section
variable {P : Program} {w : World} {K : PySem.W.Frag} {mg : Str → Option Value} {base : Heap}
/-! ### _law_pieces -/
def spPieces : Sp := fun vs H Q _ => ∃ (n : Nat) (cs : List Nat), vs = [.int (n : Int), .str (mkS cs)] ∧ cs.length ≤ 100000 ∧
  ∀ (a : Addr) (bs : List V) (H' : Hp), Same H H' → H a = none → H' a = some (.lst bs) → BlksF H H' (blks n cs) bs → Q (.ref a) H'
theorem ok_law_pieces {f : Addr} {fd : FuncData} (A : All K mg) (F : Fun K "_law_pieces" "_law_pieces" s_law_pieces f fd) : FnOk P w K mg base CX0 1 f fd ["number", "text"] spPieces := by
  refine F.ok sc_law_pieces (fun vs H Q E h => ?_) (fun cdv A' outer s H vs Q E hr h => ?_)
  · obtain ⟨n, cs, rfl, _⟩ := h
    rfl
  · obtain ⟨n, cs, rfl, hp, q⟩ := h
    have hl : (mkS cs).length ≤ sizeLine := by
      rw [mkS_len, sizeLine_eq]
      omega
    refine ⟨_, (pss_cons (ps_set (i := 2) sc_law_pieces.nd rfl (.inl rfl) (pe_lst pa_nil))
(pss_cons (ps_set (i := 3) sc_law_pieces.nd rfl (.inl rfl) (pe_op op_fdiv (pe_op op_add (pe_callB call_len_str (by rfl) A.len PySem.boot_len (pa_cons (pv 1) pa_nil)) pe_int) pe_int))
(pss_cons (ps_for PassesOwn.never rfl (pi_range1 (by rfl) A.range (pa_cons (pv 3) pa_nil)) (pg_name (i := 4) sc_law_pieces.nd rfl (.inl rfl))
(pss_cons (ps_set (i := 5) sc_law_pieces.nd rfl (.inl rfl) (pe_slice sl_str (pv 1) (po_some (pe_op op_mul pe_int (pv 4))) (po_some (pe_op op_add (pe_op op_mul pe_int (pv 4)) pe_int))))
(pss_cons (ps_set (i := 6) sc_law_pieces.nd rfl (.inl rfl) (pe_lst (pa_cons pe_int (pa_cons (pv 4) (pa_cons (pv 3) (pa_cons (pe_op op_fdiv (pv 0) pe_int) (pa_cons (pe_op op_mod (pe_callTy call_int1 (by rfl) A.int (by decide +kernel) (pa_cons (pv 0) pa_nil)) pe_int) (pa_cons (pe_callB call_len_str (by rfl) A.len PySem.boot_len (pa_cons (pv 5) pa_nil)) pa_nil))))))))
(pss_cons (ps_for PassesOwn.never rfl (pi_str (pv 5)) (pg_name (i := 7) sc_law_pieces.nd rfl (.inl rfl))
(pss_one (ps_expr (pe_bm PySem.F.plainAttrs_list PySem.F.slot_list_append PySem.F.type_list_append mt_append (pv 6) (pa_cons (pe_callB call_ord (by rfl) A.ord (by decide +kernel) (pa_cons (pv 7) pa_nil)) pa_nil)))))
(pss_one (ps_expr (pe_bm PySem.F.plainAttrs_list PySem.F.slot_list_append PySem.F.type_list_append mt_append (pv 2) (pa_cons (pe_op op_cat (pe_op op_cat (pv 6) (pe_op op_rep (pe_lst (pa_cons pe_int pa_nil)) (pe_op op_sub pe_int (pe_callB call_len_seq (by rfl) A.len PySem.boot_len (pa_cons (pv 6) pa_nil))))) (pe_lst (pa_cons pe_int pa_nil))) pa_nil))))))))
(pss_one (ps_ret (pv 2)))))), ?_⟩
    refine ⟨Nat.zero_le _, fun D nD => ?_⟩
    have s0 : Same H (upd H D (.lst [])) := same_new (Same.refl H) nD
    refine ⟨_, rfl, _, rfl, hl, _, _, rfl, rfl, _, _, rfl, rfl, ⟨by decide, by decide⟩, ?_⟩
    have em : (((mkS cs).length : Int) + 23) / 24 = ((nP cs : Nat) : Int) := by
      rw [mkS_len]
      unfold nP
      omega
    show gName 3 (V.int ((((mkS cs).length : Int) + 23) / 24)) _ _ _
    rw [em]
    have hnp : nP cs ≤ 100000 := by
      unfold nP
      omega
    refine ⟨_, rfl, _, rfl, by omega, by omega, ?_⟩
    rw [Int.toNat_natCast]
    refine for_range (lo := 0) (n := nP cs) (fun i σ H' => ∃ (bs : List V) (v4 v5 v6 v7 : Option V), σ = [some (.int (n : Int)), some (.str (mkS cs)), some (.ref D), some (.int ((nP cs : Nat) : Int)), v4, v5, v6, v7] ∧ H' D = some (.lst bs) ∧ BlksF (upd H D (.lst [])) H' ((List.range i).map fun k => blkI k (nP cs) n (part cs k)) bs ∧ Same H H')
      ⟨[], none, none, none, none, rfl, upd_same, .nil, s0⟩ ?_ ?_
    · rintro i σ H1 hi ⟨bs, v4, v5, v6, v7, rfl, hD, hB, s1⟩
      rw [Int.zero_add]
      refine ⟨_, rfl, _, rfl, _, _, rfl, rfl, .inl ⟨by decide, by decide⟩, _, rfl, _, rfl, _, _, rfl, rfl, .inl ⟨by decide, by decide⟩, _, _, rfl, rfl, _, rfl, _, rfl, hl, ?_⟩
      show gName 5 (V.str (cutS (mkS cs) (some (24 * (i : Int))) (some (24 * (i : Int) + 24)))) _ _ _
      rw [cut_part]
      let pt : List Nat := Bk.part cs i
      have hpt : pt.length ≤ 24 := part_le cs i
      have lpt : (mkS pt).length ≤ sizeLine := by
        rw [mkS_len, sizeLine_eq]
        omega
      refine ⟨_, rfl, _, rfl, _, rfl, _, _, rfl, rfl, ⟨by decide, by decide⟩, _, rfl, .inl ⟨_, rfl, _, _, rfl, rfl, (by show (0 : Int) < 256; decide), _, rfl, _, rfl, lpt, (by show 6 ≤ sizeLine; decide), fun h nh => ?_⟩⟩
      rw [mkS_len]
      let hd : List V := [.int 75, .int (i : Int), .int ((nP cs : Nat) : Int), .int ((n : Int) / 256), .int ((n : Int) % 256), .int (pt.length : Int)]
      have lhd : hd.length = 6 := rfl
      have sh : Same H1 (upd H1 h (.lst hd)) := same_new (Same.refl H1) nh
      have hDh : D ≠ h := ne_of_none hD nh
      refine ⟨_, rfl, _, rfl, ?_⟩
      refine for_it (walk_str (z := mkS pt)) (fun j σ H' => ∃ v7 : Option V, σ = [some (.int (n : Int)), some (.str (mkS cs)), some (.ref D), some (.int ((nP cs : Nat) : Int)), some (.int (i : Int)), some (.str (mkS pt)), some (.ref h), v7] ∧ H' h = some (.lst (hd ++ (pt.take j).map fun c : Nat => V.int (c : Int))) ∧ (∀ c o, c ≠ h → upd H1 h (.lst hd) c = some o → H' c = some o))
        ⟨_, rfl, upd_same, fun _ _ _ e => e⟩ (fun _ _ _ _ _ => trivial) ?_ ?_
      · rintro j x σ H2 H2' hj ⟨v7, rfl, hh, s2⟩ ⟨rfl, c, hc, rfl⟩
        have hc' : pt[j]? = some c := by
          rw [← hc]
          simp [mkS]
        refine ⟨_, rfl, .inl ⟨rfl, _, SqL.of hh⟩, _, rfl, _, rfl, rfl, h, _, _, rfl, rfl, hh, ?_, _, rfl, ?_, fun b o nb e => ?_⟩
        · rw [List.length_append, List.length_map, List.length_take, lhd, sizeLine_eq]
          omega
        · rw [upd_same, List.append_assoc, List.take_succ, hc', List.map_append]
          rfl
        · rw [upd_ne nb]
          exact s2 b o nb e
      · rintro σ H2 ⟨v7, rfl, hh, s2⟩
        rw [show (mkS pt).cps.size = pt.length from mkS_len pt, List.take_length] at hh
        have hD2 : H2 D = some (.lst bs) := s2 _ _ hDh (sh _ _ hD)
        refine ⟨_, rfl, .inl ⟨rfl, _, SqL.of hD2⟩, _, rfl, (by show 1 ≤ sizeLine; decide), fun a2 n2 => ?_⟩
        have s3 : Same H2 (upd H2 a2 (.lst [.int 0])) := same_new (Same.refl H2) n2
        have hh3 := s3 _ _ hh
        refine ⟨_, rfl, h, _, rfl, .inl (SqL.of hh3), _, _, rfl, rfl, a2, _, _, rfl, rfl, upd_same, ?_, ?_, ?_, fun a3 n3 => ?_⟩
        · rw [List.length_append, List.length_map, lhd]
          omega
        · rw [List.length_append, List.length_map, lhd]
          omega
        · rw [List.length_append, List.length_map, lhd, sizeLine_eq]
          simp only [List.length_cons, List.length_nil]
          omega
        have ek : (31 - (((hd ++ pt.map fun c : Nat => V.int (c : Int)).length : Nat) : Int)).toNat = 25 - pt.length := by
          rw [List.length_append, List.length_map, lhd]
          omega
        have ez : (List.replicate (31 - (((hd ++ pt.map fun c : Nat => V.int (c : Int)).length : Nat) : Int)).toNat [V.int 0]).flatten = List.replicate (25 - pt.length) (V.int 0) := by
          rw [ek, rep_flat]
        have s4 := same_new (o := .lst (List.replicate (31 - (((hd ++ pt.map fun c : Nat => V.int (c : Int)).length : Nat) : Int)).toNat [V.int 0]).flatten) s3 n3
        refine ⟨h, a3, hd ++ pt.map (fun c : Nat => V.int (c : Int)), List.replicate (25 - pt.length) (V.int 0), rfl, rfl, s4 _ _ hh, ?_, ?_, fun a4 n4 => ?_⟩
        · rw [upd_same]
          exact congrArg (fun z => some (HO.lst z)) ez
        · rw [List.length_append, List.length_map, List.length_replicate, lhd, sizeLine_eq]
          omega
        have s5 := same_new (o := .lst (hd ++ pt.map (fun c : Nat => V.int (c : Int)) ++ List.replicate (25 - pt.length) (V.int 0))) s4 n4
        refine ⟨(by show 1 ≤ sizeLine; decide), fun a5 n5 => ?_⟩
        have ne45 : a4 ≠ a5 := ne_of_none (o := .lst _) upd_same n5
        have s6 := same_new (o := .lst [V.int 75]) s5 n5
        refine ⟨a4, a5, hd ++ pt.map (fun c : Nat => V.int (c : Int)) ++ List.replicate (25 - pt.length) (V.int 0), _, rfl, rfl, ?_, upd_same, ?_, fun a6 n6 => ?_⟩
        · rw [upd_ne ne45]
          exact upd_same
        · rw [List.length_append, List.length_append, List.length_map, List.length_replicate, lhd, sizeLine_eq]
          simp only [List.length_cons, List.length_nil]
          omega
        have s7 := same_new (o := .lst (hd ++ pt.map (fun c : Nat => V.int (c : Int)) ++ List.replicate (25 - pt.length) (V.int 0) ++ [V.int 75])) s6 n6
        have hD7 := s7 _ _ hD2
        have lb := Paired.length hB
        rw [List.length_map, List.length_range] at lb
        have g16 : ∀ b o, b ≠ h → H1 b = some o → b ≠ D → upd (upd (upd (upd (upd H2 a2 (.lst [.int 0])) a3 (.lst (List.replicate (31 - (((hd ++ pt.map fun c : Nat => V.int (c : Int)).length : Nat) : Int)).toNat [V.int 0]).flatten)) a4 (.lst (hd ++ pt.map (fun c : Nat => V.int (c : Int)) ++ List.replicate (25 - pt.length) (V.int 0)))) a5 (.lst [V.int 75])) a6 (.lst (hd ++ pt.map (fun c : Nat => V.int (c : Int)) ++ List.replicate (25 - pt.length) (V.int 0) ++ [V.int 75])) b = some o :=
          fun b o nb e _ => s7 _ _ (s2 _ _ nb (sh _ _ e))
        have n6D : a6 ≠ D := fun z => by
          subst z
          exact absurd ((s6 _ _ hD2).symm.trans n6) (fun z => nomatch z)
        refine ⟨D, bs, _, rfl, rfl, hD7, ?_, bs ++ [.ref a6], _, _, _, _, rfl, upd_same, ?_, ?_⟩
        · rw [← lb, sizeLine_eq]
          omega
        · rw [List.range_succ, List.map_append]
          refine paired_app (Paired.mapP hB fun r v ⟨b, e, nb, hb⟩ => ⟨b, e, nb, ?_⟩) (paired_one ⟨a6, rfl, ?_, ?_⟩)
          · have nbD : b ≠ D := fun z => by
              subst z
              rw [upd_same] at nb
              cases nb
            have nbh : b ≠ h := ne_of_none hb nh
            rw [upd_ne nbD]
            exact g16 b _ nbh hb nbD
          · cases e : upd H D (.lst []) a6 with
            | none => rfl
            | some o =>
              have e' : H a6 = some o := by
                rw [upd_ne n6D] at e
                exact e
              have e1 := s1 _ _ e'
              have := s6 _ _ (s2 _ _ (ne_of_none e1 nh) (sh _ _ e1))
              exact absurd (this.symm.trans n6) (fun z => nomatch z)
          · rw [upd_ne n6D, upd_same, blkI_v]
        · intro b o e
          have e1 := s1 _ _ e
          have nbD : b ≠ D := ne_of_none e nD
          rw [upd_ne nbD]
          exact g16 b o (ne_of_none e1 nh) e1 nbD
    · rintro σ H1 ⟨bs, v4, v5, v6, v7, rfl, hD, hB, s1⟩
      refine ⟨_, rfl, q D bs H1 s1 nD hD (Paired.mapP hB fun r v ⟨b, e, nb, hb⟩ => ⟨b, e, ?_, hb⟩)⟩
      cases e2 : H b with
      | none => rfl
      | some o => exact absurd ((s0 _ _ e2).symm.trans nb) (fun z => nomatch z)
/-! ### _law_signs -/
def spSigns : Sp := fun vs H Q _ => ∃ (b dg : Addr) (ds : List Int) (m : Nat), vs = [.ref b, .int (m : Int)] ∧ 1 ≤ m ∧ m ≤ 1000 ∧ Bx H b dg ds ∧
  ∀ (cs : List Nat) (H' : Hp), cs.length = m → (∀ c ∈ cs, c ∈ sgL) → Fx b H H' → Bx H' b dg ds → Q (.str (mkS cs)) H'
theorem ok_law_signs {f : Addr} {fd : FuncData} (A : All K mg) (F : Fun K "_law_signs" "_law_signs" s_law_signs f fd) : FnOk P w K mg base CX0 2 f fd ["box", "many"] spSigns := by
  obtain ⟨f_law_draw, fd_law_draw, F_law_draw, g_law_draw, b_law_draw⟩ := A.law_draw
  have G_law_draw := ok_law_draw (P := P) (w := w) (base := base) A F_law_draw
  refine F.ok sc_law_signs (fun vs H Q E h => ?_) (fun cdv A' outer s H vs Q E hr h => ?_)
  · obtain ⟨b, dg, ds, m, rfl, _⟩ := h
    rfl
  · obtain ⟨b, dg, ds, m, rfl, m1, m2, B, q⟩ := h
    have hz : SG.length ≤ sizeLine := by
      rw [SG_len, sizeLine_eq]
      decide
    have pz : (0 : Int) < (SG.length : Int) := by
      rw [SG_len]
      decide
    refine ⟨_, (pss_cons (ps_set (i := 2) sc_law_signs.nd rfl (.inl rfl) pe_str)
(pss_cons (ps_if (pt_cmpR op_eq (pe_call G_law_draw (hr.mono (by decide)) (by rfl) g_law_draw F_law_draw.kp b_law_draw .nil pass0 (pa_cons (pv 0) (pa_cons pe_int pa_nil))) pe_int (nomark _))
(pss_one (ps_ret (pe_op op_repS (pe_ix ix_str (pv 2) (pe_call G_law_draw (hr.mono (by decide)) (by rfl) g_law_draw F_law_draw.kp b_law_draw .nil pass0 (pa_cons (pv 0) (pa_cons (pe_callB call_len_str (by rfl) A.len PySem.boot_len (pa_cons (pv 2) pa_nil)) pa_nil))) (fun _ _ => rfl)) (pv 1))))
pss_nil)
(pss_cons (ps_set (i := 3) sc_law_signs.nd rfl (.inl rfl) pe_str)
(pss_cons (ps_for PassesOwn.never rfl (pi_range1 (by rfl) A.range (pa_cons (pv 1) pa_nil)) (pg_name (i := 4) sc_law_signs.nd rfl (.inl rfl))
(pss_one (ps_set (i := 3) sc_law_signs.nd rfl (.inl rfl) (pe_op op_add_str (pv 3) (pe_ix ix_str (pv 2) (pe_call G_law_draw (hr.mono (by decide)) (by rfl) g_law_draw F_law_draw.kp b_law_draw .nil pass0 (pa_cons (pv 0) (pa_cons (pe_callB call_len_str (by rfl) A.len PySem.boot_len (pa_cons (pv 2) pa_nil)) pa_nil))) (fun _ _ => rfl))))))
(pss_one (ps_ret (pv 3))))))), ?_⟩
    refine ⟨_, rfl, b, dg, ds, 4, rfl, by decide, B, fun r H1 r0 r4 f1 B1 => ⟨rfl, _, rfl, ite2 (fun _ => ?_) (fun _ => ?_)⟩⟩
    · refine ⟨_, rfl, _, rfl, _, rfl, SG, rfl, hz, b, dg, ds, (SG.length : Int), rfl, pz, B1, fun t H2 t0 t1 f2 B2 => ?_⟩
      obtain ⟨c, hc, cin⟩ := sg_at t0 t1
      refine ⟨SG, t, c, rfl, rfl, hz, hc, _, rfl, c, m, rfl, rfl, m1, by omega, q _ _ (List.length_replicate ..) ?_ (f1.trans f2) B2⟩
      intro d hd
      rw [List.eq_of_mem_replicate hd]
      exact cin
    · refine ⟨_, rfl, _, rfl, by omega, by omega, ?_⟩
      rw [Int.toNat_natCast]
      refine for_range (lo := 0) (n := m) (fun i σ H' => ∃ (cs : List Nat) (v4 : Option V), σ = [some (.ref b), some (.int (m : Int)), some (.str SG), some (.str (mkS cs)), v4] ∧ cs.length = i ∧ (∀ c ∈ cs, c ∈ sgL) ∧ Fx b H H' ∧ Bx H' b dg ds)
        ⟨[], none, by rw [← mkS_nil]; rfl, rfl, fun _ h => (nomatch h), f1, B1⟩ ?_ ?_
      · rintro i σ H2 hi ⟨cs, v4, rfl, hl, hc, f2, B2⟩
        refine ⟨_, rfl, _, rfl, _, rfl, _, rfl, SG, rfl, hz, b, dg, ds, (SG.length : Int), rfl, pz, B2, fun t H3 t0 t1 f3 B3 => ?_⟩
        obtain ⟨c, hc', cin⟩ := sg_at t0 t1
        refine ⟨SG, t, c, rfl, rfl, hz, hc', _, _, rfl, rfl, ?_, cs ++ [c], some (.int (0 + (i : Int))), ?_, by rw [List.length_append, hl]; rfl, ?_, f2.trans f3, B3⟩
        · rw [mkS_len, hl, sizeLine_eq]
          show i + 1 ≤ _
          omega
        · rw [← mkS_app]
          rfl
        · intro d hd
          rcases List.mem_append.mp hd with h | h
          · exact hc d h
          · rw [List.mem_singleton.mp h]
            exact cin
      · rintro σ H2 ⟨cs, v4, rfl, hl, hc, f2, B2⟩
        exact ⟨_, rfl, q cs H2 hl hc f2 B2⟩
/-! ### _law_reads_so -/
def spReads : Sp := fun vs H Q _ => ∃ (a : Addr) (r : List Int), vs = [.ref a] ∧ H a = some (.lst (r.map V.int)) ∧ r.length = 32 ∧ (∀ x ∈ r, 0 ≤ x) ∧ ∀ H', Same H H' → Q (.bl true) H'
theorem ok_law_reads_so {f : Addr} {fd : FuncData} (A : All K mg) (F : Fun K "_law_reads_so" "_law_reads_so" s_law_reads_so f fd) : FnOk P w K mg base CX0 2 f fd ["block"] spReads := by
  obtain ⟨f_decode_piece, fd_decode_piece, F_decode_piece, g_decode_piece, b_decode_piece⟩ := A.decode_piece
  have G_decode_piece := ok_decode_piece (P := P) (w := w) (base := base) A F_decode_piece
  obtain ⟨f_law_due_piece, fd_law_due_piece, F_law_due_piece, g_law_due_piece, b_law_due_piece⟩ := A.law_due_piece
  have G_law_due_piece := ok_law_due_piece (P := P) (w := w) (base := base) A F_law_due_piece
  refine F.ok sc_law_reads_so (fun vs H Q E h => ?_) (fun cdv A' outer s H vs Q E hr h => ?_)
  · obtain ⟨a, r, rfl, _⟩ := h
    rfl
  · obtain ⟨a, r, rfl, ha, hl, hp, q⟩ := h
    have hu64 := hr.units
    refine ⟨_, (pss_cons (ps_set (i := 1) sc_law_reads_so.nd rfl (.inl rfl) (pe_callTy call_list_of (by rfl) A.list (by decide +kernel) (pa_cons (pv 0) pa_nil)))
(pss_one (ps_ret (pe_and (pe_cmpR (op_eqD (by exact hu64)) (pe_call G_decode_piece (hr.mono (by decide)) (by rfl) g_decode_piece F_decode_piece.kp b_decode_piece .nil pass0 (pa_cons (pv 1) pa_nil)) (pe_call G_law_due_piece (hr.mono (by decide)) (by rfl) g_law_due_piece F_law_due_piece.kp b_law_due_piece .nil pass0 (pa_cons (pv 0) pa_nil)) (nomark _)) (pe_one (pe_cmpR (op_eqD (by exact hu64)) (pv 1) (pv 0) (nomark _))))))), ?_⟩
    obtain ⟨x, rfl, hm⟩ := row_pc r hl
    have h05 : 0 ≤ x.b5 := hp _ (by unfold Pc.row; simp)
    refine ⟨_, rfl, a, _, rfl, .inl (SqL.of ha), fun l nl => ?_⟩
    have s1 : Same H (upd H l (.lst (x.row.map V.int))) := same_new (Same.refl H) nl
    have hl1 : (upd H l (.lst (x.row.map V.int))) l = some (.lst (x.row.map V.int)) := upd_same
    generalize upd H l (.lst (x.row.map V.int)) = H1 at s1 hl1 ⊢
    have fin : ∀ H', Same H1 H' → Dp K H' (.ref l) (iD x.row) ∧ Dp K H' (.ref a) (iD x.row) := fun H' s => ⟨row_dp (SqL.of (s _ _ hl1)), row_dp (SqL.of (s _ _ (s1 _ _ ha)))⟩
    have er : PyData.eqv (iD x.row) (iD x.row) = true := SeqAt.eqv_refl _ (shaped_lay (iD_shaped _))
    refine ⟨_, rfl, l, x, rfl, SqL.of hl1, hm, fun no H2 s2 => ?_, fun yes p H2 s2 np hp2 => ?_⟩
    · refine ⟨_, rfl, a, x, rfl, SqL.of (s2 _ _ (s1 _ _ ha)), hm, h05, fun _ H3 s3 => ?_, fun yes => ?_⟩
      · refine ⟨.none, .none, .non, .non, by decide +kernel, by decide +kernel, _, rfl, iteT ?_⟩
        obtain ⟨d1, d2⟩ := fin H3 (s2.trans s3)
        refine ⟨_, rfl, _, rfl, _, _, d1, d2, iD_shaped _, iD_shaped _, ?_⟩
        rw [er]
        exact q _ (s1.trans (s2.trans s3))
      · rw [no] at yes
        cases yes
    · refine ⟨_, rfl, a, x, rfl, SqL.of (s2 _ _ (s1 _ _ ha)), hm, h05, fun no => ?_, fun _ p3 H3 s3 np3 hp3 => ?_⟩
      · rw [no] at yes
        cases yes
      · have sm : ∀ c ∈ x.text, c < 1114112 := by
          intro c hc
          obtain ⟨d, hd, rfl⟩ := List.mem_map.mp hc
          unfold Pc.is at yes
          rw [Bool.and_eq_true] at yes
          have y2 := yes.2
          rw [Bool.and_eq_true] at y2
          have := of_decide_eq_true (List.all_eq_true.mp y2.1 d hd)
          omega
        refine ⟨_, _, pcD_dp (SqT.of (s3 _ _ hp2)), pcD_dp (SqT.of hp3), pcD_shaped sm, pcD_shaped sm, _, rfl, ?_⟩
        rw [SeqAt.eqv_refl _ (shaped_lay (pcD_shaped sm))]
        obtain ⟨d1, d2⟩ := fin H3 (s2.trans s3)
        refine iteT ⟨_, rfl, _, rfl, _, _, d1, d2, iD_shaped _, iD_shaped _, ?_⟩
        rw [er]
        exact q _ (s1.trans (s2.trans s3))
/-! ### _law_torn_piece -/
def spTorn : Sp := fun vs H Q _ => ∃ (a : Addr) (x : Pc), vs = [.ref a] ∧ H a = some (.lst (x.row.map V.int)) ∧ x.m.length = 25 ∧ x.is = true ∧ ∀ H', Same H H' → Q (.bl true) H'
theorem ok_law_torn_piece {f : Addr} {fd : FuncData} (A : All K mg) (F : Fun K "_law_torn_piece" "_law_torn_piece" s_law_torn_piece f fd) : FnOk P w K mg base CX0 2 f fd ["block"] spTorn := by
  obtain ⟨f_decode_piece, fd_decode_piece, F_decode_piece, g_decode_piece, b_decode_piece⟩ := A.decode_piece
  have G_decode_piece := ok_decode_piece (P := P) (w := w) (base := base) A F_decode_piece
  refine F.ok sc_law_torn_piece (fun vs H Q E h => ?_) (fun cdv A' outer s H vs Q E hr h => ?_)
  · obtain ⟨a, r, rfl, _⟩ := h
    rfl
  · obtain ⟨a, x, rfl, ha, hm, hx, q⟩ := h
    refine ⟨_, (pss_cons (ps_set (i := 1) sc_law_torn_piece.nd rfl (.inl rfl) (pe_op op_rep (pe_lst (pa_cons pe_int pa_nil)) pe_int))
(pss_cons (ps_for PassesOwn.never rfl (pi_range1 (by rfl) A.range (pa_cons pe_int pa_nil)) (pg_name (i := 2) sc_law_torn_piece.nd rfl (.inl rfl))
(Evl.pss_cut (ps_if (pt_cmpR op_ne (pe_cmp (pc_isN (pe_call G_decode_piece (hr.mono (by decide)) (by rfl) g_decode_piece F_decode_piece.kp b_decode_piece .nil pass0 (pa_cons (pe_op op_cat (pe_slice sl_list (pv 0) po_none (po_some (pv 2))) (pe_slice sl_list (pv 1) (po_some (pv 2)) po_none)) pa_nil))) rfl) (pe_cmpR op_lt (pv 2) pe_int (nomark _)) (nomark _))
(pss_one (ps_ret pe_bl))
pss_nil)
(pss_one (ps_if (pt_cmpR op_ne (pe_cmp (pc_isN (pe_call G_decode_piece (hr.mono (by decide)) (by rfl) g_decode_piece F_decode_piece.kp b_decode_piece .nil pass0 (pa_cons (pe_op op_cat (pe_slice sl_list (pv 1) po_none (po_some (pv 2))) (pe_slice sl_list (pv 0) (po_some (pv 2)) po_none)) pa_nil))) rfl) (pe_cmpR op_gt (pv 2) pe_int (nomark _)) (nomark _))
(pss_one (ps_ret pe_bl))
pss_nil))))
(pss_one (ps_ret pe_bl)))), ?_⟩
    have lr := row_len hm
    have lr' : (x.row.map V.int).length = 32 := by rw [List.length_map, lr]
    refine ⟨(by show 1 ≤ sizeLine; decide), fun l0 n0 => ?_⟩
    have s0 : Same H (upd H l0 (.lst [.int 0])) := same_new (Same.refl H) n0
    refine ⟨l0, 32, _, rfl, rfl, upd_same, by decide, by decide, by decide +kernel, fun z nz => ?_⟩
    have s1 : Same H _ := same_new (o := .lst (List.replicate (32 : Int).toNat [V.int 0]).flatten) s0 nz
    have hz1 : (upd (upd H l0 (.lst [.int 0])) z (.lst (List.replicate (32 : Int).toNat [V.int 0]).flatten)) z = some (.lst ((List.replicate 32 (0 : Int)).map V.int)) := by
      rw [upd_same, rep_flat, List.map_replicate]
      rfl
    generalize upd (upd H l0 (.lst [.int 0])) z (.lst (List.replicate (32 : Int).toNat [V.int 0]).flatten) = H1 at s1 hz1 ⊢
    have lz : ((List.replicate 32 (0 : Int)).map V.int).length = 32 := by simp
    refine ⟨33, rfl, by decide, by decide, for_range (lo := 0) (n := 33) (fun i σ H' => ∃ v2 : Option V, σ = [some (.ref a), some (.ref z), v2] ∧ Same H1 H') ⟨none, rfl, Same.refl _⟩ ?_ ?_⟩
    · rintro k σ H2 hk ⟨v2, rfl, s2⟩
      rw [Int.zero_add]
      have ha2 := s2 _ _ (s1 _ _ ha)
      have hz2 := s2 _ _ hz1
      have ek : (decide ((k : Int) < 32)) = !decide (k = 32) := by
        by_cases e : k = 32
        · subst e
          rfl
        · rw [decide_eq_false e, decide_eq_true (by omega)]
          rfl
      have ek0 : (decide ((k : Int) > 0)) = !decide (k = 0) := by
        by_cases e : k = 0
        · subst e
          rfl
        · rw [decide_eq_false e, decide_eq_true (by omega)]
          rfl
      refine ⟨fun σ H' => σ = [some (.ref a), some (.ref z), some (.int (k : Int))] ∧ Same H1 H', ?_, ?_⟩
      · -- the piece over zeros
        refine ⟨_, rfl, _, rfl, _, rfl, a, _, rfl, SqL.of ha2, fun p1 n1 => ?_⟩
        have s3 : Same H2 _ := same_new (o := .lst (cutV (x.row.map V.int) none (some (k : Int)))) (Same.refl H2) n1
        have hz3 := s3 _ _ hz2
        refine ⟨_, rfl, _, rfl, _, rfl, z, _, rfl, SqL.of hz3, fun p2 n2 => ?_⟩
        have s4 := same_new (o := .lst (cutV ((List.replicate 32 (0 : Int)).map V.int) (some (k : Int)) none)) s3 n2
        have h14 := same_new (o := .lst (cutV ((List.replicate 32 (0 : Int)).map V.int) (some (k : Int)) none)) (Same.refl _) n2 p1 _ upd_same
        refine ⟨p1, p2, _, _, rfl, rfl, h14, upd_same, ?_, fun p3 n3 => ?_⟩
        · rw [cut_take _ (by omega), cut_drop _ (by omega), List.length_take, List.length_drop, sizeLine_eq]
          omega
        have s5 := same_new (o := .lst (cutV (x.row.map V.int) none (some (k : Int)) ++ cutV ((List.replicate 32 (0 : Int)).map V.int) (some (k : Int)) none)) s4 n3
        have er : cutV (x.row.map V.int) none (some (k : Int)) ++ cutV ((List.replicate 32 (0 : Int)).map V.int) (some (k : Int)) none = (x.row.take k ++ (List.replicate 32 (0 : Int)).drop k).map V.int := by
          rw [cut_take _ (by omega), cut_drop _ (by omega), List.map_append, List.map_take, List.map_drop]
        have hp3 : (upd (upd (upd H2 p1 (.lst (cutV (x.row.map V.int) none (some (k : Int))))) p2 (.lst (cutV ((List.replicate 32 (0 : Int)).map V.int) (some (k : Int)) none))) p3 (.lst (cutV (x.row.map V.int) none (some (k : Int)) ++ cutV ((List.replicate 32 (0 : Int)).map V.int) (some (k : Int)) none))) p3 = some (.lst ((x.row.take k ++ (List.replicate 32 (0 : Int)).drop k).map V.int)) := by
          rw [upd_same, er]
        generalize upd (upd (upd H2 p1 (.lst (cutV (x.row.map V.int) none (some (k : Int))))) p2 (.lst (cutV ((List.replicate 32 (0 : Int)).map V.int) (some (k : Int)) none))) p3 (.lst (cutV (x.row.map V.int) none (some (k : Int)) ++ cutV ((List.replicate 32 (0 : Int)).map V.int) (some (k : Int)) none)) = H3 at s5 hp3 ⊢
        have lk : (x.row.take k ++ (List.replicate 32 (0 : Int)).drop k).length = 32 := by
          rw [List.length_append, List.length_take, List.length_drop, List.length_replicate, lr]
          omega
        obtain ⟨y, hy, hym, hyi⟩ : ∃ y : Pc, y.row = x.row.take k ++ (List.replicate 32 (0 : Int)).drop k ∧ y.m.length = 25 ∧ y.is = decide (k = 32) := by
          by_cases e : k = 32
          · subst e
            refine ⟨x, ?_, hm, by rw [hx]; rfl⟩
            rw [List.take_of_length_le (by omega), List.drop_of_length_le (by simp), List.append_nil]
          · obtain ⟨y, hy, hym⟩ := row_pc _ lk
            refine ⟨y, hy, hym, ?_⟩
            rw [decide_eq_false e]
            refine z_no hym ?_
            rw [hy, List.getElem?_append_right (by rw [List.length_take]; omega), List.getElem?_drop, List.length_take, lr]
            rw [List.getElem?_replicate, if_pos (by omega)]
        rw [← hy] at hp3
        have s25 := s2.trans s5
        refine ⟨p3, y, rfl, SqL.of hp3, hym, fun no H4 s6 => ?_, fun yes p4 H4 s6 np4 hp4 => ?_⟩
        · rw [hyi] at no
          refine ⟨_, rfl, _, _, rfl, rfl, rfl, _, rfl, ite2 (fun e => ?_) (fun _ => ⟨rfl, s25.trans s6⟩)⟩
          have e' : (!decide (V.bl (decide (V.non = V.non)) = V.bl (decide ((k : Int) < 32)))) = true := e
          rw [ek, no] at e'
          simp at e'
        · rw [hyi] at yes
          refine ⟨_, rfl, _, _, rfl, rfl, rfl, _, rfl, ite2 (fun e => ?_) (fun _ => ⟨rfl, s25.trans s6⟩)⟩
          have e' : (!decide (V.bl (decide (V.ref p4 = V.non)) = V.bl (decide ((k : Int) < 32)))) = true := e
          rw [ek, yes] at e'
          simp at e'
      · rintro σ H2 ⟨rfl, s2⟩
        have ha2 := s2 _ _ (s1 _ _ ha)
        have hz2 := s2 _ _ hz1
        -- zeros over the piece
        refine ⟨_, rfl, _, rfl, _, rfl, z, _, rfl, SqL.of hz2, fun p1 n1 => ?_⟩
        have s3 : Same H2 _ := same_new (o := .lst (cutV ((List.replicate 32 (0 : Int)).map V.int) none (some (k : Int)))) (Same.refl H2) n1
        have ha3 := s3 _ _ ha2
        refine ⟨_, rfl, _, rfl, _, rfl, a, _, rfl, SqL.of ha3, fun p2 n2 => ?_⟩
        have s4 := same_new (o := .lst (cutV (x.row.map V.int) (some (k : Int)) none)) s3 n2
        have h14 := same_new (o := .lst (cutV (x.row.map V.int) (some (k : Int)) none)) (Same.refl _) n2 p1 _ upd_same
        refine ⟨p1, p2, _, _, rfl, rfl, h14, upd_same, ?_, fun p3 n3 => ?_⟩
        · rw [cut_take _ (by omega), cut_drop _ (by omega), List.length_take, List.length_drop, sizeLine_eq]
          omega
        have s5 := same_new (o := .lst (cutV ((List.replicate 32 (0 : Int)).map V.int) none (some (k : Int)) ++ cutV (x.row.map V.int) (some (k : Int)) none)) s4 n3
        have er : cutV ((List.replicate 32 (0 : Int)).map V.int) none (some (k : Int)) ++ cutV (x.row.map V.int) (some (k : Int)) none = ((List.replicate 32 (0 : Int)).take k ++ x.row.drop k).map V.int := by
          rw [cut_take _ (by omega), cut_drop _ (by omega), List.map_append, List.map_take, List.map_drop]
        have hp3 : (upd (upd (upd H2 p1 (.lst (cutV ((List.replicate 32 (0 : Int)).map V.int) none (some (k : Int))))) p2 (.lst (cutV (x.row.map V.int) (some (k : Int)) none))) p3 (.lst (cutV ((List.replicate 32 (0 : Int)).map V.int) none (some (k : Int)) ++ cutV (x.row.map V.int) (some (k : Int)) none))) p3 = some (.lst (((List.replicate 32 (0 : Int)).take k ++ x.row.drop k).map V.int)) := by
          rw [upd_same, er]
        generalize upd (upd (upd H2 p1 (.lst (cutV ((List.replicate 32 (0 : Int)).map V.int) none (some (k : Int))))) p2 (.lst (cutV (x.row.map V.int) (some (k : Int)) none))) p3 (.lst (cutV ((List.replicate 32 (0 : Int)).map V.int) none (some (k : Int)) ++ cutV (x.row.map V.int) (some (k : Int)) none)) = H3 at s5 hp3 ⊢
        have lk : ((List.replicate 32 (0 : Int)).take k ++ x.row.drop k).length = 32 := by
          rw [List.length_append, List.length_take, List.length_drop, List.length_replicate, lr]
          omega
        obtain ⟨y, hy, hym, hyi⟩ : ∃ y : Pc, y.row = (List.replicate 32 (0 : Int)).take k ++ x.row.drop k ∧ y.m.length = 25 ∧ y.is = decide (k = 0) := by
          by_cases e : k = 0
          · subst e
            exact ⟨x, rfl, hm, by rw [hx]; rfl⟩
          · obtain ⟨y, hy, hym⟩ := row_pc _ lk
            refine ⟨y, hy, hym, ?_⟩
            rw [decide_eq_false e]
            refine b_no ?_
            rw [hy, List.getElem?_append_left (by rw [List.length_take, List.length_replicate]; omega), List.getElem?_take, if_pos (by omega), List.getElem?_replicate, if_pos (by omega)]
        rw [← hy] at hp3
        have s25 := s2.trans s5
        refine ⟨p3, y, rfl, SqL.of hp3, hym, fun no H4 s6 => ?_, fun yes p4 H4 s6 np4 hp4 => ?_⟩
        · rw [hyi] at no
          refine ⟨_, rfl, _, _, rfl, rfl, rfl, _, rfl, ite2 (fun e => ?_) (fun _ => ⟨_, rfl, s25.trans s6⟩)⟩
          have e' : (!decide (V.bl (decide (V.non = V.non)) = V.bl (decide ((k : Int) > 0)))) = true := e
          rw [ek0, no] at e'
          simp at e'
        · rw [hyi] at yes
          refine ⟨_, rfl, _, _, rfl, rfl, rfl, _, rfl, ite2 (fun e => ?_) (fun _ => ⟨_, rfl, s25.trans s6⟩)⟩
          have e' : (!decide (V.bl (decide (V.ref p4 = V.non)) = V.bl (decide ((k : Int) > 0)))) = true := e
          rw [ek0, yes] at e'
          simp at e'
    · rintro σ H2 ⟨v2, rfl, s2⟩
      exact q _ (s1.trans s2)
end
end K44
set_option Elab.async false
set_option linter.all false
set_option maxRecDepth 100000
set_option maxHeartbeats 4000000
/-! K44d: the law. -/
namespace K44
open PySem PySem.Spec PyProof.Rows L2 Gd Com Bk Nw
section
variable {P : Program} {w : World} {K : PySem.W.Frag} {mg : Str → Option Value} {base : Heap}
def spLaw (K : PySem.W.Frag) : Sp := fun vs H Q _ => ∃ (a : Addr) (ns : List Int), vs = [.ref a] ∧ SqL K H a (ns.map V.int) ∧ ns.length ≤ 63 ∧ ∀ H', Q (.bl true) H'
theorem ok_law {f : Addr} {fd : FuncData} (A : All K mg) (F : Fun K "law" "law" s_law f fd) : FnG P w K mg base 4 f fd ["script"] (spLaw K) := by
  obtain ⟨f_law_reads_so, fd_law_reads_so, F_law_reads_so, g_law_reads_so, b_law_reads_so⟩ := A.law_reads_so
  have G_law_reads_so := ok_law_reads_so (P := P) (w := w) (base := base) A F_law_reads_so
  obtain ⟨f_law_digits, fd_law_digits, F_law_digits, g_law_digits, b_law_digits⟩ := A.law_digits
  have G_law_digits := ok_law_digits (P := P) (w := w) (base := base) A F_law_digits
  obtain ⟨f_law_pieces, fd_law_pieces, F_law_pieces, g_law_pieces, b_law_pieces⟩ := A.law_pieces
  have G_law_pieces := ok_law_pieces (P := P) (w := w) (base := base) A F_law_pieces
  obtain ⟨f_law_signs, fd_law_signs, F_law_signs, g_law_signs, b_law_signs⟩ := A.law_signs
  have G_law_signs := ok_law_signs (P := P) (w := w) (base := base) A F_law_signs
  obtain ⟨f_law_draw, fd_law_draw, F_law_draw, g_law_draw, b_law_draw⟩ := A.law_draw
  have G_law_draw := ok_law_draw (P := P) (w := w) (base := base) A F_law_draw
  obtain ⟨f_law_torn_piece, fd_law_torn_piece, F_law_torn_piece, g_law_torn_piece, b_law_torn_piece⟩ := A.law_torn_piece
  have G_law_torn_piece := ok_law_torn_piece (P := P) (w := w) (base := base) A F_law_torn_piece
  refine fn_G F sc_law (fun vs H Q E h => ?_) (fun cdv A' outer s0 H vs Q E hgd hr h => ?_)
  · obtain ⟨a, ns, rfl, _⟩ := h
    rfl
  · obtain ⟨a, ns, rfl, hS, hlen, q⟩ := h
    have hu64 := hr.units
    refine ⟨_, (pss_cons (ps_set (i := 1) sc_law.nd rfl (.inr rfl) (pe_lst (pa_cons (pe_call G_law_digits (hr.mono (by decide)) (by rfl) g_law_digits F_law_digits.kp b_law_digits .nil pass0 (pa_cons (pv 0) (pa_cons pe_int (pa_cons pe_int pa_nil)))) (pa_cons pe_int pa_nil))))
(pss_cons (ps_for PassesOwn.never rfl (pi_range1 (by rfl) A.range (pa_cons pe_int pa_nil)) (pg_name (i := 2) sc_law.nd rfl (.inl rfl))
(pss_cons (ps_set (i := 3) sc_law.nd rfl (.inl rfl) (pe_op op_mod (pe_callTy call_int1 (by rfl) A.int (by decide +kernel) (pa_cons (pe_op op_add (pe_op op_mul (pe_call G_law_draw (hr.mono (by decide)) (by rfl) g_law_draw F_law_draw.kp b_law_draw .nil pass0 (pa_cons (pv 1) (pa_cons pe_int pa_nil))) pe_int) (pe_call G_law_draw (hr.mono (by decide)) (by rfl) g_law_draw F_law_draw.kp b_law_draw .nil pass0 (pa_cons (pv 1) (pa_cons pe_int pa_nil)))) pa_nil)) pe_int))
(pss_cons (ps_set (i := 4) sc_law.nd rfl (.inl rfl) (pe_call G_law_pieces (hr.mono (by decide)) (by rfl) g_law_pieces F_law_pieces.kp b_law_pieces .nil pass0 (pa_cons (pv 3) (pa_cons (pe_call G_law_signs (hr.mono (by decide)) (by rfl) g_law_signs F_law_signs.kp b_law_signs .nil pass0 (pa_cons (pv 1) (pa_cons (pe_op op_add pe_int (pe_call G_law_draw (hr.mono (by decide)) (by rfl) g_law_draw F_law_draw.kp b_law_draw .nil pass0 (pa_cons (pv 1) (pa_cons pe_int pa_nil)))) pa_nil))) pa_nil))))
(pss_cons (ps_set (i := 5) sc_law.nd rfl (.inl rfl) (pe_ix ix_list (pv 4) (pe_call G_law_draw (hr.mono (by decide)) (by rfl) g_law_draw F_law_draw.kp b_law_draw .nil pass0 (pa_cons (pv 1) (pa_cons (pe_callB call_len_seq (by rfl) A.len PySem.boot_len (pa_cons (pv 4) pa_nil)) pa_nil))) (fun _ _ => rfl)))
(pss_cons (ps_if (pt_not (pt_val (pe_call G_law_torn_piece (hr.mono (by decide)) (by rfl) g_law_torn_piece F_law_torn_piece.kp b_law_torn_piece .nil pass0 (pa_cons (pv 5) pa_nil))))
(pss_one (ps_ret pe_bl))
pss_nil)
(pss_cons (ps_for PassesOwn.never rfl (pi_range1 (by rfl) A.range (pa_cons (pe_call G_law_draw (hr.mono (by decide)) (by rfl) g_law_draw F_law_draw.kp b_law_draw .nil pass0 (pa_cons (pv 1) (pa_cons pe_int pa_nil))) pa_nil)) (pg_name (i := 6) sc_law.nd rfl (.inl rfl))
(pss_one (ps_asg (pe_ix ix_list (pe_lst (pa_cons pe_int (pa_cons pe_int (pa_cons pe_int (pa_cons pe_int (pa_cons pe_int (pa_cons pe_int (pa_cons pe_int (pa_cons pe_int (pa_cons pe_int (pa_cons pe_int (pa_cons pe_int (pa_cons pe_int (pa_cons pe_int (pa_cons (pe_call G_law_draw (hr.mono (by decide)) (by rfl) g_law_draw F_law_draw.kp b_law_draw .nil pass0 (pa_cons (pv 1) (pa_cons pe_int pa_nil))) pa_nil))))))))))))))) (pe_call G_law_draw (hr.mono (by decide)) (by rfl) g_law_draw F_law_draw.kp b_law_draw .nil pass0 (pa_cons (pv 1) (pa_cons pe_int pa_nil))) (fun _ _ => rfl)) (pg_sub (pv 5) (pe_call G_law_draw (hr.mono (by decide)) (by rfl) g_law_draw F_law_draw.kp b_law_draw .nil pass0 (pa_cons (pv 1) (pa_cons pe_int pa_nil))) set_list))))
(pss_cons (ps_setLc (i := 8) (own := [("k", 7)]) (tt := tYes) rfl sc_law.nd rfl rfl (sw_true rfl rfl rfl (by decide +kernel)) (pi_range1 (by rfl) A.range (pa_cons pe_int pa_nil)) (blkOk_by (N := ["script", "box", "turn", "number", "rows", "block", "step", "k", "other", "row"]) (sc := defScope s_law) (by decide +kernel)) (fun _ _ _ _ _ => pg_name (i := 7) sc_law.nd rfl (Or.inl rfl)) (fun _ _ _ _ _ => pts_nil) (fun _ _ _ _ _ => (pe_call G_law_draw (hr.mono (by decide)) (by rfl) g_law_draw F_law_draw.kp b_law_draw .nil pass0 (pa_cons (pv 1) (pa_cons pe_int pa_nil)))))
(pss_cons (ps_asg pe_int (pg_sub (pv 8) pe_int set_list))
(pss_cons (ps_asg pe_int (pg_sub (pv 8) pe_int set_list))
(pss_one (ps_if (PW.pt (pw_or (pt_not (pt_val (pe_call G_law_reads_so (hr.mono (by decide)) (by rfl) g_law_reads_so F_law_reads_so.kp b_law_reads_so .nil pass0 (pa_cons (pv 5) pa_nil)))) (pw_or1 (pt_not (pt_val (pe_call G_law_reads_so (hr.mono (by decide)) (by rfl) g_law_reads_so F_law_reads_so.kp b_law_reads_so .nil pass0 (pa_cons (pv 8) pa_nil)))))))
(pss_one (ps_ret pe_bl))
pss_nil)))))))))))
(pss_cons (ps_for PassesOwn.never rfl (pi_list (pe_lst (pa_cons (pe_op op_cat (pe_op op_cat (pe_lst (pa_cons pe_int (pa_cons pe_int (pa_cons pe_int (pa_cons pe_int (pa_cons pe_int (pa_cons pe_int pa_nil))))))) (pe_op op_rep (pe_lst (pa_cons pe_int pa_nil)) pe_int)) (pe_lst (pa_cons pe_int pa_nil))) (pa_cons (pe_op op_cat (pe_op op_cat (pe_lst (pa_cons pe_int (pa_cons pe_int (pa_cons pe_int (pa_cons pe_int (pa_cons pe_int (pa_cons pe_int pa_nil))))))) (pe_op op_rep (pe_lst (pa_cons pe_int pa_nil)) pe_int)) (pe_lst (pa_cons pe_int pa_nil))) (pa_cons (pe_op op_cat (pe_op op_cat (pe_lst (pa_cons pe_int (pa_cons pe_int (pa_cons pe_int (pa_cons pe_int (pa_cons pe_int (pa_cons pe_int pa_nil))))))) (pe_op op_rep (pe_lst (pa_cons pe_int pa_nil)) pe_int)) (pe_lst (pa_cons pe_int (pa_cons pe_int pa_nil)))) pa_nil))))) (pg_name (i := 9) sc_law.nd rfl (.inl rfl))
(pss_one (ps_if (pt_not (pt_val (pe_call G_law_reads_so (hr.mono (by decide)) (by rfl) g_law_reads_so F_law_reads_so.kp b_law_reads_so .nil pass0 (pa_cons (pv 9) pa_nil))))
(pss_one (ps_ret pe_bl))
pss_nil)))
(pss_one (ps_ret (pe_call G_law_reads_so (hr.mono (by decide)) (by rfl) g_law_reads_so F_law_reads_so.kp b_law_reads_so .nil pass0 (pa_cons (pe_op op_rep (pe_lst (pa_cons pe_int pa_nil)) pe_int) pa_nil))))))), ?_⟩
    refine ⟨_, rfl, a, ns, rfl, hS, fun dg ds H1 s1 n1 hdg => ⟨(by show 2 ≤ sizeLine; decide), fun b nb => ?_⟩⟩
    have B1 : Bx (upd H1 b (.lst [.ref dg, .int 0])) b dg ds := ⟨0, upd_same, by rw [upd_ne (ne_of_none hdg nb)]; exact hdg⟩
    refine ⟨10, rfl, by decide, by decide, for_range (lo := 0) (n := 10) (fun i σ H' => ∃ (v2 v3 v4 v5 v6 v7 v8 v9 : Option V), σ = [some (.ref a), some (.ref b), v2, v3, v4, v5, v6, v7, v8, v9] ∧ Bx H' b dg ds)
      ⟨none, none, none, none, none, none, none, none, rfl, B1⟩ ?_ ?_⟩
    · rintro turn σ H2 ht ⟨v2, v3, v4, v5, v6, v7, v8, v9, rfl, B2⟩
      -- number
      refine ⟨_, rfl, b, dg, ds, 66, rfl, by decide, B2, fun r1 H3 r10 r11 f3 B3 => ?_⟩
      refine ⟨_, _, rfl, rfl, .inl ⟨by omega, by omega⟩, _, rfl, b, dg, ds, 1000, rfl, by decide, B3, fun r2 H4 r20 r21 f4 B4 => ?_⟩
      refine ⟨_, _, rfl, rfl, .inl ⟨_, rfl, _, _, rfl, rfl, (by show (0 : Int) < 65536; decide), ?_⟩⟩
      obtain ⟨n, hn⟩ : ∃ n : Nat, (r1 * 1000 + r2) % 65536 = (n : Int) := ⟨((r1 * 1000 + r2) % 65536).toNat, by omega⟩
      show gName 3 (V.int ((r1 * 1000 + r2) % 65536)) _ _ _
      rw [hn]
      -- rows
      refine ⟨_, rfl, _, rfl, _, rfl, b, dg, ds, 60, rfl, by decide, B4, fun x1 H5 x10 x11 f5 B5 => ⟨_, _, rfl, rfl, ?_⟩⟩
      refine ⟨b, dg, ds, (1 + x1).toNat, by show [V.ref b, V.int (1 + x1)] = _; rw [show (((1 + x1).toNat : Nat) : Int) = 1 + x1 by omega], by omega, by omega, B5, fun cs H6 hcl hcs f6 B6 => ?_⟩
      refine ⟨n, cs, rfl, by omega, fun a1 bs1 H7 s7 n7 h7 p7 => ?_⟩
      have B7 := bx_same s7 B6
      have l1 : bs1.length = nP cs := by
        have := Paired.length p7
        rw [← this]
        simp [blks]
      have np0 : 0 < nP cs := by
        unfold nP
        omega
      -- block
      refine ⟨_, rfl, _, rfl, _, rfl, a1, _, rfl, .inl (SqL.of h7), b, dg, ds, (bs1.length : Int), rfl, by rw [l1]; omega, B7, fun k H8 k0 k1 f8 B8 => ?_⟩
      rw [l1] at k1
      have hk : k.toNat < nP cs := by omega
      have ek : k = ((k.toNat : Nat) : Int) := by omega
      have hrow : (blks n cs)[k.toNat]? = some (blkI k.toNat (nP cs) n (Bk.part cs k.toNat)) := by
        simp [blks, hk]
      obtain ⟨v, hv, c, rfl, nc, hc⟩ := Bk.paired_get p7 hrow
      have nb1 : a1 ≠ b := fun z => by
        subst z
        obtain ⟨m, e1, _⟩ := B6
        rw [n7] at e1
        cases e1
      have ncb : c ≠ b := fun z => by
        subst z
        obtain ⟨m, e1, _⟩ := B6
        rw [nc] at e1
        cases e1
      have ncd : c ≠ dg := fun z => by
        subst z
        obtain ⟨m, _, e1⟩ := B6
        rw [nc] at e1
        cases e1
      have h8 := f8 _ _ nb1 h7
      have hc8 := f8 _ _ ncb hc
      let x := pcOf k.toNat (nP cs) n (Bk.part cs k.toNat)
      have hxr : x.row = blkI k.toNat (nP cs) n (Bk.part cs k.toNat) := pcOf_row ..
      have hxm : x.m.length = 25 := pcOf_len (part_le cs _)
      have hxi : x.is = true := pcOf_is (part_pos hk) (part_le cs _) hk (fun d hd => hcs d (part_mem hd))
      rw [← hxr] at hc8
      have pos : ∀ d ∈ x.row, 0 ≤ d := by
        rw [hxr]
        intro d hd
        unfold blkI at hd
        simp only [List.mem_append, List.mem_cons, List.mem_map, List.mem_replicate, List.not_mem_nil, or_false] at hd
        rcases hd with ((hd | hd) | hd) | hd
        · omega
        · obtain ⟨e, _, rfl⟩ := hd
          omega
        · omega
        · omega
      have hat : atI bs1 k = some (.ref c) := by
        have := atI_nat hv
        rwa [← ek] at this
      refine ⟨a1, _, k, _, rfl, rfl, SqL.of h8, hat, ?_⟩
      refine ⟨_, rfl, c, x, rfl, hc8, hxm, hxi, fun H9 s9 => ⟨_, rfl, iteF ?_⟩⟩
      have B9 := bx_same s9 B8
      have hc9 := s9 _ _ hc8
      -- bytes that are changed
      refine ⟨_, rfl, b, dg, ds, 3, rfl, by decide, B9, fun y HA y0 y1 fA BA => ⟨y, rfl, by omega, by omega, ?_⟩⟩
      refine for_range (lo := 0) (n := y.toNat) (fun i σ H' => ∃ (r : List Int) (v6 v7 v8 v9 : Option V), σ = [some (.ref a), some (.ref b), some (.int (0 + (turn : Int))), some (.int (n : Int)), some (.ref a1), some (.ref c), v6, v7, v8, v9] ∧ H' c = some (.lst (r.map V.int)) ∧ r.length = 32 ∧ (∀ d ∈ r, 0 ≤ d) ∧ Bx H' b dg ds)
        ⟨x.row, v6, v7, v8, v9, rfl, fA _ _ ncb hc9, row_len hxm, pos, BA⟩ ?_ ?_
      · rintro i σ HB hi ⟨r, v6, v7, v8, v9, rfl, hcB, hrl, hrp, BB⟩
        refine ⟨_, rfl, b, dg, ds, 256, rfl, by decide, BB, fun y1 HC y10 y11 fC BC => ⟨(by show 14 ≤ sizeLine; decide), fun l nl => ?_⟩⟩
        have BC' := BC.new (o := .lst [.int 0, .int 10, .int 11, .int 24, .int 31, .int 32, .int 37, .int 72, .int 75, .int 83, .int 126, .int 127, .int 255, .int y1]) nl
        have nlb := (BC.nb nl).1
        refine ⟨_, rfl, b, dg, ds, 14, rfl, by decide, BC', fun y2 HD y20 y21 fD BD => ?_⟩
        have hlD := fD l _ nlb upd_same
        obtain ⟨m, hm, m0⟩ : ∃ m : Int, atI [V.int 0, .int 10, .int 11, .int 24, .int 31, .int 32, .int 37, .int 72, .int 75, .int 83, .int 126, .int 127, .int 255, .int y1] y2 = some (.int m) ∧ 0 ≤ m := pick14 y20 y21 y10
        refine ⟨l, _, y2, _, rfl, rfl, SqL.of hlD, hm, _, rfl, _, rfl, b, dg, ds, 32, rfl, by decide, BD, fun y3 HE y30 y31 fE BE => ?_⟩
        have hcC := fC _ _ ncb hcB
        have ncl : c ≠ l := ne_of_none hcC nl
        have hcE : HE c = some (.lst (r.map V.int)) := fE _ _ ncb (fD _ _ ncb (by rw [upd_ne ncl]; exact hcC))
        have lr : (r.map V.int).length = 32 := by rw [List.length_map, hrl]
        refine ⟨c, _, y3, y3.toNat, rfl, rfl, hcE, ?_, r.set y3.toNat m, _, v7, v8, v9, rfl, ?_, ?_, ?_, ?_⟩
        · rw [lr]
          unfold ixN
          rw [if_pos y30, if_pos (by omega)]
        · rw [upd_same, List.map_set]
        · rw [List.length_set, hrl]
        · intro d hd
          rcases List.mem_or_eq_of_mem_set hd with h | h
          · exact hrp d h
          · rw [h]
            exact m0
        · exact BE.upd ncb ncd
      · rintro σ HB ⟨r, v6, v7, v8, v9, rfl, hcB, hrl, hrp, BB⟩
        -- other
        refine ⟨32, rfl, by decide, by decide, fun D nD => ?_⟩
        have nDb := (BB.nb nD).1
        have nDd := (BB.nb nD).2
        have ncD : c ≠ D := ne_of_none hcB nD
        refine lc_range (lo := 0) (n := 32) (fun i H' => ∃ u : List Int, H' D = some (.lst (u.map V.int)) ∧ u.length = i ∧ (∀ d ∈ u, 0 ≤ d) ∧ H' c = some (.lst (r.map V.int)) ∧ Bx H' b dg ds)
          ⟨[], upd_same, rfl, fun _ h => (nomatch h), by rw [upd_ne ncD]; exact hcB, BB.new nD⟩ ?_ ?_
        · rintro i HC hi ⟨u, hD, hul, hup, hcC, BC⟩
          refine ⟨rfl, _, rfl, b, dg, ds, 256, rfl, by decide, BC, fun y1 HE y10 y11 fE BE => ?_⟩
          refine ⟨_, fE _ _ nDb hD, ?_, u ++ [y1], ?_, by rw [List.length_append, hul]; rfl, ?_, ?_, BE.upd nDb nDd⟩
          · rw [List.length_map, hul, sizeLine_eq]
            omega
          · rw [upd_same, List.map_append]
            rfl
          · intro d hd
            rcases List.mem_append.mp hd with h | h
            · exact hup d h
            · rw [List.mem_singleton.mp h]
              exact y10
          · rw [upd_ne ncD]
            exact fE _ _ ncb hcC
        · rintro HC ⟨u, hD, hul, hup, hcC, BC⟩
          have lu : (u.map V.int).length = 32 := by rw [List.length_map, hul]
          refine ⟨_, rfl, D, _, 0, 0, rfl, rfl, hD, ?_, ?_⟩
          · rw [lu]
            rfl
          have hD2 : (upd HC D (.lst ((u.map V.int).set 0 (.int 75)))) D = some (.lst ((u.set 0 75).map V.int)) := by
            rw [upd_same, List.map_set]
          refine ⟨_, rfl, D, _, 31, 31, rfl, rfl, hD2, ?_, ?_⟩
          · rw [List.length_map, List.length_set, hul]
            rfl
          have hD3 : (upd (upd HC D (.lst ((u.map V.int).set 0 (.int 75)))) D (.lst (((u.set 0 75).map V.int).set 31 (.int 75)))) D = some (.lst (((u.set 0 75).set 31 75).map V.int)) := by
            simp only [upd_same, List.map_set]
          have hc3 : (upd (upd HC D (.lst ((u.map V.int).set 0 (.int 75)))) D (.lst (((u.set 0 75).map V.int).set 31 (.int 75)))) c = some (.lst (r.map V.int)) := by
            rw [upd_ne ncD, upd_ne ncD]
            exact hcC
          have B3' : Bx (upd (upd HC D (.lst ((u.map V.int).set 0 (.int 75)))) D (.lst (((u.set 0 75).map V.int).set 31 (.int 75)))) b dg ds := (BC.upd nDb nDd).upd nDb nDd
          generalize upd (upd HC D (.lst ((u.map V.int).set 0 (.int 75)))) D (.lst (((u.set 0 75).map V.int).set 31 (.int 75))) = HE at hD3 hc3 B3' ⊢
          refine ⟨_, rfl, c, r, rfl, hc3, hrl, hrp, fun HF sF => ⟨_, rfl, iteF ?_⟩⟩
          refine ⟨_, rfl, D, _, rfl, sF _ _ hD3, (by rw [List.length_set, List.length_set]; exact hul), ?_, fun HG sG => ⟨_, rfl, iteF ?_⟩⟩
          · intro d hd
            rcases List.mem_or_eq_of_mem_set hd with h | h
            · rcases List.mem_or_eq_of_mem_set h with h | h
              · exact hup d h
              · omega
            · omega
          exact ⟨_, _, _, _, _, _, _, _, rfl, bx_same sG (bx_same sF B3')⟩
    · rintro σ H2 ⟨v2, v3, v4, v5, v6, v7, v8, v9, rfl, B2⟩
      refine three (ta := (tCons (tC (.int 75)) (tCons (tC (.int 0)) (tCons (tC (.int 1)) (tCons (tC (.int 0)) (tCons (tC (.int 0)) (tCons (tC (.int 0)) tNil))))))) (tz := (tCons (tC (.int 0)) tNil)) (tb := (tCons (tC (.int 75)) tNil)) (xs := [.int 75, .int 0, .int 1, .int 0, .int 0, .int 0]) (z := .int 0) (n := 25) (ys := [.int 75]) (fun h => h) (fun h => h) (fun h => h) (by decide) fun p1 H3 s3 n3 h3 => ?_
      refine three (ta := (tCons (tC (.int 75)) (tCons (tC (.int 0)) (tCons (tC (.int 1)) (tCons (tC (.int 0)) (tCons (tC (.int 0)) (tCons (tC (.int 25)) tNil))))))) (tz := (tCons (tC (.int 65)) tNil)) (tb := (tCons (tC (.int 75)) tNil)) (xs := [.int 75, .int 0, .int 1, .int 0, .int 0, .int 25]) (z := .int 65) (n := 25) (ys := [.int 75]) (fun h => h) (fun h => h) (fun h => h) (by decide) fun p2 H4 s4 n4 h4 => ?_
      refine three (ta := (tCons (tC (.int 75)) (tCons (tC (.int 0)) (tCons (tC (.int 1)) (tCons (tC (.int 0)) (tCons (tC (.int 0)) (tCons (tC (.int 24)) tNil))))))) (tz := (tCons (tC (.int 65)) tNil)) (tb := (tCons (tC (.int 0)) (tCons (tC (.int 75)) tNil))) (xs := [.int 75, .int 0, .int 1, .int 0, .int 0, .int 24]) (z := .int 65) (n := 24) (ys := [.int 0, .int 75]) (fun h => h) (fun h => h) (fun h => h) (by decide) fun p3 H5 s5 n5 h5 => ?_
      refine ⟨(by show 3 ≤ sizeLine; decide), fun l nl => ?_⟩
      have s6 : Same H5 (upd H5 l (.lst [.ref p1, .ref p2, .ref p3])) := same_new (Same.refl H5) nl
      have hl6 : (upd H5 l (.lst [.ref p1, .ref p2, .ref p3])) l = some (.lst [.ref p1, .ref p2, .ref p3]) := upd_same
      generalize upd H5 l (.lst [.ref p1, .ref p2, .ref p3]) = H6 at s6 hl6 ⊢
      refine ⟨l, rfl, ⟨_, SqL.of hl6⟩, ?_⟩
      refine for_it (walk_list (K := K) (a := l) (xs := [.ref p1, .ref p2, .ref p3])) (fun i σ H' => ∃ v9, σ = [some (.ref a), some (.ref b), v2, v3, v4, v5, v6, v7, v8, v9] ∧ Same H6 H') ⟨_, rfl, Same.refl _⟩ (fun i σ H' _ h => let ⟨_, _, s⟩ := h; SqL.of (s _ _ hl6)) ?_ ?_
      · rintro i v σ H7 H7' hi ⟨v9, rfl, s7⟩ ⟨rfl, hv⟩
        have s56 := s6.trans s7
        match i, hi with
        | 0, _ =>
          cases hv
          exact ⟨_, rfl, p1, [75, 0, 1, 0, 0, 0] ++ List.replicate 25 0 ++ [75], rfl, Eq.trans (s56 _ _ (s5 _ _ (s4 _ _ h3))) (by rfl), rfl, by decide, fun H8 s8 => ⟨_, rfl, iteF ⟨_, rfl, s7.trans s8⟩⟩⟩
        | 1, _ =>
          cases hv
          exact ⟨_, rfl, p2, [75, 0, 1, 0, 0, 25] ++ List.replicate 25 65 ++ [75], rfl, Eq.trans (s56 _ _ (s5 _ _ h4)) (by rfl), rfl, by decide, fun H8 s8 => ⟨_, rfl, iteF ⟨_, rfl, s7.trans s8⟩⟩⟩
        | 2, _ =>
          cases hv
          exact ⟨_, rfl, p3, [75, 0, 1, 0, 0, 24] ++ List.replicate 24 65 ++ [0, 75], rfl, Eq.trans (s56 _ _ h5) (by rfl), rfl, by decide, fun H8 s8 => ⟨_, rfl, iteF ⟨_, rfl, s7.trans s8⟩⟩⟩
        | i + 3, h => exact absurd h (by simp)
      · rintro σ H7 ⟨v9, rfl, s7⟩
        refine ⟨(by show 1 ≤ sizeLine; decide), fun l0 n0 => ?_⟩
        refine ⟨l0, 32, _, rfl, rfl, upd_same, by decide, by decide, by decide +kernel, fun z nz => ?_⟩
        exact ⟨z, List.replicate 32 0, rfl, by rw [upd_same, rep_flat, List.map_replicate]; rfl, rfl, by decide, fun H8 _ => q H8⟩
end
end K44
set_option Elab.async false
set_option linter.all false
set_option maxRecDepth 100000
set_option maxHeartbeats 8000000
namespace K44
open PySem PySem.Spec PyProof.Rows L2 Gd Com Bk Nw
/-! K44e: what the top has written; the end. -/
theorem all_mk {l : PySem.W.OpenLaw} {w : World} {K : PySem.W.Frag} {h : Heap} {mg : Str → Option Value} {fa p0 p1 p2 p3 p4 p5 p6 p7 p8 p9 : Addr} (X : K.In h) (G : h.Ns mainGlobals mg) (hfa : mg "law" = some (.ref fa))
    {od0 an0 od1 an1 od2 an2 od3 an3 od4 an4 od5 an5 od6 an6 od7 an7 od8 an8 od9 an9 : Option Addr} {sl0 sl1 sl2 sl3 sl4 sl5 sl6 sl7 sl8 sl9 : Array (Option Value)} {oc0 kV0 dc0 pm0 cd0 ct0 oc1 kV1 dc1 pm1 cd1 ct1 oc2 kV2 dc2 pm2 cd2 ct2 oc3 kV3 dc3 pm3 cd3 ct3 oc4 kV4 dc4 pm4 cd4 ct4 oc5 kV5 dc5 pm5 cd5 ct5 oc6 kV6 dc6 pm6 cd6 ct6 oc7 kV7 dc7 pm7 cd7 ct7 oc8 kV8 dc8 pm8 cd8 ct8 oc9 kV9 dc9 pm9 cd9 ct9 : Value}
    (a0 : PySem.W.nsIn K mainGlobals "_law_cell" = some (some (.ref p0))) (l0 : K.lookup p0 = some ⟨oc0, od0, .func (PySem.W.fnOf "_law_cell" "_law_cell" (defArgs s_law_cell) (defBody s_law_cell) (defScope s_law_cell) .none kV0 dc0 pm0 an0 cd0 ct0), sl0⟩) (c0 : PySem.W.codeIn K cd0 "_law_cell" = true) (k0 : PySem.W.keepIn K (.ref p0) = true)
    (a1 : PySem.W.nsIn K mainGlobals "_law_digits" = some (some (.ref p1))) (l1 : K.lookup p1 = some ⟨oc1, od1, .func (PySem.W.fnOf "_law_digits" "_law_digits" (defArgs s_law_digits) (defBody s_law_digits) (defScope s_law_digits) .none kV1 dc1 pm1 an1 cd1 ct1), sl1⟩) (c1 : PySem.W.codeIn K cd1 "_law_digits" = true) (k1 : PySem.W.keepIn K (.ref p1) = true)
    (a2 : PySem.W.nsIn K mainGlobals "_law_draw" = some (some (.ref p2))) (l2 : K.lookup p2 = some ⟨oc2, od2, .func (PySem.W.fnOf "_law_draw" "_law_draw" (defArgs s_law_draw) (defBody s_law_draw) (defScope s_law_draw) .none kV2 dc2 pm2 an2 cd2 ct2), sl2⟩) (c2 : PySem.W.codeIn K cd2 "_law_draw" = true) (k2 : PySem.W.keepIn K (.ref p2) = true)
    (a3 : PySem.W.nsIn K mainGlobals "_law_pieces" = some (some (.ref p3))) (l3 : K.lookup p3 = some ⟨oc3, od3, .func (PySem.W.fnOf "_law_pieces" "_law_pieces" (defArgs s_law_pieces) (defBody s_law_pieces) (defScope s_law_pieces) .none kV3 dc3 pm3 an3 cd3 ct3), sl3⟩) (c3 : PySem.W.codeIn K cd3 "_law_pieces" = true) (k3 : PySem.W.keepIn K (.ref p3) = true)
    (a4 : PySem.W.nsIn K mainGlobals "_law_signs" = some (some (.ref p4))) (l4 : K.lookup p4 = some ⟨oc4, od4, .func (PySem.W.fnOf "_law_signs" "_law_signs" (defArgs s_law_signs) (defBody s_law_signs) (defScope s_law_signs) .none kV4 dc4 pm4 an4 cd4 ct4), sl4⟩) (c4 : PySem.W.codeIn K cd4 "_law_signs" = true) (k4 : PySem.W.keepIn K (.ref p4) = true)
    (a5 : PySem.W.nsIn K mainGlobals "decode_piece" = some (some (.ref p5))) (l5 : K.lookup p5 = some ⟨oc5, od5, .func (PySem.W.fnOf "decode_piece" "decode_piece" (defArgs s_decode_piece) (defBody s_decode_piece) (defScope s_decode_piece) .none kV5 dc5 pm5 an5 cd5 ct5), sl5⟩) (c5 : PySem.W.codeIn K cd5 "decode_piece" = true) (k5 : PySem.W.keepIn K (.ref p5) = true)
    (a6 : PySem.W.nsIn K mainGlobals "_law_due_piece" = some (some (.ref p6))) (l6 : K.lookup p6 = some ⟨oc6, od6, .func (PySem.W.fnOf "_law_due_piece" "_law_due_piece" (defArgs s_law_due_piece) (defBody s_law_due_piece) (defScope s_law_due_piece) .none kV6 dc6 pm6 an6 cd6 ct6), sl6⟩) (c6 : PySem.W.codeIn K cd6 "_law_due_piece" = true) (k6 : PySem.W.keepIn K (.ref p6) = true)
    (a7 : PySem.W.nsIn K mainGlobals "_law_reads_so" = some (some (.ref p7))) (l7 : K.lookup p7 = some ⟨oc7, od7, .func (PySem.W.fnOf "_law_reads_so" "_law_reads_so" (defArgs s_law_reads_so) (defBody s_law_reads_so) (defScope s_law_reads_so) .none kV7 dc7 pm7 an7 cd7 ct7), sl7⟩) (c7 : PySem.W.codeIn K cd7 "_law_reads_so" = true) (k7 : PySem.W.keepIn K (.ref p7) = true)
    (a8 : PySem.W.nsIn K mainGlobals "_law_torn_piece" = some (some (.ref p8))) (l8 : K.lookup p8 = some ⟨oc8, od8, .func (PySem.W.fnOf "_law_torn_piece" "_law_torn_piece" (defArgs s_law_torn_piece) (defBody s_law_torn_piece) (defScope s_law_torn_piece) .none kV8 dc8 pm8 an8 cd8 ct8), sl8⟩) (c8 : PySem.W.codeIn K cd8 "_law_torn_piece" = true) (k8 : PySem.W.keepIn K (.ref p8) = true)
    (a9 : PySem.W.nsIn K mainGlobals "law" = some (some (.ref p9))) (l9 : K.lookup p9 = some ⟨oc9, od9, .func (PySem.W.fnOf "law" "law" (defArgs s_law) (defBody s_law) (defScope s_law) .none kV9 dc9 pm9 an9 cd9 ct9), sl9⟩) (c9 : PySem.W.codeIn K cd9 "law" = true) (k9 : PySem.W.keepIn K (.ref p9) = true)
    (z_len : PySem.W.nsIn K mainGlobals "len" = some none)
    (z_int : PySem.W.nsIn K mainGlobals "int" = some none)
    (z_range : PySem.W.nsIn K mainGlobals "range" = some none)
    (z_list : PySem.W.nsIn K mainGlobals "list" = some none)
    (z_ord : PySem.W.nsIn K mainGlobals "ord" = some none)
    (z_any : PySem.W.nsIn K mainGlobals "any" = some none)
    {tk0 : Tok} (q0 : PySem.W.nsIn K mainGlobals "PIECE" = some (some (.int 24 tk0)))
    {tk1 : Tok} (q1 : PySem.W.nsIn K mainGlobals "_MARK" = some (some (.int 75 tk1)))
    {tk2 : Tok} (q2 : PySem.W.nsIn K mainGlobals "_HEAD" = some (some (.int 6 tk2)))
    {tk3 : Tok} (q3 : PySem.W.nsIn K mainGlobals "_SIGNS" = some (some (.str SG tk3)))
    : ∃ fd : FuncData, (∀ (s : Shared) (v : Value), BindsTo s fd ⟨[v], []⟩ [("script", v)]) ∧ ∀ base : Heap, K.In base → base.Ns mainGlobals mg → FnG l.prog w K mg base 4 fa fd ["script"] (spLaw K) := by
  have e := hfa.symm.trans (PySem.W.mg_of X G a9)
  cases e
  have F0 := fun_mk (st := s_law_cell) l0 c0 k0
  have b0 := F0.binds (ps := ["script", "k"]) fun _ _ _ _ _ _ us hl => match us, hl with | [_, _], _ => rfl
  have F1 := fun_mk (st := s_law_digits) l1 c1 k1
  have b1 := F1.binds (ps := ["script", "first", "last"]) fun _ _ _ _ _ _ us hl => match us, hl with | [_, _, _], _ => rfl
  have F2 := fun_mk (st := s_law_draw) l2 c2 k2
  have b2 := F2.binds (ps := ["box", "many"]) fun _ _ _ _ _ _ us hl => match us, hl with | [_, _], _ => rfl
  have F3 := fun_mk (st := s_law_pieces) l3 c3 k3
  have b3 := F3.binds (ps := ["number", "text"]) fun _ _ _ _ _ _ us hl => match us, hl with | [_, _], _ => rfl
  have F4 := fun_mk (st := s_law_signs) l4 c4 k4
  have b4 := F4.binds (ps := ["box", "many"]) fun _ _ _ _ _ _ us hl => match us, hl with | [_, _], _ => rfl
  have F5 := fun_mk (st := s_decode_piece) l5 c5 k5
  have b5 := F5.binds (ps := ["block"]) fun _ _ _ _ _ _ us hl => match us, hl with | [_], _ => rfl
  have F6 := fun_mk (st := s_law_due_piece) l6 c6 k6
  have b6 := F6.binds (ps := ["block"]) fun _ _ _ _ _ _ us hl => match us, hl with | [_], _ => rfl
  have F7 := fun_mk (st := s_law_reads_so) l7 c7 k7
  have b7 := F7.binds (ps := ["block"]) fun _ _ _ _ _ _ us hl => match us, hl with | [_], _ => rfl
  have F8 := fun_mk (st := s_law_torn_piece) l8 c8 k8
  have b8 := F8.binds (ps := ["block"]) fun _ _ _ _ _ _ us hl => match us, hl with | [_], _ => rfl
  have F9 := fun_mk (st := s_law) l9 c9 k9
  have b9 := F9.binds (ps := ["script"]) fun _ _ _ _ _ _ us hl => match us, hl with | [_], _ => rfl
  have A : All K mg := ⟨⟨_, _, F0, PySem.W.mg_of X G a0, b0⟩, ⟨_, _, F1, PySem.W.mg_of X G a1, b1⟩, ⟨_, _, F2, PySem.W.mg_of X G a2, b2⟩, ⟨_, _, F3, PySem.W.mg_of X G a3, b3⟩, ⟨_, _, F4, PySem.W.mg_of X G a4, b4⟩, ⟨_, _, F5, PySem.W.mg_of X G a5, b5⟩, ⟨_, _, F6, PySem.W.mg_of X G a6, b6⟩, ⟨_, _, F7, PySem.W.mg_of X G a7, b7⟩, ⟨_, _, F8, PySem.W.mg_of X G a8, b8⟩, ⟨_, _, F9, PySem.W.mg_of X G a9, b9⟩, PySem.W.mg_none_of X G z_len, PySem.W.mg_none_of X G z_int, PySem.W.mg_none_of X G z_range, PySem.W.mg_none_of X G z_list, PySem.W.mg_none_of X G z_ord, PySem.W.mg_none_of X G z_any, ⟨_, PySem.W.mg_of X G q0, ⟨_, rfl⟩⟩, ⟨_, PySem.W.mg_of X G q1, ⟨_, rfl⟩⟩, ⟨_, PySem.W.mg_of X G q2, ⟨_, rfl⟩⟩, ⟨_, PySem.W.mg_of X G q3, ⟨_, rfl⟩⟩⟩
  exact ⟨_, fun s v => .of_eq rfl, fun base _ _ => ok_law A F9⟩
end K44
open PySem PySem.W PyProof.Rows
set_option maxRecDepth 100000 in
set_option maxHeartbeats 0 in
theorem PySem.Challenge.cw_keptbywitness_k44_any_block_is_read_so_holds : PySem.Challenge.rw_keptbywitness_k44_any_block_is_read_so.Holds := by
  w_on; o_law; k_head; (case hw => w_witness2)
  k_fill
  refine Gd.walkG (l := PySem.Challenge.rw_keptbywitness_k44_any_block_is_read_so) (n := 63) (k := 4) (x := "script") (sp := fun w => K44.spLaw _) rfl (by decide) rfl ⟨rfl, by decide, by decide⟩ (fun w h Y => PySem.W.kIn_of Y) ?F (fun w H a ns hl _ hS => ⟨a, ns, rfl, hS, hl, fun _ => rfl⟩)
  case F =>
    intro w mg fa h KX G hmg
    refine' K44.all_mk KX G hmg ?a0 ?l0 ?c0 ?k0 ?a1 ?l1 ?c1 ?k1 ?a2 ?l2 ?c2 ?k2 ?a3 ?l3 ?c3 ?k3 ?a4 ?l4 ?c4 ?k4 ?a5 ?l5 ?c5 ?k5 ?a6 ?l6 ?c6 ?k6 ?a7 ?l7 ?c7 ?k7 ?a8 ?l8 ?c8 ?k8 ?a9 ?l9 ?c9 ?k9 ?z_len ?z_int ?z_range ?z_list ?z_ord ?z_any ?q0 ?q1 ?q2 ?q3
    (case a0 => k_is)
    (case l0 => k_is)
    (case c0 => k_is)
    (case k0 => k_is)
    (case a1 => k_is)
    (case l1 => k_is)
    (case c1 => k_is)
    (case k1 => k_is)
    (case a2 => k_is)
    (case l2 => k_is)
    (case c2 => k_is)
    (case k2 => k_is)
    (case a3 => k_is)
    (case l3 => k_is)
    (case c3 => k_is)
    (case k3 => k_is)
    (case a4 => k_is)
    (case l4 => k_is)
    (case c4 => k_is)
    (case k4 => k_is)
    (case a5 => k_is)
    (case l5 => k_is)
    (case c5 => k_is)
    (case k5 => k_is)
    (case a6 => k_is)
    (case l6 => k_is)
    (case c6 => k_is)
    (case k6 => k_is)
    (case a7 => k_is)
    (case l7 => k_is)
    (case c7 => k_is)
    (case k7 => k_is)
    (case a8 => k_is)
    (case l8 => k_is)
    (case c8 => k_is)
    (case k8 => k_is)
    (case a9 => k_is)
    (case l9 => k_is)
    (case c9 => k_is)
    (case k9 => k_is)
    (case z_len => k_is)
    (case z_int => k_is)
    (case z_range => k_is)
    (case z_list => k_is)
    (case z_ord => k_is)
    (case z_any => k_is)
    (case q0 => k_is)
    (case q1 => k_is)
    (case q2 => k_is)
    (case q3 => k_is)
