import PyProof.Rows.All
import Wide.All
import OpenK.AllK
import Wide.FinOn
import PyProof.ReprRoads
import HandS.ForMost
import HandS.SortRule
import HandS.SortInts
import HandS.ListItems
import HandS.Deep
import HandS.Walk
import HandS.TupLen
import HandS.Evl
import HandS.More
import HandS.DictComp
import HandS.TupSets
import HandS.Style
import HandS.TupAny
import PySem.Challenge.RW_keptbywitness_k02_shortest_paths
set_option Elab.async false
set_option linter.all false
set_option maxRecDepth 100000
/-! G: a def's promise for calls under which no repr is under way; repr of data; the end of a row by such a promise. -/
namespace Gd
open PySem PySem.Spec PyProof.Rows L2

/-- like FnOk, for the arounds in which no guarded builtin runs -/
structure FnG (P : Program) (w : World) (K : PySem.W.Frag) (mg : Str → Option Value) (base : Heap) (k : Nat)
    (f : Addr) (fd : FuncData) (ps : List Str) (sp : Sp) : Prop where
  len : ∀ vs H Q E, sp vs H Q E → vs.length = ps.length
  run : ∀ (A : Around) (out : List Env) (s : Shared) (H : Hp) (ar : Args) (us : List Value) (vs : List V) (Q : VK) (E : XK),
    A.guards = some [] → Room k A → Env0 P w K mg base A out s H → BindsTo s fd ar (ps.zip us) → Vals vs us → sp vs H Q E →
    codeAny (model P w) A (.call (.ref f) ar) (CR CX0 out P w H s Q E) s

theorem FnG.of {P : Program} {w : World} {K : PySem.W.Frag} {mg : Str → Option Value} {base : Heap} {k : Nat}
    {f : Addr} {fd : FuncData} {ps : List Str} {sp : Sp} (F : FnOk P w K mg base CX0 k f fd ps sp) : FnG P w K mg base k f fd ps sp :=
  ⟨F.len, fun A out s H ar us vs Q E _ r e b v h => F.run A out s H ar us vs Q E r e b v h⟩

section
variable {X : Cx} {k : Nat} {f : Addr} {fd : FuncData} {ps : List Str} {sp : Sp} {dvs : List V} {ds : List Value} {E : XK} {x : Str}
  {p pos : Pos} {e : Expr} {es : List Expr} {t : TA}

theorem runG {pins : List (Addr × Obj)} {σ : L2.St} {H : Hp} {s : Shared} {Q : VK} {us : List Value} {vs : List V}
    (F : FnG X.prog X.w X.K X.mg X.base k f fd ps sp) (hgd : X.A.guards = some []) (hr : Room k X.A) (hb : Binds X.K fd ps ds) (hd : Vals dvs ds)
    (I : Inv X pins σ H s) (r : Vals vs us) (h : sp (vs ++ dvs) H Q E) :
    wpAny (model X.prog X.w) X.A (call (.ref f) us) (EP X pins σ Q) X.xe s := by
  have rr : Vals (vs ++ dvs) (us ++ ds) := r.append hd
  have ln : (us ++ ds).length = ps.length := rr.length.symm.trans (F.len _ _ _ _ h)
  have c := F.run X.A X.stack s H ⟨us, []⟩ (us ++ ds) (vs ++ dvs) Q E hgd hr I.env0 (hb s us I.kIn ln) rr h
  refine wpAny_call (codeAny_mono c ?_)
  intro res s' hq
  match res, hq with
  | .error _, hq => exact False.elim hq
  | .ok (.ret u), hq => exact I.after hq
  | .ok .next, hq => exact False.elim hq
  | .ok .brk, hq => exact False.elim hq
  | .ok .cont, hq => exact False.elim hq

theorem pe_callG (F : FnG X.prog X.w X.K X.mg X.base k f fd ps sp) (hgd : X.A.guards = some []) (hr : Room k X.A) (hg : Gl X x)
    (hm : X.mg x = some (.ref f)) (hk : PySem.W.keepIn X.K (.ref f) = true) (hb : Binds X.K fd ps ds) (hd : Vals dvs ds)
    (ha : PA X (e :: es) t) (hdb : (x == ("__debug__" : Str)) = false := by decide)
    (hse : starEach (e :: es) X.env = (false, eval e X.env) :: starEach es X.env := by rfl)
    (hpl : (backTo pos (starEach es X.env)).any (·.1) = false := by rfl) :
    PE X (.Call (.Name x p) (e :: es) [] pos) (tCall sp dvs (fun _ _ _ => False) t) := by
  constructor
  intro pins s σ H Q I h
  refine wpAny_Call_Name_kw (ld_glob I hg hm (PySem.W.callWith_K (h₀ := X.base) I.ok.mod.kin hk ?_ hse hpl) hdb)
  exact thn (ha.run pos pins s σ H _ I h) fun us s1 ⟨vs, H1, J, r, q⟩ => ⟨J.kIn, runG F hgd hr hb hd J r q⟩
end

theorem fn_G {P : Program} {w : World} {K : PySem.W.Frag} {mg : Str → Option Value} {base : Heap} {k : Nat} {f : Addr} {nm qual : Str} {st : Stmt} {fd : FuncData}
    {N ps : List Str} {sp : Sp} (F : Fun K nm qual st f fd) (S : FnScope N ps (defScope st)) (len : ∀ vs H Q E, sp vs H Q E → vs.length = ps.length)
    (body : ∀ (cdv : Value) (A : Around) (out : List Env) (s : Shared) (H : Hp) (vs : List V) (Q : VK) (E : XK), A.guards = some [] →
      Room k (A.deeper (envOfC qual (defScope st) s.heap.objs.size f cdv)) → sp vs H Q E →
      ∃ t, PSs (cxOf CX0 P w K mg base N qual (defScope st) f cdv A out s H E).nox (defBody st) t ∧ t { nx := fun _ H' => Q .non H', rt := Q } (start N vs) H) :
    FnG P w K mg base (k + 1) f fd ps sp := by
  obtain ⟨oc, od, kV, doc, pm, an, cdv, ct, osl, rfl, lk, hcd⟩ := F.ex
  refine ⟨len, ?_⟩
  intro A out s H ar us vs Q E hgd hr e0 hb r hsp
  have kin : K.In s.heap := e0.mod.kin.keeps fun b o z => (e0.bs b o z).1
  have lim : s.heap.NoLimit := e0.mod.nolimit.keeps fun b o z => (e0.bs b o z).1
  have kinds : ∀ y ∈ ps.zip us, (defScope st).names.lookup y.1 = some .local ∨
      ((defScope st).names.lookup y.1 = some .cell ∧ ((cellsFrom (s.heap.objs.size + 1) (defScope st).names []).lookup y.1).isSome = true) := by
    rintro ⟨n, v⟩ hy
    exact (S.par n (List.of_mem_zip hy).1).imp id fun q => ⟨q, PySem.W.cellsFrom_some _ _ _ (.inl q)⟩
  refine codeAny_call_function hr.depth (kin _ _ lk) rfl S.co S.gen rfl (PySem.W.codeRec_of kin hcd) (hb _ _ _ _ ?_)
  refine wpAny_newFunctionEnv_cells S.kind kinds ?_
  intro env he s1 x
  subst he
  refine ⟨lim.keeps x.toInCall.keep, codeAny_func ?_⟩
  obtain ⟨t, ht, hq⟩ := body cdv A out s H vs Q E hgd (hr.deeper _) hsp
  have I := inv_start (CX := CX0) (qual := qual) (f := f) (cd := cdv) (E := E) (w := w) S hr.hd e0 (len _ _ _ _ hsp) r x
  refine wpAny_mono (ht.nox.run [] s1 (start N vs) H _ I hq) ?_ fun _ _ z => z
  intro fl s' hs
  have fin : ∀ {σ' : L2.St} {H' : Hp} {v : V} {u : Value}, Inv (cxOf CX0 P w K mg base N qual (defScope st) f cdv A out s H E) [] σ' H' s' →
      RelV v u → Q v H' → CE out P w H s Q u s' := fun J rv q => ⟨_, _, J.os, J.bare, J.base, J.hok, rv, q⟩
  match fl, hs with
  | .ret u, ⟨v, σ', H', J, rv, q⟩ => exact fin J rv q
  | .next, ⟨σ', H', J, q⟩ => exact fin (v := V.non) (u := Value.none) J rfl q
  | .brk, ⟨_, _, _, q⟩ => exact False.elim q
  | .cont, ⟨_, _, _, q⟩ => exact False.elim q

/-! ### repr of data -/
def rRepr (K : PySem.W.Frag) : List V → Hp → VK → Prop := fun xs H Q => ∃ (a : Addr) (d : PyData), xs = [.ref a] ∧ Dp K H (.ref a) d ∧
  d.showable = true ∧ d.hasDict = false ∧ d.depth ≤ 60 ∧ d.shown.length ≤ sizeLine ∧ Q (.str d.shown) H
theorem call_reprG {X : Cx} (hgd : X.A.guards = some []) (hu : X.A.units + 64 < cLine) : CallR X (.builtin "repr") (rRepr X.K) := by
  intro pins s σ H xs us Q I r h
  obtain ⟨a, d, rfl, hD, hs, hn, hdp, hz, q⟩ := h
  obtain ⟨u, rfl, rx⟩ := vals1 r
  obtain rfl : u = Value.ref a := rx
  obtain ⟨as, rd⟩ := Dp.reads I d (.ref a) (.ref a) hD rfl
  refine repr_of_reads' rd hs (fun z => ?_) hgd (by omega) (fun _ _ z => z) (fun h' v tk keep => ?_) hz
  · rw [hn] at z
    cases z
  · exact ⟨.str d.shown, H, I.kept keep, ⟨_, rfl⟩, q⟩

/-! ### l.extend(t), t a tuple -/
def rExtT (K : PySem.W.Frag) : V → List V → Hp → VK → Prop := fun x vs H Q => ∃ (l b : Addr) (xs zs : List V), x = .ref l ∧ vs = [.ref b] ∧
  H l = some (.lst xs) ∧ SqT K H b zs ∧ xs.length + zs.length ≤ sizeLine ∧ Q .non (upd H l (.lst (xs ++ zs)))
theorem ext_meets (l : Addr) (its : Array Value) (n : Nat) (b : Addr) (more : Array Value) (m : Nat) (dd : Option Addr) (sl : Array (Option Value))
    (h0 : ¬(!its.isEmpty && Builtin.List.listTooLong (its.size + more.size)) = true) (h1 : its.size ≤ sizeLine) (h2 : its.size + more.size ≤ sizeLine + 1) :
    Meets (Builtin.«list.extend» ⟨[.ref l, .ref b], []⟩) (fun _ R s =>
      s.heap.get? l = some { cls := .type "list", dict := none, data := .seq its n, slots := #[] } ∧
      s.heap.get? b = some { cls := .type "tuple", dict := dd, data := .seq more m, slots := sl } ∧
      R (.ok (.ret Value.none)) { s with heap := s.heap.update l (Obj.mapSeq fun x => x ++ more), toks := s.toks }) := by
  refine .of_wp fun prog w A R s h => ?_
  obtain ⟨hp, g, d, tk, os⟩ := s
  obtain ⟨hl, hb, h⟩ := h
  have f1 := AutoSeq1.idx_int
  have f2 := AutoSeq1.sub_tuple_tuple
  have f3 := AutoSeq1.sub_list_list
  have f4 := AutoSeq1.sub_tuple_list
  have f5 := AutoSeq1.sub_list_tuple
  have hz : (its ++ more).size ≤ sizeLine + 1 := by
    rw [Array.size_append]
    exact h2
  wp_walk using (wpAny_updateSeq hl rfl (hz := h1) (_hz' := hz)), AutoSeq1.wpAny_loadPart' hl, AutoSeq1.wpAny_loadPart' hb
  exact ⟨_, rfl, h⟩
theorem mt_extT {X : Cx} : MtM X "list.extend" (rExtT X.K) := by
  intro pins s σ H x vs v us Q I rx rv h
  obtain ⟨l, b, xs, zs, rfl, rfl, hH, hB, hz, q⟩ := h
  cases rx
  obtain ⟨u, rfl, ru⟩ := rv.one
  cases ru
  obtain ⟨z, its, n, r, hl, e⟩ := I.lstM hH
  obtain ⟨its2, r2, ⟨o, e2, hc, m, hd⟩, z2⟩ := I.tuple hB
  have l2 := r2.length
  obtain ⟨cls, dd, dat, sl⟩ := o
  cases hc
  cases hd
  have sz : its.toArray.size + its2.toArray.size ≤ sizeLine := by
    rw [List.size_toArray, List.size_toArray]
    omega
  refine call_meets F.slot_list_extend ⟨_, e, rfl⟩ F.entry_list_extend (F.args_list_extend_2 _ _)
    (ext_meets l its.toArray n b its2.toArray m dd sl (by rw [notLongL sz, Bool.and_false]; exact Bool.false_ne_true) (by omega) (by omega)) ⟨e, e2, ?_⟩
  refine ⟨.non, _, I.lset (its' := its ++ its2) hH e (by simp) (r.append r2) ?_, rfl, q⟩
  rw [List.length_append]
  omega

/-! ### the end of a row -/
section
variable {P : Program} {w : World} {K : PySem.W.Frag} {mg mb : Str → Option Value} {k : Nat} {fa a : Addr} {fd : FuncData} {x : Str} {sp : Sp} {s1 : Shared}
  {vs : List Value} {ns : List Int} {H : Hp}

theorem coreG (KX : K.In s1.heap) (hns : s1.heap.Ns mainGlobals mg) (hb : s1.heap.Ns builtinsNs mb) (hbb : ∀ x : Str, x ≠ "__name__" → mb x = bootBuiltins x)
    (hlim : s1.heap.NoLimit) (hg : s1.gens = #[]) (ha : s1.heap.get? a = some { cls := .type "list", data := .seq vs.toArray }) (hr : Room k callerA)
    (F : ∀ base : Heap, K.In base → base.Ns mainGlobals mg → FnG P w K mg base k fa fd [x] sp)
    (hbind : ∀ (s : Shared) (u : Value), BindsTo s fd ⟨[u], []⟩ [(x, u)])
    (hO : Only H) (hok : HOk P w H s1.heap) (one : ∀ b, H b ≠ none → b = a) (apart : H a ≠ none → K.lookup a = none)
    (hsp : sp [.ref a] H (fun v _ => v = .bl true) fun _ _ _ => False) :
    codeAny (model P w) callerA (.call (.ref fa) ⟨[.ref a], []⟩)
      (fun r s' => r = .ok (.ret (.bool true)) ∧ OldK s1.heap s'.heap ∧ s'.os = s1.os ∧ AllBare s'.gens) s1 := by
  have un : ∀ {b : Addr} {o : Obj}, s1.heap.get? b = some o → (b = a → False) → H b = none := fun {b o} _ h => by
    cases q : H b with
    | none => rfl
    | some u => exact (h (one b (by rw [q]; exact fun z => nomatch z))).elim
  have nd : ∀ {b : Addr} {o : Obj} {es : Array DictEntry} {ep : Nat}, s1.heap.get? b = some o → o.data = .dict es ep → H b = none := fun {b o es ep} e d =>
    un e fun z => by
      subst z
      rw [ha] at e
      cases e
      exact nomatch (d : Data.seq vs.toArray _ = Data.dict es ep)
  have ns' : ∀ {b : Addr} {m : Str → Option Value}, s1.heap.Ns b m → (hidT s1.heap H).Ns b m := fun {b m} h => by
    obtain ⟨o, es, ep, e, d, r⟩ := h
    exact ⟨o, es, ep, hidT_get e (nd e d), d, r⟩
  have kin : K.In (hidT s1.heap H) := fun b o e => by
    refine hidT_get (KX b o e) ?_
    cases q : H b with
    | none => rfl
    | some u =>
      have eb : b = a := one b (by rw [q]; exact fun z => nomatch z)
      subst eb
      have z := apart (by rw [q]; exact fun z => nomatch z)
      rw [z] at e
      cases e
  obtain ⟨mc, l1, l2⟩ := hlim
  have hM : Mod K mg (hidT s1.heap H) := ⟨kin, ns' hns, ⟨mb, ns' hb, hbb⟩, ⟨mc, ns' l1, l2⟩⟩
  have e0 : Env0 P w K mg (hidT s1.heap H) callerA [] s1 H :=
    { frames := rfl, mod := hM, bs := fun b o z => of_hidT z, bsz := Nat.le_of_eq (hidT_size _ _), funs := trivial, frf := fun b z => (List.not_mem_nil (show b ∈ ([] : List Addr) from z)).elim, hok := hok, bare := .of_eq hg }
  have run := (F _ kin (ns' hns)).run callerA [] s1 H ⟨[.ref a], []⟩ [.ref a] [.ref a] _ _ rfl hr e0 (hbind s1 (.ref a)) (.cons rfl .nil) hsp
  refine codeAny_mono run fun r s' h => ?_
  match r, h with
  | .error _, h => exact False.elim h
  | .ok .next, h => exact False.elim h
  | .ok .brk, h => exact False.elim h
  | .ok .cont, h => exact False.elim h
  | .ok (.ret u), ⟨v, H', os, bare, u2, hok', r', q⟩ =>
    obtain rfl : v = .bl true := q
    obtain rfl : u = Value.bool true := r'
    refine ⟨rfl, OldK.of_keep fun b o e => ?_, os, bare⟩
    cases q : H b with
    | none => exact u2.keep b o e q (fun z => nomatch z) (fun z => nomatch z)
    | some y =>
      rcases hO b with z | ⟨ob, xs, z⟩
      · rw [q] at z
        cases z
      · obtain ⟨e1, _⟩ := hok b _ z
        obtain ⟨e2, _⟩ := hok' b _ (u2.frzs b ob _ z)
        rw [e] at e1
        cases e1
        exact e2

theorem lawG (KX : K.In s1.heap) (hns : s1.heap.Ns mainGlobals mg) (hb : s1.heap.Ns builtinsNs mb) (hbb : ∀ x : Str, x ≠ "__name__" → mb x = bootBuiltins x)
    (hlim : s1.heap.NoLimit) (hg : s1.gens = #[]) (ha : s1.heap.get? a = some { cls := .type "list", data := .seq vs.toArray }) (hi : IntsAre vs ns)
    (hl : ns.length ≤ sizeLine) (hr : Room k callerA)
    (F : ∀ base : Heap, K.In base → base.Ns mainGlobals mg → FnG P w K mg base k fa fd [x] sp)
    (hbind : ∀ (s : Shared) (u : Value), BindsTo s fd ⟨[u], []⟩ [(x, u)])
    (hsp : ∀ H : Hp, Only H → SqL K H a (ns.map V.int) → sp [.ref a] H (fun v _ => v = .bl true) fun _ _ _ => False) :
    codeAny (model P w) callerA (.call (.ref fa) ⟨[.ref a], []⟩)
      (fun r s' => r = .ok (.ret (.bool true)) ∧ OldK s1.heap s'.heap ∧ s'.os = s1.os ∧ AllBare s'.gens) s1 := by
  have rv := vals_ints hi
  have lv := hi.length
  cases hk : K.lookup a with
  | some o =>
    have e := KX a o hk
    rw [ha] at e
    cases e
    have S : SqL K (fun _ => none) a (ns.map V.int) := .inr ⟨_, vs.toArray, _, hk, rfl, rfl, rfl, by rw [List.size_toArray, lv]; exact hl, rv⟩
    have O : Only (fun _ => none) := fun _ => .inl rfl
    exact coreG (H := fun _ => none) KX hns hb hbb hlim hg ha hr F hbind O (fun b u z => nomatch (z : (none : Option HO) = some u)) (fun b z => absurd rfl z) (fun z => absurd rfl z) (hsp _ O S)
  | none =>
    let o : Obj := { cls := .type "list", data := .seq vs.toArray }
    let G : Hp := fun b => if b = a then some (.frz o (.lst (ns.map V.int))) else none
    have Ga : G a = some (.frz o (.lst (ns.map V.int))) := if_pos rfl
    have Gn : ∀ b, b ≠ a → G b = none := fun b h => if_neg h
    have O : Only G := fun b => by
      by_cases q : b = a
      · subst q
        exact .inr ⟨_, _, Ga⟩
      · exact .inl (Gn b q)
    have ok : HOk P w G s1.heap := fun b u z => by
      by_cases q : b = a
      · subst q
        rw [Ga] at z
        cases z
        exact ⟨ha, by rw [List.length_map]; exact hl, vs, _, rv, ha⟩
      · rw [Gn b q] at z
        cases z
    refine coreG (H := G) KX hns hb hbb hlim hg ha hr F hbind O ok (fun b z => ?_) (fun _ => hk) (hsp G O (.inl (.inr ⟨o, Ga⟩)))
    by_cases q : b = a
    · exact q
    · exact absurd (Gn b q) z
end

theorem walkG {l : PySem.W.OpenLaw} {n k : Nat} {q : Program} {loose : List Str} {XP : (Str → Option Value) → Heap → Prop} {YP : World → Heap → Prop} {d : DefRec}
    {K : Params → PySem.W.Frag} {sp : World → Sp} {x : Str} (hn : l.most = some n) (hn2 : n ≤ sizeLine) (hdf : d.params.defaults = []) (hr : Room k callerA)
    (hY : ∀ (w : World) (h : Heap), YP w h → (K w.params).In h)
    (F : ∀ (w : World) (mg : Str → Option Value) (fa : Addr) (h : Heap), (K w.params).In h → h.Ns mainGlobals mg → mg d.name = some (.ref fa) →
      ∃ fd : FuncData, (∀ (s : Shared) (u : Value), BindsTo s fd ⟨[u], []⟩ [(x, u)]) ∧
        ∀ base : Heap, (K w.params).In base → base.Ns mainGlobals mg → FnG l.prog w (K w.params) mg base k fa fd [x] (sp w))
    (hsp : ∀ (w : World) (H : Hp) (a : Addr) (ns : List Int), ns.length ≤ n → Only H → SqL (K w.params) H a (ns.map V.int) →
      sp w [.ref a] H (fun v _ => v = .bl true) fun _ _ _ => False) :
    PySem.W.WalkO q loose XP YP l.row.toRowW d [] (fun f vs => PySem.call f vs) := by
  refine Att.attach_call hn hdf ?_
  intro w s0 s1 mg mb fa o pm cd doc a vs ns G Y ho hd hcd hmg hobj hints hlen hg
  have KX := hY w _ Y
  obtain ⟨fd, hb, hF⟩ := F w mg fa _ KX G.T.g hmg
  exact lawG KX G.T.g G.T.b G.T.builtins G.T.nolimit hg hobj hints (Nat.le_trans hlen hn2) hr hF hb fun H hO hS => hsp w H a ns hlen hO hS
end Gd
set_option Elab.async false
set_option linter.all false
set_option maxRecDepth 100000
/-! G2: small data: what repr and == ask of it. -/
namespace Gd
open PySem PySem.Spec PyProof.Rows L2
structure Sh (dp wt : Nat) (d : PyData) : Prop where
  s : d.showable = true
  n : d.hasDict = false
  dl : d.depth ≤ dp
  l : d.leavesShort 13 = true
  c : d.canLay0 = true
  w : d.weight ≤ wt
theorem Sh.none : Sh 0 64 .none := ⟨rfl, rfl, by simp [PyData.depth], rfl, rfl, by simp [PyData.weight]⟩
theorem Sh.bool (b : Bool) : Sh 0 64 (.bool b) := ⟨rfl, rfl, by simp [PyData.depth], rfl, rfl, by simp [PyData.weight]⟩
theorem log_lt {n k : Nat} (h : n < 2 ^ k) (hk : 0 < k) : n.log2 < k := PySem.Flt.log2_lt_of hk h
theorem Sh.int {i : Int} (h : i.natAbs < 10 ^ 12) : Sh 0 64 (.int i) := by
  have h63 : i.natAbs < 2 ^ 63 := by omega
  have lg := log_lt h63 (by decide)
  refine ⟨?_, rfl, by simp [PyData.depth], ?_, ?_, ?_⟩
  · simp only [PyData.showable]
    exact decide_eq_true (by omega)
  · simp only [PyData.leavesShort]
    exact decide_eq_true (PyData.shown_int_le h)
  · rfl
  · simp only [PyData.weight]
    split <;> omega
theorem Sh.str {x : Str} (h : ∀ c ∈ x.cps.toList, c < 0x110000) (hz : x.cps.size ≤ 64) : Sh 0 64 (.str x) := by
  have hc : PyData.canLay0 (.str x) = true := by
    simp only [PyData.canLay0, PyData.strOk]
    refine Array.all_eq_true_iff_forall_mem.mpr fun c hm => decide_eq_true (h c (Array.mem_toList_iff.mpr hm))
  refine ⟨rfl, rfl, by simp [PyData.depth], PyData.leavesShort_of_canLay0 13 _ hc rfl, hc, ?_⟩
  simp only [PyData.weight]
  exact hz
theorem Sh.mono {a b a' b' : Nat} {d : PyData} (h : Sh a b d) (h1 : a ≤ a') (h2 : b ≤ b') : Sh a' b' d := ⟨h.s, h.n, Nat.le_trans h.dl h1, h.l, h.c, Nat.le_trans h.w h2⟩
theorem Sh.all {dp wt : Nat} : ∀ {ds : List PyData}, (∀ d ∈ ds, Sh dp wt d) → PyData.showableAll ds = true ∧ PyData.hasDictAll ds = false ∧ PyData.depthAll ds ≤ dp ∧ PyData.leavesShortAll 13 ds = true ∧ PyData.canLayAll0 ds = true ∧ PyData.weightAll ds ≤ (wt + 1) * ds.length
  | [], _ => ⟨rfl, rfl, by simp [PyData.depthAll], rfl, rfl, by simp [PyData.weightAll]⟩
  | d :: ds, h => by
    obtain ⟨a1, a2, a3, a4, a5, a6⟩ := Sh.all (ds := ds) fun e he => h e (List.mem_cons_of_mem _ he)
    have x := h d List.mem_cons_self
    refine ⟨?_, ?_, ?_, ?_, ?_, ?_⟩
    · simp only [PyData.showableAll, a1, x.s, Bool.and_self]
    · simp only [PyData.hasDictAll, a2, x.n, Bool.or_self]
    · have := x.dl
      simp only [PyData.depthAll]
      omega
    · simp only [PyData.leavesShortAll, a4, x.l, Bool.and_self]
    · simp only [PyData.canLayAll0, a5, x.c, Bool.and_self]
    · have := x.w
      simp only [PyData.weightAll, List.length_cons, Nat.mul_succ]
      omega
theorem Sh.list {dp wt : Nat} {ds : List PyData} (h : ∀ d ∈ ds, Sh dp wt d) : Sh (dp + 1) ((wt + 1) * ds.length) (.list ds) := by
  obtain ⟨a1, a2, a3, a4, a5, a6⟩ := Sh.all h
  refine ⟨?_, ?_, ?_, ?_, ?_, ?_⟩
  · simp only [PyData.showable]; exact a1
  · simp only [PyData.hasDict]; exact a2
  · simp only [PyData.depth]; omega
  · simp only [PyData.leavesShort]; exact a4
  · simp only [PyData.canLay0]; exact a5
  · simp only [PyData.weight]; exact a6
theorem Sh.tup {dp wt : Nat} {ds : List PyData} (h : ∀ d ∈ ds, Sh dp wt d) : Sh (dp + 1) ((wt + 1) * ds.length) (.tuple ds) := by
  obtain ⟨a1, a2, a3, a4, a5, a6⟩ := Sh.all h
  refine ⟨?_, ?_, ?_, ?_, ?_, ?_⟩
  · simp only [PyData.showable]; exact a1
  · simp only [PyData.hasDict]; exact a2
  · simp only [PyData.depth]; omega
  · simp only [PyData.leavesShort]; exact a4
  · simp only [PyData.canLay0]; exact a5
  · simp only [PyData.weight]; exact a6
theorem Sh.fits {dp wt : Nat} {d : PyData} (h : Sh dp wt d) (h1 : dp ≤ 60 := by omega) (h2 : wt ≤ 1000000 := by omega) : d.showable = true ∧ d.hasDict = false ∧ d.depth ≤ 60 ∧ d.shown.length ≤ sizeLine :=
  ⟨h.s, h.n, Nat.le_trans h.dl h1, PyData.shown_fits (B := 13) (by decide) (by decide) h.l (Nat.le_trans (Nat.le_trans h.w h2) (by decide))⟩
theorem Sh.shaped {dp wt : Nat} {d : PyData} (h : Sh dp wt d) (h1 : dp ≤ 60 := by omega) : SeqAt.shaped d = true := by
  have := h.dl
  unfold SeqAt.shaped
  rw [h.c, decide_eq_true (by omega)]
  rfl
/-- a list of ints as data -/
theorem dp_ints {K : PySem.W.Frag} {H : Hp} : ∀ ns : List Int, DpAll K H (ns.map V.int) (ns.map PyData.int)
  | [] => .nil
  | n :: ns => .cons (.int n) (dp_ints ns)
theorem sh_ints {ns : List Int} (h : ∀ n ∈ ns, n.natAbs < 10 ^ 12) : Sh 1 (65 * ns.length) (.list (ns.map PyData.int)) := by
  have := Sh.list (dp := 0) (wt := 64) (ds := ns.map PyData.int) fun d hd => by
    obtain ⟨n, hn, rfl⟩ := List.mem_map.mp hd
    exact Sh.int (h n hn)
  rw [List.length_map] at this
  exact this
end Gd
set_option Elab.async false
set_option linter.all false
set_option maxRecDepth 100000
set_option maxHeartbeats 4000000
/-! Com: what several laws share: heaps that grow, the box of draws, references. -/
namespace Com
open PySem PySem.Spec PyProof.Rows L2 Gd
variable {K : PySem.W.Frag}
inductive Rf where
  | ob (i : Int)
  | im (o e : Int)
  deriving DecidableEq
theorem lt_size {n : Nat} (h : n ≤ 1000000) : n < sizeLine := Nat.lt_of_le_of_lt h (by decide)
theorem same_new {H H' : Hp} {p : Addr} {o : HO} (s : Same H H') (h : H' p = none) : Same H (upd H' p o) := fun b x e => by
  rw [upd_ne (ne_of_none (s b x e) h)]
  exact s b x e
theorem same_mut {H H' : Hp} {p : Addr} {o : HO} (s : Same H H') (h : H p = none) : Same H (upd H' p o) := fun b x e => by
  rw [upd_ne (ne_of_none e h)]
  exact s b x e
def Bx (H : Hp) (b dg : Addr) (ds : List Int) : Prop := ∃ n : Nat, H b = some (.lst [.ref dg, .int (n : Int)]) ∧ H dg = some (.lst (ds.map V.int))
/-- all stays but b -/
def Fx (b : Addr) (H H' : Hp) : Prop := ∀ c o, c ≠ b → H c = some o → H' c = some o
theorem Fx.refl (b : Addr) (H : Hp) : Fx b H H := fun _ _ _ h => h
theorem Fx.trans {b : Addr} {H H1 H2 : Hp} (a : Fx b H H1) (c : Fx b H1 H2) : Fx b H H2 := fun x o n h => c x o n (a x o n h)
theorem Fx.new {b p : Addr} {H H1 : Hp} {o : HO} (a : Fx b H H1) (h : H1 p = none) : Fx b H (upd H1 p o) := fun x u n e => by
  have := a x u n e
  rw [upd_ne (ne_of_none this h)]
  exact this
theorem Fx.mut {b p : Addr} {H H1 : Hp} {o : HO} (a : Fx b H H1) (h : H p = none) : Fx b H (upd H1 p o) := fun x u n e => by
  rw [upd_ne (ne_of_none e h)]
  exact a x u n e
theorem Bx.new {H : Hp} {b dg p : Addr} {ds : List Int} {o : HO} (B : Bx H b dg ds) (h : H p = none) : Bx (upd H p o) b dg ds := by
  obtain ⟨n, h1, h2⟩ := B
  exact ⟨n, by rw [upd_ne (ne_of_none h1 h)]; exact h1, by rw [upd_ne (ne_of_none h2 h)]; exact h2⟩
theorem Bx.upd {H : Hp} {b dg p : Addr} {ds : List Int} {o : HO} (B : Bx H b dg ds) (h1 : p ≠ b) (h2 : p ≠ dg) : Bx (upd H p o) b dg ds := by
  obtain ⟨n, e1, e2⟩ := B
  exact ⟨n, by rw [upd_ne h1.symm]; exact e1, by rw [upd_ne h2.symm]; exact e2⟩
theorem Bx.nb {H : Hp} {b dg p : Addr} {ds : List Int} (B : Bx H b dg ds) (h : H p = none) : p ≠ b ∧ p ≠ dg := by
  obtain ⟨n, e1, e2⟩ := B
  exact ⟨(ne_of_none e1 h).symm, (ne_of_none e2 h).symm⟩
theorem Fx.none {b p : Addr} {H H1 : Hp} (a : Fx b H H1) {dg : Addr} {ds : List Int} (B : Bx H b dg ds) (h : H1 p = Option.none) (B1 : Bx H1 b dg ds) : H p = Option.none := by
  cases e : H p with
  | none => rfl
  | some o =>
    have := a p o (B1.nb h).1 e
    rw [h] at this
    cases this
def RfV (H : Hp) : Option Rf → V → Prop
  | none, v => v = .non
  | some (.ob i), v => ∃ a, v = .ref a ∧ H a = some (.tup [.str "object", .int i])
  | some (.im o e), v => ∃ a, v = .ref a ∧ H a = some (.tup [.str "import", .int o, .int e])
abbrev RfAll (H : Hp) : List (Option Rf) → List V → Prop := Paired (RfV H)
/-- tuples stay -/
def TupS (H H' : Hp) : Prop := ∀ c xs, H c = some (.tup xs) → H' c = some (.tup xs)
theorem RfV.mono {H H' : Hp} (s : TupS H H') : ∀ {r : Option Rf} {v : V}, RfV H r v → RfV H' r v
  | none, _, h => h
  | some (.ob _), _, ⟨a, e, h⟩ => ⟨a, e, s _ _ h⟩
  | some (.im _ _), _, ⟨a, e, h⟩ => ⟨a, e, s _ _ h⟩
theorem RfAll.mono {H H' : Hp} (s : TupS H H') {rs : List (Option Rf)} {vs : List V} (h : RfAll H rs vs) : RfAll H' rs vs := Paired.mapP h fun _ _ x => x.mono s
theorem TupS.of_same {H H' : Hp} (s : Same H H') : TupS H H' := fun c xs e => s c _ e
theorem TupS.of_fx {H H' : Hp} {b dg : Addr} {ds : List Int} (f : Fx b H H') (B : Bx H b dg ds) : TupS H H' := fun c xs e => by
  obtain ⟨n, h1, _⟩ := B
  exact f c _ (ne_of e h1 (fun z => nomatch z)) e
theorem TupS.trans {H H1 H2 : Hp} (a : TupS H H1) (b : TupS H1 H2) : TupS H H2 := fun c xs e => b c xs (a c xs e)
theorem TupS.new {H H1 : Hp} {p : Addr} {o : HO} (a : TupS H H1) (h : H1 p = none) : TupS H (upd H1 p o) := fun c xs e => by
  have := a c xs e
  rw [upd_ne (ne_of_none this h)]
  exact this
theorem TupS.mut {H H1 : Hp} {p : Addr} {o u : HO} (a : TupS H H1) (h : H1 p = some u) (hu : ∀ xs, u ≠ .tup xs) : TupS H (upd H1 p o) := fun c xs e => by
  have := a c xs e
  rw [upd_ne (ne_of this h (fun z => hu xs z.symm))]
  exact this
theorem paired_app {α β : Type} {F : α → β → Prop} : ∀ {xs xs' : List α} {ys ys' : List β}, Paired F xs ys → Paired F xs' ys' → Paired F (xs ++ xs') (ys ++ ys')
  | _, _, _, _, .nil, h => h
  | _, _, _, _, .cons r t, h => .cons r (paired_app t h)
theorem paired_one {α β : Type} {F : α → β → Prop} {a : α} {b : β} (h : F a b) : Paired F [a] [b] := .cons h .nil
theorem valV_none {κ : Type} [DecidableEq κ] {kvs : List (κ × V)} {k : κ} (h : k ∉ kvs.map (·.1)) : valV kvs k = none := by
  unfold valV
  rw [Option.map_eq_none_iff, List.find?_eq_none]
  intro p hp z
  exact h (List.mem_map.mpr ⟨p, hp, of_decide_eq_true z⟩)
theorem nobimp : ¬ V.str "object" = V.str "import" := fun z => absurd (V.str.inj z) (by decide +kernel)
theorem nimpob : ¬ V.str "import" = V.str "object" := fun z => absurd (V.str.inj z) (by decide +kernel)
def rfD : Option Rf → PyData
  | none => .none
  | some (.ob i) => .tuple [.str "object", .int i]
  | some (.im o e) => .tuple [.str "import", .int o, .int e]
theorem rf_dp {H : Hp} : ∀ {r : Option Rf} {v : V}, RfV H r v → Dp K H v (rfD r)
  | none, v, h => by
    have e : v = .non := h
    subst e
    exact .non
  | some (.ob i), v, ⟨a, e, h⟩ => by
    subst e
    exact .tup (SqT.of h) (.cons (.str _) (.cons (.int _) .nil))
  | some (.im o e), v, ⟨a, e2, h⟩ => by
    subst e2
    exact .tup (SqT.of h) (.cons (.str _) (.cons (.int _) (.cons (.int _) .nil)))
theorem rf_dps {H : Hp} : ∀ {rs : List (Option Rf)} {vs : List V}, RfAll H rs vs → DpAll K H vs (rs.map rfD)
  | _, _, .nil => .nil
  | _, _, .cons h t => .cons (rf_dp h) (rf_dps t)
theorem rf_lay (r : Option Rf) : (rfD r).canLay0 = true := by
  rcases r with _ | ⟨i⟩ | ⟨o, e⟩ <;> simp [rfD, PyData.canLay0, PyData.canLayAll0] <;> decide +kernel
theorem rf_depth (r : Option Rf) : (rfD r).depth ≤ 1 := by
  rcases r with _ | ⟨i⟩ | ⟨o, e⟩ <;> simp [rfD, PyData.depth, PyData.depthAll]
theorem rfs_lay : ∀ rs : List (Option Rf), PyData.canLayAll0 (rs.map rfD) = true
  | [] => by simp [PyData.canLayAll0]
  | r :: rs => by simp [PyData.canLayAll0, rf_lay r, rfs_lay rs]
theorem rfs_depth : ∀ rs : List (Option Rf), PyData.depthAll (rs.map rfD) ≤ 1
  | [] => by simp [PyData.depthAll]
  | r :: rs => by
    have h1 := rfs_depth rs
    have h2 := rf_depth r
    simp only [List.map_cons, PyData.depthAll]
    omega
theorem rf_shaped (r : Option Rf) : SeqAt.shaped (rfD r) = true := by
  have h := rf_depth r
  unfold SeqAt.shaped
  rw [rf_lay r, decide_eq_true (by omega)]
  rfl
theorem rfs_shaped (rs : List (Option Rf)) : SeqAt.shaped (.list (rs.map rfD)) = true := by
  have h := rfs_depth rs
  have e : PyData.canLay0 (.list (rs.map rfD)) = true := by
    simp only [PyData.canLay0]
    exact rfs_lay rs
  have d : PyData.depth (.list (rs.map rfD)) ≤ 64 := by
    simp only [PyData.depth]
    omega
  unfold SeqAt.shaped
  rw [e, decide_eq_true d]
  rfl
theorem rf_eqv (r q : Option Rf) : PyData.eqv (rfD r) (rfD q) = decide (r = q) := by
  by_cases h : r = q
  · subst h
    rw [decide_eq_true rfl]
    exact SeqAt.eqv_refl _ (rf_lay r)
  · rw [decide_eq_false h]
    have s1 : (Str.ofString "object" == Str.ofString "import") = false := by decide +kernel
    have s2 : (Str.ofString "import" == Str.ofString "object") = false := by decide +kernel
    have s3 : ((Str.ofString "object").cps == (Str.ofString "import").cps) = false := by decide +kernel
    have s4 : ((Str.ofString "import").cps == (Str.ofString "object").cps) = false := by decide +kernel
    rcases r with _ | ⟨i⟩ | ⟨o, e⟩ <;> rcases q with _ | ⟨j⟩ | ⟨o', e'⟩ <;> simp [rfD, PyData.eqv, PyData.eqvAll] at h ⊢ <;> first | done | exact h | (intro z; exact h z) | (decide +kernel)
theorem rf_any (r : Rf) (G : List Rf) : ((G.map some).map rfD).any (fun z => PyData.eqv z (rfD (some r))) = decide (r ∈ G) := by
  induction G with
  | nil => simp
  | cons g G ih =>
    rw [List.map_cons, List.map_cons, List.any_cons, ih, rf_eqv]
    by_cases h : g = r
    · subst h; simp
    · simp [h, Ne.symm h]
theorem paired_back {α β : Type} {F : α → β → Prop} : ∀ {xs : List α} {ys : List β}, Paired F xs ys → ∀ {i : Nat} {y : β}, ys[i]? = some y → ∃ x, xs[i]? = some x ∧ F x y
  | _, _, .nil, _, _, h => by simp at h
  | _, _, .cons r t, 0, _, h => by simp at h; subst h; exact ⟨_, rfl, r⟩
  | _, _, .cons r t, i + 1, _, h => by
    obtain ⟨x, h1, h2⟩ := paired_back t (i := i) (by simpa using h)
    exact ⟨x, by simpa using h1, h2⟩
theorem take_fm {st : List (Option Rf)} {i : Nat} {r : Option Rf} (h : st[i]? = some r) : (st.take (i + 1)).filterMap id = (st.take i).filterMap id ++ r.toList := by
  rw [List.take_add_one, h, List.filterMap_append]
  cases r <;> rfl
theorem take_map {α β : Type} (f : α → Option β) {l : List α} {i : Nat} {x : α} (h : l[i]? = some x) : (l.take (i + 1)).filterMap f = (l.take i).filterMap f ++ (f x).toList := by
  rw [List.take_add_one, h, List.filterMap_append]
  show _ ++ List.filterMap f [x] = _
  cases e : f x with
  | none => rw [List.filterMap_cons_none e]; rfl
  | some y => rw [List.filterMap_cons_some e]; rfl
theorem filterMap_nodup {α β : Type} {f : α → Option β} (inj : ∀ a b y, f a = some y → f b = some y → a = b) : ∀ {l : List α}, l.Nodup → (l.filterMap f).Nodup
  | [], _ => .nil
  | x :: l, h => by
    have h1 := List.nodup_cons.mp h
    cases e : f x with
    | none => rw [List.filterMap_cons_none e]; exact filterMap_nodup inj h1.2
    | some y =>
      rw [List.filterMap_cons_some e, List.nodup_cons]
      refine ⟨fun m => ?_, filterMap_nodup inj h1.2⟩
      obtain ⟨a, ha, e2⟩ := List.mem_filterMap.mp m
      exact h1.1 (inj _ _ _ e2 e ▸ ha)
def prD (x : Int × Int) : PyData := .tuple [.int x.1, .int x.2]
end Com
set_option Elab.async false
set_option linter.all false
set_option maxRecDepth 100000
set_option maxHeartbeats 4000000
/-! G3: a list or a tuple walked; a dict comprehension over anything that is walked; d == {}. -/
namespace Gd
open PySem PySem.Spec PyProof.Rows L2
theorem pi_seq {X : Cx} {tg l : Expr} {tl : TE} (hl : PE X l tl) : PI X tg l (fun σ H R => tl σ H fun x H1 => ∃ a, x = .ref a ∧ ((∃ xs, SqL X.K H1 a xs ∧ R (Itl X.K a) H1) ∨ ∃ xs, SqT X.K H1 a xs ∧ R (Itt X.K a) H1)) := by
  constructor
  intro pins s σ H R I h
  refine thn (hl.run pins s σ H _ I h) fun v s1 ⟨x, H1, J, rx, a, e, q⟩ => ?_
  subst e
  obtain rfl : v = Value.ref a := rx
  have kp : ∀ o : Obj, Inv X pins σ H1 { s1 with heap := s1.heap.push o } := fun o => J.kept (t' := s1.toks) fun b u z => Heap.get?_push_of_some _ z
  have fp : ∀ b ∈ [s1.heap.objs.size], FpOk X pins H1 b := fun b hb => by
    rw [List.mem_singleton.mp hb]
    exact J.fpOk (Nat.le_refl _) (J.hok.fresh (Nat.le_refl _))
  rcases q with ⟨xs, hs, q⟩ | ⟨xs, hs, q⟩
  · obtain ⟨its, rv, p, hz⟩ := J.list hs
    exact wpAny_pyIter_list p.isList ⟨s1.heap.objs.size, [s1.heap.objs.size], _, _, H1, rfl, kp _, turn_list a _, ⟨_, Heap.get?_push_size _ rfl, rfl, rfl⟩, fp, q⟩
  · obtain ⟨its, rv, p, hz⟩ := J.tuple hs
    exact wpAny_pyIter_tuple (show s1.heap.IsTuple a its.toArray from p) ⟨s1.heap.objs.size, [s1.heap.objs.size], _, _, H1, rfl, kp _, turn_tuple a _, ⟨_, Heap.get?_push_size _ rfl, rfl, rfl⟩, fp, q⟩

theorem dc_it {J : It} {n : Nat} {G : Hp → Prop} {Y : Nat → Hp → V → Hp → Prop} (w : Walk J n G Y) {g : TG} {tt : TT} {tk tv : TE} {vs : List Nat} {σ : L2.St} {H1 : Hp} {D : Addr} {Qd : Hp → Prop} (Pv : Nat → Hp → Prop)
    (h0 : Pv 0 (upd H1 D (.dK []))) (hG : ∀ i H, i ≤ n → Pv i H → G H)
    (hs : ∀ i x H H', i < n → Pv i H → Y i H x H' → g x (wipe σ vs) H' fun s2 H2 => wipe s2 vs = wipe σ vs ∧ tt s2 H2 fun b H3 =>
      if b = true then tk s2 H3 fun y H4 => tv s2 H4 fun z H5 => ∃ kvs k, y = kV k ∧ H5 D = some (.dK kvs) ∧ kvs.length < sizeLine ∧ Pv (i + 1) (upd H5 D (.dK (putK kvs k z))) else Pv (i + 1) H3)
    (hd : ∀ H, Pv n H → Qd H) :
    ∃ W : Nat → Nat → Hp → Prop, (∃ m, W 0 m (upd H1 D (.dK []))) ∧ ∀ i m H, W i m H → (J.stop i H ∧ Qd H) ∨ (J.go i H ∧ ∃ Nx : Hp → Prop, (∀ H', Nx H' → ∃ m', m' < m ∧ W (i + 1) m' H') ∧
      ∀ x H', J.yld i H x H' → g x (wipe σ vs) H' fun s2 H2 => wipe s2 vs = wipe σ vs ∧ tt s2 H2 fun b H3 =>
        if b = true then tk s2 H3 fun y H4 => tv s2 H4 fun z H5 => ∃ kvs k, y = kV k ∧ H5 D = some (.dK kvs) ∧ kvs.length < sizeLine ∧ Nx (upd H5 D (.dK (putK kvs k z))) else Nx H3) := by
  refine ⟨fun i m H => m + i = n ∧ Pv i H, ⟨n, rfl, h0⟩, ?_⟩
  intro i m H ⟨em, p⟩
  rcases Nat.lt_or_ge i n with l | l
  · have q := hG i H (Nat.le_of_lt l) p
    exact .inr ⟨w.goes i H l q, Pv (i + 1), fun H' p' => ⟨m - 1, by omega, by omega, p'⟩, fun x H' y => hs i x H H' l p (w.yields i H x H' l q y)⟩
  · have e : i = n := by omega
    subst e
    exact .inl ⟨w.stops H (hG i H (Nat.le_refl _) p), hd H p⟩

/-- d == {} -/
def rEqE : R2 := fun x y H Q => ∃ (a b : Addr) (ks : List (L2.Key × V)), x = .ref a ∧ y = .ref b ∧ H a = some (.dK ks) ∧ H b = some (.dK []) ∧ Q (.bl ks.isEmpty) H
theorem op_eqE {X : Cx} (hu : X.A.units < cLine) : OpR X (compareOp .Eq) rEqE := by
  intro pins s σ H x y v u Q I rx ry h
  obtain ⟨a, b, ks, rfl, rfl, ea, eb, q⟩ := h
  obtain rfl : v = Value.ref a := rx
  obtain rfl : u = Value.ref b := ry
  obtain ⟨_, ya, va, ra, da⟩ := (show ObjOk X.prog X.w H s.heap a (.dK ks) from I.hok a _ ea)
  obtain ⟨_, yb, vb, rb, db⟩ := (show ObjOk X.prog X.w H s.heap b (.dK []) from I.hok b _ eb)
  cases rb
  have ll : ks.length = va.length := Paired.length ra
  refine PySem.W.keq_eq (knd := mixKind X.prog X.w) (r := true) ya yb da db hu (fun z => ?_) ?_
  · cases va with
    | nil => exact .nil
    | cons _ _ => simp at z
  · refine ⟨.bl ks.isEmpty, H, I, ?_, q⟩
    show Value.bool _ = Value.bool _
    congr 1
    cases ks with
    | nil =>
      cases va with
      | nil => rfl
      | cons _ _ => simp at ll
    | cons _ _ =>
      cases va with
      | nil => simp at ll
      | cons _ _ => rfl
/-! name = {k: v for ..}: a dict comprehension given to a local -/
abbrev InBlk (X : Cx) (sc : Scope) (P : Cx → Prop) : Prop := ∀ s H C cl fp, P (X.blk s H sc (compEnvC sc cl C X.env) fp)
theorem ps_setDc {X : Cx} {i : Nat} {y : Str} {yp cp sp : Pos} {tg it kx vx : Expr} {fs : List Expr} {sc : Scope} {own : List (Str × Nat)} {ti : TI} {tg' : TG} {tf : TT} {tk tv : TE}
    (calm : X.calm = true) (nd : X.N.Nodup) (ey : X.N[i]? = some y) (loc : X.env.scope.names.lookup y = some .local)
    (sw : swapsWith (.DictComp kx vx [⟨tg, it, fs, 0⟩] sc cp) (some (.Name y yp)) sp.line X.env = pure true)
    (walks : PI X tg it ti) (blk : BlkOk X.N X.env.scope sc own)
    (hT : InBlk X sc fun Y => PG Y tg tg') (hF : InBlk X sc fun Y => PTs Y fs tf) (hK : InBlk X sc fun Y => PE Y kx tk) (hV : InBlk X sc fun Y => PE Y vx tv)
    (fold : ∀ z, foldedSetIterable it X.env z = pure z := by intro _; rfl) :
    PS X (.Assign [.Name y yp] (.DictComp kx vx [⟨tg, it, fs, 0⟩] sc cp) sp) (tAsg (tDc ti tg' tf tk tv (own.map (·.2))) (gName i)) := by
  refine ⟨fun pins s σ H D I w => ?_⟩
  rw [exec_Assign_Name_used _ _ _ _ sw]
  refine wpAny_bind ?_
  refine wpAny_standAt (wpAny_bind ?_)
  show wpAny _ X.A (do
    let _ ← comprehension (.DictComp kx vx [⟨tg, it, fs, 0⟩] sc cp) sc X.env
      (firstIterPos [⟨tg, it, fs, 0⟩] cp) newDict false (eval it X.env) (some (assign (.Name y yp) X.env))) _ _ s
  have w' : tDc ti tg' tf tk tv (own.map (·.2)) σ H (fun x H1 => gName i x σ H1 D.nx) := w
  refine wpAny_bind (thn (dc_core (Qf := fun _ t => SP X pins D .next t) calm nd I walks blk hT hF hK hV fold w' ?_) fun _ _ q => wpAny_pure (wpAny_pure q))
  intro L C t m H' I' q ns f
  show wpAny _ _ (assign (.Name y yp) X.env (.ref L)) _ _ _
  obtain ⟨a0, a1, a2, a3, a4, a5⟩ := f
  refine wpAny_assign_Name (store_ok2 (v := V.ref L) I' nd ey (.inl loc) rfl ?_ (.inr loc))
  rintro t2 I2 ⟨a, sb, ha⟩
  have ne : C ≠ a := ha.elim (fun z => z ▸ a1) fun z e => a4 y a z e.symm
  exact ⟨m, ns.sameBut sb ne, fun _ sc' => ⟨_, H', I2.turned (t' := t2.toks) (fun b o hb e => (sc'.2 b hb).trans e) a0 a1 a3 a4 a5, q⟩⟩
theorem sw_trueD {kx vx : Expr} {gs : List Comprehension} {sc : Scope} {cp yp : Pos} {y : Str} {l : Nat} {env : Env} (fn : env.scope.kind = .function) (loc : env.scope.names.lookup y = some .local)
    (line : (yp.line == cp.line) = true) (no : (sc.names.any fun (n, k) => n == y && (k == .local || k == .cell)) = false) :
    swapsWith (.DictComp kx vx gs sc cp) (some (.Name y yp)) l env = pure true := by
  have hb : env.blockKind = .function := by unfold Env.blockKind; rw [fn]; rfl
  have hk : env.kindOf y = some .local := loc
  unfold swapsWith
  simp only [hb, hk, no, Expr.pos, line]
  rfl
end Gd
set_option linter.all false
/-! K02_math: shortest paths: of all shortest ones the least. -/
namespace K2
/-- a list of digits as a number -/
def cd (B : Int) (p : List Int) : Int := p.foldl (fun a x => a * B + x) 0
theorem cd_snoc (B : Int) (p : List Int) (v : Int) : cd B (p ++ [v]) = cd B p * B + v := by
  unfold cd
  rw [List.foldl_append]
  rfl

inductive PathTo (S : List Int) (adj : Int → List Int) : List Int → Int → Prop
  | one {s : Int} : s ∈ S → PathTo S adj [s] s
  | snoc {p : List Int} {u v : Int} : PathTo S adj p u → v ∈ adj u → PathTo S adj (p ++ [v]) v

structure Gr (S : List Int) (adj : Int → List Int) (B : Int) : Prop where
  pos : 0 < B
  s : ∀ x ∈ S, 0 ≤ x ∧ x < B
  a : ∀ u, ∀ v ∈ adj u, 0 ≤ v ∧ v < B

def sl (B : Int) (p q : List Int) : Prop := p.length < q.length ∨ (p.length = q.length ∧ cd B p ≤ cd B q)
def slt (B : Int) (p q : List Int) : Prop := p.length < q.length ∨ (p.length = q.length ∧ cd B p < cd B q)
def Least (S : List Int) (adj : Int → List Int) (B : Int) (g : Int) (p : List Int) : Prop := PathTo S adj p g ∧ ∀ q, PathTo S adj q g → sl B p q

section
variable {S : List Int} {adj : Int → List Int} {B : Int}
theorem sl_refl (p : List Int) : sl B p p := .inr ⟨rfl, Int.le_refl _⟩
theorem sl_trans {p q r : List Int} (h1 : sl B p q) (h2 : sl B q r) : sl B p r := by
  unfold sl at *
  omega
theorem slt_sl {p q : List Int} (h : slt B p q) : sl B p q := by
  unfold sl slt at *
  omega
theorem slt_of_sl {p q r : List Int} (h1 : sl B p q) (h2 : slt B q r) : slt B p r := by
  unfold sl slt at *
  omega
theorem cd_lt {a b v w : Int} (hB : 0 < B) (h : a < b) (hv : v < B) (hw : 0 ≤ w) : a * B + v < b * B + w := by
  have h1 : (a + 1) * B ≤ b * B := Int.mul_le_mul_of_nonneg_right (by omega) (by omega)
  rw [Int.add_mul, Int.one_mul] at h1
  omega
theorem slt_snoc {p q : List Int} {v w : Int} (hB : 0 < B) (h : slt B p q) (hv : v < B) (hw : 0 ≤ w) : slt B (p ++ [v]) (q ++ [w]) := by
  unfold slt at *
  rw [List.length_append, List.length_append, cd_snoc, cd_snoc]
  rcases h with h | ⟨h1, h2⟩
  · exact .inl (by simp; exact h)
  · exact .inr ⟨by simp [h1], cd_lt hB h2 hv hw⟩
theorem sl_snoc {p q : List Int} (v : Int) (hB : 0 < B) (h : sl B p q) : sl B (p ++ [v]) (q ++ [v]) := by
  unfold sl at *
  rw [List.length_append, List.length_append, cd_snoc, cd_snoc]
  rcases h with h | ⟨h1, h2⟩
  · exact .inl (by simp; exact h)
  · refine .inr ⟨by simp [h1], ?_⟩
    have := Int.mul_le_mul_of_nonneg_right h2 (Int.le_of_lt hB)
    omega
theorem cd_inj (hB : 0 < B) : ∀ (n : Nat) (p q : List Int), p.length = n → q.length = n → (∀ x ∈ p, 0 ≤ x ∧ x < B) → (∀ x ∈ q, 0 ≤ x ∧ x < B) → cd B p = cd B q → p = q
  | 0, p, q, h1, h2, _, _, _ => by rw [List.length_eq_zero_iff.mp h1, List.length_eq_zero_iff.mp h2]
  | n + 1, p, q, h1, h2, b1, b2, e => by
    rcases List.eq_nil_or_concat p with z | ⟨p', v, z⟩
    · subst z; simp at h1
    rcases List.eq_nil_or_concat q with z2 | ⟨q', w, z2⟩
    · subst z2; simp at h2
    rw [List.concat_eq_append] at z z2
    subst z
    subst z2
    rw [cd_snoc, cd_snoc] at e
    have bv := b1 v (by simp)
    have bw := b2 w (by simp)
    have ec : cd B p' = cd B q' := by
      rcases Int.lt_trichotomy (cd B p') (cd B q') with l | l | l
      · have := cd_lt hB l bv.2 bw.1; omega
      · exact l
      · have := cd_lt hB l bw.2 bv.1; omega
    have ev : v = w := by rw [ec] at e; omega
    rw [ev, cd_inj hB n p' q' (by simp at h1; omega) (by simp at h2; omega) (fun x hx => b1 x (List.mem_append_left _ hx)) (fun x hx => b2 x (List.mem_append_left _ hx)) ec]
theorem PathTo.bd (G : Gr S adj B) {p : List Int} {v : Int} (h : PathTo S adj p v) : ∀ x ∈ p, 0 ≤ x ∧ x < B := by
  induction h with
  | one h => intro x hx; rw [List.mem_singleton.mp hx]; exact G.s _ h
  | snoc h hv ih =>
    intro x hx
    rcases List.mem_append.mp hx with z | z
    · exact ih x z
    · rw [List.mem_singleton.mp z]; exact G.a _ _ hv
theorem PathTo.last {p : List Int} {v : Int} (h : PathTo S adj p v) : p.getLast? = some v := by
  cases h with
  | one h => rfl
  | snoc h hv => simp
theorem PathTo.to_bd (G : Gr S adj B) {p : List Int} {v : Int} (h : PathTo S adj p v) : 0 ≤ v ∧ v < B := h.bd G v (List.mem_of_getLast? h.last)
theorem PathTo.uniq {p : List Int} {v w : Int} (h : PathTo S adj p v) (h2 : PathTo S adj p w) : v = w := by
  have a := h.last
  rw [h2.last] at a
  exact (Option.some.inj a).symm
theorem PathTo.pos {p : List Int} {v : Int} (h : PathTo S adj p v) : 1 ≤ p.length := by
  cases h <;> simp
theorem Least.uniq (G : Gr S adj B) {g : Int} {p q : List Int} (h1 : Least S adj B g p) (h2 : Least S adj B g q) : p = q := by
  have a := h1.2 q h2.1
  have b := h2.2 p h1.1
  unfold sl at a b
  exact cd_inj G.pos p.length p q rfl (by omega) (h1.1.bd G) (h2.1.bd G) (by omega)
theorem PathTo.sub {p : List Int} {u v : Int} (h : PathTo S adj p u) (hv : v ∈ p) : ∃ q, PathTo S adj q v ∧ q <+: p := by
  induction h with
  | one h => rw [List.mem_singleton.mp hv]; exact ⟨_, .one h, List.prefix_refl _⟩
  | @snoc p u w h hw ih =>
    rcases List.mem_append.mp hv with z | z
    · obtain ⟨q, h1, h2⟩ := ih z
      exact ⟨q, h1, h2.trans (List.prefix_append _ _)⟩
    · rw [List.mem_singleton.mp z]; exact ⟨_, .snoc h hw, List.prefix_refl _⟩
theorem PathTo.simple {p : List Int} {v : Int} (h : PathTo S adj p v) : ∃ q, PathTo S adj q v ∧ q.Nodup := by
  induction h with
  | one h => exact ⟨_, .one h, by simp⟩
  | @snoc p u w h hw ih =>
    obtain ⟨q, h1, h2⟩ := ih
    by_cases z : w ∈ q
    · obtain ⟨q', h3, h4⟩ := h1.sub z
      exact ⟨q', h3, h2.sublist h4.sublist⟩
    · refine ⟨_, .snoc h1 hw, ?_⟩
      rw [List.nodup_append]
      exact ⟨h2, by simp, fun a ha b hb e => z (by simp at hb; rw [← hb, ← e]; exact ha)⟩
theorem nodup_le : ∀ (n : Nat) (l : List Int), l.Nodup → (∀ x ∈ l, 0 ≤ x ∧ x < (n : Int)) → l.length ≤ n
  | 0, l, _, h => by
    cases l with
    | nil => exact Nat.le_refl _
    | cons x l => have := h x List.mem_cons_self; omega
  | n + 1, l, nd, h => by
    have h1 := nodup_le n (l.filter fun x => !(x == (n : Int))) (nd.filter _) (fun x hx => by
      rw [List.mem_filter] at hx
      have := h x hx.1
      have e : x ≠ (n : Int) := fun z => by simp [z] at hx
      omega)
    have e : l.length = l.countP (fun x => x == (n : Int)) + (l.filter fun x => !(x == (n : Int))).length := by
      have := List.length_eq_countP_add_countP (fun x => x == (n : Int)) (l := l)
      rw [← List.countP_eq_length_filter, this]
      congr 1
      exact List.countP_congr fun x _ => by simp
    have e2 : l.countP (fun x => x == (n : Int)) ≤ 1 := List.nodup_iff_count.mp nd (n : Int)
    omega
theorem PathTo.short {n : Nat} (G : Gr S adj B) (hn : ∀ u v, PathTo S adj u v → 0 ≤ v ∧ v < (n : Int)) {p : List Int} {v : Int} (h : PathTo S adj p v) : ∃ q, PathTo S adj q v ∧ q.length ≤ n := by
  obtain ⟨q, h1, h2⟩ := h.simple
  refine ⟨q, h1, nodup_le n q h2 fun x hx => ?_⟩
  obtain ⟨q', h3, _⟩ := h1.sub hx
  exact hn _ _ h3

/-! ### the program's walk -/
structure BInv (S : List Int) (adj : Int → List Int) (B : Int) (k : Nat) (qs : List (Int × List Int)) : Prop where
  nd : (qs.map (·.1)).Nodup
  least : ∀ x ∈ qs, Least S adj B x.1 x.2
  sorted : qs.Pairwise fun x y => slt B x.2 y.2
  st : ∀ s ∈ S, s ∈ qs.map (·.1)
  cl : ∀ (i : Nat) (x : Int × List Int), i < k → qs[i]? = some x → ∀ v ∈ adj x.1, v ∈ qs.map (·.1)
theorem least_ne {g : Int} {p : List Int} (h : Least S adj B g p) : p = p.dropLast ++ [g] := by
  have := h.1.last
  rw [List.getLast?_eq_some_iff] at this
  obtain ⟨ys, rfl⟩ := this
  simp
theorem mem_at {qs : List (Int × List Int)} {w : Int} (h : w ∈ qs.map (·.1)) : ∃ (i : Nat) (x : Int × List Int), qs[i]? = some x ∧ x.1 = w := by
  obtain ⟨x, hx, e⟩ := List.mem_map.mp h
  obtain ⟨i, hi⟩ := List.mem_iff_getElem?.mp hx
  exact ⟨i, x, hi, e⟩
theorem sorted_at {qs : List (Int × List Int)} (h : qs.Pairwise fun x y => slt B x.2 y.2) {k i : Nat} {u x : Int × List Int} (hk : qs[k]? = some u) (hi : qs[i]? = some x) (le : k ≤ i) : sl B u.2 x.2 := by
  obtain ⟨h1, e1⟩ := List.getElem?_eq_some_iff.mp hk
  obtain ⟨h2, e2⟩ := List.getElem?_eq_some_iff.mp hi
  rcases Nat.lt_or_eq_of_le le with l | l
  · have := (List.pairwise_iff_getElem.mp h) k i h1 h2 l
    rw [e1, e2] at this
    exact slt_sl this
  · subst l
    rw [hk] at hi
    rw [Option.some.inj hi]
    exact sl_refl _
/-- a way to what was not yet taken is no shorter than the one at hand -/
theorem BInv.front {k : Nat} {qs : List (Int × List Int)} (I : BInv S adj B k qs) {u : Int × List Int} (hk : qs[k]? = some u) {p : List Int} {w : Int} (h : PathTo S adj p w) :
    (∀ (i : Nat) (x : Int × List Int), i < k → qs[i]? = some x → x.1 ≠ w) → sl B u.2 p := by
  have key : ∀ {p : List Int} {w : Int}, PathTo S adj p w → w ∈ qs.map (·.1) → (∀ (i : Nat) (x : Int × List Int), i < k → qs[i]? = some x → x.1 ≠ w) → sl B u.2 p := fun {p w} h m no => by
    obtain ⟨i, x, hi, e⟩ := mem_at m
    have ge : k ≤ i := Nat.le_of_not_lt fun l => no i x l hi e
    have lx := I.least x (List.mem_of_getElem? hi)
    rw [e] at lx
    exact sl_trans (sorted_at I.sorted hk hi ge) (lx.2 p h)
  induction h with
  | one h => exact fun no => key (.one h) (I.st _ h) no
  | @snoc p x w h hw ih =>
    intro no
    by_cases c : ∃ (i : Nat) (y : Int × List Int), i < k ∧ qs[i]? = some y ∧ y.1 = x
    · obtain ⟨i, y, l, hi, e⟩ := c
      exact key (.snoc h hw) (I.cl i y l hi w (by rw [e]; exact hw)) no
    · have := ih fun i y l hi e => c ⟨i, y, l, hi, e⟩
      unfold sl at this ⊢
      rw [List.length_append, List.length_singleton]
      omega
theorem BInv.newLeast (G : Gr S adj B) {k : Nat} {qs : List (Int × List Int)} (I : BInv S adj B k qs) {u : Int × List Int} (hk : qs[k]? = some u) {v : Int} (hv : v ∈ adj u.1) (hn : v ∉ qs.map (·.1)) : Least S adj B v (u.2 ++ [v]) := by
  refine ⟨.snoc (I.least u (List.mem_of_getElem? hk)).1 hv, fun q hq => ?_⟩
  cases hq with
  | one h => exact (hn (I.st _ h)).elim
  | @snoc p w _ h hw =>
    refine sl_snoc v G.pos (I.front hk h fun i x l hi e => hn (I.cl i x l hi v (by rw [e]; exact hw)))
/-- amid the keys that follow the one at hand -/
structure BIn (S : List Int) (adj : Int → List Int) (B : Int) (k : Nat) (u : Int × List Int) (ys : List Int) (j : Nat) (qs : List (Int × List Int)) : Prop where
  b : BInv S adj B k qs
  hk : qs[k]? = some u
  dl : ∀ y ∈ qs, slt B y.2.dropLast u.2 ∨ (y.2 = u.2 ++ [y.1] ∧ ∃ i, i < j ∧ ys[i]? = some y.1)
  has : ∀ i v, i < j → ys[i]? = some v → v ∈ qs.map (·.1)
theorem BIn.skip {k j : Nat} {u : Int × List Int} {ys : List Int} {qs : List (Int × List Int)} {v : Int} (I : BIn S adj B k u ys j qs) (hv : ys[j]? = some v) (m : v ∈ qs.map (·.1)) : BIn S adj B k u ys (j + 1) qs := by
  refine ⟨I.b, I.hk, fun y hy => (I.dl y hy).imp id fun ⟨e, i, l, h⟩ => ⟨e, i, by omega, h⟩, fun i w l h => ?_⟩
  rcases Nat.lt_or_eq_of_le (Nat.lt_succ_iff.mp l) with l | l
  · exact I.has i w l h
  · subst l
    rw [hv] at h
    rw [← Option.some.inj h]
    exact m
theorem BIn.add (G : Gr S adj B) {k j : Nat} {u : Int × List Int} {ys : List Int} {qs : List (Int × List Int)} {v : Int} (I : BIn S adj B k u ys j qs) (sy : ys.Pairwise (· ≤ ·)) (hy : ∀ y ∈ ys, y ∈ adj u.1) (hv : ys[j]? = some v) (m : v ∉ qs.map (·.1)) :
    BIn S adj B k u ys (j + 1) (qs ++ [(v, u.2 ++ [v])]) := by
  have hva := hy v (List.mem_of_getElem? hv)
  have bv := G.a _ _ hva
  have hkl : k < qs.length := (List.getElem?_eq_some_iff.mp I.hk).1
  refine ⟨⟨?_, fun x hx => ?_, ?_, fun s hs => ?_, fun i x l hi w hw => ?_⟩, ?_, fun y hy2 => ?_, fun i w l h => ?_⟩
  · rw [List.map_append, List.nodup_append]
    exact ⟨I.b.nd, by simp, fun a ha b hb e => m (by simp at hb; rw [← hb, ← e]; exact ha)⟩
  · rcases List.mem_append.mp hx with z | z
    · exact I.b.least x z
    · rw [List.mem_singleton.mp z]
      exact I.b.newLeast G I.hk hva m
  · rw [List.pairwise_append]
    refine ⟨I.b.sorted, by simp, fun a ha b hb => ?_⟩
    rw [List.mem_singleton.mp hb]
    show slt B a.2 (u.2 ++ [v])
    have la := I.b.least a ha
    have ba := la.1.to_bd G
    rcases I.dl a ha with z | ⟨z, i, l, hi⟩
    · rw [least_ne la]
      exact slt_snoc G.pos z ba.2 bv.1
    · rw [z]
      have le : a.1 ≤ v := by
        obtain ⟨h1, e1⟩ := List.getElem?_eq_some_iff.mp hi
        obtain ⟨h2, e2⟩ := List.getElem?_eq_some_iff.mp hv
        have := (List.pairwise_iff_getElem.mp sy) i j h1 h2 l
        rw [e1, e2] at this
        exact this
      have ne : a.1 ≠ v := fun e => m (List.mem_map.mpr ⟨a, ha, e⟩)
      unfold slt
      rw [List.length_append, List.length_append, cd_snoc, cd_snoc]
      exact .inr ⟨rfl, by omega⟩
  · rw [List.map_append]
    exact List.mem_append_left _ (I.b.st s hs)
  · rw [List.map_append]
    refine List.mem_append_left _ (I.b.cl i x l ?_ w hw)
    rw [List.getElem?_append_left (by omega)] at hi
    exact hi
  · rw [List.getElem?_append_left hkl]
    exact I.hk
  · rcases List.mem_append.mp hy2 with z | z
    · exact (I.dl y z).imp id fun ⟨e, i, l, h⟩ => ⟨e, i, by omega, h⟩
    · rw [List.mem_singleton.mp z]
      exact .inr ⟨rfl, j, by omega, hv⟩
  · rw [List.map_append]
    rcases Nat.lt_or_eq_of_le (Nat.lt_succ_iff.mp l) with l | l
    · exact List.mem_append_left _ (I.has i w l h)
    · subst l
      rw [hv] at h
      rw [← Option.some.inj h]
      simp
/-- the state at the head of the walk's while -/
structure BOut (S : List Int) (adj : Int → List Int) (B : Int) (k : Nat) (qs : List (Int × List Int)) : Prop where
  b : BInv S adj B k qs
  dl : ∀ u, qs[k]? = some u → ∀ y ∈ qs, slt B y.2.dropLast u.2
theorem BOut.enter {k : Nat} {qs : List (Int × List Int)} (I : BOut S adj B k qs) {u : Int × List Int} (hk : qs[k]? = some u) (ys : List Int) : BIn S adj B k u ys 0 qs :=
  ⟨I.b, hk, fun y hy => .inl (I.dl u hk y hy), fun i v l _ => absurd l (Nat.not_lt_zero i)⟩
theorem BIn.leave {k : Nat} {u : Int × List Int} {ys : List Int} {qs : List (Int × List Int)} (I : BIn S adj B k u ys ys.length qs) (hy : ∀ v ∈ adj u.1, v ∈ ys) : BOut S adj B (k + 1) qs := by
  refine ⟨⟨I.b.nd, I.b.least, I.b.sorted, I.b.st, fun i x l hi v hv => ?_⟩, fun u' hk' y hy2 => ?_⟩
  · rcases Nat.lt_or_eq_of_le (Nat.lt_succ_iff.mp l) with l | l
    · exact I.b.cl i x l hi v hv
    · subst l
      rw [I.hk] at hi
      rw [← Option.some.inj hi] at hv
      obtain ⟨j, hj⟩ := List.mem_iff_getElem?.mp (hy v hv)
      exact I.has j v (List.getElem?_eq_some_iff.mp hj).1 hj
  · have lt : slt B u.2 u'.2 := by
      obtain ⟨h1, e1⟩ := List.getElem?_eq_some_iff.mp I.hk
      obtain ⟨h2, e2⟩ := List.getElem?_eq_some_iff.mp hk'
      have := (List.pairwise_iff_getElem.mp I.b.sorted) k (k + 1) h1 h2 (Nat.lt_succ_self k)
      rw [e1, e2] at this
      exact this
    rcases I.dl y hy2 with z | ⟨z, _⟩
    · exact slt_of_sl (slt_sl z) lt
    · rw [z, List.dropLast_concat]
      exact lt
theorem BOut.none {qs : List (Int × List Int)} {g : Int} (I : BOut S adj B qs.length qs) (h : ∀ x ∈ qs, x.1 ≠ g) {p : List Int} : ¬ PathTo S adj p g := by
  have key : ∀ {p v}, PathTo S adj p v → v ∈ qs.map (·.1) := fun {p v} h => by
    induction h with
    | one h => exact I.b.st _ h
    | snoc h hv ih =>
      obtain ⟨i, x, hi, e⟩ := mem_at ih
      exact I.b.cl i x (List.getElem?_eq_some_iff.mp hi).1 hi _ (by rw [e]; exact hv)
  intro hp
  obtain ⟨x, hx, e⟩ := List.mem_map.mp (key hp)
  exact h x hx e
/-- the starts -/
structure BSt (S : List Int) (adj : Int → List Int) (B : Int) (ys : List Int) (j : Nat) (qs : List (Int × List Int)) : Prop where
  nd : (qs.map (·.1)).Nodup
  is : ∀ x ∈ qs, x.2 = [x.1] ∧ x.1 ∈ S ∧ ∃ i, i < j ∧ ys[i]? = some x.1
  sorted : qs.Pairwise fun x y => slt B x.2 y.2
  has : ∀ i v, i < j → ys[i]? = some v → v ∈ qs.map (·.1)
theorem BSt.init {ys : List Int} : BSt S adj B ys 0 [] := ⟨.nil, fun _ h => (nomatch h), .nil, fun i v l _ => absurd l (Nat.not_lt_zero i)⟩
theorem BSt.skip {ys : List Int} {j : Nat} {qs : List (Int × List Int)} {v : Int} (I : BSt S adj B ys j qs) (hv : ys[j]? = some v) (m : v ∈ qs.map (·.1)) : BSt S adj B ys (j + 1) qs := by
  refine ⟨I.nd, fun x hx => ?_, I.sorted, fun i w l h => ?_⟩
  · obtain ⟨a, b, i, l, h⟩ := I.is x hx
    exact ⟨a, b, i, by omega, h⟩
  · rcases Nat.lt_or_eq_of_le (Nat.lt_succ_iff.mp l) with l | l
    · exact I.has i w l h
    · subst l
      rw [hv] at h
      rw [← Option.some.inj h]
      exact m
theorem BSt.add {ys : List Int} {j : Nat} {qs : List (Int × List Int)} {v : Int} (I : BSt S adj B ys j qs) (sy : ys.Pairwise (· ≤ ·)) (hy : ∀ y ∈ ys, y ∈ S) (hv : ys[j]? = some v) (m : v ∉ qs.map (·.1)) : BSt S adj B ys (j + 1) (qs ++ [(v, [v])]) := by
  refine ⟨?_, fun x hx => ?_, ?_, fun i w l h => ?_⟩
  · rw [List.map_append, List.nodup_append]
    exact ⟨I.nd, by simp, fun a ha b hb e => m (by simp at hb; rw [← hb, ← e]; exact ha)⟩
  · rcases List.mem_append.mp hx with z | z
    · obtain ⟨a, b, i, l, h⟩ := I.is x z
      exact ⟨a, b, i, by omega, h⟩
    · rw [List.mem_singleton.mp z]
      exact ⟨rfl, hy v (List.mem_of_getElem? hv), j, by omega, hv⟩
  · rw [List.pairwise_append]
    refine ⟨I.sorted, by simp, fun a ha b hb => ?_⟩
    rw [List.mem_singleton.mp hb]
    obtain ⟨e, _, i, l, hi⟩ := I.is a ha
    have le : a.1 ≤ v := by
      obtain ⟨h1, e1⟩ := List.getElem?_eq_some_iff.mp hi
      obtain ⟨h2, e2⟩ := List.getElem?_eq_some_iff.mp hv
      have := (List.pairwise_iff_getElem.mp sy) i j h1 h2 l
      rw [e1, e2] at this
      exact this
    have ne : a.1 ≠ v := fun e => m (List.mem_map.mpr ⟨a, ha, e⟩)
    show slt B a.2 [v]
    rw [e]
    refine .inr ⟨rfl, ?_⟩
    show (0 * B + a.1 : Int) < 0 * B + v
    omega
  · rw [List.map_append]
    rcases Nat.lt_or_eq_of_le (Nat.lt_succ_iff.mp l) with l | l
    · exact List.mem_append_left _ (I.has i w l h)
    · subst l
      rw [hv] at h
      rw [← Option.some.inj h]
      simp
theorem BSt.leave {ys : List Int} {qs : List (Int × List Int)} (I : BSt S adj B ys ys.length qs) (hy : ∀ s ∈ S, s ∈ ys) : BOut S adj B 0 qs := by
  refine ⟨⟨I.nd, fun x hx => ?_, I.sorted, fun s hs => ?_, fun i x l => absurd l (Nat.not_lt_zero i)⟩, fun u hu y hy2 => ?_⟩
  · obtain ⟨e, m, _⟩ := I.is x hx
    rw [e]
    refine ⟨.one m, fun q hq => ?_⟩
    cases hq with
    | one h => exact sl_refl _
    | snoc h hv =>
      have := h.pos
      unfold sl
      rw [List.length_append, List.length_singleton]
      show 1 < _ ∨ _
      omega
  · obtain ⟨j, hj⟩ := List.mem_iff_getElem?.mp (hy s hs)
    exact I.has j s (List.getElem?_eq_some_iff.mp hj).1 hj
  · obtain ⟨e, _⟩ := I.is y hy2
    obtain ⟨e2, _⟩ := I.is u (List.mem_of_getElem? hu)
    rw [e, e2]
    exact .inl (by simp)

/-! ### the law's walk -/
structure RInv (S : List Int) (adj : Int → List Int) (B : Int) (g : Int) (t : Nat) (rows : List (List Int)) : Prop where
  path : ∀ r ∈ rows, ∃ v, PathTo S adj r v ∧ r.length = t + 1
  sorted : rows.Pairwise fun a b => cd B a ≤ cd B b
  all : ∀ v p, PathTo S adj p v → p.length = t + 1 → (∀ q, PathTo S adj q v → p.length ≤ q.length) → ∃ r ∈ rows, PathTo S adj r v ∧ cd B r ≤ cd B p
  no : ∀ p, PathTo S adj p g → t < p.length
/-- the first row that ends in g -/
theorem RInv.found {g : Int} {t : Nat} {rows : List (List Int)} (I : RInv S adj B g t rows) {r : List Int} {rest : List (List Int)} (h : rows.filter (fun r => r.getLast? == some g) = r :: rest) : Least S adj B g r := by
  have hm : r ∈ rows.filter (fun r => r.getLast? == some g) := by rw [h]; exact List.mem_cons_self
  have hm1 := List.mem_filter.mp hm
  obtain ⟨v, hv, hl⟩ := I.path r hm1.1
  have ev : v = g := by
    have e1 := hv.last
    have e2 : r.getLast? = some g := by simpa using hm1.2
    rw [e1] at e2
    exact Option.some.inj e2
  subst ev
  refine ⟨hv, fun q hq => ?_⟩
  have lq := I.no q hq
  by_cases e : q.length = t + 1
  · obtain ⟨r', hr', hp', hc⟩ := I.all v q hq e fun p hp => by have := I.no p hp; omega
    have hm' : r' ∈ rows.filter (fun r => r.getLast? == some v) := List.mem_filter.mpr ⟨hr', by simp [hp'.last]⟩
    rw [h] at hm'
    have so := I.sorted.sublist (List.filter_sublist (p := fun r => r.getLast? == some v))
    rw [h] at so
    have : cd B r ≤ cd B r' := by
      rcases List.mem_cons.mp hm' with z | z
      · rw [z]; exact Int.le_refl _
      · exact (List.pairwise_cons.mp so).1 r' z
    exact .inr ⟨by omega, by omega⟩
  · exact .inl (by omega)
theorem RInv.notYet {g : Int} {t : Nat} {rows : List (List Int)} (I : RInv S adj B g t rows) (h : rows.filter (fun r => r.getLast? == some g) = []) : ∀ p, PathTo S adj p g → t + 1 < p.length := fun p hp => by
  have := I.no p hp
  by_cases e : p.length = t + 1
  · obtain ⟨r, hr, hpr, _⟩ := I.all g p hp e fun q hq => by have := I.no q hq; omega
    have : r ∈ rows.filter (fun r => r.getLast? == some g) := List.mem_filter.mpr ⟨hr, by simp [hpr.last]⟩
    rw [h] at this
    exact nomatch this
  · omega
/-- the longer rows -/
def longer (adj : Int → List Int) (rows : List (List Int)) : List (List Int) := rows.flatMap fun r => ((adj (r.getLast?.getD 0)).filter fun v => !decide (v ∈ r)).map fun v => r ++ [v]
/-- of the rows with one end the first -/
structure Seen (L : List (List Int)) (B : Int) (j : Nat) (seen : List (List Int)) : Prop where
  sub : seen.Sublist (L.take j)
  nd : (seen.map fun r => r.getLast?.getD 0).Nodup
  has : ∀ i r, i < j → L[i]? = some r → ∃ q ∈ seen, q.getLast?.getD 0 = r.getLast?.getD 0 ∧ cd B q ≤ cd B r
theorem Seen.init {L : List (List Int)} : Seen L B 0 [] := ⟨List.nil_sublist _, .nil, fun i r l _ => absurd l (Nat.not_lt_zero i)⟩
theorem Seen.skip {L : List (List Int)} {j : Nat} {seen : List (List Int)} {r : List Int} (I : Seen L B j seen) (so : L.Pairwise fun a b => cd B a ≤ cd B b) (hj : L[j]? = some r) (m : r.getLast?.getD 0 ∈ seen.map fun r => r.getLast?.getD 0) : Seen L B (j + 1) seen := by
  refine ⟨I.sub.trans (List.take_sublist_take_left (Nat.le_succ j)), I.nd, fun i q l h => ?_⟩
  rcases Nat.lt_or_eq_of_le (Nat.lt_succ_iff.mp l) with l | l
  · exact I.has i q l h
  · subst l
    rw [hj] at h
    rw [← Option.some.inj h]
    obtain ⟨x, hx, e⟩ := List.mem_map.mp m
    refine ⟨x, hx, e, ?_⟩
    obtain ⟨k, hk, ek⟩ := List.mem_iff_getElem.mp (I.sub.subset hx)
    rw [List.length_take] at hk
    rw [List.getElem_take] at ek
    obtain ⟨h2, e2⟩ := List.getElem?_eq_some_iff.mp hj
    have := (List.pairwise_iff_getElem.mp so) k i (by omega) h2 (by omega)
    rw [ek, e2] at this
    exact this
theorem Seen.add {L : List (List Int)} {j : Nat} {seen : List (List Int)} {r : List Int} (I : Seen L B j seen) (hj : L[j]? = some r) (m : r.getLast?.getD 0 ∉ seen.map fun r => r.getLast?.getD 0) : Seen L B (j + 1) (seen ++ [r]) := by
  refine ⟨?_, ?_, fun i q l h => ?_⟩
  · rw [List.take_add_one, hj]
    exact I.sub.append (List.Sublist.refl _)
  · rw [List.map_append, List.nodup_append]
    exact ⟨I.nd, by simp, fun a ha b hb e => m (by simp at hb; rw [← hb, ← e]; exact ha)⟩
  · rcases Nat.lt_or_eq_of_le (Nat.lt_succ_iff.mp l) with l | l
    · obtain ⟨x, hx, e⟩ := I.has i q l h
      exact ⟨x, List.mem_append_left _ hx, e⟩
    · subst l
      rw [hj] at h
      rw [← Option.some.inj h]
      exact ⟨r, by simp, rfl, Int.le_refl _⟩
theorem RInv.next (G : Gr S adj B) {g : Int} {t : Nat} {rows L seen : List (List Int)} (I : RInv S adj B g t rows) (hn : rows.filter (fun r => r.getLast? == some g) = []) (hp : L.Perm (longer adj rows)) (so : L.Pairwise fun a b => cd B a ≤ cd B b) (hs : Seen L B L.length seen) :
    RInv S adj B g (t + 1) seen := by
  have inL : ∀ r, r ∈ L ↔ ∃ q ∈ rows, ∃ v ∈ adj (q.getLast?.getD 0), v ∉ q ∧ q ++ [v] = r := fun r => by
    rw [hp.mem_iff]
    unfold longer
    rw [List.mem_flatMap]
    constructor
    · rintro ⟨q, hq, h⟩
      obtain ⟨v, hv, e⟩ := List.mem_map.mp h
      have := List.mem_filter.mp hv
      exact ⟨q, hq, v, this.1, by simpa using this.2, e⟩
    · rintro ⟨q, hq, v, hv, nv, e⟩
      exact ⟨q, hq, List.mem_map.mpr ⟨v, List.mem_filter.mpr ⟨hv, by simpa using nv⟩, e⟩⟩
  have sub : seen.Sublist L := by
    have := hs.sub
    rw [List.take_length] at this
    exact this
  have isP : ∀ r ∈ L, ∃ v, PathTo S adj r v ∧ r.length = t + 1 + 1 := fun r hr => by
    obtain ⟨q, hq, v, hv, _, e⟩ := (inL r).mp hr
    obtain ⟨u, hu, hl⟩ := I.path q hq
    rw [hu.last] at hv
    refine ⟨v, e ▸ .snoc hu hv, ?_⟩
    rw [← e, List.length_append, List.length_singleton, hl]
  refine ⟨fun r hr => isP r (sub.subset hr), so.sublist sub, fun v p hpv hl hm => ?_, I.notYet hn⟩
  cases hpv with
  | one h => simp at hl
  | @snoc p' u _ h hv =>
    rw [List.length_append, List.length_singleton] at hl
    obtain ⟨r, hr, hru, hc⟩ := I.all u p' h (by omega) fun q hq => by
      have := hm _ (.snoc hq hv)
      rw [List.length_append, List.length_append, List.length_singleton] at this
      omega
    obtain ⟨u', hu', hl'⟩ := I.path r hr
    have nv : v ∉ r := fun z => by
      obtain ⟨q, hq, pre⟩ := hru.sub z
      have h1 := hm q hq
      have h2 := pre.length_le
      rw [List.length_append, List.length_singleton] at h1
      omega
    have mL : r ++ [v] ∈ L := (inL _).mpr ⟨r, hr, v, by rw [hru.last]; exact hv, nv, rfl⟩
    obtain ⟨i, hi⟩ := List.mem_iff_getElem?.mp mL
    obtain ⟨x, hx, ex, cx⟩ := hs.has i _ (List.getElem?_eq_some_iff.mp hi).1 hi
    obtain ⟨w, hw, _⟩ := isP x (sub.subset hx)
    have ew : w = v := by
      rw [hw.last] at ex
      simpa using ex
    subst ew
    refine ⟨x, hx, hw, Int.le_trans cx ?_⟩
    rw [cd_snoc, cd_snoc]
    have := Int.mul_le_mul_of_nonneg_right hc (Int.le_of_lt G.pos)
    omega
theorem RInv.init {g : Int} {rows : List (List Int)} (hp : rows.Perm (S.map fun s => [s])) (so : rows.Pairwise fun a b => cd B a ≤ cd B b) : RInv S adj B g 0 rows := by
  refine ⟨fun r hr => ?_, so, fun v p hpv hl _ => ?_, fun p h => h.pos⟩
  · obtain ⟨s, hs, e⟩ := List.mem_map.mp (hp.mem_iff.mp hr)
    exact ⟨s, e ▸ .one hs, by rw [← e]; rfl⟩
  · cases hpv with
    | one h => exact ⟨_, hp.mem_iff.mpr (List.mem_map.mpr ⟨_, h, rfl⟩), .one h, Int.le_refl _⟩
    | snoc h _ =>
      have := h.pos
      rw [List.length_append, List.length_singleton] at hl
      omega
end
end K2
set_option Elab.async false
set_option linter.all false
set_option maxRecDepth 100000
set_option maxHeartbeats 4000000
/-! K02a: the law's digits and draws; heaps that are drawn. -/
namespace K2
open PySem PySem.Spec PyProof.Rows L2 Gd Com
def topx (i : Nat) : Stmt := PySem.Challenge.pw_keptbywitness_k02_shortest_paths.main.body.getD i (.Pass ⟨0, 0, 0, 0⟩)
abbrev s_law_cell : Stmt := topx 6
theorem sc_law_cell : FnScope ["script", "k"] ["script", "k"] (defScope s_law_cell) := ⟨rfl, rfl, rfl, by decide +kernel, rfl, by decide +kernel, by decide +kernel⟩
abbrev s_law_digits : Stmt := topx 7
theorem sc_law_digits : FnScope ["script", "first", "last", "digits", "k", "cell", "turn", "seed"] ["script", "first", "last"] (defScope s_law_digits) := ⟨rfl, rfl, rfl, by decide +kernel, rfl, by decide +kernel, by decide +kernel⟩
abbrev s_law_draw : Stmt := topx 8
theorem sc_law_draw : FnScope ["box", "many", "at"] ["box", "many"] (defScope s_law_draw) := ⟨rfl, rfl, rfl, by decide +kernel, rfl, by decide +kernel, by decide +kernel⟩
abbrev s_law_alike : Stmt := topx 9
theorem sc_law_alike : FnScope ["one", "two"] ["one", "two"] (defScope s_law_alike) := ⟨rfl, rfl, rfl, by decide +kernel, rfl, by decide +kernel, by decide +kernel⟩
abbrev s_law_heap : Stmt := topx 10
theorem sc_law_heap : FnScope ["box", "many", "heap", "k", "fields", "field"] ["box"] (defScope s_law_heap) := ⟨rfl, rfl, rfl, by decide +kernel, rfl, by decide +kernel, by decide +kernel⟩
abbrev s_law_paths : Stmt := topx 11
theorem sc_law_paths : FnScope ["heap", "start", "number", "reference", "rows", "turn", "row", "ended", "longer", "seen", "field", "other"] ["heap", "start", "number"] (defScope s_law_paths) := ⟨rfl, rfl, rfl, by decide +kernel, rfl, by decide +kernel, by decide +kernel⟩
abbrev s_law : Stmt := topx 12
theorem sc_law : FnScope ["script", "box", "turn", "heap", "start", "k", "reference", "given", "number", "due", "told"] ["script"] (defScope s_law) := ⟨rfl, rfl, rfl, by decide +kernel, rfl, by decide +kernel, by decide +kernel⟩
abbrev s_shortest_path : Stmt := topx 1
theorem sc_shortest_path : FnScope ["heap", "start", "goal", "key", "fields", "following"] ["heap", "start", "goal"] (defScope s_shortest_path) := ⟨rfl, rfl, rfl, by decide +kernel, rfl, by decide +kernel, by decide +kernel⟩
abbrev s_least_path : Stmt := topx 2
theorem sc_least_path : FnScope ["following", "starts", "ends", "before", "queue", "key", "at", "here"] ["following", "starts", "ends"] (defScope s_least_path) := ⟨rfl, rfl, rfl, by decide +kernel, rfl, by decide +kernel, by decide +kernel⟩
abbrev s_path_to : Stmt := topx 3
theorem sc_path_to : FnScope ["before", "last", "path"] ["before", "last"] (defScope s_path_to) := ⟨rfl, rfl, rfl, by decide +kernel, rfl, by decide +kernel, by decide +kernel⟩
abbrev s_object_ids : Stmt := topx 4
theorem sc_object_ids : FnScope ["references", "row"] ["references"] (defScope s_object_ids) := ⟨rfl, rfl, rfl, by decide +kernel, rfl, by decide +kernel, by decide +kernel⟩
structure All (K : PySem.W.Frag) (mg : Str → Option Value) : Prop where
  law_cell : ∃ (f : Addr) (fd : FuncData), Fun K "_law_cell" "_law_cell" s_law_cell f fd ∧ mg "_law_cell" = some (.ref f) ∧ Binds K fd ["script", "k"] []
  law_digits : ∃ (f : Addr) (fd : FuncData), Fun K "_law_digits" "_law_digits" s_law_digits f fd ∧ mg "_law_digits" = some (.ref f) ∧ Binds K fd ["script", "first", "last"] []
  law_draw : ∃ (f : Addr) (fd : FuncData), Fun K "_law_draw" "_law_draw" s_law_draw f fd ∧ mg "_law_draw" = some (.ref f) ∧ Binds K fd ["box", "many"] []
  law_alike : ∃ (f : Addr) (fd : FuncData), Fun K "_law_alike" "_law_alike" s_law_alike f fd ∧ mg "_law_alike" = some (.ref f) ∧ Binds K fd ["one", "two"] []
  law_heap : ∃ (f : Addr) (fd : FuncData), Fun K "_law_heap" "_law_heap" s_law_heap f fd ∧ mg "_law_heap" = some (.ref f) ∧ Binds K fd ["box"] []
  law_paths : ∃ (f : Addr) (fd : FuncData), Fun K "_law_paths" "_law_paths" s_law_paths f fd ∧ mg "_law_paths" = some (.ref f) ∧ Binds K fd ["heap", "start", "number"] []
  law : ∃ (f : Addr) (fd : FuncData), Fun K "law" "law" s_law f fd ∧ mg "law" = some (.ref f) ∧ Binds K fd ["script"] []
  shortest_path : ∃ (f : Addr) (fd : FuncData), Fun K "shortest_path" "shortest_path" s_shortest_path f fd ∧ mg "shortest_path" = some (.ref f) ∧ Binds K fd ["heap", "start", "goal"] []
  least_path : ∃ (f : Addr) (fd : FuncData), Fun K "least_path" "least_path" s_least_path f fd ∧ mg "least_path" = some (.ref f) ∧ Binds K fd ["following", "starts", "ends"] []
  path_to : ∃ (f : Addr) (fd : FuncData), Fun K "_path_to" "_path_to" s_path_to f fd ∧ mg "_path_to" = some (.ref f) ∧ Binds K fd ["before", "last"] []
  object_ids : ∃ (f : Addr) (fd : FuncData), Fun K "_object_ids" "_object_ids" s_object_ids f fd ∧ mg "_object_ids" = some (.ref f) ∧ Binds K fd ["references"] []
  len : mg "len" = none
  int : mg "int" = none
  range : mg "range" = none
  tuple : mg "tuple" = none
  list : mg "list" = none
  sorted : mg "sorted" = none
  repr : mg "repr" = none
  max : mg "max" = none
def look (hp : List (Int × List (Option Rf))) (i : Int) : List (Option Rf) := ((hp.find? fun p => decide (p.1 = i)).map (·.2)).getD []
def ids (hp : List (Int × List (Option Rf))) : List Int := hp.map (·.1)
theorem look_mem {hp : List (Int × List (Option Rf))} {i : Int} {x : Option Rf} (h : x ∈ look hp i) : ∃ p ∈ hp, p.1 = i ∧ x ∈ p.2 := by
  unfold look at h
  cases e : hp.find? fun p => decide (p.1 = i) with
  | none => rw [e] at h; simp at h
  | some p =>
    rw [e] at h
    have h1 := List.find?_some e
    exact ⟨p, List.mem_of_find?_eq_some e, of_decide_eq_true h1, h⟩
/-! ### heaps -/
def HKv (H : Hp) : List (L2.Key × V) → List (Int × List (Option Rf)) → Prop := Paired fun kv e => kv.1 = Sum.inl e.1 ∧ ∃ t vs, kv.2 = .ref t ∧ H t = some (.tup vs) ∧ RfAll H e.2 vs
theorem HKv.mono {H H' : Hp} (s : TupS H H') {kvs : List (L2.Key × V)} {hp : List (Int × List (Option Rf))} (h : HKv H kvs hp) : HKv H' kvs hp :=
  Paired.mapP h fun _ _ ⟨e, t, vs, e2, ht, r⟩ => ⟨e, t, vs, e2, s _ _ ht, RfAll.mono s r⟩
theorem HKv.keys {H : Hp} : ∀ {kvs : List (L2.Key × V)} {hp : List (Int × List (Option Rf))}, HKv H kvs hp → kvs.map (·.1) = (ids hp).map Sum.inl
  | _, _, .nil => rfl
  | _, _, .cons ⟨e, _⟩ t => congr (congrArg List.cons e) (HKv.keys t)
theorem HKv.len {H : Hp} {kvs : List (L2.Key × V)} {hp : List (Int × List (Option Rf))} (h : HKv H kvs hp) : kvs.length = hp.length := Paired.length h
theorem HKv.get {H : Hp} {i : Int} : ∀ {kvs : List (L2.Key × V)} {hp : List (Int × List (Option Rf))}, HKv H kvs hp → i ∈ ids hp →
    ∃ t vs, valV kvs (Sum.inl i) = some (.ref t) ∧ H t = some (.tup vs) ∧ RfAll H (look hp i) vs
  | _, _, .nil, h => nomatch h
  | _, _, .cons (a := kv) (b := e) (l₁ := kvs) (l₂ := hp) ⟨e1, t, vs, e2, ht, r⟩ rest, h => by
    by_cases q : e.1 = i
    · refine ⟨t, vs, ?_, ht, ?_⟩
      · rw [valV_pos (by rw [e1, q]), e2]
      · unfold look
        rw [List.find?_cons_of_pos (by simp [q])]
        exact r
    · have hi : i ∈ ids hp := by
        rcases List.mem_cons.mp h with z | z
        · exact (q z.symm).elim
        · exact z
      obtain ⟨t', vs', a1, a2, a3⟩ := HKv.get rest hi
      refine ⟨t', vs', ?_, a2, ?_⟩
      · rw [valV_neg (by rw [e1]; exact fun z => q (Sum.inl.inj z))]
        exact a1
      · unfold look
        rw [List.find?_cons_of_neg (by simp [q])]
        exact a3

def obId : Option Rf → Option Int
  | some (.ob i) => some i
  | _ => none
def Good (n : Int) : Option Rf → Prop
  | some (.ob i) => 0 ≤ i ∧ i < n
  | _ => True
structure GoodHeap (m : Int) (hp : List (Int × List (Option Rf))) : Prop where
  keys : ids hp = (List.range hp.length).map fun (k : Nat) => (k : Int)
  fld : ∀ e ∈ hp, e.2.length ≤ 4 ∧ ∀ r ∈ e.2, Good m r
theorem GoodHeap.mem {m : Int} {hp : List (Int × List (Option Rf))} (g : GoodHeap m hp) {i : Int} (h0 : 0 ≤ i) (h1 : i < hp.length) : i ∈ ids hp := by
  rw [g.keys, List.mem_map]
  exact ⟨i.toNat, List.mem_range.mpr (by omega), by omega⟩
theorem GoodHeap.look {m : Int} {hp : List (Int × List (Option Rf))} (g : GoodHeap m hp) (i : Int) : (K2.look hp i).length ≤ 4 := by
  unfold K2.look
  cases e : hp.find? fun p => decide (p.1 = i) with
  | none => exact Nat.zero_le _
  | some p => exact (g.fld p (List.mem_of_find?_eq_some e)).1
/-- what follows an object -/
def adj (hp : List (Int × List (Option Rf))) (u : Int) : List Int := (look hp u).filterMap obId
theorem adj_bd {hp : List (Int × List (Option Rf))} {m : Int} (g : GoodHeap m hp) {u v : Int} (h : v ∈ adj hp u) : 0 ≤ v ∧ v < m := by
  obtain ⟨r, hr, e⟩ := List.mem_filterMap.mp h
  obtain ⟨p, hp', _, hm⟩ := look_mem hr
  have := (g.fld p hp').2 r hm
  rcases r with _ | ⟨i⟩ | ⟨o, e'⟩
  · simp [obId] at e
  · simp [obId] at e
    subst e
    exact this
  · simp [obId] at e

section
variable {P : Program} {w : World} {K : PySem.W.Frag} {mg : Str → Option Value} {base : Heap}
/-! ### _law_cell -/
def spCell (K : PySem.W.Frag) : Sp := fun vs H Q _ => ∃ (a : Addr) (ns : List Int) (k : Nat), vs = [.ref a, .int (k : Int)] ∧ SqL K H a (ns.map V.int) ∧ ∀ v : Int, Q (.int v) H
theorem ok_law_cell {f : Addr} {fd : FuncData} (A : All K mg) (F : Fun K "_law_cell" "_law_cell" s_law_cell f fd) : FnOk P w K mg base CX0 1 f fd ["script", "k"] (spCell K) := by
  refine F.ok sc_law_cell (fun vs H Q E h => ?_) (fun cdv A' outer s H vs Q E hr h => ?_)
  · obtain ⟨a, ns, k, rfl, _⟩ := h
    rfl
  · obtain ⟨a, ns, k, rfl, hS, q⟩ := h
    refine ⟨_, (pss_cons (ps_if (pt_cmpR op_lt (pv 1) (pe_callB call_len_seq (by rfl) A.len PySem.boot_len (pa_cons (pv 0) pa_nil)) (nomark _))
(pss_one (ps_ret (pe_ix ix_list (pv 0) (pv 1) (fun _ _ => rfl))))
pss_nil)
(pss_one (ps_ret pe_int))), ?_⟩
    refine ⟨_, rfl, _, rfl, a, _, rfl, .inl hS, _, _, rfl, rfl, _, rfl, ite2 (fun e => ?_) (fun e => ?_)⟩
    · have lt : k < (ns.map V.int).length := by
        have := of_decide_eq_true e
        omega
      have lt' := lt
      rw [List.length_map] at lt'
      have g : (ns.map V.int)[k]? = some (.int ns[k]) := by
        rw [List.getElem?_map, List.getElem?_eq_getElem lt']
        rfl
      exact ⟨_, rfl, _, rfl, a, _, _, _, rfl, rfl, hS, atI_nat g, q _⟩
    · exact q _

/-! ### _law_digits -/
def spDigits (K : PySem.W.Frag) : Sp := fun vs H Q _ => ∃ (a : Addr) (ns : List Int), vs = [.ref a, .int 0, .int 63] ∧ SqL K H a (ns.map V.int) ∧
  ∀ (p : Addr) (ds : List Int) (H' : Hp), Same H H' → H p = none → H' p = some (.lst (ds.map V.int)) → Q (.ref p) H'
theorem ok_law_digits {f : Addr} {fd : FuncData} (A : All K mg) (F : Fun K "_law_digits" "_law_digits" s_law_digits f fd) : FnOk P w K mg base CX0 2 f fd ["script", "first", "last"] (spDigits K) := by
  obtain ⟨f_law_cell, fd_law_cell, F_law_cell, g_law_cell, b_law_cell⟩ := A.law_cell
  have G_law_cell := ok_law_cell (P := P) (w := w) (base := base) A F_law_cell
  refine F.ok sc_law_digits (fun vs H Q E h => ?_) (fun cdv A' outer s H vs Q E hr h => ?_)
  · obtain ⟨a, ns, rfl, _⟩ := h
    rfl
  · obtain ⟨a, ns, rfl, hS, q⟩ := h
    refine ⟨_, (pss_cons (ps_set (i := 3) sc_law_digits.nd rfl (.inl rfl) (pe_lst pa_nil))
(pss_cons (ps_for PassesOwn.never rfl (pi_range2 (by rfl) A.range (pa_cons (pv 1) (pa_cons (pv 2) pa_nil))) (pg_name (i := 4) sc_law_digits.nd rfl (.inl rfl))
(pss_cons (ps_set (i := 5) sc_law_digits.nd rfl (.inl rfl) (pe_call G_law_cell (hr.mono (by decide)) (by rfl) g_law_cell F_law_cell.kp b_law_cell .nil pass0 (pa_cons (pv 0) (pa_cons (pv 4) pa_nil))))
(Evl.pss_cut (ps_if (pt_cmpR op_lt (pv 5) pe_int (nomark _))
(pss_one (ps_set (i := 5) sc_law_digits.nd rfl (.inl rfl) (pe_op op_sub pe_int (pe_op op_mul pe_int (pv 5)))))
pss_nil)
(pss_one (ps_if (pt_cmpR op_ge (pv 5) pe_int (nomark _))
(pss_one (ps_for PassesOwn.never rfl (pi_range1 (by rfl) A.range (pa_cons pe_int pa_nil)) (pg_name (i := 6) sc_law_digits.nd rfl (.inl rfl))
(pss_one (ps_if (pt_cmpR op_gt (pv 5) pe_int (nomark _))
(pss_cons (ps_expr (pe_bm PySem.F.plainAttrs_list PySem.F.slot_list_append PySem.F.type_list_append mt_append (pv 3) (pa_cons (pe_op op_mod (pe_callTy call_int1 (by rfl) A.int (by decide +kernel) (pa_cons (pv 5) pa_nil)) pe_int) pa_nil)))
(pss_one (ps_set (i := 5) sc_law_digits.nd rfl (.inl rfl) (pe_op op_fdiv (pv 5) pe_int))))
pss_nil))))
(pss_cons (ps_set (i := 7) sc_law_digits.nd rfl (.inl rfl) (pe_op op_mod (pe_callTy call_int1 (by rfl) A.int (by decide +kernel) (pa_cons (pe_op op_add (pe_op op_add (pe_op op_mul (pv 5) pe_int) (pe_op op_mul (pv 4) pe_int)) pe_int) pa_nil)) pe_int))
(pss_one (ps_for PassesOwn.never rfl (pi_range1 (by rfl) A.range (pa_cons pe_int pa_nil)) (pg_name (i := 6) sc_law_digits.nd rfl (.inl rfl))
(pss_cons (ps_set (i := 7) sc_law_digits.nd rfl (.inl rfl) (pe_op op_mod (pe_callTy call_int1 (by rfl) A.int (by decide +kernel) (pa_cons (pe_op op_add (pe_op op_add (pe_op op_mul (pv 7) pe_int) (pe_op op_mul pe_int (pv 6))) pe_int) pa_nil)) pe_int))
(pss_one (ps_expr (pe_bm PySem.F.plainAttrs_list PySem.F.slot_list_append PySem.F.type_list_append mt_append (pv 3) (pa_cons (pe_op op_mod (pe_callTy call_int1 (by rfl) A.int (by decide +kernel) (pa_cons (pe_op op_fdiv (pv 7) pe_int) pa_nil)) pe_int) pa_nil)))))))))))))
(pss_one (ps_ret (pv 3))))), ?_⟩
    refine ⟨Nat.zero_le _, fun d nd => ?_⟩
    refine ⟨_, rfl, _, rfl, 0, 63, rfl, by decide, ?_⟩
    let St1 : Nat → L2.St → Hp → Prop := fun m σ H' => ∃ (ds : List Int) (v4 c v6 v7 : Option V), σ = [some (.ref a), some (.int 0), some (.int 63), some (.ref d), v4, c, v6, v7] ∧ Same H H' ∧ H' d = some (.lst (ds.map V.int)) ∧ ds.length ≤ m
    refine for_range (lo := 0) (n := 63) (fun i => St1 (60 * i)) ⟨[], none, none, none, none, rfl, same_new (Same.refl H) nd, upd_same, Nat.le_refl _⟩ ?_ ?_
    · rintro i σ H1 hi ⟨ds, v4, c, v6, v7, rfl, s1, hd, hl⟩
      refine ⟨_, rfl, _, rfl, a, ns, i, by rw [Int.zero_add]; rfl, s1.seq hS, fun cv => ?_⟩
      refine ⟨fun σ H2 => H2 = H1 ∧ ∃ cv : Int, σ = [some (.ref a), some (.int 0), some (.int 63), some (.ref d), some (.int (0 + (i : Int))), some (.int cv), v6, v7], ?_, ?_⟩
      · refine ⟨_, rfl, _, _, rfl, rfl, _, rfl, ite2 (fun _ => ?_) (fun _ => ?_)⟩
        · exact ⟨_, rfl, _, _, rfl, rfl, .inl ⟨by decide, by decide⟩, _, _, rfl, rfl, rfl, _, rfl⟩
        · exact ⟨rfl, cv, rfl⟩
      rintro σ H2 ⟨rfl, cv, rfl⟩
      refine ⟨_, rfl, _, _, rfl, rfl, _, rfl, ite2 (fun _ => ?_) (fun _ => ?_)⟩
      · -- the digits of a great number
        refine ⟨60, rfl, by decide, by decide, for_range (lo := 0) (n := 60) (fun j σ H' => ∃ (ds : List Int) (cv : Int) (v6 : Option V), σ = [some (.ref a), some (.int 0), some (.int 63), some (.ref d), some (.int (0 + (i : Int))), some (.int cv), v6, v7] ∧ Same H H' ∧ H' d = some (.lst (ds.map V.int)) ∧ ds.length ≤ 60 * i + j)
          ⟨ds, cv, v6, rfl, s1, hd, hl⟩ ?_ ?_⟩
        · rintro j σ H3 hj ⟨ds, cv, v6, rfl, s2, hd, hl⟩
          refine ⟨_, rfl, _, _, rfl, rfl, _, rfl, ite2 (fun _ => ?_) (fun _ => ?_)⟩
          · refine ⟨_, rfl, .inl ⟨rfl, _, SqL.of hd⟩, _, rfl, .inl ⟨_, rfl, _, _, rfl, rfl, (by show (0 : Int) < 1000; decide), d, _, _, rfl, rfl, hd, lt_size (by rw [List.length_map]; omega), ?_⟩⟩
            refine ⟨_, rfl, _, _, rfl, rfl, ⟨by decide, by decide⟩, ds ++ [cv % 1000], cv / 1000, _, rfl, same_mut s2 nd, ?_, ?_⟩
            · rw [upd_same, List.map_append]
              rfl
            · rw [List.length_append]
              show ds.length + 1 ≤ _
              omega
          · exact ⟨ds, cv, _, rfl, s2, hd, by omega⟩
        · rintro σ H3 ⟨ds, cv, v6, rfl, s2, hd, hl⟩
          exact ⟨ds, _, _, _, _, rfl, s2, hd, by omega⟩
      · refine ⟨_, rfl, _, _, rfl, rfl, .inr ⟨by decide, by decide⟩, _, rfl, _, _, rfl, rfl, .inr ⟨by decide, by decide⟩, _, _, rfl, rfl, _, _, rfl, rfl, .inl ⟨_, rfl, _, _, rfl, rfl, (by show (0 : Int) < 2147483399; decide), ?_⟩⟩
        refine ⟨12, rfl, by decide, by decide, for_range (lo := 0) (n := 12) (fun j σ H' => ∃ (ds : List Int) (sv : Int) (v6 : Option V), σ = [some (.ref a), some (.int 0), some (.int 63), some (.ref d), some (.int (0 + (i : Int))), some (.int cv), v6, some (.int sv)] ∧ Same H H' ∧ H' d = some (.lst (ds.map V.int)) ∧ ds.length ≤ 60 * i + j)
          ⟨ds, _, v6, rfl, s1, hd, hl⟩ ?_ ?_⟩
        · rintro j σ H3 hj ⟨ds, sv, v6, rfl, s2, hd, hl⟩
          refine ⟨_, rfl, _, _, rfl, rfl, .inr ⟨by decide, by decide⟩, _, rfl, _, _, rfl, rfl, .inl ⟨by decide, by decide⟩, _, _, rfl, rfl, _, _, rfl, rfl, .inl ⟨_, rfl, _, _, rfl, rfl, (by show (0 : Int) < 2147483563; decide), ?_⟩⟩
          refine ⟨_, rfl, .inl ⟨rfl, _, SqL.of hd⟩, _, rfl, _, _, rfl, rfl, ⟨by decide, by decide⟩, .inl ⟨_, rfl, _, _, rfl, rfl, (by show (0 : Int) < 1000; decide), d, _, _, rfl, rfl, hd, lt_size (by rw [List.length_map]; omega), ?_⟩⟩
          refine ⟨ds ++ [((sv * 40014 + 5 * (0 + (j : Int)) + 3) % 2147483563 / 1009) % 1000], _, _, rfl, same_mut s2 nd, ?_, ?_⟩
          · rw [upd_same, List.map_append]
            rfl
          · rw [List.length_append]
            show ds.length + 1 ≤ _
            omega
        · rintro σ H3 ⟨ds, sv, v6, rfl, s2, hd, hl⟩
          exact ⟨ds, _, _, _, _, rfl, s2, hd, by omega⟩
    · rintro σ H1 ⟨ds, v4, c, v6, v7, rfl, s1, hd, hl⟩
      exact ⟨_, rfl, q d ds H1 s1 nd hd⟩

/-! ### _law_draw -/
def spDraw : Sp := fun vs H Q _ => ∃ (b dg : Addr) (ds : List Int) (m : Int), vs = [.ref b, .int m] ∧ 0 < m ∧ Bx H b dg ds ∧
  ∀ (r : Int) (H' : Hp), 0 ≤ r → r < m → Fx b H H' → Bx H' b dg ds → Q (.int r) H'
theorem ok_law_draw {f : Addr} {fd : FuncData} (A : All K mg) (F : Fun K "_law_draw" "_law_draw" s_law_draw f fd) : FnOk P w K mg base CX0 1 f fd ["box", "many"] spDraw := by
  refine F.ok sc_law_draw (fun vs H Q E h => ?_) (fun cdv A' outer s H vs Q E hr h => ?_)
  · obtain ⟨b, dg, ds, m, rfl, _⟩ := h
    rfl
  · obtain ⟨b, dg, ds, m, rfl, hm, ⟨n, hb, hd⟩, q⟩ := h
    have nbd : dg ≠ b := ne_of hd hb (fun z => by
      cases ds with
      | nil => exact nomatch z
      | cons d r => exact nomatch (List.cons.inj (HO.lst.inj z)).1)
    refine ⟨_, (pss_cons (ps_set (i := 2) sc_law_draw.nd rfl (.inl rfl) (pe_ix ix_list (pv 0) pe_int (fun _ _ => rfl)))
(pss_cons (ps_asg (pe_op op_add (pv 2) pe_int) (pg_sub (pv 0) pe_int set_list))
(pss_cons (ps_if (pt_cmpR op_lt (pv 2) (pe_callB call_len_seq (by rfl) A.len PySem.boot_len (pa_cons (pe_ix ix_list (pv 0) pe_int (fun _ _ => rfl)) pa_nil)) (nomark _))
(pss_one (ps_ret (pe_op op_mod (pe_callTy call_int1 (by rfl) A.int (by decide +kernel) (pa_cons (pe_ix ix_list (pe_ix ix_list (pv 0) pe_int (fun _ _ => rfl)) (pv 2) (fun _ _ => rfl)) pa_nil)) (pv 1))))
pss_nil)
(pss_one (ps_ret (pe_op op_mod (pe_callTy call_int1 (by rfl) A.int (by decide +kernel) (pa_cons (pe_op op_add (pe_op op_mul (pv 2) pe_int) pe_int) pa_nil)) (pv 1))))))), ?_⟩
    refine ⟨_, rfl, b, _, 1, _, rfl, rfl, SqL.of hb, atI_nat (j := 1) rfl, ?_⟩
    refine ⟨_, rfl, _, _, rfl, rfl, _, rfl, b, _, 1, 1, rfl, rfl, hb, rfl, ?_⟩
    have hb2 : upd H b (.lst [.ref dg, .int ((n : Int) + 1)]) b = some (.lst [.ref dg, .int ((n : Int) + 1)]) := upd_same
    have hd2 : upd H b (.lst [.ref dg, .int ((n : Int) + 1)]) dg = some (.lst (ds.map V.int)) := by
      rw [upd_ne nbd]
      exact hd
    have fin : ∀ r : Int, 0 ≤ r → r < m → Q (.int r) (upd H b (.lst [.ref dg, .int ((n : Int) + 1)])) := fun r h1 h2 =>
      q r _ h1 h2 (fun c o nc e => by rw [upd_ne nc]; exact e) ⟨n + 1, by rw [hb2]; rfl, hd2⟩
    refine ⟨_, rfl, _, rfl, b, _, 0, _, rfl, rfl, SqL.of hb2, atI_nat (j := 0) rfl, dg, _, rfl, .inl (SqL.of hd2), _, _, rfl, rfl, _, rfl, ite2 (fun e => ?_) (fun e => ?_)⟩
    · have lt : n < ds.length := by
        have := of_decide_eq_true e
        rw [List.length_map] at this
        omega
      have g : (ds.map V.int)[n]? = some (.int ds[n]) := by
        rw [List.getElem?_map, List.getElem?_eq_getElem lt]
        rfl
      refine ⟨_, rfl, b, _, 0, _, rfl, rfl, SqL.of hb2, atI_nat (j := 0) rfl, _, rfl, dg, _, _, _, rfl, rfl, SqL.of hd2, atI_nat g, .inl ⟨_, rfl, _, rfl, _, _, rfl, rfl, hm, ?_⟩⟩
      exact fin _ (Int.emod_nonneg _ (by omega)) (Int.emod_lt_of_pos _ hm)
    · refine ⟨_, rfl, _, _, rfl, rfl, .inr ⟨by decide, by decide⟩, _, _, rfl, rfl, .inl ⟨_, rfl, _, rfl, _, _, rfl, rfl, hm, ?_⟩⟩
      exact fin _ (Int.emod_nonneg _ (by omega)) (Int.emod_lt_of_pos _ hm)

/-! ### _law_alike -/
def spAlike (K : PySem.W.Frag) : Sp := fun vs H Q _ => ∃ (a b : Addr) (d e : PyData), vs = [.ref a, .ref b] ∧ Dp K H (.ref a) d ∧ Dp K H (.ref b) e ∧
  (d.showable = true ∧ d.hasDict = false ∧ d.depth ≤ 60 ∧ d.shown.length ≤ sizeLine) ∧ (e.showable = true ∧ e.hasDict = false ∧ e.depth ≤ 60 ∧ e.shown.length ≤ sizeLine) ∧
  Q (.bl (decide (V.str d.shown = V.str e.shown))) H
theorem ok_law_alike {f : Addr} {fd : FuncData} (A : All K mg) (F : Fun K "_law_alike" "_law_alike" s_law_alike f fd) : FnG P w K mg base 1 f fd ["one", "two"] (spAlike K) := by
  refine fn_G F sc_law_alike (fun vs H Q E h => ?_) (fun cdv A' outer s H vs Q E hgd hr h => ?_)
  · obtain ⟨a, b, d, e, rfl, _⟩ := h
    rfl
  · obtain ⟨a, b, d, e, rfl, hd, he, ⟨d1, d2, d3, d4⟩, ⟨e1, e2, e3, e4⟩, q⟩ := h
    have hu64 := hr.units
    refine ⟨_, (pss_one (ps_ret (pe_cmpR op_eq (pe_callB (call_reprG (by exact hgd) (by exact hu64)) (by rfl) A.repr (by decide +kernel) (pa_cons (pv 0) pa_nil)) (pe_callB (call_reprG (by exact hgd) (by exact hu64)) (by rfl) A.repr (by decide +kernel) (pa_cons (pv 1) pa_nil)) (nomark _)))), ?_⟩
    exact ⟨_, rfl, a, d, rfl, hd, d1, d2, d3, d4, _, rfl, b, e, rfl, he, e1, e2, e3, e4, rfl, q⟩


/-! ### _law_heap -/
def spHeap : Sp := fun vs H Q _ => ∃ (b dg : Addr) (ds : List Int), vs = [.ref b] ∧ Bx H b dg ds ∧
  ∀ (p : Addr) (kvs : List (L2.Key × V)) (hp : List (Int × List (Option Rf))) (H' : Hp), H p = none → H' p = some (.dK kvs) → HKv H' kvs hp → GoodHeap hp.length hp → hp.length ≤ 8 → Fx b H H' → Bx H' b dg ds → Q (.ref p) H'
theorem ok_law_heap {f : Addr} {fd : FuncData} (A : All K mg) (F : Fun K "_law_heap" "_law_heap" s_law_heap f fd) : FnOk P w K mg base CX0 2 f fd ["box"] spHeap := by
  obtain ⟨f_law_draw, fd_law_draw, F_law_draw, g_law_draw, b_law_draw⟩ := A.law_draw
  have G_law_draw := ok_law_draw (P := P) (w := w) (base := base) A F_law_draw
  refine F.ok sc_law_heap (fun vs H Q E h => ?_) (fun cdv A' outer s H vs Q E hr h => ?_)
  · obtain ⟨b, dg, ds, rfl, _⟩ := h
    rfl
  · obtain ⟨b, dg, ds, rfl, B, q⟩ := h
    have hu := hu_of hr
    refine ⟨_, (pss_cons (ps_set (i := 1) sc_law_heap.nd rfl (.inl rfl) (pe_call G_law_draw (hr.mono (by decide)) (by rfl) g_law_draw F_law_draw.kp b_law_draw .nil pass0 (pa_cons (pv 0) (pa_cons pe_int pa_nil))))
(pss_cons (ps_set (i := 2) sc_law_heap.nd rfl (.inl rfl) pe_dnewK)
(pss_cons (ps_for PassesOwn.never rfl (pi_range1 (by rfl) A.range (pa_cons (pv 1) pa_nil)) (pg_name (i := 3) sc_law_heap.nd rfl (.inl rfl))
(pss_cons (ps_set (i := 4) sc_law_heap.nd rfl (.inl rfl) (pe_lst pa_nil))
(pss_cons (ps_for PassesOwn.never rfl (pi_range1 (by rfl) A.range (pa_cons (pe_call G_law_draw (hr.mono (by decide)) (by rfl) g_law_draw F_law_draw.kp b_law_draw .nil pass0 (pa_cons (pv 0) (pa_cons pe_int pa_nil))) pa_nil)) (pg_name (i := 5) sc_law_heap.nd rfl (.inl rfl))
(pss_one (ps_expr (pe_bm PySem.F.plainAttrs_list PySem.F.slot_list_append PySem.F.type_list_append mt_append (pv 4) (pa_cons (pe_ix ix_list (pe_lst (pa_cons (pe_tup (pa_cons pe_str (pa_cons (pe_call G_law_draw (hr.mono (by decide)) (by rfl) g_law_draw F_law_draw.kp b_law_draw .nil pass0 (pa_cons (pv 0) (pa_cons (pv 1) pa_nil))) pa_nil))) (pa_cons (pe_tup (pa_cons pe_str (pa_cons (pe_call G_law_draw (hr.mono (by decide)) (by rfl) g_law_draw F_law_draw.kp b_law_draw .nil pass0 (pa_cons (pv 0) (pa_cons (pv 1) pa_nil))) pa_nil))) (pa_cons (pe_tup (pa_cons pe_str (pa_cons pe_int (pa_cons pe_int pa_nil)))) (pa_cons pe_non pa_nil))))) (pe_call G_law_draw (hr.mono (by decide)) (by rfl) g_law_draw F_law_draw.kp b_law_draw .nil pass0 (pa_cons (pv 0) (pa_cons pe_int pa_nil))) (fun _ _ => rfl)) pa_nil)))))
(pss_one (ps_dput hu (pv 2) (pv 3) (pe_callTy call_tuple_of (by rfl) A.tuple (by decide +kernel) (pa_cons (pv 4) pa_nil)) rfl)))))
(pss_one (ps_ret (pv 2)))))), ?_⟩
    refine ⟨_, rfl, b, dg, ds, 9, rfl, by decide, B, fun m H1 m0 m9 f1 B1 => ?_⟩
    intro p np
    have hp0 : H p = none := f1.none B np B1
    have nb := B1.nb np
    refine ⟨_, rfl, m, rfl, by omega, by omega, for_range (lo := 0) (n := m.toNat) (fun k σ H' => ∃ (kvs : List (L2.Key × V)) (hp : List (Int × List (Option Rf))) (v3 v4 v5 : Option V),
        σ = [some (.ref b), some (.int m), some (.ref p), v3, v4, v5] ∧ H' p = some (.dK kvs) ∧ HKv H' kvs hp ∧ GoodHeap m hp ∧ hp.length = k ∧ Fx b H H' ∧ Bx H' b dg ds)
      ⟨[], [], none, none, none, rfl, upd_same, .nil, ⟨rfl, fun _ h => nomatch h⟩, rfl, f1.new np, B1.new np⟩ ?_ ?_⟩
    · rintro k σ H2 hk ⟨kvs, hp, v3, v4, v5, rfl, hP, hK, gH, hl, f2, B2⟩
      refine ⟨Nat.zero_le _, fun D nD => ?_⟩
      have nDb := B2.nb nD
      have npD : p ≠ D := ne_of_none hP nD
      let H3 := upd H2 D (.lst [])
      have f23 : Fx b H2 H3 := (Fx.refl b H2).new nD
      have B3 : Bx H3 b dg ds := B2.new nD
      refine ⟨_, rfl, b, dg, ds, 5, rfl, by decide, B3, fun r H4 r0 r5 f4 B4 => ⟨r, rfl, by omega, by omega, for_range (lo := 0) (n := r.toNat) (fun i σ H' => ∃ (rs : List (Option Rf)) (vs : List V) (v5 : Option V),
        σ = [some (.ref b), some (.int m), some (.ref p), some (.int (0 + (k : Int))), some (.ref D), v5] ∧ H' D = some (.lst vs) ∧ RfAll H' rs vs ∧ rs.length = i ∧ (∀ x ∈ rs, Good m x) ∧ Fx b H2 H' ∧ Bx H' b dg ds ∧ H' p = some (.dK kvs)) ?_ ?_ ?_⟩⟩
      · exact ⟨[], [], _, rfl, f4 D _ nDb.1 upd_same, .nil, rfl, fun _ h => (nomatch h), f23.trans f4, B4, f4 p _ nb.1 (by show upd H2 D _ p = _; rw [upd_ne npD]; exact hP)⟩
      · rintro i σ H5 hi ⟨rs, vs, v5, rfl, hD, hR, hrl, hg, f5, B5, hP5⟩
        have mp : 0 < m := by omega
        -- the list of four, then the item that is drawn
        refine ⟨_, rfl, .inl ⟨rfl, _, SqL.of hD⟩, ?_⟩
        refine ⟨_, rfl, _, rfl, b, dg, ds, m, rfl, mp, B5, fun x1 H6 a0 a1 f6 B6 => ⟨(by show 2 ≤ sizeLine; decide), fun t1 n1 => ?_⟩⟩
        have B6' := B6.new (o := .tup [.str "object", .int x1]) n1
        refine ⟨_, rfl, _, rfl, b, dg, ds, m, rfl, mp, B6', fun x2 H7 b0 b1 f7 B7 => ⟨(by show 2 ≤ sizeLine; decide), fun t2 n2 => ?_⟩⟩
        have B7' := B7.new (o := .tup [.str "object", .int x2]) n2
        refine ⟨(by show 3 ≤ sizeLine; decide), fun t3 n3 => ?_⟩
        have B7'' := B7'.new (o := .tup [.str "import", .int 1, .int 2]) n3
        refine ⟨(by show 4 ≤ sizeLine; decide), fun t4 n4 => ?_⟩
        have B8 := B7''.new (o := .lst [.ref t1, .ref t2, .ref t3, .non]) n4
        refine ⟨_, rfl, b, dg, ds, 4, rfl, by decide, B8, fun j H9 j0 j4 f9 B9 => ?_⟩
        have F59 : Fx b H5 H9 := (((((f6.new n1).trans f7).new n2).new n3).new n4).trans f9
        have T69 : TupS (upd H6 t1 (.tup [.str "object", .int x1])) H9 := (TupS.of_fx f7 B6').trans ((TupS.new (TupS.new (TupS.new (fun _ _ e => e) n2) n3) n4).trans (TupS.of_fx f9 B8))
        have T79 : TupS (upd H7 t2 (.tup [.str "object", .int x2])) H9 := (TupS.new (TupS.new (fun _ _ e => e) n3) n4).trans (TupS.of_fx f9 B8)
        have T89 : TupS (upd (upd H7 t2 (.tup [.str "object", .int x2])) t3 (.tup [.str "import", .int 1, .int 2])) H9 := (TupS.new (fun _ _ e => e) n4).trans (TupS.of_fx f9 B8)
        have h4 : H9 t4 = some (.lst [.ref t1, .ref t2, .ref t3, .non]) := f9 t4 _ (B7''.nb n4).1 upd_same
        have hD9 : H9 D = some (.lst vs) := F59 D _ nDb.1 hD
        have T59 : TupS H5 H9 := TupS.of_fx F59 B5
        have key : ∃ (x : Option Rf) (v : V), Good m x ∧ RfV H9 x v ∧ atI [V.ref t1, .ref t2, .ref t3, .non] j = some v := by
          have cases4 : j = 0 ∨ j = 1 ∨ j = 2 ∨ j = 3 := by omega
          rcases cases4 with rfl | rfl | rfl | rfl
          · exact ⟨some (.ob x1), _, ⟨a0, a1⟩, ⟨t1, rfl, T69 _ _ upd_same⟩, rfl⟩
          · exact ⟨some (.ob x2), _, ⟨b0, b1⟩, ⟨t2, rfl, T79 _ _ upd_same⟩, rfl⟩
          · exact ⟨some (.im 1 2), _, trivial, ⟨t3, rfl, T89 _ _ upd_same⟩, rfl⟩
          · exact ⟨none, _, trivial, rfl, rfl⟩
        obtain ⟨x, v, gx, rx, hat⟩ := key
        have tD : TupS H9 (upd H9 D (.lst (vs ++ [v]))) := TupS.mut (fun _ _ e => e) hD9 (fun _ z => nomatch z)
        exact ⟨t4, _, j, v, rfl, rfl, SqL.of h4, hat, D, vs, v, rfl, rfl, hD9, lt_size (by have := Paired.length hR; omega),
          rs ++ [x], vs ++ [v], _, rfl, upd_same, paired_app (RfAll.mono tD (RfAll.mono T59 hR)) (paired_one (rx.mono tD)),
          (by rw [List.length_append, hrl]; rfl), (fun y hy => (List.mem_append.mp hy).elim (hg y) fun z => by rw [List.mem_singleton.mp z]; exact gx), (f5.trans F59).mut nD, B9.upd nDb.1 nDb.2, by rw [upd_ne npD]; exact F59 p _ nb.1 hP5⟩
      · rintro σ H5 ⟨rs, vs, v5, rfl, hD, hR, hrl, hg, f5, B5, hP5⟩
        refine ⟨_, rfl, D, vs, rfl, .inl ⟨SqL.of hD, fun t nt => ?_⟩⟩
        have npt : p ≠ t := ne_of_none hP5 nt
        have hP6 : upd H5 t (.tup vs) p = some (.dK kvs) := by rw [upd_ne npt]; exact hP5
        refine ⟨_, rfl, _, rfl, p, _, rfl, DPut.k (k := Sum.inl (0 + (k : Int))) hP6 (lt_size (by have := hK.len; omega)), ?_⟩
        have new : valV kvs (Sum.inl (0 + (k : Int)) : L2.Key) = none := valV_none (by
          rw [hK.keys, gH.keys, List.map_map, List.mem_map]
          rintro ⟨j, hj, e⟩
          have hj := List.mem_range.mp hj
          have e : (j : Int) = 0 + (k : Int) := Sum.inl.inj e
          omega)
        rw [putK_new _ new]
        have t2 : TupS H2 H5 := TupS.of_fx f5 B2
        have t4 : TupS H5 (upd H5 t (.tup vs)) := TupS.new (fun _ _ e => e) nt
        have t5 : TupS (upd H5 t (.tup vs)) (upd (upd H5 t (.tup vs)) p (.dK (kvs ++ [(Sum.inl (0 + (k : Int)), V.ref t)]))) := TupS.mut (fun _ _ e => e) hP6 (fun _ z => nomatch z)
        refine ⟨_, hp ++ [(0 + (k : Int), rs)], _, _, _, rfl, upd_same, ?_, ⟨?_, ?_⟩, ?_, ?_, ?_⟩
        · exact paired_app (hK.mono (t2.trans (t4.trans t5))) (paired_one ⟨rfl, t, vs, rfl, t5 _ _ upd_same, RfAll.mono (t4.trans t5) hR⟩)
        · have e := gH.keys
          unfold ids at e ⊢
          rw [List.map_append, e, List.length_append, List.length_singleton, List.range_succ, List.map_append, hl]
          congr 1
          show [0 + (k : Int)] = [(k : Int)]
          rw [Int.zero_add]
        · intro e he
          rcases List.mem_append.mp he with z | z
          · exact gH.fld e z
          · rw [List.mem_singleton.mp z]
            exact ⟨by show rs.length ≤ 4; omega, hg⟩
        · rw [List.length_append, hl]; rfl
        · exact ((f2.trans f5).new nt).mut hp0
        · exact (B5.new nt).upd nb.1 nb.2
    · rintro σ H2 ⟨kvs, hp, v3, v4, v5, rfl, hP, hK, gH, hl, f2, B2⟩
      have em : m = (hp.length : Int) := by omega
      subst em
      exact ⟨_, rfl, q p kvs hp H2 hp0 hP hK gH (by omega) f2 B2⟩
end
end K2
set_option Elab.async false
set_option linter.all false
set_option maxRecDepth 100000
set_option maxHeartbeats 4000000
/-! K02b: the program's walk. -/
namespace K2
open PySem PySem.Spec PyProof.Rows L2 Gd Com
theorem V.ne_non {r : Rf} {x : V} {H : Hp} (h : RfV H (some r) x) : ∃ a, x = .ref a := by
  cases r with
  | ob i => obtain ⟨a, e, _⟩ := h; exact ⟨a, e⟩
  | im o e => obtain ⟨a, e, _⟩ := h; exact ⟨a, e⟩
section
variable {P : Program} {w : World} {K : PySem.W.Frag} {mg : Str → Option Value} {base : Heap}

/-! ### _object_ids -/
def spObjIds (K : PySem.W.Frag) : Sp := fun vs H Q _ => ∃ (a : Addr) (rs : List (Option Rf)) (xs : List V), vs = [.ref a] ∧ (SqL K H a xs ∨ SqT K H a xs) ∧ RfAll H rs xs ∧ rs.length ≤ 100 ∧
  ∀ (p : Addr) (H' : Hp), Same H H' → H p = none → H' p = some (.lst ((rs.filterMap obId).map V.int)) → Q (.ref p) H'
/-- one item of the comprehension -/
theorem one_id {K : PySem.W.Frag} {rs : List (Option Rf)} {i : Nat} {D : Addr} {H H' : Hp} {r : Option Rf} {x : V} {s0 : Option V} (nD : H D = none) (l100 : rs.length ≤ 100) (hr : rs[i]? = some r) (rx : RfV H' r x)
    (hD : H' D = some (.lst (((rs.take i).filterMap obId).map V.int))) (sm : Same H H') :
    tAnd (tB (tNotN (tVar 1))) (tTest (tOp rEq (tOp (rIxT K) (tVar 1) (tC (.int 0))) (tC (.str "object")))) [s0, some x] H' fun b H3 =>
      if b = true then (tOp (rIxT K) (tVar 1) (tC (.int 1))) [s0, some x] H3 fun y H4 => ∃ acc, H4 D = some (.lst acc) ∧ acc.length < sizeLine ∧ ((upd H4 D (.lst (acc ++ [y]))) D = some (.lst (((rs.take (i + 1)).filterMap obId).map V.int)) ∧ Same H (upd H4 D (.lst (acc ++ [y]))))
      else H3 D = some (.lst (((rs.take (i + 1)).filterMap obId).map V.int)) ∧ Same H H3 := by
  have tk := take_map obId hr
  cases r with
  | none =>
    obtain rfl : x = .non := rx
    refine ⟨_, rfl, _, rfl, ite2 (fun e => absurd e (by decide)) (fun _ => iteF ⟨?_, sm⟩)⟩
    rw [tk]
    simpa [obId] using hD
  | some r =>
    cases r with
    | im o e =>
      obtain ⟨a, rfl, ha⟩ := rx
      refine ⟨_, rfl, _, rfl, ite2 (fun _ => ?_) (fun e => absurd (show (!decide (V.ref a = V.non)) = true from rfl) e)⟩
      refine ⟨_, rfl, a, _, 0, _, rfl, rfl, SqT.of ha, atI_nat (j := 0) rfl, rfl, _, rfl, ite2 (fun e => absurd (of_decide_eq_true e) nimpob) (fun _ => ⟨?_, sm⟩)⟩
      rw [tk]
      simpa [obId] using hD
    | ob j =>
      obtain ⟨a, rfl, ha⟩ := rx
      refine ⟨_, rfl, _, rfl, ite2 (fun _ => ?_) (fun e => absurd (show (!decide (V.ref a = V.non)) = true from rfl) e)⟩
      refine ⟨_, rfl, a, _, 0, _, rfl, rfl, SqT.of ha, atI_nat (j := 0) rfl, rfl, _, rfl, ite2 (fun _ => ?_) (fun e => absurd (decide_eq_true rfl) e)⟩
      refine ⟨_, rfl, a, _, 1, _, rfl, rfl, SqT.of ha, atI_nat (j := 1) rfl, _, hD, lt_size ?_, ?_, same_mut sm nD⟩
      · have h1 := List.length_filterMap_le obId (rs.take i)
        rw [List.length_take] at h1
        rw [List.length_map]
        omega
      · rw [upd_same, tk, List.map_append]
        rfl
theorem ok_object_ids {f : Addr} {fd : FuncData} (A : All K mg) (F : Fun K "_object_ids" "_object_ids" s_object_ids f fd) : FnOk P w K mg base CX0 1 f fd ["references"] (spObjIds K) := by
  refine F.ok sc_object_ids (fun vs H Q E h => ?_) (fun cdv A' outer s0 H vs Q E hr h => ?_)
  · obtain ⟨a, rs, xs, rfl, _⟩ := h
    rfl
  · obtain ⟨a, rs, xs, rfl, hs, hR, l100, q⟩ := h
    have lr := Paired.length hR
    refine ⟨_, (pss_one (ps_ret (pe_lc (own := [("row", 1)]) rfl sc_object_ids.nd (pi_seq (pv 0)) (blkOk_by (N := ["references", "row"]) (sc := defScope s_object_ids) (by decide +kernel)) (fun _ _ _ _ _ => pg_name (i := 1) sc_object_ids.nd rfl (Or.inl rfl)) (fun _ _ _ _ _ => (pts_one (PW.pt (pw_and (pt_cmp (pc_notN (pv 1))) (pw_and1 (pt_cmpR op_eq (pe_ix (show IxR _ (rIxT K) from ix_tup) (pv 1) pe_int (fun _ _ => rfl)) pe_str (nomark _))))))) (fun _ _ _ _ _ => (pe_ix (show IxR _ (rIxT K) from ix_tup) (pv 1) pe_int (fun _ _ => rfl)))))), ?_⟩
    refine ⟨_, rfl, a, rfl, ?_⟩
    rcases hs with hs | hs
    · refine .inl ⟨xs, hs, fun D nD => ?_⟩
      refine lc_list (K := K) (a := a) (xs := xs) (fun i H' => H' D = some (.lst (((rs.take i).filterMap obId).map V.int)) ∧ Same H H') ⟨upd_same, same_new (Same.refl H) nD⟩ (fun i H' _ h => h.2.seq hs) ?_ ?_
      · rintro i x H' hi ⟨hD, sm⟩
        obtain ⟨r, hr, rx⟩ := paired_back hR hi
        exact ⟨rfl, one_id nD l100 hr (rx.mono (TupS.of_same sm)) hD sm⟩
      · rintro H' ⟨hD, sm⟩
        rw [← lr, List.take_length] at hD
        exact q D H' sm nD hD
    · refine .inr ⟨xs, hs, fun D nD => ?_⟩
      have keep : ∀ H', Same H H' → SqT K H' a xs := fun H' s => Evl.ex_t s hs
      refine lc_tup (K := K) (a := a) (xs := xs) (fun i H' => H' D = some (.lst (((rs.take i).filterMap obId).map V.int)) ∧ Same H H') ⟨upd_same, same_new (Same.refl H) nD⟩ (fun i H' _ h => keep H' h.2) ?_ ?_
      · rintro i x H' hi ⟨hD, sm⟩
        obtain ⟨r, hr, rx⟩ := paired_back hR hi
        exact ⟨rfl, one_id nD l100 hr (rx.mono (TupS.of_same sm)) hD sm⟩
      · rintro H' ⟨hD, sm⟩
        rw [← lr, List.take_length] at hD
        exact q D H' sm nD hD

/-! ### _path_to -/
inductive Ch (bk : List (L2.Key × V)) : List Int → Prop
  | one {v : Int} : valV bk (Sum.inl v) = some .non → Ch bk [v]
  | snoc {p : List Int} {u v : Int} : Ch bk (p ++ [u]) → valV bk (Sum.inl v) = some (.int u) → Ch bk (p ++ [u] ++ [v])
def spPathTo : Sp := fun vs H Q _ => ∃ (b : Addr) (bk : List (L2.Key × V)) (p : List Int) (v : Int), vs = [.ref b, .int v] ∧ H b = some (.dK bk) ∧ Ch bk (p ++ [v]) ∧ p.length ≤ 100 ∧
  ∀ (l : Addr) (H' : Hp), Same H H' → H l = none → H' l = some (.lst ((p ++ [v]).map V.int)) → Q (.ref l) H'
theorem ch_last {bk : List (L2.Key × V)} {p : List Int} {v : Int} (h : Ch bk (p ++ [v])) : (p = [] ∧ valV bk (Sum.inl v) = some .non) ∨ ∃ p' u, p = p' ++ [u] ∧ Ch bk (p' ++ [u]) ∧ valV bk (Sum.inl v) = some (.int u) := by
  generalize e : p ++ [v] = q at h
  cases h with
  | one h =>
    have e1 : p = [] := by
      cases p with
      | nil => rfl
      | cons x p => simp at e
    subst e1
    simp at e
    subst e
    exact .inl ⟨rfl, h⟩
  | @snoc p' u w h hv =>
    have := List.append_inj' e rfl
    obtain ⟨e1, e2⟩ := this
    simp at e2
    subst e2
    exact .inr ⟨p', u, e1, h, hv⟩
theorem ok_path_to {f : Addr} {fd : FuncData} (A : All K mg) (F : Fun K "_path_to" "_path_to" s_path_to f fd) : FnOk P w K mg base CX0 1 f fd ["before", "last"] spPathTo := by
  refine F.ok sc_path_to (fun vs H Q E h => ?_) (fun cdv A' outer s0 H vs Q E hr h => ?_)
  · obtain ⟨b, bk, p, v, rfl, _⟩ := h
    rfl
  · obtain ⟨b, bk, p, v, rfl, hb, hc, l100, q⟩ := h
    have hu := hu_of hr
    refine ⟨_, (pss_cons (ps_set (i := 2) sc_path_to.nd rfl (.inl rfl) (pe_lst (pa_cons (pv 1) pa_nil)))
(pss_cons (ps_while PassesOwn.never (pt_cmp (pc_notN (pe_dget hu (pv 0) (pe_ix ix_list (pv 2) (pe_un un_neg pe_int) (fun _ _ => rfl)) (fun _ _ => rfl))))
(pss_one (ps_expr (pe_bm PySem.F.plainAttrs_list PySem.F.slot_list_append PySem.F.type_list_append mt_append (pv 2) (pa_cons (pe_dget hu (pv 0) (pe_ix ix_list (pv 2) (pe_un un_neg pe_int) (fun _ _ => rfl)) (fun _ _ => rfl)) pa_nil)))))
(pss_one (ps_ret (pe_revL (pv 2)))))), ?_⟩
    refine ⟨_, rfl, (by show 1 ≤ sizeLine; decide), fun l nl => ?_⟩
    let W : Nat → L2.St → Hp → Prop := fun m σ H' => ∃ (p1 : List Int) (x : Int) (p2 : List Int), σ = [some (.ref b), some (.int v), some (.ref l)] ∧ p1 ++ [x] ++ p2 = p ++ [v] ∧ Ch bk (p1 ++ [x]) ∧ H' l = some (.lst ((x :: p2).reverse.map V.int)) ∧ Same H H' ∧ m = p1.length
    refine ⟨W, ⟨p.length, p, v, [], rfl, by simp, hc, by rw [upd_same]; rfl, same_new (Same.refl H) nl, rfl⟩, ?_⟩
    rintro m σ H1 ⟨p1, x, p2, rfl, ep, hx, hl, sm, rfl⟩
    have hlen : p1.length + 1 + p2.length = p.length + 1 := by
      have := congrArg List.length ep
      simp at this
      omega
    have hl' : H1 l = some (.lst (p2.reverse.map V.int ++ [V.int x])) := by
      rw [hl, List.reverse_cons, List.map_append]
      rfl
    have hb1 := sm _ _ hb
    rcases ch_last hx with ⟨e0, hv⟩ | ⟨p', u, e0, hx', hv⟩
    · refine ⟨_, rfl, _, rfl, 1, rfl, l, _, -1, .int x, rfl, rfl, SqL.of hl', atI_last _ _, b, .non, rfl, (by rw [← hv]; exact DGet.k (k := Sum.inl x) hb1), _, rfl, ite2 (fun e => absurd e (by decide)) (fun _ => ?_)⟩
      subst e0
      refine ⟨_, rfl, l, _, rfl, SqL.of hl, fun r nr => ?_⟩
      refine q r _ (same_new sm nr) (sm.free nr) ?_
      rw [upd_same, ← List.map_reverse, List.reverse_reverse]
      have : x :: p2 = p ++ [v] := by rw [← ep]; rfl
      rw [this]
    · have dg : DGet H1 b (.int x) (some (.int u)) := by
        rw [← hv]
        exact DGet.k (k := Sum.inl x) hb1
      refine ⟨_, rfl, _, rfl, 1, rfl, l, _, -1, .int x, rfl, rfl, SqL.of hl', atI_last _ _, b, .int u, rfl, dg, _, rfl, ite2 (fun _ => ?_) (fun e => absurd (show (!decide (V.int u = V.non)) = true from rfl) e)⟩
      refine ⟨fun σ' H' => ∃ m', m' < p1.length ∧ W m' σ' H', fun _ _ h => h, ?_⟩
      refine ⟨_, rfl, .inl ⟨rfl, _, SqL.of hl'⟩, _, rfl, _, rfl, 1, rfl, l, _, -1, .int x, rfl, rfl, SqL.of hl', atI_last _ _, b, .int u, rfl, dg, l, _, _, rfl, rfl, hl', lt_size ?_, ?_⟩
      · rw [List.length_append, List.length_map, List.length_reverse, List.length_singleton]
        omega
      · refine ⟨p'.length, ?_, p', u, x :: p2, rfl, ?_, hx', ?_, same_mut sm nl, rfl⟩
        · rw [e0, List.length_append, List.length_singleton]; omega
        · rw [← ep, e0]
          simp
        · rw [upd_same, List.reverse_cons, List.reverse_cons, List.map_append, List.map_append]
          rfl

/-! ### least_path -/
/-- what stands at a key of before -/
def bval (p : List Int) : V := match p.dropLast.getLast? with
  | none => .non
  | some u => .int u
def enc (qs : List (Int × List Int)) : List (L2.Key × V) := qs.map fun x => (Sum.inl x.1, bval x.2)
theorem enc_has {qs : List (Int × List Int)} (v : Int) : (valV (enc qs) (Sum.inl v)).isSome = decide (v ∈ qs.map (·.1)) := by
  rw [← valV_any]
  by_cases h : v ∈ qs.map (·.1)
  · rw [decide_eq_true h, List.any_eq_true]
    obtain ⟨x, hx, e⟩ := List.mem_map.mp h
    exact ⟨_, List.mem_map.mpr ⟨x, hx, rfl⟩, decide_eq_true (by rw [e])⟩
  · rw [decide_eq_false h, List.any_eq_false]
    intro p hp e
    obtain ⟨x, hx, rfl⟩ := List.mem_map.mp hp
    exact h (List.mem_map.mpr ⟨x, hx, Sum.inl.inj (of_decide_eq_true e)⟩)
theorem enc_get : ∀ {qs : List (Int × List Int)} {x : Int × List Int}, (qs.map (·.1)).Nodup → x ∈ qs → valV (enc qs) (Sum.inl x.1) = some (bval x.2)
  | y :: qs, x, nd, h => by
    have n1 := List.nodup_cons.mp nd
    rcases List.mem_cons.mp h with e | e
    · subst e
      exact valV_pos rfl
    · have ne : ¬ ((Sum.inl y.1 : L2.Key) = Sum.inl x.1) := fun z => n1.1 (by show y.1 ∈ _; rw [Sum.inl.inj z]; exact List.mem_map.mpr ⟨x, e, rfl⟩)
      show valV ((Sum.inl y.1, bval y.2) :: enc qs) _ = _
      rw [valV_neg ne]
      exact enc_get n1.2 e
/-- each has a start or another one ahead of it -/
def CC (qs : List (Int × List Int)) : Prop := ∀ x ∈ qs, x.2 = [x.1] ∨ ∃ y ∈ qs, x.2 = y.2 ++ [x.1]
theorem cc_ch {S : List Int} {adj : Int → List Int} {B : Int} {qs : List (Int × List Int)} (nd : (qs.map (·.1)).Nodup) (le : ∀ x ∈ qs, Least S adj B x.1 x.2) (c : CC qs) : ∀ (n : Nat) (x : Int × List Int), x ∈ qs → x.2.length ≤ n → Ch (enc qs) x.2
  | 0, x, hx, h => by
    have := (le x hx).1.pos
    omega
  | n + 1, x, hx, h => by
    have g := enc_get nd hx
    rcases c x hx with e | ⟨y, hy, e⟩
    · rw [e] at g ⊢
      exact .one g
    · have ly := least_ne (le y hy)
      have ih := cc_ch nd le c n y hy (by rw [e, List.length_append, List.length_singleton] at h; omega)
      rw [e] at g ⊢
      rw [ly] at ih g ⊢
      refine .snoc ih ?_
      rw [g]
      unfold bval
      rw [List.dropLast_concat]
      simp
theorem CC.add {qs : List (Int × List Int)} (c : CC qs) {v : Int} {p : List Int} (h : p = [v] ∨ ∃ y ∈ qs, p = y.2 ++ [v]) : CC (qs ++ [(v, p)]) := by
  intro x hx
  rcases List.mem_append.mp hx with z | z
  · exact (c x z).imp id fun ⟨y, hy, e⟩ => ⟨y, List.mem_append_left _ hy, e⟩
  · rw [List.mem_singleton.mp z]
    exact h.imp id fun ⟨y, hy, e⟩ => ⟨y, List.mem_append_left _ hy, e⟩
theorem enc_snoc (qs : List (Int × List Int)) (v : Int) (p : List Int) : enc (qs ++ [(v, p)]) = enc qs ++ [(Sum.inl v, bval p)] := by
  unfold enc
  rw [List.map_append]
  rfl
theorem qs_len {S : List Int} {adj : Int → List Int} {qs : List (Int × List Int)} (G : Gr S adj 16) (nd : (qs.map (·.1)).Nodup) (le : ∀ x ∈ qs, Least S adj 16 x.1 x.2) : qs.length ≤ 16 := by
  have := nodup_le 16 (qs.map (·.1)) nd fun x hx => by
    obtain ⟨y, hy, rfl⟩ := List.mem_map.mp hx
    exact (le y hy).1.to_bd G
  rwa [List.length_map] at this
/-- the dict of what follows -/
def Fol (H : Hp) (fk : List (L2.Key × V)) (nodes : List Int) (adj : Int → List Int) : Prop := ∀ u ∈ nodes, ∃ t, valV fk (Sum.inl u) = some (.ref t) ∧ H t = some (.lst ((adj u).map V.int))
structure LGiven (H : Hp) (fo : Addr) (fk : List (L2.Key × V)) (nodes : List Int) (adj : Int → List Int) (s : Addr) (S : List Int) (e : Addr) (g : Int) : Prop where
  fo : H fo = some (.dK fk)
  fol : Fol H fk nodes adj
  s : H s = some (.lst (S.map V.int))
  e : H e = some (.lst [.int g])
  gr : Gr S adj 16
  in_ : ∀ p v, PathTo S adj p v → v ∈ nodes
def spLeast : Sp := fun vs H Q _ => ∃ (fo : Addr) (fk : List (L2.Key × V)) (nodes : List Int) (adj : Int → List Int) (s : Addr) (S : List Int) (e : Addr) (g : Int), vs = [.ref fo, .ref s, .ref e] ∧ LGiven H fo fk nodes adj s S e g ∧
  (∀ (p : List Int) (l : Addr) (H' : Hp), Same H H' → H l = none → H' l = some (.lst (p.map V.int)) → Least S adj 16 g p → Q (.ref l) H') ∧ (∀ H', Same H H' → (∀ p, ¬ PathTo S adj p g) → Q .non H')
theorem ok_least_path {f : Addr} {fd : FuncData} (A : All K mg) (F : Fun K "least_path" "least_path" s_least_path f fd) : FnOk P w K mg base CX0 2 f fd ["following", "starts", "ends"] spLeast := by
  obtain ⟨f_path_to, fd_path_to, F_path_to, g_path_to, b_path_to⟩ := A.path_to
  have G_path_to := ok_path_to (P := P) (w := w) (base := base) A F_path_to
  refine F.ok sc_least_path (fun vs H Q E h => ?_) (fun cdv A' outer s0 H vs Q E hr h => ?_)
  · obtain ⟨fo, fk, nodes, adj, s, S, e, g, rfl, _⟩ := h
    rfl
  · obtain ⟨fo, fk, nodes, adj, s, S, e, g, rfl, G, qS, qN⟩ := h
    have hu := hu_of hr
    refine ⟨_, (pss_cons (ps_set (i := 3) sc_least_path.nd rfl (.inl rfl) pe_dnewK)
(pss_cons (ps_set (i := 4) sc_least_path.nd rfl (.inl rfl) (pe_lst pa_nil))
(pss_cons (ps_for PassesOwn.never rfl (pi_list (pe_callB cr_sortedI (by rfl) A.sorted (by decide +kernel) (pa_cons (pv 1) pa_nil))) (pg_name (i := 5) sc_least_path.nd rfl (.inl rfl))
(pss_one (ps_if (pt_cmp (pc_dnotin hu (pv 5) (pv 3)))
(pss_cons (ps_dput hu (pv 3) (pv 5) pe_non rfl)
(pss_one (ps_expr (pe_bm PySem.F.plainAttrs_list PySem.F.slot_list_append PySem.F.type_list_append mt_append (pv 4) (pa_cons (pv 5) pa_nil)))))
pss_nil)))
(pss_cons (ps_set (i := 6) sc_least_path.nd rfl (.inl rfl) pe_int)
(pss_cons (ps_while PassesOwn.never (pt_cmpR op_lt (pv 6) (pe_callB call_len_seq (by rfl) A.len PySem.boot_len (pa_cons (pv 4) pa_nil)) (nomark _))
(pss_cons (ps_set (i := 7) sc_least_path.nd rfl (.inl rfl) (pe_ix ix_list (pv 4) (pv 6) (fun _ _ => rfl)))
(pss_cons (ps_if (pt_cmpR op_in_seq (pv 7) (pv 2) (by rfl))
(pss_one (ps_ret (pe_call G_path_to (hr.mono (by decide)) (by rfl) g_path_to F_path_to.kp b_path_to .nil pass0 (pa_cons (pv 3) (pa_cons (pv 7) pa_nil)))))
pss_nil)
(pss_cons (ps_for PassesOwn.never rfl (pi_list (pe_callB cr_sortedI (by rfl) A.sorted (by decide +kernel) (pa_cons (pe_dget hu (pv 0) (pv 7) (fun _ _ => rfl)) pa_nil))) (pg_name (i := 5) sc_least_path.nd rfl (.inl rfl))
(pss_one (ps_if (pt_cmp (pc_dnotin hu (pv 5) (pv 3)))
(pss_cons (ps_dput hu (pv 3) (pv 5) (pv 7) rfl)
(pss_one (ps_expr (pe_bm PySem.F.plainAttrs_list PySem.F.slot_list_append PySem.F.type_list_append mt_append (pv 4) (pa_cons (pv 5) pa_nil)))))
pss_nil)))
(pss_one (ps_aug (i := 6) sc_least_path.nd rfl (.inl rfl) pe_int ip_add))))))
(pss_one (ps_ret pe_non))))))), ?_⟩
    intro b nb
    refine ⟨Nat.zero_le _, fun l nl => ?_⟩
    let H1 := upd (upd H b (.dK [])) l (.lst [])
    have nbl : b ≠ l := ne_of_none upd_same nl
    have s0' : Same H (upd H b (.dK [])) := same_new (Same.refl H) nb
    have nl0 : H l = none := s0'.free nl
    have s1 : Same H H1 := same_new s0' nl
    have hb1 : H1 b = some (.dK []) := (upd_ne nbl).trans upd_same
    -- for key in sorted(starts)
    refine ⟨_, rfl, s, S, rfl, SqL.of (s1 _ _ G.s), fun ys ya pm pw nya => ⟨ya, rfl, ⟨_, SqL.of upd_same⟩, ?_⟩⟩
    let H2 := upd H1 ya (.lst (ys.map V.int))
    have s2 : Same H H2 := same_new s1 nya
    have nya0 : H ya = none := s1.free nya
    have nbya : b ≠ ya := ne_of_none hb1 nya
    have nlya : l ≠ ya := ne_of_none upd_same nya
    have hya : H2 ya = some (.lst (ys.map V.int)) := upd_same
    refine for_list (K := K) (a := ya) (xs := ys.map V.int) (fun j σ H' => ∃ (qs : List (Int × List Int)) (v5 v6 v7 : Option V), σ = [some (.ref fo), some (.ref s), some (.ref e), some (.ref b), some (.ref l), v5, v6, v7] ∧ BSt S adj 16 ys j qs ∧ CC qs ∧
        H' b = some (.dK (enc qs)) ∧ H' l = some (.lst ((qs.map (·.1)).map V.int)) ∧ H' ya = some (.lst (ys.map V.int)) ∧ Same H H') ?_ ?_ ?_ ?_
    · exact ⟨[], _, _, _, rfl, .init, fun _ h => (nomatch h), (upd_ne nbya).trans hb1, (upd_ne nlya).trans upd_same, hya, s2⟩
    · rintro j σ H' _ ⟨_, _, _, _, _, _, _, _, _, hy, _⟩
      exact SqL.of hy
    · rintro j x σ H' hj ⟨qs, v5, v6, v7, rfl, I, cc, hb, hl, hy, sm⟩
      rw [List.getElem?_map] at hj
      obtain ⟨v, hv, rfl⟩ : ∃ v, ys[j]? = some v ∧ x = V.int v := by
        cases e : ys[j]? with
        | none => rw [e] at hj; cases hj
        | some v => rw [e] at hj; exact ⟨v, rfl, (Option.some.inj hj).symm⟩
      refine ⟨_, rfl, _, rfl, b, _, rfl, DGet.k (k := Sum.inl v) hb, _, rfl, ?_⟩
      rw [enc_has]
      by_cases m : v ∈ qs.map (·.1)
      · exact ite2 (fun e => absurd e (by rw [decide_eq_true m]; decide)) (fun _ => ⟨qs, _, _, _, rfl, I.skip hv m, cc, hb, hl, hy, sm⟩)
      · refine ite2 (fun _ => ?_) (fun e => absurd (show (!decide (v ∈ qs.map (·.1))) = true by rw [decide_eq_false m]; rfl) e)
        have I2 := I.add pw (fun y hy => pm.mem_iff.mp hy) hv m
        have l16 : qs.length ≤ 16 := by
          have := nodup_le 16 (qs.map (·.1)) I.nd fun x hx => by
            obtain ⟨y, hy, rfl⟩ := List.mem_map.mp hx
            exact G.gr.s _ (I.is y hy).2.1
          rwa [List.length_map] at this
        have new : valV (enc qs) (Sum.inl v) = none := by
          have := enc_has (qs := qs) v
          rw [decide_eq_false m] at this
          cases e : valV (enc qs) (Sum.inl v) with
          | none => rfl
          | some _ => rw [e] at this; cases this
        refine ⟨_, rfl, _, rfl, b, _, rfl, DPut.k (k := Sum.inl v) hb (lt_size (by unfold enc; rw [List.length_map]; omega)), ?_⟩
        rw [putK_new _ new]
        have hl3 : upd H' b (.dK (enc qs ++ [(Sum.inl v, V.non)])) l = some (.lst ((qs.map (·.1)).map V.int)) := (upd_ne nbl.symm).trans hl
        refine ⟨_, rfl, .inl ⟨rfl, _, SqL.of hl3⟩, _, rfl, l, _, _, rfl, rfl, hl3, lt_size (by rw [List.length_map, List.length_map]; omega), ?_⟩
        refine ⟨qs ++ [(v, [v])], _, _, _, rfl, I2, cc.add (.inl rfl), ?_, ?_, ?_, same_mut (same_mut sm nb) nl0⟩
        · rw [upd_ne nbl, upd_same, enc_snoc]
          rfl
        · rw [upd_same, List.map_append, List.map_append]
          rfl
        · rw [upd_ne nlya.symm, upd_ne nbya.symm]
          exact hy
    · rintro σ H' ⟨qs, v5, v6, v7, rfl, I, cc, hb, hl, hy, sm⟩
      have O : BOut S adj 16 0 qs := by
        have I' := I
        rw [List.length_map] at I'
        exact I'.leave fun x hx => pm.mem_iff.mpr hx
      -- at = 0; while at < len(queue)
      let W : Nat → L2.St → Hp → Prop := fun m σ H' => ∃ (k : Nat) (qs : List (Int × List Int)) (v5 v7 : Option V), σ = [some (.ref fo), some (.ref s), some (.ref e), some (.ref b), some (.ref l), v5, some (.int (k : Int)), v7] ∧ BOut S adj 16 k qs ∧ CC qs ∧ k ≤ qs.length ∧ m + k = 16 ∧
          (∀ (i : Nat) (x : Int × List Int), i < k → qs[i]? = some x → x.1 ≠ g) ∧ H' b = some (.dK (enc qs)) ∧ H' l = some (.lst ((qs.map (·.1)).map V.int)) ∧ Same H H'
      refine ⟨W, ⟨16, 0, qs, _, _, rfl, O, cc, Nat.zero_le _, rfl, fun i x l => absurd l (Nat.not_lt_zero i), hb, hl, sm⟩, ?_⟩
      rintro m σ H3 ⟨k, qs, v5, v7, rfl, O, cc, kl, em, no, hb, hl, sm⟩
      have l16 := qs_len G.gr O.b.nd O.b.least
      refine ⟨_, rfl, _, rfl, l, _, rfl, .inl (SqL.of hl), _, _, rfl, rfl, _, rfl, ite2 (fun z => ?_) (fun z => ?_)⟩
      · have lt : k < qs.length := by
          have := of_decide_eq_true z
          rw [List.length_map, List.length_map] at this
          omega
        have gk : qs[k]? = some qs[k] := List.getElem?_eq_getElem lt
        have gl : ((qs.map (·.1)).map V.int)[k]? = some (.int qs[k].1) := by
          rw [List.getElem?_map, List.getElem?_map, gk]
          rfl
        have mk : qs[k] ∈ qs := List.getElem_mem lt
        have lk := O.b.least _ mk
        refine ⟨fun σ' H' => ∃ m', m' < m ∧ W m' σ' H', fun _ _ h => h, ?_⟩
        refine ⟨_, rfl, _, rfl, l, _, _, _, rfl, rfl, SqL.of hl, atI_nat gl, ?_⟩
        refine ⟨_, rfl, _, rfl, e, _, rfl, .inl (SqL.of (sm _ _ G.e)), rfl, rfl, _, rfl, ?_⟩
        have ein : inV (.int qs[k].1) [V.int g] = decide (g = qs[k].1) := by
          unfold inV
          rw [List.any_cons, List.any_nil, Bool.or_false]
          show eqV (.int g) (.int qs[k].1) = _
          first | rfl | simp [eqV]
        refine ite2 (fun z => ?_) (fun z => ?_)
        · -- return _path_to(before, here)
          have eg : g = qs[k].1 := by
            have z' : inV (.int qs[k].1) [V.int g] = true := z
            rw [ein] at z'
            exact of_decide_eq_true z'
          have ch := cc_ch O.b.nd O.b.least cc _ _ mk (Nat.le_refl _)
          have ln := least_ne lk
          rw [ln] at ch
          refine ⟨_, rfl, _, rfl, b, enc qs, qs[k].2.dropLast, qs[k].1, rfl, hb, ch, ?_, fun r H4 s4 nr hr4 => ?_⟩
          · obtain ⟨q', h1, h2⟩ := lk.1.short (n := 16) G.gr fun u v h => h.to_bd G.gr
            have := lk.2 q' h1
            unfold sl at this
            rw [List.length_dropLast]
            omega
          · rw [← ln] at hr4
            exact qS qs[k].2 r H4 (sm.trans s4) (sm.free nr) hr4 (by rw [eg]; exact lk)
        · have ng : qs[k].1 ≠ g := fun e => z (by
            show inV (.int qs[k].1) [V.int g] = true
            rw [ein]
            exact decide_eq_true e.symm)
          -- for key in sorted(following[here])
          obtain ⟨t, hv, ht⟩ := G.fol qs[k].1 (G.in_ _ _ lk.1)
          have hfo := sm _ _ G.fo
          refine ⟨_, rfl, _, rfl, fo, _, rfl, (by rw [← hv]; exact DGet.k (k := Sum.inl qs[k].1) hfo), t, adj qs[k].1, rfl, SqL.of (sm _ _ ht), fun zs za pmz pwz nza => ⟨za, rfl, ⟨_, SqL.of upd_same⟩, ?_⟩⟩
          have nza0 : H za = none := sm.free nza
          have nbza : b ≠ za := ne_of_none hb nza
          have nlza : l ≠ za := ne_of_none hl nza
          refine for_list (K := K) (a := za) (xs := zs.map V.int) (fun j σ H' => ∃ (rs : List (Int × List Int)) (v5 : Option V), σ = [some (.ref fo), some (.ref s), some (.ref e), some (.ref b), some (.ref l), v5, some (.int (k : Int)), some (.int qs[k].1)] ∧ BIn S adj 16 k qs[k] zs j rs ∧ CC rs ∧
              (∀ (i : Nat) (x : Int × List Int), i < k → rs[i]? = some x → x.1 ≠ g) ∧ H' b = some (.dK (enc rs)) ∧ H' l = some (.lst ((rs.map (·.1)).map V.int)) ∧ H' za = some (.lst (zs.map V.int)) ∧ Same H H') ?_ ?_ ?_ ?_
          · exact ⟨qs, _, rfl, O.enter gk zs, cc, no, (upd_ne nbza).trans hb, (upd_ne nlza).trans hl, upd_same, same_new sm nza⟩
          · rintro j σ H' _ ⟨_, _, _, _, _, _, _, _, hz, _⟩
            exact SqL.of hz
          · rintro j x σ H' hj ⟨rs, v5, rfl, I, cc, no, hb, hl, hz, sm⟩
            rw [List.getElem?_map] at hj
            obtain ⟨v, hv, rfl⟩ : ∃ v, zs[j]? = some v ∧ x = V.int v := by
              cases e : zs[j]? with
              | none => rw [e] at hj; cases hj
              | some v => rw [e] at hj; exact ⟨v, rfl, (Option.some.inj hj).symm⟩
            refine ⟨_, rfl, _, rfl, b, _, rfl, DGet.k (k := Sum.inl v) hb, _, rfl, ?_⟩
            rw [enc_has]
            by_cases m : v ∈ rs.map (·.1)
            · exact ite2 (fun e => absurd e (by rw [decide_eq_true m]; decide)) (fun _ => ⟨rs, _, rfl, I.skip hv m, cc, no, hb, hl, hz, sm⟩)
            · refine ite2 (fun _ => ?_) (fun e => absurd (show (!decide (v ∈ rs.map (·.1))) = true by rw [decide_eq_false m]; rfl) e)
              have I2 := I.add G.gr pwz (fun y hy => pmz.mem_iff.mp hy) hv m
              have l16 := qs_len G.gr I.b.nd I.b.least
              have new : valV (enc rs) (Sum.inl v) = none := by
                have := enc_has (qs := rs) v
                rw [decide_eq_false m] at this
                cases e : valV (enc rs) (Sum.inl v) with
                | none => rfl
                | some _ => rw [e] at this; cases this
              refine ⟨_, rfl, _, rfl, _, rfl, b, _, rfl, DPut.k (k := Sum.inl v) hb (lt_size (by unfold enc; rw [List.length_map]; omega)), ?_⟩
              rw [putK_new _ new]
              have hl3 : upd H' b (.dK (enc rs ++ [(Sum.inl v, V.int qs[k].1)])) l = some (.lst ((rs.map (·.1)).map V.int)) := (upd_ne nbl.symm).trans hl
              refine ⟨_, rfl, .inl ⟨rfl, _, SqL.of hl3⟩, _, rfl, l, _, _, rfl, rfl, hl3, lt_size (by rw [List.length_map, List.length_map]; omega), ?_⟩
              have mk2 : qs[k] ∈ rs := List.mem_of_getElem? I.hk
              have kl2 : k < rs.length := (List.getElem?_eq_some_iff.mp I.hk).1
              refine ⟨rs ++ [(v, qs[k].2 ++ [v])], _, rfl, I2, cc.add (.inr ⟨_, mk2, rfl⟩), fun i x li hx => ?_, ?_, ?_, ?_, same_mut (same_mut sm nb) nl0⟩
              · rw [List.getElem?_append_left (by omega)] at hx
                exact no i x li hx
              · have bv : bval (qs[k].2 ++ [v]) = .int qs[k].1 := by
                  unfold bval
                  rw [List.dropLast_concat, lk.1.last]
                rw [upd_ne nbl, upd_same, enc_snoc, bv]
              · rw [upd_same, List.map_append, List.map_append]
                rfl
              · rw [upd_ne nlza.symm, upd_ne nbza.symm]
                exact hz
          · rintro σ H' ⟨rs, v5, rfl, I, cc, no, hb, hl, hz, sm⟩
            have I' := I
            rw [List.length_map] at I'
            have O' := I'.leave fun v hv => pmz.mem_iff.mpr hv
            have kl2 : k < rs.length := (List.getElem?_eq_some_iff.mp I.hk).1
            have l16 := qs_len G.gr I.b.nd I.b.least
            refine ⟨_, rfl, _, _, rfl, rfl, m - 1, by omega, k + 1, rs, _, _, rfl, O', cc, kl2, by omega, fun i x li hx => ?_, hb, hl, sm⟩
            rcases Nat.lt_or_eq_of_le (Nat.lt_succ_iff.mp li) with li | li
            · exact no i x li hx
            · subst li
              rw [I.hk] at hx
              rw [← Option.some.inj hx]
              exact ng
      · have ek : k = qs.length := by
          have h1 : ¬ (k : Int) < ((((qs.map (·.1)).map V.int).length : Nat) : Int) := fun h => z (decide_eq_true h)
          rw [List.length_map, List.length_map] at h1
          omega
        refine qN H3 sm fun p hp => ?_
        rw [ek] at O no
        refine O.none (g := g) (fun x hx => ?_) hp
        obtain ⟨i, hi⟩ := List.mem_iff_getElem?.mp hx
        exact no i x (List.getElem?_eq_some_iff.mp hi).1 hi

/-! ### shortest_path -/
structure Given (H : Hp) (p : Addr) (kvs : List (L2.Key × V)) (hp : List (Int × List (Option Rf))) (s : Addr) (svs : List V) (st : List (Option Rf)) : Prop where
  atP : H p = some (.dK kvs)
  hk : HKv H kvs hp
  hs : H s = some (.lst svs)
  hst : RfAll H st svs
  gh : GoodHeap hp.length hp
  l8 : hp.length ≤ 8
  gs : ∀ r ∈ st, Good hp.length r
  s4 : st.length ≤ 4
def starts (st : List (Option Rf)) : List Int := st.filterMap obId
theorem Given.in_ {H : Hp} {p : Addr} {kvs : List (L2.Key × V)} {hp : List (Int × List (Option Rf))} {s : Addr} {svs : List V} {st : List (Option Rf)} (G : Given H p kvs hp s svs st) {q : List Int} {v : Int} (h : PathTo (starts st) (adj hp) q v) : 0 ≤ v ∧ v < hp.length := by
  cases h with
  | one h =>
    obtain ⟨r, hr, e⟩ := List.mem_filterMap.mp h
    have := G.gs r hr
    rcases r with _ | ⟨i⟩ | ⟨o, e'⟩
    · simp [obId] at e
    · simp [obId] at e
      subst e
      exact this
    · simp [obId] at e
  | snoc h hv => exact adj_bd G.gh hv
theorem Given.gr {H : Hp} {p : Addr} {kvs : List (L2.Key × V)} {hp : List (Int × List (Option Rf))} {s : Addr} {svs : List V} {st : List (Option Rf)} (G : Given H p kvs hp s svs st) : Gr (starts st) (adj hp) 16 := by
  have l8 := G.l8
  refine ⟨by decide, fun x hx => ?_, fun u v hv => ?_⟩
  · have := G.in_ (.one hx)
    omega
  · have := adj_bd G.gh hv
    omega
theorem Given.mono {H H' : Hp} {p : Addr} {kvs : List (L2.Key × V)} {hp : List (Int × List (Option Rf))} {s : Addr} {svs : List V} {st : List (Option Rf)} (G : Given H p kvs hp s svs st) (sm : Same H H') : Given H' p kvs hp s svs st :=
  ⟨sm _ _ G.atP, G.hk.mono (TupS.of_same sm), sm _ _ G.hs, RfAll.mono (TupS.of_same sm) G.hst, G.gh, G.l8, G.gs, G.s4⟩
def FKv (H : Hp) : List (L2.Key × V) → List (Int × List (Option Rf)) → Prop := Paired fun kv e => kv.1 = Sum.inl e.1 ∧ ∃ t, kv.2 = .ref t ∧ H t = some (.lst ((e.2.filterMap obId).map V.int))
theorem FKv.keys {H : Hp} : ∀ {kvs : List (L2.Key × V)} {hp : List (Int × List (Option Rf))}, FKv H kvs hp → kvs.map (·.1) = (ids hp).map Sum.inl
  | _, _, .nil => rfl
  | _, _, .cons ⟨e, _⟩ t => congr (congrArg List.cons e) (FKv.keys t)
theorem FKv.mono {H H' : Hp} (s : ∀ t xs, H t = some (.lst xs) → H' t = some (.lst xs)) {kvs : List (L2.Key × V)} {hp : List (Int × List (Option Rf))} (h : FKv H kvs hp) : FKv H' kvs hp :=
  Paired.mapP h fun _ _ ⟨e, t, e2, ht⟩ => ⟨e, t, e2, s _ _ ht⟩
theorem FKv.get {H : Hp} {i : Int} : ∀ {kvs : List (L2.Key × V)} {hp : List (Int × List (Option Rf))}, FKv H kvs hp → i ∈ ids hp → ∃ t, valV kvs (Sum.inl i) = some (.ref t) ∧ H t = some (.lst ((adj hp i).map V.int))
  | _, _, .nil, h => nomatch h
  | _, _, .cons (a := kv) (b := e) (l₁ := kvs) (l₂ := hp) ⟨e1, t, e2, ht⟩ rest, h => by
    by_cases q : e.1 = i
    · refine ⟨t, ?_, ?_⟩
      · rw [valV_pos (by rw [e1, q]), e2]
      · unfold adj look
        rw [List.find?_cons_of_pos (by simp [q])]
        exact ht
    · have hi : i ∈ ids hp := by
        rcases List.mem_cons.mp h with z | z
        · exact (q z.symm).elim
        · exact z
      obtain ⟨t', a1, a2⟩ := FKv.get rest hi
      refine ⟨t', ?_, ?_⟩
      · rw [valV_neg (by rw [e1]; exact fun z => q (Sum.inl.inj z))]
        exact a1
      · unfold adj look
        rw [List.find?_cons_of_neg (by simp [q])]
        exact a2
theorem ids_nodup {m : Int} {hp : List (Int × List (Option Rf))} (g : GoodHeap m hp) : (ids hp).Nodup := by
  rw [g.keys]
  exact List.Pairwise.map _ (fun a b h z => h (by omega)) List.nodup_range
def spShort : Sp := fun vs H Q _ => ∃ (p s : Addr) (g : Int) (kvs : List (L2.Key × V)) (hp : List (Int × List (Option Rf))) (svs : List V) (st : List (Option Rf)), vs = [.ref p, .ref s, .int g] ∧ Given H p kvs hp s svs st ∧
  (∀ (q : List Int) (l : Addr) (H' : Hp), Same H H' → H l = none → H' l = some (.lst (q.map V.int)) → Least (starts st) (adj hp) 16 g q → Q (.ref l) H') ∧ (∀ H', Same H H' → (∀ q, ¬ PathTo (starts st) (adj hp) q g) → Q .non H')
theorem ok_shortest_path {f : Addr} {fd : FuncData} (A : All K mg) (F : Fun K "shortest_path" "shortest_path" s_shortest_path f fd) : FnOk P w K mg base CX0 3 f fd ["heap", "start", "goal"] spShort := by
  obtain ⟨f_least_path, fd_least_path, F_least_path, g_least_path, b_least_path⟩ := A.least_path
  have G_least_path := ok_least_path (P := P) (w := w) (base := base) A F_least_path
  obtain ⟨f_object_ids, fd_object_ids, F_object_ids, g_object_ids, b_object_ids⟩ := A.object_ids
  have G_object_ids := ok_object_ids (P := P) (w := w) (base := base) A F_object_ids
  refine F.ok sc_shortest_path (fun vs H Q E h => ?_) (fun cdv A' outer s0 H vs Q E hr h => ?_)
  · obtain ⟨p, s, g, kvs, hp, svs, st, rfl, _⟩ := h
    rfl
  · obtain ⟨p, s, g, kvs, hp, svs, st, rfl, G, qS, qN⟩ := h
    refine ⟨_, (pss_cons (ps_lock (ps_setDc (i := 5) (own := [("key", 3), ("fields", 4)]) (tg' := gTup K 2 (gCons (gName 3) (gCons (gName 4) gNil))) (tf := tYes) rfl sc_shortest_path.nd rfl rfl (sw_trueD rfl rfl rfl (by decide +kernel)) (pi_items (pv 0)) (blkOk_by (N := ["heap", "start", "goal", "key", "fields", "following"]) (sc := defScope s_shortest_path) (by decide +kernel)) (fun _ _ _ _ _ => (pg_tup rfl (pgs_cons (pg_name (i := 3) sc_shortest_path.nd rfl (Or.inl rfl)) (pgs_cons (pg_name (i := 4) sc_shortest_path.nd rfl (Or.inl rfl)) pgs_nil)))) (fun _ _ _ _ _ => pts_nil) (fun _ _ _ _ _ => (pv 3)) (fun _ _ _ _ _ => (pe_call G_object_ids (hr.mono (by decide)) (by rfl) g_object_ids F_object_ids.kp b_object_ids .nil pass0 (pa_cons (pv 4) pa_nil)))))
(pss_one (ps_ret (pe_call G_least_path (hr.mono (by decide)) (by rfl) g_least_path F_least_path.kp b_least_path .nil pass0 (pa_cons (pv 5) (pa_cons (pe_call G_object_ids (hr.mono (by decide)) (by rfl) g_object_ids F_object_ids.kp b_object_ids .nil pass0 (pa_cons (pv 1) pa_nil)) (pa_cons (pe_lst (pa_cons (pv 2) pa_nil)) pa_nil))))))), ?_⟩
    refine ⟨p, _, G.atP, trivial, fun od => ?_⟩
    let H0 := upd H p (.frz od (.dK kvs))
    have hz : H0 p = some (.frz od (.dK kvs)) := upd_same
    have T0 : TupS H H0 := TupS.mut (fun _ _ e => e) G.atP (fun _ z => nomatch z)
    have K0 := G.hk.mono T0
    have lk := G.hk.len
    refine ⟨_, rfl, p, od, kvs, rfl, hz, fun D nD => ?_⟩
    refine dc_it walk_items (fun i H' => ∃ fk, H' D = some (.dK fk) ∧ FKv H' fk (hp.take i) ∧ Same H0 H') ?_ ?_ ?_ ?_
    · exact ⟨[], upd_same, .nil, same_new (Same.refl H0) nD⟩
    · rintro i H' _ ⟨_, _, _, sm⟩
      exact sm _ _ hz
    · rintro i x H' H'' hi ⟨fk, hD, hF, sm⟩ ⟨T, y1, y2, rfl, nT, rfl, e1, e2⟩
      have gi : kvs[i]? = some kvs[i] := List.getElem?_eq_getElem hi
      obtain ⟨e, he, ek, t, vs, ev, ht, hR⟩ := LiI.paired_get K0 gi
      have e1 : (kvs[i]?).map (fun kv => kV kv.1) = some y1 := e1
      have e2 : (kvs[i]?).map (·.2) = some y2 := e2
      rw [gi] at e1 e2
      have e1' : y1 = kV kvs[i].1 := (Option.some.inj e1).symm
      have e2' : y2 = kvs[i].2 := (Option.some.inj e2).symm
      subst e1'
      subst e2'
      refine ⟨T, _, rfl, SqT.of upd_same, rfl, _, _, rfl, _, _, rfl, rfl, rfl, ?_⟩
      have sT : Same H' (upd H' T (.tup [kV kvs[i].1, kvs[i].2])) := same_new (Same.refl H') nT
      have sm2 := sm.trans sT
      have me : e ∈ hp := List.mem_of_getElem? he
      refine ⟨_, rfl, _, rfl, t, e.2, vs, ?_, .inr (SqT.of (sm2 _ _ ht)), RfAll.mono (TupS.of_same sm2) hR, (by have := (G.gh.fld e me).1; omega), fun l H3 s3 nl hl => ?_⟩
      · rw [ev]; rfl
      · have hD3 : H3 D = some (.dK fk) := s3 _ _ (sT _ _ hD)
        have len := Paired.length hF
        rw [List.length_take] at len
        have l8 := G.l8
        refine ⟨fk, kvs[i].1, rfl, hD3, lt_size (by omega), ?_⟩
        have new : valV fk kvs[i].1 = none := valV_none (by
          rw [hF.keys, ek, List.mem_map]
          rintro ⟨u, hu, eu⟩
          have eu := Sum.inl.inj eu
          subst eu
          have h1 : ids (hp.take i) = (ids hp).take i := List.map_take ..
          rw [h1] at hu
          obtain ⟨j, hj, ej⟩ := List.mem_iff_getElem.mp hu
          rw [List.length_take] at hj
          rw [List.getElem_take] at ej
          have h2 : (ids hp)[i]? = some e.1 := by
            show (hp.map (·.1))[i]? = _
            rw [List.getElem?_map, he]
            rfl
          obtain ⟨h3, e3⟩ := List.getElem?_eq_some_iff.mp h2
          have := (List.getElem_inj (ids_nodup G.gh)).mp (ej.trans e3.symm)
          omega)
        rw [putK_new _ new]
        refine ⟨_, upd_same, ?_, same_mut (sm2.trans s3) nD⟩
        rw [List.take_add_one, he]
        have ml : ∀ t xs, H3 t = some (.lst xs) → upd H3 D (.dK (fk ++ [(kvs[i].1, V.ref l)])) t = some (.lst xs) := fun t xs h => by
          rw [upd_ne (ne_of h hD3 (fun z => nomatch z))]
          exact h
        exact paired_app (FKv.mono ml (FKv.mono (fun t xs h => s3 _ _ (sT _ _ h)) hF)) (paired_one ⟨ek, l, rfl, ml _ _ hl⟩)
    · rintro H1 ⟨fk, hD, hF, sm⟩
      rw [lk, List.take_length] at hF
      refine ⟨sm _ _ hz, ?_⟩
      let H2 := upd H1 p (.dK kvs)
      have npD : D ≠ p := ne_of hD (sm _ _ hz) (fun z => nomatch z)
      have s2 : Same H H2 := fun c o e => by
        by_cases z : c = p
        · subst z
          rw [G.atP] at e
          cases e
          exact upd_same
        · show upd H1 p (.dK kvs) c = _
          rw [upd_ne z]
          exact sm c o (by show upd H p _ c = _; rw [upd_ne z]; exact e)
      have hD2 : H2 D = some (.dK fk) := (upd_ne npD).trans hD
      have F2 : FKv H2 fk hp := FKv.mono (fun t xs h => by
        show upd H1 p (.dK kvs) t = _
        rw [upd_ne (ne_of h (sm _ _ hz) (fun z => nomatch z))]
        exact h) hF
      have G2 := G.mono s2
      refine ⟨_, rfl, _, rfl, s, st, svs, rfl, .inl (SqL.of G2.hs), G2.hst, (by have := G.s4; omega), fun a H3 s3 na ha => ?_⟩
      refine ⟨_, rfl, (by show 1 ≤ sizeLine; decide), fun e ne => ?_⟩
      let H4 := upd H3 e (.lst [.int g])
      have s34 : Same H3 H4 := same_new (Same.refl H3) ne
      have s24 : Same H2 H4 := s3.trans s34
      refine ⟨D, fk, ids hp, adj hp, a, starts st, e, g, rfl, ⟨s24 _ _ hD2, fun u hu => ?_, s34 _ _ ha, upd_same, G.gr, fun q v h => ?_⟩, fun q l H5 s5 nl hl lq => ?_, fun H5 s5 no => ?_⟩
      · obtain ⟨t, h1, h2⟩ := F2.get hu
        exact ⟨t, h1, s24 _ _ h2⟩
      · have := G.in_ h
        exact G.gh.mem this.1 this.2
      · exact qS q l H5 (s2.trans (s24.trans s5)) ((s2.trans s24).free nl) hl lq
      · exact qN H5 (s2.trans (s24.trans s5)) no
end
end K2
set_option Elab.async false
set_option linter.all false
set_option maxRecDepth 100000
set_option maxHeartbeats 8000000
/-! K02c: the law's own walk, row by row. -/
namespace K2
open PySem PySem.Spec PyProof.Rows L2 Gd Com
theorem fold_code (B : Int) : ∀ (p : List Int) (a : Int), p.foldl (fun a x => a * B + x) a = a * B ^ p.length + TS.code B p
  | [], a => by simp [TS.code]
  | d :: r, a => by
    rw [List.foldl_cons, fold_code B r, List.length_cons, Int.pow_succ]
    show (a * B + d) * B ^ r.length + TS.code B r = a * (B ^ r.length * B) + (d * B ^ r.length + TS.code B r)
    rw [Int.add_mul, Int.mul_assoc, Int.mul_comm B, Int.add_assoc]
theorem code_cd (B : Int) (p : List Int) : TS.code B p = cd B p := by
  unfold cd
  rw [fold_code, Int.zero_mul, Int.zero_add]
/-- a row of the law -/
def RwV (H : Hp) (r : List Int) (v : V) : Prop := ∃ t, v = .ref t ∧ H t = some (.tup (r.map V.int))
abbrev Rws (H : Hp) : List (List Int) → List V → Prop := Paired (RwV H)
theorem RwV.mono {H H' : Hp} (s : TupS H H') {r : List Int} {v : V} (h : RwV H r v) : RwV H' r v :=
  let ⟨t, e, ht⟩ := h
  ⟨t, e, s _ _ ht⟩
theorem Rws.mono {H H' : Hp} (s : TupS H H') {rs : List (List Int)} {vs : List V} (h : Rws H rs vs) : Rws H' rs vs := Paired.mapP h fun _ _ x => x.mono s
theorem paired_perm {α β : Type} {F : α → β → Prop} {ys xs : List β} (h : ys.Perm xs) : ∀ {rs : List α}, Paired F rs xs → ∃ rs' : List α, rs'.Perm rs ∧ Paired F rs' ys := by
  induction h with
  | nil => exact fun {rs} h => ⟨rs, .refl _, h⟩
  | cons x _ ih =>
    intro rs h
    cases h with
    | cons r t =>
      obtain ⟨rs', p, h'⟩ := ih t
      exact ⟨_ :: rs', p.cons _, .cons r h'⟩
  | swap x y l =>
    intro rs h
    cases h with
    | cons r1 t =>
      cases t with
      | cons r2 t => exact ⟨_, .swap _ _ _, .cons r2 (.cons r1 t)⟩
  | trans _ _ ih1 ih2 =>
    intro rs h
    obtain ⟨r2, p2, h2⟩ := ih2 h
    obtain ⟨r1, p1, h1⟩ := ih1 h2
    exact ⟨r1, p1.trans p2, h1⟩
theorem sorted_rows {K : PySem.W.Frag} {H : Hp} {rs : List (List Int)} {xs ys : List V} (h : Rws H rs xs) (pm : ys.Perm xs) (pw : ys.Pairwise (fun x y => ∀ n m, TupI K H x n → TupI K H y m → TS.code 16 n ≤ TS.code 16 m)) :
    ∃ rs', rs'.Perm rs ∧ Rws H rs' ys ∧ rs'.Pairwise fun a b => cd 16 a ≤ cd 16 b := by
  obtain ⟨rs', p, h'⟩ := paired_perm pm h
  refine ⟨rs', p, h', List.pairwise_iff_getElem.mpr fun i j hi hj hij => ?_⟩
  obtain ⟨y1, e1, t1, r1, h1⟩ := LiI.paired_get h' (List.getElem?_eq_getElem hi)
  obtain ⟨y2, e2, t2, r2, h2⟩ := LiI.paired_get h' (List.getElem?_eq_getElem hj)
  obtain ⟨b1, e1⟩ := List.getElem?_eq_some_iff.mp e1
  obtain ⟨b2, e2⟩ := List.getElem?_eq_some_iff.mp e2
  have := (List.pairwise_iff_getElem.mp pw) i j b1 b2 hij rs'[i] rs'[j] (by rw [e1]; exact ⟨t1, r1, SqT.of h1⟩) (by rw [e2]; exact ⟨t2, r2, SqT.of h2⟩)
  rwa [code_cd, code_cd] at this
theorem rws_mem {H : Hp} {rs : List (List Int)} {vs : List V} (h : Rws H rs vs) {x : V} (hx : x ∈ vs) : ∃ r ∈ rs, RwV H r x := by
  obtain ⟨i, hi⟩ := List.mem_iff_getElem?.mp hx
  obtain ⟨r, hr, rx⟩ := paired_back h hi
  exact ⟨r, List.mem_of_getElem? hr, rx⟩
theorem atI_end {r : List Int} {v : Int} (h : r.getLast? = some v) : atI (r.map V.int) (-1) = some (.int v) := by
  obtain ⟨ys, rfl⟩ := List.getLast?_eq_some_iff.mp h
  rw [List.map_append]
  exact atI_last _ _
theorem inV_ints (v : Int) : ∀ r : List Int, inV (.int v) (r.map V.int) = decide (v ∈ r)
  | [] => by simp [inV]
  | x :: r => by
    show (eqV (.int x) (.int v) || inV (.int v) (r.map V.int)) = _
    rw [inV_ints v r]
    show ((x == v) || _) = _
    rw [Bool.eq_iff_iff]
    simp only [Bool.or_eq_true, beq_iff_eq, decide_eq_true_eq, List.mem_cons]
    exact or_congr_left ⟨Eq.symm, Eq.symm⟩
theorem flat_ints (r : List Int) : (r.map V.int).all flatV = true := by
  rw [List.all_eq_true]
  intro x hx
  obtain ⟨i, _, rfl⟩ := List.mem_map.mp hx
  rfl
def ends (g : Int) (rows : List (List Int)) : List (List Int) := rows.filter fun r => r.getLast? == some g
theorem ends_take {g : Int} {rows : List (List Int)} {i : Nat} {r : List Int} {v : Int} (h : rows[i]? = some r) (hv : r.getLast? = some v) : ends g (rows.take (i + 1)) = ends g (rows.take i) ++ (if v = g then [r] else []) := by
  unfold ends
  rw [List.take_add_one, h, List.filter_append]
  congr 1
  show List.filter _ [r] = _
  rw [List.filter_cons, hv]
  by_cases e : v = g
  · rw [if_pos e, e, if_pos (beq_self_eq_true (some g)), List.filter_nil]
  · have ne : ¬ (some v == some g) = true := fun z => e (Option.some.inj (eq_of_beq z))
    rw [if_neg e, if_neg ne, List.filter_nil]
def rowD (r : List Int) : PyData := .tuple (r.map .int)
theorem rws_dps {K : PySem.W.Frag} {H : Hp} : ∀ {rs : List (List Int)} {vs : List V}, Rws H rs vs → DpAll K H vs (rs.map rowD)
  | _, _, .nil => .nil
  | _, _, .cons ⟨_, e, ht⟩ t => by
    subst e
    exact .cons (.tup (SqT.of ht) (dp_ints _)) (rws_dps t)
theorem row_sh {r : List Int} (h : ∀ n ∈ r, n.natAbs < 10 ^ 12) : Sh 1 (65 * r.length) (rowD r) := by
  have := Sh.tup (dp := 0) (wt := 64) (ds := r.map PyData.int) fun d hd => by
    obtain ⟨n, hn, rfl⟩ := List.mem_map.mp hd
    exact Sh.int (h n hn)
  rw [List.length_map] at this
  exact this
/-- the longer rows of one row, of what follows it -/
def ext (r : List Int) (l : List (Option Rf)) : List (List Int) := ((l.filterMap obId).filter fun w => !decide (w ∈ r)).map fun w => r ++ [w]
theorem ext_len (r : List Int) (l : List (Option Rf)) : (ext r l).length ≤ l.length := by
  unfold ext
  rw [List.length_map]
  exact Nat.le_trans (List.length_filter_le _ _) (List.length_filterMap_le _ _)
theorem longer_take {hp : List (Int × List (Option Rf))} {rows : List (List Int)} {j : Nat} {r : List Int} {v : Int} (h : rows[j]? = some r) (hv : r.getLast? = some v) : longer (adj hp) (rows.take (j + 1)) = longer (adj hp) (rows.take j) ++ ext r (look hp v) := by
  unfold longer
  rw [List.take_add_one, h, List.flatMap_append]
  congr 1
  show List.flatMap _ [r] = _
  rw [List.flatMap_cons, List.flatMap_nil, List.append_nil, hv]
  rfl
theorem longer_len {m : Int} {hp : List (Int × List (Option Rf))} (g : GoodHeap m hp) : ∀ rows : List (List Int), (longer (adj hp) rows).length ≤ 4 * rows.length
  | [] => Nat.le_refl _
  | r :: rows => by
    have ih := longer_len g rows
    have h1 := ext_len r (look hp (r.getLast?.getD 0))
    have h2 := g.look (r.getLast?.getD 0)
    have e : longer (adj hp) (r :: rows) = ext r (look hp (r.getLast?.getD 0)) ++ longer (adj hp) rows := by
      unfold longer
      rw [List.flatMap_cons]
      rfl
    rw [e, List.length_append, List.length_cons]
    omega
def rSortX (K : PySem.W.Frag) : List V → Hp → VK → Prop := fun vs H Q => ∃ (d : Nat) (B : Int), 1 ≤ d ∧ rSortU K d B vs H Q
theorem cr_sortX {X : Cx} : CallR X (.builtin "sorted") (rSortX X.K) := fun pins s σ H vs us Q I r ⟨_, _, hd, h⟩ => cr_sortT hd pins s σ H vs us Q I r h

section
variable {P : Program} {w : World} {K : PySem.W.Frag} {mg : Str → Option Value} {base : Heap}
def spPaths : Sp := fun vs H Q _ => ∃ (p s : Addr) (g : Int) (kvs : List (L2.Key × V)) (hp : List (Int × List (Option Rf))) (svs : List V) (st : List (Option Rf)), vs = [.ref p, .ref s, .int g] ∧ Given H p kvs hp s svs st ∧
  (∀ (q : List Int) (l : Addr) (H' : Hp), Same H H' → H' l = some (.tup (q.map V.int)) → Least (starts st) (adj hp) 16 g q → Q (.ref l) H') ∧ (∀ H', Same H H' → (∀ q, ¬ PathTo (starts st) (adj hp) q g) → Q .non H')
def ones (l : List (Option Rf)) : List (List Int) := (l.filterMap obId).map fun s => [s]
theorem ok_law_paths {f : Addr} {fd : FuncData} (A : All K mg) (F : Fun K "_law_paths" "_law_paths" s_law_paths f fd) : FnOk P w K mg base CX0 1 f fd ["heap", "start", "number"] spPaths := by
  refine F.ok sc_law_paths (fun vs H Q E h => ?_) (fun cdv A' outer s0 H vs Q E hr h => ?_)
  · obtain ⟨p, s, g, kvs, hp, svs, st, rfl, _⟩ := h
    rfl
  · obtain ⟨p, s, g, kvs, hp, svs, st, rfl, G, qS, qN⟩ := h
    have hu := hu_of hr
    have hu64 : (A'.deeper (envOfC "_law_paths" (defScope s_law_paths) s0.heap.objs.size f cdv)).units + 64 < cLine := hr.units
    have lk := G.hk.len
    have l8 := G.l8
    have s4 := G.s4
    refine ⟨_, (pss_cons (ps_set (i := 4) sc_law_paths.nd rfl (.inl rfl) (pe_callB cr_sortX (by rfl) A.sorted (by decide +kernel) (pa_cons (pe_lc (own := [("reference", 3)]) rfl sc_law_paths.nd (pi_list (pv 1)) (blkOk_by (N := ["heap", "start", "number", "reference", "rows", "turn", "row", "ended", "longer", "seen", "field", "other"]) (sc := defScope s_law_paths) (by decide +kernel)) (fun _ _ _ _ _ => pg_name (i := 3) sc_law_paths.nd rfl (Or.inl rfl)) (fun _ _ _ _ _ => (pts_one (PW.pt (pw_and (pt_cmp (pc_notN (pv 3))) (pw_and1 (pt_cmpR op_eq (pe_ix (show IxR _ (rIxT K) from ix_tup) (pv 3) pe_int (fun _ _ => rfl)) pe_str (nomark _))))))) (fun _ _ _ _ _ => (pe_tup (pa_cons (pe_ix (show IxR _ (rIxT K) from ix_tup) (pv 3) pe_int (fun _ _ => rfl)) pa_nil)))) pa_nil)))
(pss_cons (ps_for PassesOwn.never rfl (pi_range1 (by rfl) A.range (pa_cons (pe_op op_add (pe_callB call_lenD (by rfl) A.len PySem.boot_len (pa_cons (pv 0) pa_nil)) pe_int) pa_nil)) (pg_name (i := 5) sc_law_paths.nd rfl (.inl rfl))
(pss_cons (ps_setLc (i := 7) (own := [("row", 6)]) rfl sc_law_paths.nd rfl rfl (sw_true rfl rfl rfl (by decide +kernel)) (pi_list (pv 4)) (blkOk_by (N := ["heap", "start", "number", "reference", "rows", "turn", "row", "ended", "longer", "seen", "field", "other"]) (sc := defScope s_law_paths) (by decide +kernel)) (fun _ _ _ _ _ => pg_name (i := 6) sc_law_paths.nd rfl (Or.inl rfl)) (fun _ _ _ _ _ => (pts_one (pt_cmpR op_eq (pe_ix (show IxR _ (rIxT K) from ix_tup) (pv 6) (pe_un un_neg pe_int) (fun _ _ => rfl)) (pv 2) (nomark _)))) (fun _ _ _ _ _ => (pv 6)))
(pss_cons (ps_if (pt_cmpR (op_neD (by exact hu64)) (pv 7) (pe_lst pa_nil) (nomark _))
(pss_one (ps_ret (pe_ix ix_list (pv 7) pe_int (fun _ _ => rfl))))
pss_nil)
(pss_cons (ps_set (i := 8) sc_law_paths.nd rfl (.inl rfl) (pe_lst pa_nil))
(pss_cons (ps_set (i := 9) sc_law_paths.nd rfl (.inl rfl) (pe_lst pa_nil))
(pss_cons (ps_for PassesOwn.never rfl (pi_list (pv 4)) (pg_name (i := 6) sc_law_paths.nd rfl (.inl rfl))
(pss_one (ps_for PassesOwn.never rfl (pi_tup (pe_dget hu (pv 0) (pe_ix ix_tup (pv 6) (pe_un un_neg pe_int) (fun _ _ => rfl)) (fun _ _ => rfl))) (pg_name (i := 10) sc_law_paths.nd rfl (.inl rfl))
(pss_one (ps_if (PW.pt (pw_and (pt_cmp (pc_notN (pv 10))) (pw_and (pt_cmpR op_eq (pe_ix ix_tup (pv 10) pe_int (fun _ _ => rfl)) pe_str (nomark _)) (pw_and1 (pt_cmpR op_notIn_seq (pe_ix ix_tup (pv 10) pe_int (fun _ _ => rfl)) (pv 6) (by rfl))))))
(pss_one (ps_expr (pe_bm PySem.F.plainAttrs_list PySem.F.slot_list_append PySem.F.type_list_append mt_append (pv 8) (pa_cons (pe_op op_catA (pv 6) (pe_tup (pa_cons (pe_ix ix_tup (pv 10) pe_int (fun _ _ => rfl)) pa_nil))) pa_nil))))
pss_nil)))))
(pss_cons (ps_for PassesOwn.never rfl (pi_list (pe_callB cr_sortX (by rfl) A.sorted (by decide +kernel) (pa_cons (pv 8) pa_nil))) (pg_name (i := 6) sc_law_paths.nd rfl (.inl rfl))
(pss_one (ps_if (pt_cmpR op_notIn_seq (pe_ix ix_tup (pv 6) (pe_un un_neg pe_int) (fun _ _ => rfl)) (pe_lc (own := [("other", 11)]) (tt := tYes) rfl sc_law_paths.nd (pi_list (pv 9)) (blkOk_by (N := ["heap", "start", "number", "reference", "rows", "turn", "row", "ended", "longer", "seen", "field", "other"]) (sc := defScope s_law_paths) (by decide +kernel)) (fun _ _ _ _ _ => pg_name (i := 11) sc_law_paths.nd rfl (Or.inl rfl)) (fun _ _ _ _ _ => pts_nil) (fun _ _ _ _ _ => (pe_ix (show IxR _ (rIxT K) from ix_tup) (pv 11) (pe_un un_neg pe_int) (fun _ _ => rfl)))) (by rfl))
(pss_one (ps_expr (pe_bm PySem.F.plainAttrs_list PySem.F.slot_list_append PySem.F.type_list_append mt_append (pv 9) (pa_cons (pv 6) pa_nil))))
pss_nil)))
(pss_one (ps_set (i := 4) sc_law_paths.nd rfl (.inl rfl) (pv 9))))))))))
(pss_one (ps_ret pe_non)))), ?_⟩
    -- rows = sorted([..])
    refine ⟨_, rfl, s, rfl, ⟨_, SqL.of G.hs⟩, fun D nD => ?_⟩
    refine lc_list (K := K) (a := s) (xs := svs) (fun i H' => ∃ (vs : List V), H' D = some (.lst vs) ∧ Rws H' (ones (st.take i)) vs ∧ Same H H') ?_ ?_ ?_ ?_
    · exact ⟨[], upd_same, .nil, same_new (Same.refl H) nD⟩
    · rintro i H' _ ⟨_, _, _, sm⟩
      exact SqL.of (sm _ _ G.hs)
    · rintro i x H' hi ⟨vs, hD, hR, sm⟩
      obtain ⟨r, hr', rx⟩ := paired_back G.hst hi
      have rx' := rx.mono (TupS.of_same sm)
      have tk := take_map obId hr'
      refine ⟨rfl, ?_⟩
      refine ⟨_, rfl, _, rfl, ?_⟩
      cases r with
      | none =>
        obtain rfl : x = .non := rx
        refine ite2 (fun e => absurd e (by decide)) (fun _ => iteF ⟨vs, hD, ?_, sm⟩)
        unfold ones
        rw [tk]
        simpa [obId, ones] using hR
      | some r =>
        cases r with
        | im o e =>
          obtain ⟨a, rfl, ha⟩ := rx'
          refine ite2 (fun _ => ?_) (fun e => absurd (show (!decide (V.ref a = V.non)) = true from rfl) e)
          refine ⟨_, rfl, a, _, 0, _, rfl, rfl, SqT.of ha, atI_nat (j := 0) rfl, rfl, _, rfl, ite2 (fun e => absurd (of_decide_eq_true e) nimpob) (fun _ => ⟨vs, hD, ?_, sm⟩)⟩
          unfold ones
          rw [tk]
          simpa [obId, ones] using hR
        | ob j =>
          obtain ⟨a, rfl, ha⟩ := rx'
          refine ite2 (fun _ => ?_) (fun e => absurd (show (!decide (V.ref a = V.non)) = true from rfl) e)
          refine ⟨_, rfl, a, _, 0, _, rfl, rfl, SqT.of ha, atI_nat (j := 0) rfl, rfl, _, rfl, ite2 (fun _ => ?_) (fun e => absurd (decide_eq_true rfl) e)⟩
          refine ⟨_, rfl, a, _, 1, _, rfl, rfl, SqT.of ha, atI_nat (j := 1) rfl, (by show 1 ≤ sizeLine; decide), fun t nt => ?_⟩
          have hD2 : upd H' t (.tup [.int j]) D = some (.lst vs) := (upd_ne (ne_of_none hD nt)).trans hD
          have t1 : TupS H' (upd H' t (.tup [.int j])) := TupS.new (fun _ _ e => e) nt
          have t2 : TupS (upd H' t (.tup [.int j])) (upd (upd H' t (.tup [.int j])) D (.lst (vs ++ [.ref t]))) := TupS.mut (fun _ _ e => e) hD2 (fun _ z => nomatch z)
          refine ⟨vs, hD2, lt_size ?_, vs ++ [.ref t], upd_same, ?_, same_mut (same_new sm nt) nD⟩
          · have h1 := Paired.length hR
            unfold ones at h1
            rw [List.length_map] at h1
            have h2 := List.length_filterMap_le obId (st.take i)
            rw [List.length_take] at h2
            omega
          · unfold ones
            rw [tk, List.map_append]
            exact paired_app (Rws.mono t2 (Rws.mono t1 hR)) (paired_one ⟨t, rfl, t2 _ _ upd_same⟩)
    rintro H1 ⟨vs, hD, hR, sm⟩
    rw [show st.take svs.length = st by rw [← Paired.length G.hst]; exact List.take_length] at hR
    have lo0 : (ones st).length ≤ 4 := by
      unfold ones
      rw [List.length_map]
      exact Nat.le_trans (List.length_filterMap_le _ _) s4
    refine ⟨1, 16, by decide, D, vs, rfl, SqL.of hD, (by have := Paired.length hR; omega), fun x hx => ?_, fun ys ra pm pw nra => ?_⟩
    · obtain ⟨r, hr', t, e, ht⟩ := rws_mem hR hx
      obtain ⟨u, hu', rfl⟩ := List.mem_map.mp hr'
      have := G.in_ (.one hu')
      refine ⟨[u], ⟨t, e, SqT.of ht⟩, rfl, fun m hm => ?_⟩
      rw [List.mem_singleton.mp hm]
      omega
    obtain ⟨rows, pmr, hRr, sor⟩ := sorted_rows hR pm pw
    have RI : RInv (starts st) (adj hp) 16 g 0 rows := RInv.init pmr sor
    have nra0 : H ra = none := sm.free nra
    -- for turn in range(len(heap) + 1)
    refine ⟨_, rfl, p, kvs, rfl, (same_new sm nra) _ _ G.atP, _, _, rfl, rfl, _, rfl, ?_, ?_, ?_⟩
    · omega
    · omega
    have en : ((kvs.length : Int) + 1).toNat = hp.length + 1 := by omega
    rw [en]
    refine for_range (lo := 0) (n := hp.length + 1) (fun t σ H' => ∃ (D : Addr) (vs : List V) (rows : List (List Int)) (v3 v5 v6 v7 v8 v9 v10 v11 : Option V),
        σ = [some (.ref p), some (.ref s), some (.int g), v3, some (.ref D), v5, v6, v7, v8, v9, v10, v11] ∧ H' D = some (.lst vs) ∧ Rws H' rows vs ∧ RInv (starts st) (adj hp) 16 g t rows ∧ rows.length ≤ 8 ∧ Same H H') ?_ ?_ ?_
    · exact ⟨ra, ys, rows, _, _, _, _, _, _, _, _, rfl, upd_same, Rws.mono (TupS.new (fun _ _ e => e) nra) hRr, RI, (by have := pmr.length_eq; omega), same_new sm nra⟩
    · rintro t σ H2 ht ⟨D, vs, rows, v3, v5, v6, v7, v8, v9, v10, v11, rfl, hD, hR, RI, rl, sm⟩
      -- ended
      refine ⟨_, rfl, D, rfl, ⟨_, SqL.of hD⟩, fun ea nea => ?_⟩
      refine lc_list (K := K) (a := D) (xs := vs) (fun i H' => ∃ (es : List V), H' ea = some (.lst es) ∧ Rws H' (ends g (rows.take i)) es ∧ Same H2 H') ?_ ?_ ?_ ?_
      · exact ⟨[], upd_same, .nil, same_new (Same.refl H2) nea⟩
      · rintro i H' _ ⟨_, _, _, s2⟩
        exact SqL.of (s2 _ _ hD)
      · rintro i x H' hi ⟨es, he, hE, s2⟩
        obtain ⟨r, hr', c, rfl, hc⟩ := paired_back hR hi
        obtain ⟨v, hv, _⟩ := RI.path r (List.mem_of_getElem? hr')
        refine ⟨rfl, ?_⟩
        refine ⟨_, rfl, 1, rfl, c, _, -1, .int v, rfl, rfl, SqT.of (s2 _ _ hc), atI_end hv.last, _, rfl, rfl, _, rfl, ?_⟩
        have nx := ends_take (g := g) hr' hv.last
        by_cases e : v = g
        · refine ite2 (fun _ => ?_) (fun z => absurd (decide_eq_true (show V.int v = V.int g by rw [e])) z)
          have t1 : TupS H' (upd H' ea (.lst (es ++ [.ref c]))) := TupS.mut (fun _ _ e => e) he (fun _ z => nomatch z)
          refine ⟨_, rfl, es, he, lt_size ?_, es ++ [.ref c], upd_same, ?_, same_mut s2 nea⟩
          · have h1 := Paired.length hE
            have h2 := List.length_filter_le (fun r => r.getLast? == some g) (rows.take i)
            rw [List.length_take] at h2
            unfold ends at h1
            omega
          · rw [nx, if_pos e]
            exact paired_app (Rws.mono t1 hE) (paired_one ⟨c, rfl, t1 _ _ (s2 _ _ hc)⟩)
        · refine ite2 (fun z => absurd (V.int.inj (of_decide_eq_true z)) e) (fun _ => ⟨es, he, ?_, s2⟩)
          rw [nx, if_neg e, List.append_nil]
          exact hE
      rintro H3 ⟨es, he, hE, s3⟩
      rw [show rows.take vs.length = rows by rw [← Paired.length hR]; exact List.take_length] at hE
      -- if ended != []
      refine ⟨_, rfl, Nat.zero_le _, fun z0 nz0 => ?_⟩
      have s24 : Same H2 (upd H3 z0 (.lst [])) := same_new s3 nz0
      have s34 : Same H3 (upd H3 z0 (.lst [])) := same_new (Same.refl H3) nz0
      have hE4 := Rws.mono (TupS.of_same s34) hE
      have shE : Sh 2 100000 (.list ((ends g rows).map rowD)) := by
        refine (Sh.list (dp := 1) (wt := 65 * 9) fun d hd => ?_).mono (by omega) ?_
        · obtain ⟨r, hr', rfl⟩ := List.mem_map.mp hd
          obtain ⟨v, hv, hl⟩ := RI.path r (List.mem_filter.mp hr').1
          refine (row_sh fun n hn => ?_).mono (by omega) (by omega)
          have := hv.bd G.gr n hn
          omega
        · have h2 := List.length_filter_le (fun r => r.getLast? == some g) rows
          rw [List.length_map]
          unfold ends
          omega
      refine ⟨.list ((ends g rows).map rowD), .list [], .lst (SqL.of (s34 _ _ he)) (rws_dps hE4), .lst (SqL.of upd_same) .nil, shE.shaped, (by rfl), _, rfl, ?_⟩
      cases eE : ends g rows with
      | cons r rest =>
        rw [eE] at hE4
        obtain ⟨v1, e1, c, rfl, hc⟩ := LiI.paired_get hE4 (i := 0) rfl
        refine ite2 (fun _ => ?_) (fun z => absurd (by simp [PyData.eqv, PyData.eqvAll]) z)
        exact ⟨_, rfl, ea, es, 0, _, rfl, rfl, SqL.of (s34 _ _ he), atI_nat e1, qS r c _ (sm.trans s24) hc (RI.found eE)⟩
      | nil =>
      refine iteF ?_
      -- longer = [], seen = []
      refine ⟨Nat.zero_le _, fun la nla => ?_⟩
      refine ⟨Nat.zero_le _, fun sa nsa => ?_⟩
      have s25 : Same H2 (upd (upd H3 z0 (.lst [])) la (.lst [])) := same_new s24 nla
      let H5 := upd (upd (upd H3 z0 (.lst [])) la (.lst [])) sa (.lst [])
      have s2H5 : Same H2 H5 := same_new s25 nsa
      have nla2 : H2 la = none := s24.free nla
      have nsa2 : H2 sa = none := s25.free nsa
      have nls : la ≠ sa := ne_of_none upd_same nsa
      have hla5 : H5 la = some (.lst []) := (upd_ne nls).trans upd_same
      have hsa5 : H5 sa = some (.lst []) := upd_same
      refine ⟨_, rfl, D, rfl, ⟨_, SqL.of (s2H5 _ _ hD)⟩, ?_⟩
      refine for_list (K := K) (a := D) (xs := vs) (fun j σ H' => ∃ (ls : List V) (v6 v10 : Option V),
          σ = [some (.ref p), some (.ref s), some (.int g), v3, some (.ref D), some (.int (0 + (t : Int))), v6, some (.ref ea), some (.ref la), some (.ref sa), v10, v11] ∧ H' la = some (.lst ls) ∧ Rws H' (longer (adj hp) (rows.take j)) ls ∧ H' sa = some (.lst []) ∧ Same H2 H') ?_ ?_ ?_ ?_
      · exact ⟨[], _, _, rfl, hla5, .nil, hsa5, s2H5⟩
      · rintro j σ H' _ ⟨_, _, _, _, _, _, _, s2⟩
        exact SqL.of (s2 _ _ hD)
      · rintro j x σ H6 hj ⟨ls, v6, v10, rfl, hla, hL, hsa, s6⟩
        obtain ⟨r, hr', c, rfl, hc⟩ := paired_back hR hj
        obtain ⟨v, hv, rlen⟩ := RI.path r (List.mem_of_getElem? hr')
        have hc6 := s6 _ _ hc
        have vin := G.in_ hv
        have G6 := G.mono (sm.trans s6)
        obtain ⟨tt, tvs, hval, htt, hTV⟩ := G6.hk.get (G.gh.mem vin.1 vin.2)
        have f4 := G.gh.look v
        refine ⟨_, rfl, _, rfl, 1, rfl, c, _, -1, .int v, rfl, rfl, SqT.of hc6, atI_end hv.last, p, _, rfl, (by rw [← hval]; exact DGet.k (k := Sum.inl v) G6.atP), tt, rfl, ⟨_, SqT.of htt⟩, ?_⟩
        refine for_tup (K := K) (a := tt) (xs := tvs) (fun i σ H' => ∃ (ls : List V) (v10 : Option V),
          σ = [some (.ref p), some (.ref s), some (.int g), v3, some (.ref D), some (.int (0 + (t : Int))), some (.ref c), some (.ref ea), some (.ref la), some (.ref sa), v10, v11] ∧ H' la = some (.lst ls) ∧ Rws H' (longer (adj hp) (rows.take j) ++ ext r ((look hp v).take i)) ls ∧ H' sa = some (.lst []) ∧ Same H2 H' ∧ H' tt = some (.tup tvs) ∧ TupS H6 H') ?_ ?_ ?_ ?_
        · refine ⟨ls, _, rfl, hla, ?_, hsa, s6, htt, fun _ _ e => e⟩
          show Rws H6 (_ ++ []) ls
          rw [List.append_nil]
          exact hL
        · rintro i σ H' _ ⟨_, _, _, _, _, _, _, h, _⟩
          exact SqT.of h
        · rintro i y σ H7 hi ⟨ls, v10, rfl, hla, hL, hsa, s7, htt7, t67⟩
          obtain ⟨z, hz, zy⟩ := paired_back hTV hi
          have zy' := zy.mono t67
          have tk := take_map obId hz
          have hc7 := s7 _ _ hc
          refine ⟨_, rfl, _, rfl, ?_⟩
          cases z with
          | none =>
            obtain rfl : y = .non := zy
            refine ite2 (fun e => absurd e (by decide)) (fun _ => iteF ⟨ls, _, rfl, hla, ?_, hsa, s7, htt7, t67⟩)
            unfold ext
            rw [tk]
            simpa [obId, ext] using hL
          | some z =>
            cases z with
            | im o e =>
              obtain ⟨a, rfl, ha⟩ := zy'
              refine ite2 (fun _ => ?_) (fun e => absurd (show (!decide (V.ref a = V.non)) = true from rfl) e)
              refine ⟨_, rfl, a, _, 0, _, rfl, rfl, SqT.of ha, atI_nat (j := 0) rfl, rfl, _, rfl, ite2 (fun e => absurd (of_decide_eq_true e) nimpob) (fun _ => iteF ⟨ls, _, rfl, hla, ?_, hsa, s7, htt7, t67⟩)⟩
              unfold ext
              rw [tk]
              simpa [obId, ext] using hL
            | ob u =>
              obtain ⟨a, rfl, ha⟩ := zy'
              refine ite2 (fun _ => ?_) (fun e => absurd (show (!decide (V.ref a = V.non)) = true from rfl) e)
              refine ⟨_, rfl, a, _, 0, _, rfl, rfl, SqT.of ha, atI_nat (j := 0) rfl, rfl, _, rfl, ite2 (fun _ => ?_) (fun e => absurd (decide_eq_true rfl) e)⟩
              refine ⟨_, rfl, a, _, 1, _, rfl, rfl, SqT.of ha, atI_nat (j := 1) rfl, _, rfl, c, _, rfl, .inr (SqT.of hc7), rfl, flat_ints r, _, rfl, ?_⟩
              have iv := inV_ints u r
              have ex : ext r ((look hp v).take (i + 1)) = ext r ((look hp v).take i) ++ (if u ∈ r then [] else [r ++ [u]]) := by
                unfold ext
                rw [tk, List.filter_append, List.map_append]
                congr 1
                by_cases e : u ∈ r <;> simp [obId, e]
              by_cases m : u ∈ r
              · refine ite2 (fun e => absurd (show (!inV (.int u) (r.map V.int)) = true from e) (by rw [iv, decide_eq_true m]; decide)) (fun _ => ⟨ls, _, rfl, hla, ?_, hsa, s7, htt7, t67⟩)
                rw [ex, if_pos m, List.append_nil]
                exact hL
              · refine ite2 (fun _ => ?_) (fun e => absurd (show (!inV (.int u) (r.map V.int)) = true by rw [iv, decide_eq_false m]; rfl) e)
                -- longer.append(row + (field[1],))
                refine ⟨_, rfl, .inl ⟨rfl, _, SqL.of hla⟩, _, rfl, _, rfl, a, _, 1, _, rfl, rfl, SqT.of ha, atI_nat (j := 1) rfl, (by show 1 ≤ sizeLine; decide), fun b1 nb1 => ?_⟩
                have t1 : TupS H7 (upd H7 b1 (.tup [.int u])) := TupS.new (fun _ _ e => e) nb1
                have hla1 : upd H7 b1 (.tup [.int u]) la = some (.lst ls) := (upd_ne (ne_of_none hla nb1)).trans hla
                have rne : r.map V.int ≠ [] := fun e => by
                  have := congrArg List.length e
                  rw [List.length_map, rlen] at this
                  cases this
                refine ⟨c, b1, _, [.int u], rfl, rfl, SqT.of (t1 _ _ hc7), SqT.of upd_same, ?_, fun e => absurd e rne, fun _ e => (nomatch e), fun _ _ b2 nb2 => ?_⟩
                · rw [List.length_map, rlen]
                  exact Nat.le_of_lt (lt_size (by show t + 1 + 1 ≤ _; omega))
                have hla2 : upd (upd H7 b1 (.tup [.int u])) b2 (.tup (r.map V.int ++ [.int u])) la = some (.lst ls) := (upd_ne (ne_of_none hla1 nb2)).trans hla1
                have t2 : TupS (upd H7 b1 (.tup [.int u])) (upd (upd H7 b1 (.tup [.int u])) b2 (.tup (r.map V.int ++ [.int u]))) := TupS.new (fun _ _ e => e) nb2
                have t3 : TupS (upd (upd H7 b1 (.tup [.int u])) b2 (.tup (r.map V.int ++ [.int u]))) (upd (upd (upd H7 b1 (.tup [.int u])) b2 (.tup (r.map V.int ++ [.int u]))) la (.lst (ls ++ [.ref b2]))) := TupS.mut (fun _ _ e => e) hla2 (fun _ z => nomatch z)
                have t123 := t1.trans (t2.trans t3)
                refine ⟨la, ls, _, rfl, rfl, hla2, lt_size ?_, ls ++ [.ref b2], _, rfl, upd_same, ?_, ?_, same_mut (same_new (same_new s7 nb1) nb2) nla2, t123 _ _ htt7, t67.trans t123⟩
                · have h1 := Paired.length hL
                  rw [List.length_append] at h1
                  have h2 := longer_len G.gh (rows.take j)
                  rw [List.length_take] at h2
                  have h3 := ext_len r ((look hp v).take i)
                  rw [List.length_take] at h3
                  omega
                · rw [ex, if_neg m, ← List.append_assoc]
                  refine paired_app (Rws.mono t123 hL) (paired_one ⟨b2, rfl, ?_⟩)
                  rw [List.map_append]
                  exact t3 _ _ upd_same
                · rw [upd_ne nls.symm, upd_ne (ne_of_none ((upd_ne (ne_of_none hsa nb1)).trans hsa) nb2), upd_ne (ne_of_none hsa nb1)]
                  exact hsa
        · rintro σ H7 ⟨ls, v10, rfl, hla, hL, hsa, s7, _, _⟩
          refine ⟨ls, _, _, rfl, hla, ?_, hsa, s7⟩
          rw [longer_take hr' hv.last]
          rw [show (look hp v).take tvs.length = look hp v by rw [← Paired.length hTV]; exact List.take_length] at hL
          exact hL
      rintro σ H6 ⟨ls, v6, v10, rfl, hla, hL, hsa, s6⟩
      rw [show rows.take vs.length = rows by rw [← Paired.length hR]; exact List.take_length] at hL
      -- for row in sorted(longer)
      have ll := longer_len G.gh rows
      have isL : ∀ r ∈ longer (adj hp) rows, ∃ v, PathTo (starts st) (adj hp) r v ∧ r.length = t + 1 + 1 := fun r hr => by
        unfold longer at hr
        obtain ⟨q, hq, h⟩ := List.mem_flatMap.mp hr
        obtain ⟨v, hv, e⟩ := List.mem_map.mp h
        have hv := (List.mem_filter.mp hv).1
        obtain ⟨u, hu, hl⟩ := RI.path q hq
        rw [hu.last] at hv
        exact ⟨v, e ▸ .snoc hu hv, by rw [← e, List.length_append, List.length_singleton, hl]⟩
      refine ⟨_, rfl, t + 1 + 1, 16, by omega, la, ls, rfl, SqL.of hla, (by have := Paired.length hL; omega), fun x hx => ?_, fun ys ya pm pw nya => ⟨ya, rfl, ⟨_, SqL.of upd_same⟩, ?_⟩⟩
      · obtain ⟨r, hr', c, e, hc⟩ := rws_mem hL hx
        obtain ⟨v, hv, hl⟩ := isL r hr'
        exact ⟨r, ⟨c, e, SqT.of hc⟩, hl, hv.bd G.gr⟩
      obtain ⟨L, pmL, hRL, soL⟩ := sorted_rows hL pm pw
      have nya2 : H2 ya = none := s6.free nya
      have nsy : sa ≠ ya := ne_of_none hsa nya
      have LL : L.length ≤ 32 := by have := pmL.length_eq; omega
      refine for_list (K := K) (a := ya) (xs := ys) (fun j σ H' => ∃ (ss : List V) (S : List (List Int)) (v6 : Option V),
          σ = [some (.ref p), some (.ref s), some (.int g), v3, some (.ref D), some (.int (0 + (t : Int))), v6, some (.ref ea), some (.ref la), some (.ref sa), v10, v11] ∧ H' sa = some (.lst ss) ∧ Rws H' S ss ∧ Seen L 16 j S ∧ H' ya = some (.lst ys) ∧ Rws H' L ys ∧ Same H2 H') ?_ ?_ ?_ ?_
      · have t1 : TupS H6 (upd H6 ya (.lst ys)) := TupS.new (fun _ _ e => e) nya
        exact ⟨[], [], _, rfl, (upd_ne nsy).trans hsa, .nil, .init, upd_same, Rws.mono t1 hRL, same_new s6 nya⟩
      · rintro j σ H' _ ⟨_, _, _, _, _, _, _, h, _⟩
        exact SqL.of h
      · rintro j x σ H7 hj ⟨ss, S, v6, rfl, hsa, hS, I, hy, hLy, s7⟩
        obtain ⟨r, hr', c, rfl, hc⟩ := paired_back hLy hj
        obtain ⟨v, hv, rlen⟩ := isL r (pmL.mem_iff.mp (List.mem_of_getElem? hr'))
        have Sin : ∀ q ∈ S, ∃ u, PathTo (starts st) (adj hp) q u ∧ q.length = t + 1 + 1 := fun q hq => isL q (pmL.mem_iff.mp (List.mem_of_mem_take (I.sub.subset hq)))
        have Sl : S.length ≤ 32 := by
          have h1 := I.sub.length_le
          rw [List.length_take] at h1
          omega
        refine ⟨_, rfl, 1, rfl, c, _, -1, .int v, rfl, rfl, SqT.of hc, atI_end hv.last, _, rfl, sa, rfl, ⟨_, SqL.of hsa⟩, fun oa noa => ?_⟩
        refine lc_list (K := K) (a := sa) (xs := ss) (fun i H' => H' oa = some (.lst (((S.take i).map fun q => q.getLast?.getD 0).map V.int)) ∧ Same H7 H') ?_ ?_ ?_ ?_
        · exact ⟨upd_same, same_new (Same.refl H7) noa⟩
        · rintro i H' _ ⟨_, s8⟩
          exact SqL.of (s8 _ _ hsa)
        · rintro i y H' hi ⟨ho, s8⟩
          obtain ⟨q, hq, d, rfl, hd⟩ := paired_back hS hi
          obtain ⟨u, hu', _⟩ := Sin q (List.mem_of_getElem? hq)
          refine ⟨rfl, ?_⟩
          refine ⟨_, rfl, 1, rfl, d, _, -1, .int u, rfl, rfl, SqT.of (s8 _ _ hd), atI_end hu'.last, _, ho, lt_size ?_, ?_, same_mut s8 noa⟩
          · rw [List.length_map, List.length_map, List.length_take]
            omega
          · rw [upd_same, List.take_add_one, hq, List.map_append, List.map_append]
            show _ = some (HO.lst (_ ++ [V.int (q.getLast?.getD 0)]))
            rw [hu'.last]
            rfl
        rintro H8 ⟨ho, s8⟩
        rw [show S.take ss.length = S by rw [← Paired.length hS]; exact List.take_length] at ho
        refine ⟨oa, _, rfl, .inl (SqL.of ho), rfl, flat_ints _, _, rfl, ?_⟩
        have iv := inV_ints v (S.map fun q => q.getLast?.getD 0)
        have ev : r.getLast?.getD 0 = v := by rw [hv.last]; rfl
        by_cases m : v ∈ S.map fun q => q.getLast?.getD 0
        · refine ite2 (fun e => absurd (show (!inV (.int v) ((S.map fun q => q.getLast?.getD 0).map V.int)) = true from e) (by rw [iv, decide_eq_true m]; decide)) (fun _ => ?_)
          exact ⟨ss, S, _, rfl, s8 _ _ hsa, Rws.mono (TupS.of_same s8) hS, I.skip soL hr' (by rw [ev]; exact m), s8 _ _ hy, Rws.mono (TupS.of_same s8) hLy, s7.trans s8⟩
        · refine ite2 (fun _ => ?_) (fun e => absurd (show (!inV (.int v) ((S.map fun q => q.getLast?.getD 0).map V.int)) = true by rw [iv, decide_eq_false m]; rfl) e)
          have hsa8 := s8 _ _ hsa
          have t1 : TupS H8 (upd H8 sa (.lst (ss ++ [.ref c]))) := TupS.mut (fun _ _ e => e) hsa8 (fun _ z => nomatch z)
          have t2 := (TupS.of_same s8).trans t1
          refine ⟨_, rfl, .inl ⟨rfl, _, SqL.of hsa8⟩, _, rfl, sa, ss, _, rfl, rfl, hsa8, lt_size ?_, ss ++ [.ref c], S ++ [r], _, rfl, upd_same, ?_, I.add hr' (by rw [ev]; exact m), ?_, Rws.mono t2 hLy, same_mut (s7.trans s8) nsa2⟩
          · have := Paired.length hS
            omega
          · exact paired_app (Rws.mono t2 hS) (paired_one ⟨c, rfl, t2 _ _ hc⟩)
          · rw [upd_ne nsy.symm]
            exact s8 _ _ hy
      rintro σ H7 ⟨ss, S, v6, rfl, hsa, hS, I, hy, hLy, s7⟩
      rw [← Paired.length hLy] at I
      have RI2 := RI.next G.gr eE pmL soL I
      refine ⟨_, rfl, sa, ss, S, _, _, _, _, _, _, _, _, rfl, hsa, hS, RI2, ?_, sm.trans s7⟩
      have := nodup_le hp.length (S.map fun q => q.getLast?.getD 0) I.nd fun x hx => by
        obtain ⟨q, hq, rfl⟩ := List.mem_map.mp hx
        obtain ⟨u, hu', _⟩ := RI2.path q hq
        rw [hu'.last]
        exact G.in_ hu'
      rw [List.length_map] at this
      omega
    · rintro σ H2 ⟨D, vs, rows, v3, v5, v6, v7, v8, v9, v10, v11, rfl, hD, hR, RI, rl, sm⟩
      refine qN H2 sm fun q hq => ?_
      obtain ⟨q', h1, h2⟩ := hq.short (n := hp.length) G.gr fun u v h => G.in_ h
      have := RI.no q' h1
      omega
end
end K2
set_option Elab.async false
set_option linter.all false
set_option maxRecDepth 100000
set_option maxHeartbeats 8000000
/-! K02d: the law. -/
namespace K2
open PySem PySem.Spec PyProof.Rows L2 Gd Com
/-- what is left of a list of starts in an empty heap -/
def isNoOb : Option Rf → Bool
  | some (.ob _) => false
  | _ => true
theorem take_filter {α : Type} (f : α → Bool) {l : List α} {i : Nat} {x : α} (h : l[i]? = some x) : (l.take (i + 1)).filter f = (l.take i).filter f ++ (if f x = true then [x] else []) := by
  rw [List.take_add_one, h, List.filter_append]
  congr 1
  show List.filter f [x] = _
  rw [List.filter_cons, List.filter_nil]
section
variable {P : Program} {w : World} {K : PySem.W.Frag} {mg : Str → Option Value} {base : Heap}
def spLaw (K : PySem.W.Frag) : Sp := fun vs H Q _ => ∃ (a : Addr) (ns : List Int), vs = [.ref a] ∧ SqL K H a (ns.map V.int) ∧ ns.length ≤ 63 ∧ ∀ H', Q (.bl true) H'
theorem ok_law {f : Addr} {fd : FuncData} (A : All K mg) (F : Fun K "law" "law" s_law f fd) : FnG P w K mg base 4 f fd ["script"] (spLaw K) := by
  obtain ⟨f_law_digits, fd_law_digits, F_law_digits, g_law_digits, b_law_digits⟩ := A.law_digits
  have G_law_digits := ok_law_digits (P := P) (w := w) (base := base) A F_law_digits
  obtain ⟨f_law_heap, fd_law_heap, F_law_heap, g_law_heap, b_law_heap⟩ := A.law_heap
  have G_law_heap := ok_law_heap (P := P) (w := w) (base := base) A F_law_heap
  obtain ⟨f_law_draw, fd_law_draw, F_law_draw, g_law_draw, b_law_draw⟩ := A.law_draw
  have G_law_draw := ok_law_draw (P := P) (w := w) (base := base) A F_law_draw
  obtain ⟨f_law_paths, fd_law_paths, F_law_paths, g_law_paths, b_law_paths⟩ := A.law_paths
  have G_law_paths := ok_law_paths (P := P) (w := w) (base := base) A F_law_paths
  obtain ⟨f_shortest_path, fd_shortest_path, F_shortest_path, g_shortest_path, b_shortest_path⟩ := A.shortest_path
  have G_shortest_path := ok_shortest_path (P := P) (w := w) (base := base) A F_shortest_path
  obtain ⟨f_law_alike, fd_law_alike, F_law_alike, g_law_alike, b_law_alike⟩ := A.law_alike
  have G_law_alike := ok_law_alike (P := P) (w := w) (base := base) A F_law_alike
  refine fn_G F sc_law (fun vs H Q E h => ?_) (fun cdv A' outer s0 H vs Q E hgd hr h => ?_)
  · obtain ⟨a, ns, rfl, _⟩ := h
    rfl
  · obtain ⟨a, ns, rfl, hS, hlen, q⟩ := h
    have hu64 := hr.units
    have hu1 : (A'.deeper (envOfC "law" (defScope s_law) s0.heap.objs.size f cdv)).units < cLine := by
      have := hr.un
      omega
    refine ⟨_, (pss_cons (ps_set (i := 1) sc_law.nd rfl (.inl rfl) (pe_lst (pa_cons (pe_call G_law_digits (hr.mono (by decide)) (by rfl) g_law_digits F_law_digits.kp b_law_digits .nil pass0 (pa_cons (pv 0) (pa_cons pe_int (pa_cons pe_int pa_nil)))) (pa_cons pe_int pa_nil))))
(pss_cons (ps_for PassesOwn.never rfl (pi_range1 (by rfl) A.range (pa_cons pe_int pa_nil)) (pg_name (i := 2) sc_law.nd rfl (.inl rfl))
(pss_cons (ps_set (i := 3) sc_law.nd rfl (.inl rfl) (pe_call G_law_heap (hr.mono (by decide)) (by rfl) g_law_heap F_law_heap.kp b_law_heap .nil pass0 (pa_cons (pv 1) pa_nil)))
(pss_cons (ps_set (i := 4) sc_law.nd rfl (.inl rfl) (pe_lst pa_nil))
(pss_cons (ps_for PassesOwn.never rfl (pi_range1 (by rfl) A.range (pa_cons (pe_call G_law_draw (hr.mono (by decide)) (by rfl) g_law_draw F_law_draw.kp b_law_draw .nil pass0 (pa_cons (pv 1) (pa_cons pe_int pa_nil))) pa_nil)) (pg_name (i := 5) sc_law.nd rfl (.inl rfl))
(pss_one (ps_expr (pe_bm PySem.F.plainAttrs_list PySem.F.slot_list_append PySem.F.type_list_append mt_append (pv 4) (pa_cons (pe_ix ix_list (pe_lst (pa_cons (pe_tup (pa_cons pe_str (pa_cons (pe_call G_law_draw (hr.mono (by decide)) (by rfl) g_law_draw F_law_draw.kp b_law_draw .nil pass0 (pa_cons (pv 1) (pa_cons (pe_callB (call_max2 rfl) (by rfl) A.max (by decide +kernel) (pa_cons pe_int (pa_cons (pe_callB call_lenD (by rfl) A.len PySem.boot_len (pa_cons (pv 3) pa_nil)) pa_nil))) pa_nil))) pa_nil))) (pa_cons (pe_tup (pa_cons pe_str (pa_cons pe_int (pa_cons pe_int pa_nil)))) (pa_cons pe_non pa_nil)))) (pe_ix ix_list (pe_lst (pa_cons pe_int (pa_cons pe_int (pa_cons pe_int (pa_cons pe_int pa_nil))))) (pe_call G_law_draw (hr.mono (by decide)) (by rfl) g_law_draw F_law_draw.kp b_law_draw .nil pass0 (pa_cons (pv 1) (pa_cons pe_int pa_nil))) (fun _ _ => rfl)) (fun _ _ => rfl)) pa_nil)))))
(Evl.pss_cut (ps_if (pt_cmpR (op_eqE (by exact hu1)) (pv 3) pe_dnewK (nomark _))
(pss_one (ps_setLc (i := 4) (own := [("reference", 6)]) rfl sc_law.nd rfl rfl (sw_true rfl rfl rfl (by decide +kernel)) (pi_list (pv 4)) (blkOk_by (N := ["script", "box", "turn", "heap", "start", "k", "reference", "given", "number", "due", "told"]) (sc := defScope s_law) (by decide +kernel)) (fun _ _ _ _ _ => pg_name (i := 6) sc_law.nd rfl (Or.inl rfl)) (fun _ _ _ _ _ => (pts_one (PW.pt (pw_or (pt_cmp (pc_isN (pv 6))) (pw_or1 (pt_cmpR op_ne (pe_ix (show IxR _ (rIxT K) from ix_tup) (pv 6) pe_int (fun _ _ => rfl)) pe_str (nomark _))))))) (fun _ _ _ _ _ => (pv 6))))
pss_nil)
(pss_cons (ps_set (i := 7) sc_law.nd rfl (.inl rfl) (pe_callTy call_list_of (by rfl) A.list (by decide +kernel) (pa_cons (pv 4) pa_nil)))
(pss_cons (ps_for PassesOwn.never rfl (pi_range1 (by rfl) A.range (pa_cons (pe_op op_add (pe_callB call_lenD (by rfl) A.len PySem.boot_len (pa_cons (pv 3) pa_nil)) pe_int) pa_nil)) (pg_name (i := 8) sc_law.nd rfl (.inl rfl))
(pss_cons (ps_set (i := 9) sc_law.nd rfl (.inl rfl) (pe_call G_law_paths (hr.mono (by decide)) (by rfl) g_law_paths F_law_paths.kp b_law_paths .nil pass0 (pa_cons (pv 3) (pa_cons (pv 4) (pa_cons (pv 8) pa_nil)))))
(pss_cons (ps_set (i := 10) sc_law.nd rfl (.inl rfl) (pe_call G_shortest_path (hr.mono (by decide)) (by rfl) g_shortest_path F_shortest_path.kp b_shortest_path .nil pass0 (pa_cons (pv 3) (pa_cons (pv 4) (pa_cons (pv 8) pa_nil)))))
(pss_cons (ps_if (PW.pt (pw_and (pt_cmp (pc_isN (pv 9))) (pw_and1 (pt_cmp (pc_notN (pv 10))))))
(pss_one (ps_ret pe_bl))
pss_nil)
(pss_one (ps_if (PW.pt (pw_and (pt_cmp (pc_notN (pv 9))) (pw_and1 (pt_not (pt_val (pe_callG G_law_alike hgd (hr.mono (by decide)) (by rfl) g_law_alike F_law_alike.kp b_law_alike .nil (pa_cons (pv 10) (pa_cons (pe_callTy call_list_of (by rfl) A.list (by decide +kernel) (pa_cons (pv 9) pa_nil)) pa_nil))))))))
(pss_one (ps_ret pe_bl))
pss_nil))))))
(pss_one (ps_if (pt_cmpR (op_neD (by exact hu64)) (pv 4) (pv 7) (nomark _))
(pss_one (ps_ret pe_bl))
pss_nil)))))))))
(pss_one (ps_ret pe_bl)))), ?_⟩
    refine ⟨_, rfl, a, ns, rfl, hS, fun dg ds H1 s1 n1 hdg => ⟨(by show 2 ≤ sizeLine; decide), fun b nb => ?_⟩⟩
    have B1 : Bx (upd H1 b (.lst [.ref dg, .int 0])) b dg ds := ⟨0, upd_same, by rw [upd_ne (ne_of_none hdg nb)]; exact hdg⟩
    refine ⟨5, rfl, by decide, by decide, for_range (lo := 0) (n := 5) (fun i σ H' => ∃ (v2 v3 v4 v5 v6 v7 v8 v9 v10 : Option V), σ = [some (.ref a), some (.ref b), v2, v3, v4, v5, v6, v7, v8, v9, v10] ∧ Bx H' b dg ds)
      ⟨none, none, none, none, none, none, none, none, none, rfl, B1⟩ ?_ ?_⟩
    · rintro turn σ H2 ht ⟨v2, v3, v4, v5, v6, v7, v8, v9, v10, rfl, B2⟩
      -- heap = _law_heap(box)
      refine ⟨_, rfl, b, dg, ds, rfl, B2, fun p kvs hp H3 np hP hK gH l8 f3 B3 => ?_⟩
      have nbp := (B2.nb np).1
      have lk := hK.len
      -- start = []
      refine ⟨Nat.zero_le _, fun D nD => ?_⟩
      have nDb := B3.nb nD
      have npD : p ≠ D := ne_of_none hP nD
      have B4 := B3.new (o := .lst []) nD
      have hP4 : upd H3 D (.lst []) p = some (.dK kvs) := (upd_ne npD).trans hP
      have t34 : TupS H3 (upd H3 D (.lst [])) := TupS.new (fun _ _ e => e) nD
      refine ⟨_, rfl, b, dg, ds, 4, rfl, by decide, B4, fun r H5 r0 r4 f5 B5 => ⟨r, rfl, by omega, by omega, for_range (lo := 0) (n := r.toNat) (fun i σ H' => ∃ (rs : List (Option Rf)) (vs : List V) (v5 : Option V),
        σ = [some (.ref a), some (.ref b), some (.int (0 + (turn : Int))), some (.ref p), some (.ref D), v5, v6, v7, v8, v9, v10] ∧ H' D = some (.lst vs) ∧ RfAll H' rs vs ∧ rs.length = i ∧ (∀ x ∈ rs, Good (max 1 (hp.length : Int)) x) ∧ Fx b H3 H' ∧ Bx H' b dg ds) ?_ ?_ ?_⟩⟩
      · exact ⟨[], [], _, rfl, f5 D _ nDb.1 upd_same, .nil, rfl, fun _ h => (nomatch h), ((Fx.refl b H3).new nD).trans f5, B5⟩
      · rintro i σ H6 hi ⟨rs, vs, v5, rfl, hD, hR, hrl, hg, f6, B6⟩
        have hP6 : H6 p = some (.dK kvs) := f6 p _ nbp hP
        refine ⟨_, rfl, .inl ⟨rfl, _, SqL.of hD⟩, ?_⟩
        -- ("object", ..)
        refine ⟨_, rfl, _, rfl, p, kvs, rfl, hP6, 1, (kvs.length : Int), rfl, ?_⟩
        have em : (if (kvs.length : Int) > 1 then (kvs.length : Int) else 1) = max 1 (hp.length : Int) := by
          rw [lk]
          split <;> omega
        rw [em]
        refine ⟨b, dg, ds, _, rfl, by omega, B6, fun x1 H7 a0 a1 f7 B7 => ⟨(by show 2 ≤ sizeLine; decide), fun t1 m1 => ?_⟩⟩
        have B7' := B7.new (o := .tup [.str "object", .int x1]) m1
        refine ⟨(by show 3 ≤ sizeLine; decide), fun t2 m2 => ?_⟩
        have B7'' := B7'.new (o := .tup [.str "import", .int 0, .int 0]) m2
        refine ⟨(by show 3 ≤ sizeLine; decide), fun t3 m3 => ?_⟩
        have B8 := B7''.new (o := .lst [.ref t1, .ref t2, .non]) m3
        refine ⟨(by show 4 ≤ sizeLine; decide), fun t4 m4 => ?_⟩
        have B9 := B8.new (o := .lst [.int 0, .int 0, .int 1, .int 2]) m4
        refine ⟨_, rfl, b, dg, ds, 4, rfl, by decide, B9, fun j H9 j0 j4 f9 B9' => ?_⟩
        have F69 : Fx b H6 H9 := ((((f7.new m1).new m2).new m3).new m4).trans f9
        have T1 : TupS (upd H7 t1 (.tup [.str "object", .int x1])) H9 := (TupS.new (TupS.new (TupS.new (fun _ _ e => e) m2) m3) m4).trans (TupS.of_fx f9 B9)
        have T2 : TupS (upd (upd H7 t1 (.tup [.str "object", .int x1])) t2 (.tup [.str "import", .int 0, .int 0])) H9 := (TupS.new (TupS.new (fun _ _ e => e) m3) m4).trans (TupS.of_fx f9 B9)
        have n34 : t3 ≠ t4 := ne_of_none upd_same m4
        have h3 : H9 t3 = some (.lst [.ref t1, .ref t2, .non]) := f9 t3 _ (B7''.nb m3).1 ((upd_ne n34).trans upd_same)
        have h4 : H9 t4 = some (.lst [.int 0, .int 0, .int 1, .int 2]) := f9 t4 _ (B8.nb m4).1 upd_same
        have hD9 : H9 D = some (.lst vs) := F69 D _ nDb.1 hD
        have T69 : TupS H6 H9 := TupS.of_fx F69 B6
        have key : ∃ (k : Int) (x : Option Rf) (v : V), atI [V.int 0, .int 0, .int 1, .int 2] j = some (.int k) ∧ Good (max 1 (hp.length : Int)) x ∧ RfV H9 x v ∧ atI [V.ref t1, .ref t2, .non] k = some v := by
          have cases4 : j = 0 ∨ j = 1 ∨ j = 2 ∨ j = 3 := by omega
          rcases cases4 with rfl | rfl | rfl | rfl
          · exact ⟨0, some (.ob x1), _, rfl, ⟨a0, a1⟩, ⟨t1, rfl, T1 _ _ upd_same⟩, rfl⟩
          · exact ⟨0, some (.ob x1), _, rfl, ⟨a0, a1⟩, ⟨t1, rfl, T1 _ _ upd_same⟩, rfl⟩
          · exact ⟨1, some (.im 0 0), _, rfl, trivial, ⟨t2, rfl, T2 _ _ upd_same⟩, rfl⟩
          · exact ⟨2, none, _, rfl, trivial, rfl, rfl⟩
        obtain ⟨k, x, v, hk, gx, rx, hat⟩ := key
        have tD : TupS H9 (upd H9 D (.lst (vs ++ [v]))) := TupS.mut (fun _ _ e => e) hD9 (fun _ z => nomatch z)
        exact ⟨t4, _, j, .int k, rfl, rfl, SqL.of h4, hk, t3, _, k, v, rfl, rfl, SqL.of h3, hat, D, vs, v, rfl, rfl, hD9, lt_size (by have := Paired.length hR; omega),
          rs ++ [x], vs ++ [v], _, rfl, upd_same, paired_app (RfAll.mono tD (RfAll.mono T69 hR)) (paired_one (rx.mono tD)), (by rw [List.length_append, hrl]; rfl),
          (fun y hy => (List.mem_append.mp hy).elim (hg y) fun z => by rw [List.mem_singleton.mp z]; exact gx), (f6.trans F69).mut nD, B9'.upd nDb.1 nDb.2⟩
      rintro σ H6 ⟨st, svs, v5, rfl, hD, hR, hrl, hg, f6, B6⟩
      have hP6 : H6 p = some (.dK kvs) := f6 p _ nbp hP
      have hK6 := hK.mono (TupS.of_fx f6 B3)
      -- if heap == {}
      refine ⟨fun σ H' => ∃ (D : Addr) (svs : List V) (st : List (Option Rf)), σ = [some (.ref a), some (.ref b), some (.int (0 + (turn : Int))), some (.ref p), some (.ref D), v5, v6, v7, v8, v9, v10] ∧ Given H' p kvs hp D svs st ∧ Bx H' b dg ds, ?_, ?_⟩
      · refine ⟨_, rfl, fun e0 ne0 => ⟨p, e0, kvs, rfl, rfl, (same_new (Same.refl H6) ne0) _ _ hP6, upd_same, _, rfl, ?_⟩⟩
        have s7 : Same H6 (upd H6 e0 (.dK [])) := same_new (Same.refl H6) ne0
        have B7 := B6.new (o := .dK []) ne0
        have R7 := RfAll.mono (TupS.of_same s7) hR
        have K7 := hK6.mono (TupS.of_same s7)
        cases kvs with
        | cons kv kvs' =>
          refine iteF ?_
          have l1 : 1 ≤ hp.length := by rw [← lk]; exact Nat.succ_le_succ (Nat.zero_le _)
          refine ⟨D, svs, st, rfl, ⟨s7 _ _ hP6, K7, s7 _ _ hD, R7, gH, l8, fun x hx => ?_, by omega⟩, B7⟩
          have := hg x hx
          rcases x with _ | ⟨i⟩ | ⟨o, e⟩
          · trivial
          · obtain ⟨h0, h1⟩ := this
            exact ⟨h0, by omega⟩
          · trivial
        | nil =>
          have e0 : hp = [] := List.eq_nil_of_length_eq_zero lk.symm
          subst e0
          refine iteT ?_
          refine ⟨_, rfl, D, rfl, ⟨_, SqL.of (s7 _ _ hD)⟩, fun D2 nD2 => ?_⟩
          have nDb2 := B7.nb nD2
          refine lc_list (K := K) (a := D) (xs := svs) (fun i H' => ∃ (vs : List V), H' D2 = some (.lst vs) ∧ RfAll H' ((st.take i).filter isNoOb) vs ∧ Same (upd H6 e0 (.dK [])) H' ∧ Bx H' b dg ds) ?_ ?_ ?_ ?_
          · exact ⟨[], upd_same, .nil, same_new (Same.refl _) nD2, B7.new nD2⟩
          · rintro i H' _ ⟨_, _, _, sm, _⟩
            exact SqL.of (sm _ _ (s7 _ _ hD))
          · rintro i x H' hi ⟨vs, hD', hR', sm, B'⟩
            obtain ⟨z, hz, zx⟩ := paired_back R7 hi
            have zx' := zx.mono (TupS.of_same sm)
            have tf := take_filter isNoOb hz
            have t1 : TupS H' (upd H' D2 (.lst (vs ++ [x]))) := TupS.mut (fun _ _ e => e) hD' (fun _ z => nomatch z)
            have lv : vs.length ≤ 4 := by
              have h1 := Paired.length hR'
              have h2 := List.length_filter_le isNoOb (st.take i)
              rw [List.length_take] at h2
              omega
            have keep : isNoOb z = true → ∃ acc, H' D2 = some (.lst acc) ∧ acc.length < sizeLine ∧ ∃ (vs : List V), (upd H' D2 (.lst (acc ++ [x]))) D2 = some (.lst vs) ∧ RfAll (upd H' D2 (.lst (acc ++ [x]))) ((st.take (i + 1)).filter isNoOb) vs ∧ Same (upd H6 e0 (.dK [])) (upd H' D2 (.lst (acc ++ [x]))) ∧ Bx (upd H' D2 (.lst (acc ++ [x]))) b dg ds := fun hz => by
              refine ⟨vs, hD', lt_size (by omega), vs ++ [x], upd_same, ?_, same_mut sm nD2, B'.upd nDb2.1 nDb2.2⟩
              rw [tf, if_pos hz]
              exact paired_app (RfAll.mono t1 hR') (paired_one (zx'.mono t1))
            refine ⟨rfl, ?_⟩
            refine ⟨_, rfl, _, rfl, ?_⟩
            cases z with
            | none =>
              obtain rfl : x = .non := zx
              exact ite2 (fun _ => iteT ⟨_, rfl, keep rfl⟩) (fun e => absurd (by decide) e)
            | some z =>
              cases z with
              | im o e =>
                obtain ⟨t, rfl, ha⟩ := zx'
                refine ite2 (fun e => absurd (of_decide_eq_true e) (fun z => nomatch z)) (fun _ => ?_)
                refine ⟨_, rfl, t, _, 0, _, rfl, rfl, SqT.of ha, atI_nat (j := 0) rfl, rfl, _, rfl, ite2 (fun _ => ⟨_, rfl, keep rfl⟩) (fun e => absurd (show (!decide (V.str "import" = V.str "object")) = true by rw [decide_eq_false nimpob]; rfl) e)⟩
              | ob j =>
                obtain ⟨t, rfl, ha⟩ := zx'
                refine ite2 (fun e => absurd (of_decide_eq_true e) (fun z => nomatch z)) (fun _ => ?_)
                refine ⟨_, rfl, t, _, 0, _, rfl, rfl, SqT.of ha, atI_nat (j := 0) rfl, rfl, _, rfl, ite2 (fun e => absurd (show (!decide (V.str "object" = V.str "object")) = true from e) (by rw [decide_eq_true rfl]; decide)) (fun _ => ⟨vs, hD', ?_, sm, B'⟩)⟩
                rw [tf, if_neg (fun z => nomatch z), List.append_nil]
                exact hR'
          · rintro H8 ⟨vs, hD', hR', sm, B'⟩
            rw [show st.take svs.length = st by rw [← Paired.length hR]; exact List.take_length] at hR'
            refine ⟨D2, vs, st.filter isNoOb, rfl, ⟨sm _ _ (s7 _ _ hP6), K7.mono (TupS.of_same sm), hD', hR', gH, l8, fun x hx => ?_, ?_⟩, B'⟩
            · have := (List.mem_filter.mp hx).2
              rcases x with _ | ⟨i⟩ | ⟨o, e⟩
              · trivial
              · exact nomatch this
              · trivial
            · have := List.length_filter_le isNoOb st
              omega
      rintro σ H7 ⟨D, svs, st, rfl, G, B7⟩
      -- given = list(start)
      refine ⟨_, rfl, D, svs, rfl, .inl (SqL.of G.hs), fun gv ngv => ?_⟩
      let H8 := upd H7 gv (.lst svs)
      have s78 : Same H7 H8 := same_new (Same.refl H7) ngv
      have hgv : H8 gv = some (.lst svs) := upd_same
      have B8 := B7.new (o := .lst svs) ngv
      have G8 := G.mono s78
      -- for number in range(len(heap) + 1)
      refine ⟨_, rfl, p, kvs, rfl, G8.atP, _, _, rfl, rfl, _, rfl, ?_, ?_, ?_⟩
      · omega
      · omega
      have en : ((kvs.length : Int) + 1).toNat = hp.length + 1 := by omega
      rw [en]
      refine for_range (lo := 0) (n := hp.length + 1) (fun t σ H' => ∃ (v8 v9 v10 : Option V), σ = [some (.ref a), some (.ref b), some (.int (0 + (turn : Int))), some (.ref p), some (.ref D), v5, v6, some (.ref gv), v8, v9, v10] ∧ Same H8 H') ?_ ?_ ?_
      · exact ⟨_, _, _, rfl, Same.refl H8⟩
      · rintro t σ H9 ht ⟨v8, v9, v10, rfl, s9⟩
        have G9 := G8.mono s9
        have lst_ok : ∀ {d : List Int} {v : Int}, PathTo (starts st) (adj hp) d v → d.length ≤ 100 → Sh 1 100000 (.list (d.map .int)) := fun {d v} hd hl => (sh_ints fun n hn => by have := hd.bd G.gr n hn; omega).mono (by omega) (by omega)
        have short : ∀ {d : List Int} {v : Int}, Least (starts st) (adj hp) 16 v d → d.length ≤ 100 := fun {d v} hd => by
          obtain ⟨q', h1, h2⟩ := hd.1.short (n := hp.length) G.gr fun u v h => G.in_ h
          have := hd.2 q' h1
          unfold sl at this
          omega
        refine ⟨_, rfl, _, rfl, _, rfl, p, D, 0 + (t : Int), kvs, hp, svs, st, rfl, G9, fun d1 l1 Ha sa ha le1 => ?_, fun Ha sa no => ?_⟩
        · have Ga := G9.mono sa
          refine ⟨_, rfl, _, rfl, _, rfl, p, D, 0 + (t : Int), kvs, hp, svs, st, rfl, Ga, fun d2 l2 Hb sb nl2 hb le2 => ?_, fun Hb sb no => absurd le1.1 (no _)⟩
          have e := Least.uniq G.gr le2 le1
          subst e
          refine ⟨_, rfl, _, rfl, ite2 (fun e => absurd (of_decide_eq_true e) (fun z => nomatch z)) (fun _ => iteF ?_)⟩
          refine ⟨_, rfl, _, rfl, ite2 (fun _ => ?_) (fun e => absurd (show (!decide (V.ref l1 = V.non)) = true from rfl) e)⟩
          refine ⟨_, rfl, _, rfl, l1, _, rfl, .inr (SqT.of (sb _ _ ha)), fun l3 nl3 => ?_⟩
          have hb3 : upd Hb l3 (.lst (d2.map V.int)) l2 = some (.lst (d2.map V.int)) := (upd_ne (ne_of_none hb nl3)).trans hb
          have sh := lst_ok le2.1 (short le2)
          refine ⟨l2, l3, .list (d2.map .int), .list (d2.map .int), rfl, .lst (SqL.of hb3) (dp_ints _), .lst (SqL.of upd_same) (dp_ints _), sh.fits, sh.fits, _, rfl, ?_⟩
          refine ite2 (fun z => absurd z (by rw [decide_eq_true rfl]; decide)) (fun _ => ?_)
          exact ⟨_, _, _, rfl, s9.trans (sa.trans (same_new sb nl3))⟩
        · have Ga := G9.mono sa
          refine ⟨_, rfl, _, rfl, _, rfl, p, D, 0 + (t : Int), kvs, hp, svs, st, rfl, Ga, fun d2 l2 Hb sb nl2 hb le2 => absurd le2.1 (no _), fun Hb sb no => ?_⟩
          refine ⟨_, rfl, _, rfl, ite2 (fun _ => ?_) (fun e => absurd (by decide) e)⟩
          refine ⟨_, rfl, _, rfl, ite2 (fun e => absurd e (by decide)) (fun _ => ?_)⟩
          refine ⟨_, rfl, _, rfl, ite2 (fun e => absurd e (by decide)) (fun _ => iteF ?_)⟩
          exact ⟨_, _, _, rfl, s9.trans (sa.trans sb)⟩
      · rintro σ H9 ⟨v8, v9, v10, rfl, s9⟩
        have G9 := G8.mono s9
        refine ⟨_, rfl, _, rfl, .list (st.map rfD), .list (st.map rfD), .lst (SqL.of G9.hs) (rf_dps G9.hst), .lst (SqL.of (s9 _ _ hgv)) (rf_dps G9.hst), rfs_shaped _, rfs_shaped _, _, rfl, ?_⟩
        have lay : PyData.canLay0 (.list (st.map rfD)) = true := by
          simp only [PyData.canLay0]
          exact rfs_lay st
        rw [SeqAt.eqv_refl _ lay]
        refine iteF ?_
        obtain ⟨n8, b1, b2⟩ := B8
        exact ⟨_, _, _, _, _, _, _, _, _, rfl, n8, s9 _ _ b1, s9 _ _ b2⟩
    · rintro σ H2 ⟨v2, v3, v4, v5, v6, v7, v8, v9, v10, rfl, B2⟩
      exact q _
end
end K2
set_option Elab.async false
set_option linter.all false
set_option maxRecDepth 100000
set_option maxHeartbeats 8000000
namespace K2
open PySem PySem.Spec PyProof.Rows L2 Gd Com
/-! K02e: what the top has written; the end. -/
theorem all_mk {l : PySem.W.OpenLaw} {w : World} {K : PySem.W.Frag} {h : Heap} {mg : Str → Option Value} {fa p0 p1 p2 p3 p4 p5 p6 p7 p8 p9 p10 : Addr} (X : K.In h) (G : h.Ns mainGlobals mg) (hfa : mg "law" = some (.ref fa))
    {od0 an0 od1 an1 od2 an2 od3 an3 od4 an4 od5 an5 od6 an6 od7 an7 od8 an8 od9 an9 od10 an10 : Option Addr} {sl0 sl1 sl2 sl3 sl4 sl5 sl6 sl7 sl8 sl9 sl10 : Array (Option Value)} {oc0 kV0 dc0 pm0 cd0 ct0 oc1 kV1 dc1 pm1 cd1 ct1 oc2 kV2 dc2 pm2 cd2 ct2 oc3 kV3 dc3 pm3 cd3 ct3 oc4 kV4 dc4 pm4 cd4 ct4 oc5 kV5 dc5 pm5 cd5 ct5 oc6 kV6 dc6 pm6 cd6 ct6 oc7 kV7 dc7 pm7 cd7 ct7 oc8 kV8 dc8 pm8 cd8 ct8 oc9 kV9 dc9 pm9 cd9 ct9 oc10 kV10 dc10 pm10 cd10 ct10 : Value}
    (a0 : PySem.W.nsIn K mainGlobals "_law_cell" = some (some (.ref p0))) (l0 : K.lookup p0 = some ⟨oc0, od0, .func (PySem.W.fnOf "_law_cell" "_law_cell" (defArgs s_law_cell) (defBody s_law_cell) (defScope s_law_cell) .none kV0 dc0 pm0 an0 cd0 ct0), sl0⟩) (c0 : PySem.W.codeIn K cd0 "_law_cell" = true) (k0 : PySem.W.keepIn K (.ref p0) = true)
    (a1 : PySem.W.nsIn K mainGlobals "_law_digits" = some (some (.ref p1))) (l1 : K.lookup p1 = some ⟨oc1, od1, .func (PySem.W.fnOf "_law_digits" "_law_digits" (defArgs s_law_digits) (defBody s_law_digits) (defScope s_law_digits) .none kV1 dc1 pm1 an1 cd1 ct1), sl1⟩) (c1 : PySem.W.codeIn K cd1 "_law_digits" = true) (k1 : PySem.W.keepIn K (.ref p1) = true)
    (a2 : PySem.W.nsIn K mainGlobals "_law_draw" = some (some (.ref p2))) (l2 : K.lookup p2 = some ⟨oc2, od2, .func (PySem.W.fnOf "_law_draw" "_law_draw" (defArgs s_law_draw) (defBody s_law_draw) (defScope s_law_draw) .none kV2 dc2 pm2 an2 cd2 ct2), sl2⟩) (c2 : PySem.W.codeIn K cd2 "_law_draw" = true) (k2 : PySem.W.keepIn K (.ref p2) = true)
    (a3 : PySem.W.nsIn K mainGlobals "_law_alike" = some (some (.ref p3))) (l3 : K.lookup p3 = some ⟨oc3, od3, .func (PySem.W.fnOf "_law_alike" "_law_alike" (defArgs s_law_alike) (defBody s_law_alike) (defScope s_law_alike) .none kV3 dc3 pm3 an3 cd3 ct3), sl3⟩) (c3 : PySem.W.codeIn K cd3 "_law_alike" = true) (k3 : PySem.W.keepIn K (.ref p3) = true)
    (a4 : PySem.W.nsIn K mainGlobals "_law_heap" = some (some (.ref p4))) (l4 : K.lookup p4 = some ⟨oc4, od4, .func (PySem.W.fnOf "_law_heap" "_law_heap" (defArgs s_law_heap) (defBody s_law_heap) (defScope s_law_heap) .none kV4 dc4 pm4 an4 cd4 ct4), sl4⟩) (c4 : PySem.W.codeIn K cd4 "_law_heap" = true) (k4 : PySem.W.keepIn K (.ref p4) = true)
    (a5 : PySem.W.nsIn K mainGlobals "_law_paths" = some (some (.ref p5))) (l5 : K.lookup p5 = some ⟨oc5, od5, .func (PySem.W.fnOf "_law_paths" "_law_paths" (defArgs s_law_paths) (defBody s_law_paths) (defScope s_law_paths) .none kV5 dc5 pm5 an5 cd5 ct5), sl5⟩) (c5 : PySem.W.codeIn K cd5 "_law_paths" = true) (k5 : PySem.W.keepIn K (.ref p5) = true)
    (a6 : PySem.W.nsIn K mainGlobals "law" = some (some (.ref p6))) (l6 : K.lookup p6 = some ⟨oc6, od6, .func (PySem.W.fnOf "law" "law" (defArgs s_law) (defBody s_law) (defScope s_law) .none kV6 dc6 pm6 an6 cd6 ct6), sl6⟩) (c6 : PySem.W.codeIn K cd6 "law" = true) (k6 : PySem.W.keepIn K (.ref p6) = true)
    (a7 : PySem.W.nsIn K mainGlobals "shortest_path" = some (some (.ref p7))) (l7 : K.lookup p7 = some ⟨oc7, od7, .func (PySem.W.fnOf "shortest_path" "shortest_path" (defArgs s_shortest_path) (defBody s_shortest_path) (defScope s_shortest_path) .none kV7 dc7 pm7 an7 cd7 ct7), sl7⟩) (c7 : PySem.W.codeIn K cd7 "shortest_path" = true) (k7 : PySem.W.keepIn K (.ref p7) = true)
    (a8 : PySem.W.nsIn K mainGlobals "least_path" = some (some (.ref p8))) (l8 : K.lookup p8 = some ⟨oc8, od8, .func (PySem.W.fnOf "least_path" "least_path" (defArgs s_least_path) (defBody s_least_path) (defScope s_least_path) .none kV8 dc8 pm8 an8 cd8 ct8), sl8⟩) (c8 : PySem.W.codeIn K cd8 "least_path" = true) (k8 : PySem.W.keepIn K (.ref p8) = true)
    (a9 : PySem.W.nsIn K mainGlobals "_path_to" = some (some (.ref p9))) (l9 : K.lookup p9 = some ⟨oc9, od9, .func (PySem.W.fnOf "_path_to" "_path_to" (defArgs s_path_to) (defBody s_path_to) (defScope s_path_to) .none kV9 dc9 pm9 an9 cd9 ct9), sl9⟩) (c9 : PySem.W.codeIn K cd9 "_path_to" = true) (k9 : PySem.W.keepIn K (.ref p9) = true)
    (a10 : PySem.W.nsIn K mainGlobals "_object_ids" = some (some (.ref p10))) (l10 : K.lookup p10 = some ⟨oc10, od10, .func (PySem.W.fnOf "_object_ids" "_object_ids" (defArgs s_object_ids) (defBody s_object_ids) (defScope s_object_ids) .none kV10 dc10 pm10 an10 cd10 ct10), sl10⟩) (c10 : PySem.W.codeIn K cd10 "_object_ids" = true) (k10 : PySem.W.keepIn K (.ref p10) = true)
    (z_len : PySem.W.nsIn K mainGlobals "len" = some none)
    (z_int : PySem.W.nsIn K mainGlobals "int" = some none)
    (z_range : PySem.W.nsIn K mainGlobals "range" = some none)
    (z_tuple : PySem.W.nsIn K mainGlobals "tuple" = some none)
    (z_list : PySem.W.nsIn K mainGlobals "list" = some none)
    (z_sorted : PySem.W.nsIn K mainGlobals "sorted" = some none)
    (z_repr : PySem.W.nsIn K mainGlobals "repr" = some none)
    (z_max : PySem.W.nsIn K mainGlobals "max" = some none)
    : ∃ fd : FuncData, (∀ (s : Shared) (v : Value), BindsTo s fd ⟨[v], []⟩ [("script", v)]) ∧ ∀ base : Heap, K.In base → base.Ns mainGlobals mg → FnG l.prog w K mg base 4 fa fd ["script"] (spLaw K) := by
  have e := hfa.symm.trans (PySem.W.mg_of X G a6)
  cases e
  have F0 := fun_mk (st := s_law_cell) l0 c0 k0
  have b0 := F0.binds (ps := ["script", "k"]) fun _ _ _ _ _ _ us hl => match us, hl with | [_, _], _ => rfl
  have F1 := fun_mk (st := s_law_digits) l1 c1 k1
  have b1 := F1.binds (ps := ["script", "first", "last"]) fun _ _ _ _ _ _ us hl => match us, hl with | [_, _, _], _ => rfl
  have F2 := fun_mk (st := s_law_draw) l2 c2 k2
  have b2 := F2.binds (ps := ["box", "many"]) fun _ _ _ _ _ _ us hl => match us, hl with | [_, _], _ => rfl
  have F3 := fun_mk (st := s_law_alike) l3 c3 k3
  have b3 := F3.binds (ps := ["one", "two"]) fun _ _ _ _ _ _ us hl => match us, hl with | [_, _], _ => rfl
  have F4 := fun_mk (st := s_law_heap) l4 c4 k4
  have b4 := F4.binds (ps := ["box"]) fun _ _ _ _ _ _ us hl => match us, hl with | [_], _ => rfl
  have F5 := fun_mk (st := s_law_paths) l5 c5 k5
  have b5 := F5.binds (ps := ["heap", "start", "number"]) fun _ _ _ _ _ _ us hl => match us, hl with | [_, _, _], _ => rfl
  have F6 := fun_mk (st := s_law) l6 c6 k6
  have b6 := F6.binds (ps := ["script"]) fun _ _ _ _ _ _ us hl => match us, hl with | [_], _ => rfl
  have F7 := fun_mk (st := s_shortest_path) l7 c7 k7
  have b7 := F7.binds (ps := ["heap", "start", "goal"]) fun _ _ _ _ _ _ us hl => match us, hl with | [_, _, _], _ => rfl
  have F8 := fun_mk (st := s_least_path) l8 c8 k8
  have b8 := F8.binds (ps := ["following", "starts", "ends"]) fun _ _ _ _ _ _ us hl => match us, hl with | [_, _, _], _ => rfl
  have F9 := fun_mk (st := s_path_to) l9 c9 k9
  have b9 := F9.binds (ps := ["before", "last"]) fun _ _ _ _ _ _ us hl => match us, hl with | [_, _], _ => rfl
  have F10 := fun_mk (st := s_object_ids) l10 c10 k10
  have b10 := F10.binds (ps := ["references"]) fun _ _ _ _ _ _ us hl => match us, hl with | [_], _ => rfl
  have A : All K mg := ⟨⟨_, _, F0, PySem.W.mg_of X G a0, b0⟩, ⟨_, _, F1, PySem.W.mg_of X G a1, b1⟩, ⟨_, _, F2, PySem.W.mg_of X G a2, b2⟩, ⟨_, _, F3, PySem.W.mg_of X G a3, b3⟩, ⟨_, _, F4, PySem.W.mg_of X G a4, b4⟩, ⟨_, _, F5, PySem.W.mg_of X G a5, b5⟩, ⟨_, _, F6, PySem.W.mg_of X G a6, b6⟩, ⟨_, _, F7, PySem.W.mg_of X G a7, b7⟩, ⟨_, _, F8, PySem.W.mg_of X G a8, b8⟩, ⟨_, _, F9, PySem.W.mg_of X G a9, b9⟩, ⟨_, _, F10, PySem.W.mg_of X G a10, b10⟩, PySem.W.mg_none_of X G z_len, PySem.W.mg_none_of X G z_int, PySem.W.mg_none_of X G z_range, PySem.W.mg_none_of X G z_tuple, PySem.W.mg_none_of X G z_list, PySem.W.mg_none_of X G z_sorted, PySem.W.mg_none_of X G z_repr, PySem.W.mg_none_of X G z_max⟩
  exact ⟨_, fun s v => .of_eq rfl, fun base _ _ => ok_law A F6⟩
end K2
open PySem PySem.W PyProof.Rows
set_option maxRecDepth 100000 in
set_option maxHeartbeats 0 in
theorem PySem.Challenge.cw_keptbywitness_k02_shortest_paths_holds : PySem.Challenge.rw_keptbywitness_k02_shortest_paths.Holds := by
  w_on; o_law; k_head; (case hw => w_witness2)
  k_fill
  refine Gd.walkG (l := PySem.Challenge.rw_keptbywitness_k02_shortest_paths) (n := 63) (k := 4) (x := "script") (sp := fun w => K2.spLaw _) rfl (by decide) rfl ⟨rfl, by decide, by decide⟩ (fun w h Y => PySem.W.kIn_of Y) ?F (fun w H a ns hl _ hS => ⟨a, ns, rfl, hS, hl, fun _ => rfl⟩)
  case F =>
    intro w mg fa h KX G hmg
    refine' K2.all_mk KX G hmg ?a0 ?l0 ?c0 ?k0 ?a1 ?l1 ?c1 ?k1 ?a2 ?l2 ?c2 ?k2 ?a3 ?l3 ?c3 ?k3 ?a4 ?l4 ?c4 ?k4 ?a5 ?l5 ?c5 ?k5 ?a6 ?l6 ?c6 ?k6 ?a7 ?l7 ?c7 ?k7 ?a8 ?l8 ?c8 ?k8 ?a9 ?l9 ?c9 ?k9 ?a10 ?l10 ?c10 ?k10 ?z_len ?z_int ?z_range ?z_tuple ?z_list ?z_sorted ?z_repr ?z_max
    (case a0 => k_is)
    (case l0 => k_is)
    (case c0 => k_is)
    (case k0 => k_is)
    (case a1 => k_is)
    (case l1 => k_is)
    (case c1 => k_is)
    (case k1 => k_is)
    (case a2 => k_is)
    (case l2 => k_is)
    (case c2 => k_is)
    (case k2 => k_is)
    (case a3 => k_is)
    (case l3 => k_is)
    (case c3 => k_is)
    (case k3 => k_is)
    (case a4 => k_is)
    (case l4 => k_is)
    (case c4 => k_is)
    (case k4 => k_is)
    (case a5 => k_is)
    (case l5 => k_is)
    (case c5 => k_is)
    (case k5 => k_is)
    (case a6 => k_is)
    (case l6 => k_is)
    (case c6 => k_is)
    (case k6 => k_is)
    (case a7 => k_is)
    (case l7 => k_is)
    (case c7 => k_is)
    (case k7 => k_is)
    (case a8 => k_is)
    (case l8 => k_is)
    (case c8 => k_is)
    (case k8 => k_is)
    (case a9 => k_is)
    (case l9 => k_is)
    (case c9 => k_is)
    (case k9 => k_is)
    (case a10 => k_is)
    (case l10 => k_is)
    (case c10 => k_is)
    (case k10 => k_is)
    (case z_len => k_is)
    (case z_int => k_is)
    (case z_range => k_is)
    (case z_tuple => k_is)
    (case z_list => k_is)
    (case z_sorted => k_is)
    (case z_repr => k_is)
    (case z_max => k_is)
