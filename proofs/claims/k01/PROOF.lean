import PyProof.Rows.All
import Wide.All
import OpenK.AllK
import Wide.FinOn
import PyProof.ReprRoads
import HandS.ForMost
import HandS.SortRule
import HandS.SortInts
import HandS.ListItems
import HandS.Deep
import HandS.Walk
import HandS.TupLen
import HandS.Evl
import PySem.Challenge.RW_keptbywitness_k01_what_references_lead_t
import HandS.More
set_option Elab.async false
set_option linter.all false
set_option maxRecDepth 100000
/-! G: a def's promise for calls under which no repr is under way; repr of data; the end of a row by such a promise. -/
namespace Gd
open PySem PySem.Spec PyProof.Rows L2

/-- like FnOk, for the arounds in which no guarded builtin runs -/
structure FnG (P : Program) (w : World) (K : PySem.W.Frag) (mg : Str → Option Value) (base : Heap) (k : Nat)
    (f : Addr) (fd : FuncData) (ps : List Str) (sp : Sp) : Prop where
  len : ∀ vs H Q E, sp vs H Q E → vs.length = ps.length
  run : ∀ (A : Around) (out : List Env) (s : Shared) (H : Hp) (ar : Args) (us : List Value) (vs : List V) (Q : VK) (E : XK),
    A.guards = some [] → Room k A → Env0 P w K mg base A out s H → BindsTo s fd ar (ps.zip us) → Vals vs us → sp vs H Q E →
    codeAny (model P w) A (.call (.ref f) ar) (CR CX0 out P w H s Q E) s

theorem FnG.of {P : Program} {w : World} {K : PySem.W.Frag} {mg : Str → Option Value} {base : Heap} {k : Nat}
    {f : Addr} {fd : FuncData} {ps : List Str} {sp : Sp} (F : FnOk P w K mg base CX0 k f fd ps sp) : FnG P w K mg base k f fd ps sp :=
  ⟨F.len, fun A out s H ar us vs Q E _ r e b v h => F.run A out s H ar us vs Q E r e b v h⟩

section
variable {X : Cx} {k : Nat} {f : Addr} {fd : FuncData} {ps : List Str} {sp : Sp} {dvs : List V} {ds : List Value} {E : XK} {x : Str}
  {p pos : Pos} {e : Expr} {es : List Expr} {t : TA}

theorem runG {pins : List (Addr × Obj)} {σ : L2.St} {H : Hp} {s : Shared} {Q : VK} {us : List Value} {vs : List V}
    (F : FnG X.prog X.w X.K X.mg X.base k f fd ps sp) (hgd : X.A.guards = some []) (hr : Room k X.A) (hb : Binds X.K fd ps ds) (hd : Vals dvs ds)
    (I : Inv X pins σ H s) (r : Vals vs us) (h : sp (vs ++ dvs) H Q E) :
    wpAny (model X.prog X.w) X.A (call (.ref f) us) (EP X pins σ Q) X.xe s := by
  have rr : Vals (vs ++ dvs) (us ++ ds) := r.append hd
  have ln : (us ++ ds).length = ps.length := rr.length.symm.trans (F.len _ _ _ _ h)
  have c := F.run X.A X.stack s H ⟨us, []⟩ (us ++ ds) (vs ++ dvs) Q E hgd hr I.env0 (hb s us I.kIn ln) rr h
  refine wpAny_call (codeAny_mono c ?_)
  intro res s' hq
  match res, hq with
  | .error _, hq => exact False.elim hq
  | .ok (.ret u), hq => exact I.after hq
  | .ok .next, hq => exact False.elim hq
  | .ok .brk, hq => exact False.elim hq
  | .ok .cont, hq => exact False.elim hq

theorem pe_callG (F : FnG X.prog X.w X.K X.mg X.base k f fd ps sp) (hgd : X.A.guards = some []) (hr : Room k X.A) (hg : Gl X x)
    (hm : X.mg x = some (.ref f)) (hk : PySem.W.keepIn X.K (.ref f) = true) (hb : Binds X.K fd ps ds) (hd : Vals dvs ds)
    (ha : PA X (e :: es) t) (hdb : (x == ("__debug__" : Str)) = false := by decide)
    (hse : starEach (e :: es) X.env = (false, eval e X.env) :: starEach es X.env := by rfl)
    (hpl : (backTo pos (starEach es X.env)).any (·.1) = false := by rfl) :
    PE X (.Call (.Name x p) (e :: es) [] pos) (tCall sp dvs (fun _ _ _ => False) t) := by
  constructor
  intro pins s σ H Q I h
  refine wpAny_Call_Name_kw (ld_glob I hg hm (PySem.W.callWith_K (h₀ := X.base) I.ok.mod.kin hk ?_ hse hpl) hdb)
  exact thn (ha.run pos pins s σ H _ I h) fun us s1 ⟨vs, H1, J, r, q⟩ => ⟨J.kIn, runG F hgd hr hb hd J r q⟩
end

theorem fn_G {P : Program} {w : World} {K : PySem.W.Frag} {mg : Str → Option Value} {base : Heap} {k : Nat} {f : Addr} {nm qual : Str} {st : Stmt} {fd : FuncData}
    {N ps : List Str} {sp : Sp} (F : Fun K nm qual st f fd) (S : FnScope N ps (defScope st)) (len : ∀ vs H Q E, sp vs H Q E → vs.length = ps.length)
    (body : ∀ (cdv : Value) (A : Around) (out : List Env) (s : Shared) (H : Hp) (vs : List V) (Q : VK) (E : XK), A.guards = some [] →
      Room k (A.deeper (envOfC qual (defScope st) s.heap.objs.size f cdv)) → sp vs H Q E →
      ∃ t, PSs (cxOf CX0 P w K mg base N qual (defScope st) f cdv A out s H E).nox (defBody st) t ∧ t { nx := fun _ H' => Q .non H', rt := Q } (start N vs) H) :
    FnG P w K mg base (k + 1) f fd ps sp := by
  obtain ⟨oc, od, kV, doc, pm, an, cdv, ct, osl, rfl, lk, hcd⟩ := F.ex
  refine ⟨len, ?_⟩
  intro A out s H ar us vs Q E hgd hr e0 hb r hsp
  have kin : K.In s.heap := e0.mod.kin.keeps fun b o z => (e0.bs b o z).1
  have lim : s.heap.NoLimit := e0.mod.nolimit.keeps fun b o z => (e0.bs b o z).1
  have kinds : ∀ y ∈ ps.zip us, (defScope st).names.lookup y.1 = some .local ∨
      ((defScope st).names.lookup y.1 = some .cell ∧ ((cellsFrom (s.heap.objs.size + 1) (defScope st).names []).lookup y.1).isSome = true) := by
    rintro ⟨n, v⟩ hy
    exact (S.par n (List.of_mem_zip hy).1).imp id fun q => ⟨q, PySem.W.cellsFrom_some _ _ _ (.inl q)⟩
  refine codeAny_call_function hr.depth (kin _ _ lk) rfl S.co S.gen rfl (PySem.W.codeRec_of kin hcd) (hb _ _ _ _ ?_)
  refine wpAny_newFunctionEnv_cells S.kind kinds ?_
  intro env he s1 x
  subst he
  refine ⟨lim.keeps x.toInCall.keep, codeAny_func ?_⟩
  obtain ⟨t, ht, hq⟩ := body cdv A out s H vs Q E hgd (hr.deeper _) hsp
  have I := inv_start (CX := CX0) (qual := qual) (f := f) (cd := cdv) (E := E) (w := w) S hr.hd e0 (len _ _ _ _ hsp) r x
  refine wpAny_mono (ht.nox.run [] s1 (start N vs) H _ I hq) ?_ fun _ _ z => z
  intro fl s' hs
  have fin : ∀ {σ' : L2.St} {H' : Hp} {v : V} {u : Value}, Inv (cxOf CX0 P w K mg base N qual (defScope st) f cdv A out s H E) [] σ' H' s' →
      RelV v u → Q v H' → CE out P w H s Q u s' := fun J rv q => ⟨_, _, J.os, J.bare, J.base, J.hok, rv, q⟩
  match fl, hs with
  | .ret u, ⟨v, σ', H', J, rv, q⟩ => exact fin J rv q
  | .next, ⟨σ', H', J, q⟩ => exact fin (v := V.non) (u := Value.none) J rfl q
  | .brk, ⟨_, _, _, q⟩ => exact False.elim q
  | .cont, ⟨_, _, _, q⟩ => exact False.elim q

/-! ### repr of data -/
def rRepr (K : PySem.W.Frag) : List V → Hp → VK → Prop := fun xs H Q => ∃ (a : Addr) (d : PyData), xs = [.ref a] ∧ Dp K H (.ref a) d ∧
  d.showable = true ∧ d.hasDict = false ∧ d.depth ≤ 60 ∧ d.shown.length ≤ sizeLine ∧ Q (.str d.shown) H
theorem call_reprG {X : Cx} (hgd : X.A.guards = some []) (hu : X.A.units + 64 < cLine) : CallR X (.builtin "repr") (rRepr X.K) := by
  intro pins s σ H xs us Q I r h
  obtain ⟨a, d, rfl, hD, hs, hn, hdp, hz, q⟩ := h
  obtain ⟨u, rfl, rx⟩ := vals1 r
  obtain rfl : u = Value.ref a := rx
  obtain ⟨as, rd⟩ := Dp.reads I d (.ref a) (.ref a) hD rfl
  refine repr_of_reads' rd hs (fun z => ?_) hgd (by omega) (fun _ _ z => z) (fun h' v tk keep => ?_) hz
  · rw [hn] at z
    cases z
  · exact ⟨.str d.shown, H, I.kept keep, ⟨_, rfl⟩, q⟩

/-! ### l.extend(t), t a tuple -/
def rExtT (K : PySem.W.Frag) : V → List V → Hp → VK → Prop := fun x vs H Q => ∃ (l b : Addr) (xs zs : List V), x = .ref l ∧ vs = [.ref b] ∧
  H l = some (.lst xs) ∧ SqT K H b zs ∧ xs.length + zs.length ≤ sizeLine ∧ Q .non (upd H l (.lst (xs ++ zs)))
theorem ext_meets (l : Addr) (its : Array Value) (n : Nat) (b : Addr) (more : Array Value) (m : Nat) (dd : Option Addr) (sl : Array (Option Value))
    (h0 : ¬(!its.isEmpty && Builtin.List.listTooLong (its.size + more.size)) = true) (h1 : its.size ≤ sizeLine) (h2 : its.size + more.size ≤ sizeLine + 1) :
    Meets (Builtin.«list.extend» ⟨[.ref l, .ref b], []⟩) (fun _ R s =>
      s.heap.get? l = some { cls := .type "list", dict := none, data := .seq its n, slots := #[] } ∧
      s.heap.get? b = some { cls := .type "tuple", dict := dd, data := .seq more m, slots := sl } ∧
      R (.ok (.ret Value.none)) { s with heap := s.heap.update l (Obj.mapSeq fun x => x ++ more), toks := s.toks }) := by
  refine .of_wp fun prog w A R s h => ?_
  obtain ⟨hp, g, d, tk, os⟩ := s
  obtain ⟨hl, hb, h⟩ := h
  have f1 := AutoSeq1.idx_int
  have f2 := AutoSeq1.sub_tuple_tuple
  have f3 := AutoSeq1.sub_list_list
  have f4 := AutoSeq1.sub_tuple_list
  have f5 := AutoSeq1.sub_list_tuple
  have hz : (its ++ more).size ≤ sizeLine + 1 := by
    rw [Array.size_append]
    exact h2
  wp_walk using (wpAny_updateSeq hl rfl (hz := h1) (_hz' := hz)), AutoSeq1.wpAny_loadPart' hl, AutoSeq1.wpAny_loadPart' hb
  exact ⟨_, rfl, h⟩
theorem mt_extT {X : Cx} : MtM X "list.extend" (rExtT X.K) := by
  intro pins s σ H x vs v us Q I rx rv h
  obtain ⟨l, b, xs, zs, rfl, rfl, hH, hB, hz, q⟩ := h
  cases rx
  obtain ⟨u, rfl, ru⟩ := rv.one
  cases ru
  obtain ⟨z, its, n, r, hl, e⟩ := I.lstM hH
  obtain ⟨its2, r2, ⟨o, e2, hc, m, hd⟩, z2⟩ := I.tuple hB
  have l2 := r2.length
  obtain ⟨cls, dd, dat, sl⟩ := o
  cases hc
  cases hd
  have sz : its.toArray.size + its2.toArray.size ≤ sizeLine := by
    rw [List.size_toArray, List.size_toArray]
    omega
  refine call_meets F.slot_list_extend ⟨_, e, rfl⟩ F.entry_list_extend (F.args_list_extend_2 _ _)
    (ext_meets l its.toArray n b its2.toArray m dd sl (by rw [notLongL sz, Bool.and_false]; exact Bool.false_ne_true) (by omega) (by omega)) ⟨e, e2, ?_⟩
  refine ⟨.non, _, I.lset (its' := its ++ its2) hH e (by simp) (r.append r2) ?_, rfl, q⟩
  rw [List.length_append]
  omega

/-! ### the end of a row -/
section
variable {P : Program} {w : World} {K : PySem.W.Frag} {mg mb : Str → Option Value} {k : Nat} {fa a : Addr} {fd : FuncData} {x : Str} {sp : Sp} {s1 : Shared}
  {vs : List Value} {ns : List Int} {H : Hp}

theorem coreG (KX : K.In s1.heap) (hns : s1.heap.Ns mainGlobals mg) (hb : s1.heap.Ns builtinsNs mb) (hbb : ∀ x : Str, x ≠ "__name__" → mb x = bootBuiltins x)
    (hlim : s1.heap.NoLimit) (hg : s1.gens = #[]) (ha : s1.heap.get? a = some { cls := .type "list", data := .seq vs.toArray }) (hr : Room k callerA)
    (F : ∀ base : Heap, K.In base → base.Ns mainGlobals mg → FnG P w K mg base k fa fd [x] sp)
    (hbind : ∀ (s : Shared) (u : Value), BindsTo s fd ⟨[u], []⟩ [(x, u)])
    (hO : Only H) (hok : HOk P w H s1.heap) (one : ∀ b, H b ≠ none → b = a) (apart : H a ≠ none → K.lookup a = none)
    (hsp : sp [.ref a] H (fun v _ => v = .bl true) fun _ _ _ => False) :
    codeAny (model P w) callerA (.call (.ref fa) ⟨[.ref a], []⟩)
      (fun r s' => r = .ok (.ret (.bool true)) ∧ OldK s1.heap s'.heap ∧ s'.os = s1.os ∧ AllBare s'.gens) s1 := by
  have un : ∀ {b : Addr} {o : Obj}, s1.heap.get? b = some o → (b = a → False) → H b = none := fun {b o} _ h => by
    cases q : H b with
    | none => rfl
    | some u => exact (h (one b (by rw [q]; exact fun z => nomatch z))).elim
  have nd : ∀ {b : Addr} {o : Obj} {es : Array DictEntry} {ep : Nat}, s1.heap.get? b = some o → o.data = .dict es ep → H b = none := fun {b o es ep} e d =>
    un e fun z => by
      subst z
      rw [ha] at e
      cases e
      exact nomatch (d : Data.seq vs.toArray _ = Data.dict es ep)
  have ns' : ∀ {b : Addr} {m : Str → Option Value}, s1.heap.Ns b m → (hidT s1.heap H).Ns b m := fun {b m} h => by
    obtain ⟨o, es, ep, e, d, r⟩ := h
    exact ⟨o, es, ep, hidT_get e (nd e d), d, r⟩
  have kin : K.In (hidT s1.heap H) := fun b o e => by
    refine hidT_get (KX b o e) ?_
    cases q : H b with
    | none => rfl
    | some u =>
      have eb : b = a := one b (by rw [q]; exact fun z => nomatch z)
      subst eb
      have z := apart (by rw [q]; exact fun z => nomatch z)
      rw [z] at e
      cases e
  obtain ⟨mc, l1, l2⟩ := hlim
  have hM : Mod K mg (hidT s1.heap H) := ⟨kin, ns' hns, ⟨mb, ns' hb, hbb⟩, ⟨mc, ns' l1, l2⟩⟩
  have e0 : Env0 P w K mg (hidT s1.heap H) callerA [] s1 H :=
    { frames := rfl, mod := hM, bs := fun b o z => of_hidT z, bsz := Nat.le_of_eq (hidT_size _ _), funs := trivial, frf := fun b z => (List.not_mem_nil (show b ∈ ([] : List Addr) from z)).elim, hok := hok, bare := .of_eq hg }
  have run := (F _ kin (ns' hns)).run callerA [] s1 H ⟨[.ref a], []⟩ [.ref a] [.ref a] _ _ rfl hr e0 (hbind s1 (.ref a)) (.cons rfl .nil) hsp
  refine codeAny_mono run fun r s' h => ?_
  match r, h with
  | .error _, h => exact False.elim h
  | .ok .next, h => exact False.elim h
  | .ok .brk, h => exact False.elim h
  | .ok .cont, h => exact False.elim h
  | .ok (.ret u), ⟨v, H', os, bare, u2, hok', r', q⟩ =>
    obtain rfl : v = .bl true := q
    obtain rfl : u = Value.bool true := r'
    refine ⟨rfl, OldK.of_keep fun b o e => ?_, os, bare⟩
    cases q : H b with
    | none => exact u2.keep b o e q (fun z => nomatch z) (fun z => nomatch z)
    | some y =>
      rcases hO b with z | ⟨ob, xs, z⟩
      · rw [q] at z
        cases z
      · obtain ⟨e1, _⟩ := hok b _ z
        obtain ⟨e2, _⟩ := hok' b _ (u2.frzs b ob _ z)
        rw [e] at e1
        cases e1
        exact e2

theorem lawG (KX : K.In s1.heap) (hns : s1.heap.Ns mainGlobals mg) (hb : s1.heap.Ns builtinsNs mb) (hbb : ∀ x : Str, x ≠ "__name__" → mb x = bootBuiltins x)
    (hlim : s1.heap.NoLimit) (hg : s1.gens = #[]) (ha : s1.heap.get? a = some { cls := .type "list", data := .seq vs.toArray }) (hi : IntsAre vs ns)
    (hl : ns.length ≤ sizeLine) (hr : Room k callerA)
    (F : ∀ base : Heap, K.In base → base.Ns mainGlobals mg → FnG P w K mg base k fa fd [x] sp)
    (hbind : ∀ (s : Shared) (u : Value), BindsTo s fd ⟨[u], []⟩ [(x, u)])
    (hsp : ∀ H : Hp, Only H → SqL K H a (ns.map V.int) → sp [.ref a] H (fun v _ => v = .bl true) fun _ _ _ => False) :
    codeAny (model P w) callerA (.call (.ref fa) ⟨[.ref a], []⟩)
      (fun r s' => r = .ok (.ret (.bool true)) ∧ OldK s1.heap s'.heap ∧ s'.os = s1.os ∧ AllBare s'.gens) s1 := by
  have rv := vals_ints hi
  have lv := hi.length
  cases hk : K.lookup a with
  | some o =>
    have e := KX a o hk
    rw [ha] at e
    cases e
    have S : SqL K (fun _ => none) a (ns.map V.int) := .inr ⟨_, vs.toArray, _, hk, rfl, rfl, rfl, by rw [List.size_toArray, lv]; exact hl, rv⟩
    have O : Only (fun _ => none) := fun _ => .inl rfl
    exact coreG (H := fun _ => none) KX hns hb hbb hlim hg ha hr F hbind O (fun b u z => nomatch (z : (none : Option HO) = some u)) (fun b z => absurd rfl z) (fun z => absurd rfl z) (hsp _ O S)
  | none =>
    let o : Obj := { cls := .type "list", data := .seq vs.toArray }
    let G : Hp := fun b => if b = a then some (.frz o (.lst (ns.map V.int))) else none
    have Ga : G a = some (.frz o (.lst (ns.map V.int))) := if_pos rfl
    have Gn : ∀ b, b ≠ a → G b = none := fun b h => if_neg h
    have O : Only G := fun b => by
      by_cases q : b = a
      · subst q
        exact .inr ⟨_, _, Ga⟩
      · exact .inl (Gn b q)
    have ok : HOk P w G s1.heap := fun b u z => by
      by_cases q : b = a
      · subst q
        rw [Ga] at z
        cases z
        exact ⟨ha, by rw [List.length_map]; exact hl, vs, _, rv, ha⟩
      · rw [Gn b q] at z
        cases z
    refine coreG (H := G) KX hns hb hbb hlim hg ha hr F hbind O ok (fun b z => ?_) (fun _ => hk) (hsp G O (.inl (.inr ⟨o, Ga⟩)))
    by_cases q : b = a
    · exact q
    · exact absurd (Gn b q) z
end

theorem walkG {l : PySem.W.OpenLaw} {n k : Nat} {q : Program} {loose : List Str} {XP : (Str → Option Value) → Heap → Prop} {YP : World → Heap → Prop} {d : DefRec}
    {K : Params → PySem.W.Frag} {sp : World → Sp} {x : Str} (hn : l.most = some n) (hn2 : n ≤ sizeLine) (hdf : d.params.defaults = []) (hr : Room k callerA)
    (hY : ∀ (w : World) (h : Heap), YP w h → (K w.params).In h)
    (F : ∀ (w : World) (mg : Str → Option Value) (fa : Addr) (h : Heap), (K w.params).In h → h.Ns mainGlobals mg → mg d.name = some (.ref fa) →
      ∃ fd : FuncData, (∀ (s : Shared) (u : Value), BindsTo s fd ⟨[u], []⟩ [(x, u)]) ∧
        ∀ base : Heap, (K w.params).In base → base.Ns mainGlobals mg → FnG l.prog w (K w.params) mg base k fa fd [x] (sp w))
    (hsp : ∀ (w : World) (H : Hp) (a : Addr) (ns : List Int), ns.length ≤ n → Only H → SqL (K w.params) H a (ns.map V.int) →
      sp w [.ref a] H (fun v _ => v = .bl true) fun _ _ _ => False) :
    PySem.W.WalkO q loose XP YP l.row.toRowW d [] (fun f vs => PySem.call f vs) := by
  refine Att.attach_call hn hdf ?_
  intro w s0 s1 mg mb fa o pm cd doc a vs ns G Y ho hd hcd hmg hobj hints hlen hg
  have KX := hY w _ Y
  obtain ⟨fd, hb, hF⟩ := F w mg fa _ KX G.T.g hmg
  exact lawG KX G.T.g G.T.b G.T.builtins G.T.nolimit hg hobj hints (Nat.le_trans hlen hn2) hr hF hb fun H hO hS => hsp w H a ns hlen hO hS
end Gd
set_option linter.all false
/-! M1: what references lead to: the mathematics. -/
namespace K1
inductive Rf where
  | ob (i : Int)
  | im (o e : Int)
  deriving DecidableEq

def look (hp : List (Int × List (Option Rf))) (i : Int) : List (Option Rf) := ((hp.find? fun p => decide (p.1 = i)).map (·.2)).getD []
def ids (hp : List (Int × List (Option Rf))) : List Int := hp.map (·.1)

inductive Reach (hp : List (Int × List (Option Rf))) (st : List (Option Rf)) : Rf → Prop
  | start {r : Rf} : some r ∈ st → Reach hp st r
  | step {i : Int} {r : Rf} : Reach hp st (.ob i) → some r ∈ look hp i → Reach hp st r

structure WF (hp : List (Int × List (Option Rf))) (st : List (Option Rf)) : Prop where
  nd : (ids hp).Nodup
  s : ∀ i, some (.ob i) ∈ st → i ∈ ids hp
  h : ∀ p ∈ hp, ∀ i, some (.ob i) ∈ p.2 → i ∈ ids hp

section
variable {hp : List (Int × List (Option Rf))} {st : List (Option Rf)}

theorem look_mem {i : Int} {x : Option Rf} (h : x ∈ look hp i) : ∃ p ∈ hp, p.1 = i ∧ x ∈ p.2 := by
  unfold look at h
  cases e : hp.find? fun p => decide (p.1 = i) with
  | none => rw [e] at h; simp at h
  | some p =>
    rw [e] at h
    have h1 := List.find?_some e
    exact ⟨p, List.mem_of_find?_eq_some e, of_decide_eq_true h1, h⟩

theorem reach_id (W : WF hp st) {i : Int} (h : Reach hp st (.ob i)) : i ∈ ids hp := by
  cases h with
  | start m => exact W.s i m
  | step _ m =>
    obtain ⟨p, hp', _, hm⟩ := look_mem m
    exact W.h p hp' i hm

/-! ### the program's walk -/
structure LInv (hp : List (Int × List (Option Rf))) (st : List (Option Rf)) (f : List Rf) (w : List (Option Rf)) : Prop where
  nd : f.Nodup
  rf : ∀ r ∈ f, Reach hp st r
  rw : ∀ r, some r ∈ w → Reach hp st r
  s : ∀ r, some r ∈ st → r ∈ f ∨ some r ∈ w
  c : ∀ i r, Rf.ob i ∈ f → some r ∈ look hp i → r ∈ f ∨ some r ∈ w

theorem LInv.init : LInv hp st [] st := ⟨.nil, fun _ h => (nomatch h), fun _ h => .start h, fun _ h => .inr h, fun _ _ h => (nomatch h)⟩
theorem LInv.skipN {f : List Rf} {w : List (Option Rf)} (L : LInv hp st f (w ++ [none])) : LInv hp st f w := by
  refine ⟨L.nd, L.rf, fun r h => L.rw r (List.mem_append_left _ h), fun r h => ?_, fun i r h1 h2 => ?_⟩
  · rcases L.s r h with q | q
    · exact .inl q
    · simp at q; exact .inr q
  · rcases L.c i r h1 h2 with q | q
    · exact .inl q
    · simp at q; exact .inr q
theorem LInv.skipF {f : List Rf} {w : List (Option Rf)} {x : Rf} (hx : x ∈ f) (L : LInv hp st f (w ++ [some x])) : LInv hp st f w := by
  refine ⟨L.nd, L.rf, fun r h => L.rw r (List.mem_append_left _ h), fun r h => ?_, fun i r h1 h2 => ?_⟩
  · rcases L.s r h with q | q
    · exact .inl q
    · simp at q; rcases q with q | q
      · exact .inr q
      · subst q; exact .inl hx
  · rcases L.c i r h1 h2 with q | q
    · exact .inl q
    · simp at q; rcases q with q | q
      · exact .inr q
      · subst q; exact .inl hx
theorem LInv.addI {f : List Rf} {w : List (Option Rf)} {o e : Int} (hx : Rf.im o e ∉ f) (L : LInv hp st f (w ++ [some (.im o e)])) : LInv hp st (f ++ [.im o e]) w := by
  refine ⟨?_, fun r h => ?_, fun r h => L.rw r (List.mem_append_left _ h), fun r h => ?_, fun i r h1 h2 => ?_⟩
  · rw [List.nodup_append]
    refine ⟨L.nd, by simp, fun a ha b hb e => ?_⟩
    simp at hb; subst hb; subst e; exact hx ha
  · rcases List.mem_append.mp h with q | q
    · exact L.rf r q
    · simp at q; subst q; exact L.rw _ (by simp)
  · rcases L.s r h with q | q
    · exact .inl (List.mem_append_left _ q)
    · simp at q; rcases q with q | q
      · exact .inr q
      · subst q; exact .inl (by simp)
  · have h1' : Rf.ob i ∈ f := by
      rcases List.mem_append.mp h1 with q | q
      · exact q
      · simp at q
    rcases L.c i r h1' h2 with q | q
    · exact .inl (List.mem_append_left _ q)
    · simp at q; rcases q with q | q
      · exact .inr q
      · subst q; exact .inl (by simp)
theorem LInv.addO {f : List Rf} {w : List (Option Rf)} {j : Int} (hx : Rf.ob j ∉ f) (L : LInv hp st f (w ++ [some (.ob j)])) : LInv hp st (f ++ [.ob j]) (w ++ look hp j) := by
  have hj : Reach hp st (.ob j) := L.rw _ (by simp)
  refine ⟨?_, fun r h => ?_, fun r h => ?_, fun r h => ?_, fun i r h1 h2 => ?_⟩
  · rw [List.nodup_append]
    refine ⟨L.nd, by simp, fun a ha b hb e => ?_⟩
    simp at hb; subst hb; subst e; exact hx ha
  · rcases List.mem_append.mp h with q | q
    · exact L.rf r q
    · simp at q; subst q; exact hj
  · rcases List.mem_append.mp h with q | q
    · exact L.rw r (List.mem_append_left _ q)
    · exact .step hj q
  · rcases L.s r h with q | q
    · exact .inl (List.mem_append_left _ q)
    · simp at q; rcases q with q | q
      · exact .inr (List.mem_append_left _ q)
      · subst q; exact .inl (by simp)
  · rcases List.mem_append.mp h1 with q | q
    · rcases L.c i r q h2 with q | q
      · exact .inl (List.mem_append_left _ q)
      · simp at q; rcases q with q | q
        · exact .inr (List.mem_append_left _ q)
        · subst q; exact .inl (by simp)
    · simp at q; subst q
      exact .inr (List.mem_append_right _ h2)
theorem LInv.done {f : List Rf} (L : LInv hp st f []) (r : Rf) : r ∈ f ↔ Reach hp st r := by
  refine ⟨L.rf r, fun h => ?_⟩
  induction h with
  | start m => exact (L.s _ m).elim id fun q => nomatch q
  | step _ m ih => exact (L.c _ _ ih m).elim id fun q => nomatch q

/-! ### sizes -/
def univ (hp : List (Int × List (Option Rf))) (st : List (Option Rf)) : List Rf := (st ++ hp.flatMap (·.2)).filterMap id
theorem reach_univ {r : Rf} (h : Reach hp st r) : r ∈ univ hp st := by
  unfold univ
  rw [List.mem_filterMap]
  cases h with
  | start m => exact ⟨_, List.mem_append_left _ m, rfl⟩
  | step _ m =>
    obtain ⟨p, h1, _, h2⟩ := look_mem m
    exact ⟨_, List.mem_append_right _ (List.mem_flatMap.mpr ⟨p, h1, h2⟩), rfl⟩
theorem len_count {α : Type} [DecidableEq α] (c : Nat) : ∀ (U l : List α), (∀ r ∈ l, r ∈ U) → (∀ r, l.count r ≤ c) → l.length ≤ c * U.length
  | [], l, h, _ => by
    cases l with
    | nil => simp
    | cons x l => exact nomatch h x List.mem_cons_self
  | u :: U, l, h, hc => by
    have ih := len_count c U (l.filter fun x => !(x == u)) (fun r hr => by
      rw [List.mem_filter] at hr
      rcases List.mem_cons.mp (h r hr.1) with e | e
      · subst e; simp at hr
      · exact e) (fun r => Nat.le_trans (List.filter_sublist.count_le _) (hc r))
    have e : l.length = l.countP (fun x => x == u) + (l.filter fun x => !(x == u)).length := by
      rw [← List.countP_eq_length_filter]
      have := List.length_eq_countP_add_countP (fun x => x == u) (l := l)
      rw [this]
      congr 1
      exact List.countP_congr fun x _ => by simp
    have e2 : l.countP (fun x => x == u) ≤ c := hc u
    rw [List.length_cons, Nat.mul_succ]
    omega
theorem nodup_len {α : Type} [DecidableEq α] {U l : List α} (nd : l.Nodup) (h : ∀ r ∈ l, r ∈ U) : l.length ≤ U.length := by
  have := len_count 1 U l h (fun r => List.nodup_iff_count.mp nd r)
  omega
theorem LInv.len {f : List Rf} {w : List (Option Rf)} (L : LInv hp st f w) : f.length ≤ (univ hp st).length := nodup_len L.nd fun r h => reach_univ (L.rf r h)

/-! ### the law's walk -/
def expand (hp : List (Int × List (Option Rf))) (g : List Rf) (x : Rf) : List Rf :=
  match x with
  | .ob i => g ++ ((look hp i).filterMap id).filter fun r => !decide (r ∈ g)
  | .im _ _ => g
def turn (hp : List (Int × List (Option Rf))) (f : List Rf) : List Rf := f.foldl (expand hp) f
def turns (hp : List (Int × List (Option Rf))) (f : List Rf) : Nat → List Rf
  | 0 => f
  | n + 1 => turn hp (turns hp f n)
theorem mem_expand {g : List Rf} {x r : Rf} : r ∈ expand hp g x ↔ r ∈ g ∨ ∃ i, x = .ob i ∧ some r ∈ look hp i := by
  cases x with
  | im o e => simp [expand]
  | ob i =>
    simp only [expand, List.mem_append, List.mem_filter, List.mem_filterMap, id]
    constructor
    · rintro (h | ⟨⟨a, h1, h2⟩, _⟩)
      · exact .inl h
      · subst h2; exact .inr ⟨i, rfl, h1⟩
    · rintro (h | ⟨j, h1, h2⟩)
      · exact .inl h
      · cases h1
        by_cases q : r ∈ g
        · exact .inl q
        · exact .inr ⟨⟨_, h2, rfl⟩, by simp [q]⟩
theorem mem_fold {r : Rf} : ∀ (l g : List Rf), r ∈ l.foldl (expand hp) g ↔ r ∈ g ∨ ∃ i, Rf.ob i ∈ l ∧ some r ∈ look hp i
  | [], g => by simp
  | x :: l, g => by
    rw [List.foldl_cons, mem_fold l, mem_expand]
    constructor
    · rintro ((h | ⟨i, rfl, h⟩) | ⟨i, h1, h2⟩)
      · exact .inl h
      · exact .inr ⟨i, List.mem_cons_self, h⟩
      · exact .inr ⟨i, List.mem_cons_of_mem _ h1, h2⟩
    · rintro (h | ⟨i, h1, h2⟩)
      · exact .inl (.inl h)
      · rcases List.mem_cons.mp h1 with e | e
        · exact .inl (.inr ⟨i, e.symm, h2⟩)
        · exact .inr ⟨i, e, h2⟩
theorem mem_turn {f : List Rf} {r : Rf} : r ∈ turn hp f ↔ r ∈ f ∨ ∃ i, Rf.ob i ∈ f ∧ some r ∈ look hp i := mem_fold f f

theorem turns_reach {r : Rf} : ∀ n, r ∈ turns hp (st.filterMap id) n → Reach hp st r
  | 0, h => by
    obtain ⟨a, h1, h2⟩ := List.mem_filterMap.mp h
    have h2 : a = some r := h2
    subst h2
    exact .start h1
  | n + 1, h => by
    rcases mem_turn.mp h with q | ⟨i, q, m⟩
    · exact turns_reach n q
    · exact .step (turns_reach n q) m
theorem turns_start {r : Rf} (h : some r ∈ st) : ∀ n, r ∈ turns hp (st.filterMap id) n
  | 0 => List.mem_filterMap.mpr ⟨_, h, rfl⟩
  | n + 1 => mem_turn.mpr (.inl (turns_start h n))

def Closed (hp : List (Int × List (Option Rf))) (f : List Rf) : Prop := ∀ i r, Rf.ob i ∈ f → some r ∈ look hp i → r ∈ f
def OClosed (hp : List (Int × List (Option Rf))) (f : List Rf) : Prop := ∀ i j, Rf.ob i ∈ f → some (Rf.ob j) ∈ look hp i → Rf.ob j ∈ f
def cnt (hp : List (Int × List (Option Rf))) (f : List Rf) : Nat := ((ids hp).filter fun i => decide (Rf.ob i ∈ f)).length
theorem cnt_le (f : List Rf) : cnt hp f ≤ hp.length := by
  unfold cnt
  refine Nat.le_trans (List.length_filter_le _ _) ?_
  unfold ids
  rw [List.length_map]
  exact Nat.le_refl _
theorem filter_lt {α : Type} (p q : α → Bool) : ∀ (l : List α), (∀ x ∈ l, p x = true → q x = true) → (∃ x ∈ l, p x = false ∧ q x = true) → (l.filter p).length < (l.filter q).length
  | [], _, h => by obtain ⟨x, hx, _⟩ := h; exact nomatch hx
  | x :: l, h1, h2 => by
    have le : (l.filter p).length ≤ (l.filter q).length := by
      clear h2
      have h1 : ∀ x ∈ l, p x = true → q x = true := fun y hy => h1 y (List.mem_cons_of_mem _ hy)
      rw [← List.countP_eq_length_filter, ← List.countP_eq_length_filter]
      exact List.countP_mono_left h1
    rcases h2 with ⟨y, hy, py, qy⟩
    rcases List.mem_cons.mp hy with e | e
    · subst e
      rw [List.filter_cons_of_neg (by simp [py]), List.filter_cons_of_pos qy, List.length_cons]
      omega
    · have ih := filter_lt p q l (fun z hz => h1 z (List.mem_cons_of_mem _ hz)) ⟨y, e, py, qy⟩
      by_cases c : p x = true
      · rw [List.filter_cons_of_pos c, List.filter_cons_of_pos (h1 x List.mem_cons_self c), List.length_cons, List.length_cons]
        omega
      · rw [List.filter_cons_of_neg c]
        by_cases d : q x = true
        · rw [List.filter_cons_of_pos d, List.length_cons]; omega
        · rw [List.filter_cons_of_neg d]; exact ih
theorem turns_state (W : WF hp st) : ∀ n, Closed hp (turns hp (st.filterMap id) n) ∨ OClosed hp (turns hp (st.filterMap id) n) ∨ n ≤ cnt hp (turns hp (st.filterMap id) n)
  | 0 => .inr (.inr (Nat.zero_le _))
  | n + 1 => by
    have ih := turns_state W n
    have hr : ∀ {r}, r ∈ turns hp (st.filterMap id) n → Reach hp st r := fun h => turns_reach n h
    show Closed hp (turn hp _) ∨ OClosed hp (turn hp _) ∨ n + 1 ≤ cnt hp (turn hp _)
    generalize hg : turns hp (st.filterMap id) n = f at ih hr
    have oc : OClosed hp f → Closed hp (turn hp f) := fun q i r h m => by
      rcases mem_turn.mp h with h | ⟨k, h, m2⟩
      · exact mem_turn.mpr (.inr ⟨i, h, m⟩)
      · exact mem_turn.mpr (.inr ⟨i, q k i h m2, m⟩)
    rcases ih with q | q | q
    · exact .inl (oc fun i j h m => q i _ h m)
    · exact .inl (oc q)
    · by_cases o : OClosed hp f
      · exact .inl (oc o)
      · refine .inr (.inr ?_)
        have ⟨i, j, h1, h2, h3⟩ : ∃ i j, Rf.ob i ∈ f ∧ some (Rf.ob j) ∈ look hp i ∧ Rf.ob j ∉ f := by
          refine Classical.byContradiction fun z => o fun i j h m => Classical.byContradiction fun y => z ⟨i, j, h, m, y⟩
        have lt : cnt hp f < cnt hp (turn hp f) := by
          refine filter_lt _ _ _ (fun x _ hx => ?_) ⟨j, reach_id W (.step (hr h1) h2), ?_, ?_⟩
          · exact decide_eq_true (mem_turn.mpr (.inl (of_decide_eq_true hx)))
          · exact decide_eq_false h3
          · exact decide_eq_true (mem_turn.mpr (.inr ⟨i, h1, h2⟩))
        omega
theorem turns_done (W : WF hp st) (r : Rf) : r ∈ turns hp (st.filterMap id) (hp.length + 2) ↔ Reach hp st r := by
  refine ⟨turns_reach _, fun h => ?_⟩
  have cl : Closed hp (turns hp (st.filterMap id) (hp.length + 2)) := by
    have s := turns_state W (hp.length + 1)
    have le := cnt_le (hp := hp) (turns hp (st.filterMap id) (hp.length + 1))
    have oc : OClosed hp (turns hp (st.filterMap id) (hp.length + 1)) := by
      rcases s with q | q | q
      · exact fun i j h m => q i _ h m
      · exact q
      · omega
    intro i r h m
    rcases mem_turn.mp h with h | ⟨k, h, m2⟩
    · exact mem_turn.mpr (.inr ⟨i, h, m⟩)
    · exact mem_turn.mpr (.inr ⟨i, oc k i h m2, m⟩)
  induction h with
  | start m => exact turns_start m _
  | step _ m ih => exact cl _ _ ih m

/-! ### how long the law's list is -/
theorem count_expand {g : List Rf} {x : Rf} {c : Nat} (hl : ∀ i, (look hp i).length ≤ c) (h : ∀ r, g.count r ≤ c) (r : Rf) : (expand hp g x).count r ≤ c := by
  cases x with
  | im o e => exact h r
  | ob i =>
    show (g ++ _).count r ≤ c
    rw [List.count_append]
    by_cases q : r ∈ g
    · have : List.count r (((look hp i).filterMap id).filter fun y => !decide (y ∈ g)) = 0 := List.count_eq_zero.mpr fun m => by
        rw [List.mem_filter] at m
        simp [q] at m
      rw [this]
      exact h r
    · rw [List.count_eq_zero.mpr q, Nat.zero_add]
      refine Nat.le_trans List.count_le_length (Nat.le_trans (List.length_filter_le _ _) (Nat.le_trans (List.length_filterMap_le _ _) (hl i)))
theorem count_fold {c : Nat} (hl : ∀ i, (look hp i).length ≤ c) : ∀ (l g : List Rf), (∀ r, g.count r ≤ c) → ∀ r, (l.foldl (expand hp) g).count r ≤ c
  | [], g, h => h
  | x :: l, g, h => count_fold hl l _ (count_expand hl h)
theorem count_turns {c : Nat} (hl : ∀ i, (look hp i).length ≤ c) (hs : st.length ≤ c) : ∀ n, ∀ r, (turns hp (st.filterMap id) n).count r ≤ c
  | 0 => fun r => Nat.le_trans List.count_le_length (Nat.le_trans (List.length_filterMap_le _ _) hs)
  | n + 1 => count_fold hl _ _ (count_turns hl hs n)
theorem fold_len {c : Nat} (hl : ∀ i, (look hp i).length ≤ c) (hs : st.length ≤ c) (n k : Nat) :
    (((turns hp (st.filterMap id) n).take k).foldl (expand hp) (turns hp (st.filterMap id) n)).length ≤ c * (univ hp st).length := by
  refine len_count c _ _ (fun r h => ?_) (count_fold hl _ _ (count_turns hl hs n))
  refine reach_univ ?_
  rcases (mem_fold _ _).mp h with q | ⟨i, q, m⟩
  · exact turns_reach n q
  · exact .step (turns_reach n (List.mem_of_mem_take q)) m
end

/-! ### sorted lists are told by their members -/
theorem sorted_unique {α : Type} (lt : α → α → Prop) (irr : ∀ x, ¬ lt x x) (asym : ∀ x y, lt x y → ¬ lt y x) : ∀ {l m : List α}, l.Pairwise lt → m.Pairwise lt → (∀ x, x ∈ l ↔ x ∈ m) → l = m
  | [], [], _, _, _ => rfl
  | [], y :: m, _, _, h => nomatch (h y).mpr List.mem_cons_self
  | x :: l, [], _, _, h => nomatch (h x).mp List.mem_cons_self
  | x :: l, y :: m, hl, hm, h => by
    have hl' := List.pairwise_cons.mp hl
    have hm' := List.pairwise_cons.mp hm
    have e : x = y := by
      rcases List.mem_cons.mp ((h x).mp List.mem_cons_self) with e | q
      · exact e
      · rcases List.mem_cons.mp ((h y).mpr List.mem_cons_self) with e | q2
        · exact e.symm
        · exact (asym _ _ (hl'.1 y q2) (hm'.1 x q)).elim
    subst e
    congr 1
    refine sorted_unique lt irr asym hl'.2 hm'.2 fun z => ⟨fun hz => ?_, fun hz => ?_⟩
    · rcases List.mem_cons.mp ((h z).mp (List.mem_cons_of_mem _ hz)) with e | q
      · subst e; exact (irr _ (hl'.1 _ hz)).elim
      · exact q
    · rcases List.mem_cons.mp ((h z).mpr (List.mem_cons_of_mem _ hz)) with e | q
      · subst e; exact (irr _ (hm'.1 _ hz)).elim
      · exact q
theorem ints_unique {l m : List Int} (hl : l.Pairwise (· ≤ ·)) (hm : m.Pairwise (· ≤ ·)) (nl : l.Nodup) (nm : m.Nodup) (h : ∀ x, x ∈ l ↔ x ∈ m) : l = m := by
  refine sorted_unique (· < ·) (fun x => by omega) (fun x y => by omega) ?_ ?_ h
  · exact (hl.and nl).imp fun ⟨a, b⟩ => by omega
  · exact (hm.and nm).imp fun ⟨a, b⟩ => by omega
abbrev pLt (x y : Int × Int) : Prop := x.1 < y.1 ∨ (x.1 = y.1 ∧ x.2 < y.2)
abbrev pLe (x y : Int × Int) : Prop := x.1 < y.1 ∨ (x.1 = y.1 ∧ x.2 ≤ y.2)
theorem pairs_unique {l m : List (Int × Int)} (hl : l.Pairwise pLt) (hm : m.Pairwise pLt) (h : ∀ x, x ∈ l ↔ x ∈ m) : l = m :=
  sorted_unique pLt (fun x => by simp) (fun x y => by unfold pLt; omega) hl hm h
theorem strict_of {l : List (Int × Int)} (hl : l.Pairwise pLe) (nd : l.Nodup) : l.Pairwise pLt := by
  refine (hl.and nd).imp fun {x y} ⟨a, b⟩ => ?_
  obtain ⟨x1, x2⟩ := x
  obtain ⟨y1, y2⟩ := y
  unfold pLe at a
  unfold pLt
  simp only at a ⊢
  by_cases e : x1 = y1 ∧ x2 = y2
  · exact (b (by rw [e.1, e.2])).elim
  · omega

/-- those that differ from the one before -/
def risingTo (ps : List (Int × Int)) : Nat → List (Int × Int)
  | 0 => []
  | k + 1 => if k = 0 ∨ ps[k]? ≠ ps[k - 1]? then risingTo ps k ++ (ps[k]?).toList else risingTo ps k
theorem rising_succ (ps : List (Int × Int)) (k : Nat) : risingTo ps (k + 1) = if k = 0 ∨ ps[k]? ≠ ps[k - 1]? then risingTo ps k ++ (ps[k]?).toList else risingTo ps k := rfl
theorem pLt_of {a r p : Int × Int} (h1 : pLe a r) (h2 : pLe r p) (ne : p ≠ r) : pLt a p := by
  obtain ⟨p1, p2⟩ := p
  obtain ⟨r1, r2⟩ := r
  obtain ⟨x1, x2⟩ := a
  have ne' : ¬ (p1 = r1 ∧ p2 = r2) := fun ⟨z1, z2⟩ => ne (by rw [z1, z2])
  unfold pLe at h1 h2
  unfold pLt
  simp only at h1 h2 ⊢
  omega
theorem rising_mem (ps : List (Int × Int)) : ∀ k x, x ∈ risingTo ps k ↔ x ∈ ps.take k
  | 0, x => by simp [risingTo]
  | k + 1, x => by
    have ih := rising_mem ps k x
    rw [List.take_add_one, List.mem_append, ← ih, rising_succ]
    split
    · rw [List.mem_append]
    · rename_i h
      have h0 : k ≠ 0 := fun z => h (.inl z)
      have he : ps[k]? = ps[k - 1]? := Classical.byContradiction fun z => h (.inr z)
      refine ⟨.inl, fun q => ?_⟩
      rcases q with q | q
      · exact q
      · rw [ih]
        rw [he] at q
        have : ps[k - 1]? = some x := by simpa using q
        exact List.mem_of_getElem? (i := k - 1) (by rw [List.getElem?_take_of_lt (by omega)]; exact this)
theorem rising_pair {ps : List (Int × Int)} (h : ps.Pairwise pLe) : ∀ k, k ≤ ps.length → (risingTo ps k).Pairwise pLt ∧ ∀ x ∈ risingTo ps k, ∀ y, ps[k - 1]? = some y → pLe x y
  | 0, _ => ⟨.nil, fun _ q => nomatch q⟩
  | k + 1, hk => by
    obtain ⟨ih1, ih2⟩ := rising_pair h k (by omega)
    have hk' : k < ps.length := by omega
    have gk : ps[k]? = some ps[k] := List.getElem?_eq_getElem hk'
    have le : ∀ j (hj : j < k), pLe ps[j] ps[k] := fun j hj => (List.pairwise_iff_getElem.mp h) j k (by omega) hk' hj
    rw [rising_succ]
    split
    · rename_i hc
      rw [gk]
      refine ⟨?_, fun x hx y hy => ?_⟩
      · rw [List.pairwise_append]
        refine ⟨ih1, by simp, fun a ha b hb => ?_⟩
        simp at hb
        subst hb
        by_cases h0 : k = 0
        · subst h0; exact nomatch ha
        · have gp : ps[k - 1]? = some ps[k - 1] := List.getElem?_eq_getElem (by omega)
          have a1 := ih2 a ha _ gp
          have a2 := le (k - 1) (by omega)
          have ne : ps[k] ≠ ps[k - 1] := fun z => by
            rcases hc with q | q
            · exact h0 q
            · rw [gk, gp] at q; exact q (by rw [z])
          exact pLt_of a1 a2 ne
      · rw [Nat.add_sub_cancel, gk] at hy
        cases hy
        rcases List.mem_append.mp hx with q | q
        · obtain ⟨j, hj, e⟩ := List.mem_iff_getElem.mp ((rising_mem ps k x).mp q)
          rw [List.length_take] at hj
          rw [List.getElem_take] at e
          rw [← e]
          exact le j (by omega)
        · simp at q; subst q; exact .inr ⟨rfl, Int.le_refl _⟩
    · refine ⟨ih1, fun x hx y hy => ?_⟩
      rw [Nat.add_sub_cancel, gk] at hy
      cases hy
      obtain ⟨j, hj, e⟩ := List.mem_iff_getElem.mp ((rising_mem ps k x).mp hx)
      rw [List.length_take] at hj
      rw [List.getElem_take] at e
      rw [← e]
      exact le j (by omega)
end K1
set_option Elab.async false
set_option linter.all false
set_option maxRecDepth 100000
/-! G2: small data: what repr and == ask of it. -/
namespace Gd
open PySem PySem.Spec PyProof.Rows L2
structure Sh (dp wt : Nat) (d : PyData) : Prop where
  s : d.showable = true
  n : d.hasDict = false
  dl : d.depth ≤ dp
  l : d.leavesShort 13 = true
  c : d.canLay0 = true
  w : d.weight ≤ wt
theorem Sh.none : Sh 0 64 .none := ⟨rfl, rfl, by simp [PyData.depth], rfl, rfl, by simp [PyData.weight]⟩
theorem Sh.bool (b : Bool) : Sh 0 64 (.bool b) := ⟨rfl, rfl, by simp [PyData.depth], rfl, rfl, by simp [PyData.weight]⟩
theorem log_lt {n k : Nat} (h : n < 2 ^ k) (hk : 0 < k) : n.log2 < k := PySem.Flt.log2_lt_of hk h
theorem Sh.int {i : Int} (h : i.natAbs < 10 ^ 12) : Sh 0 64 (.int i) := by
  have h63 : i.natAbs < 2 ^ 63 := by omega
  have lg := log_lt h63 (by decide)
  refine ⟨?_, rfl, by simp [PyData.depth], ?_, ?_, ?_⟩
  · simp only [PyData.showable]
    exact decide_eq_true (by omega)
  · simp only [PyData.leavesShort]
    exact decide_eq_true (PyData.shown_int_le h)
  · rfl
  · simp only [PyData.weight]
    split <;> omega
theorem Sh.str {x : Str} (h : ∀ c ∈ x.cps.toList, c < 0x110000) (hz : x.cps.size ≤ 64) : Sh 0 64 (.str x) := by
  have hc : PyData.canLay0 (.str x) = true := by
    simp only [PyData.canLay0, PyData.strOk]
    refine Array.all_eq_true_iff_forall_mem.mpr fun c hm => decide_eq_true (h c (Array.mem_toList_iff.mpr hm))
  refine ⟨rfl, rfl, by simp [PyData.depth], PyData.leavesShort_of_canLay0 13 _ hc rfl, hc, ?_⟩
  simp only [PyData.weight]
  exact hz
theorem Sh.mono {a b a' b' : Nat} {d : PyData} (h : Sh a b d) (h1 : a ≤ a') (h2 : b ≤ b') : Sh a' b' d := ⟨h.s, h.n, Nat.le_trans h.dl h1, h.l, h.c, Nat.le_trans h.w h2⟩
theorem Sh.all {dp wt : Nat} : ∀ {ds : List PyData}, (∀ d ∈ ds, Sh dp wt d) → PyData.showableAll ds = true ∧ PyData.hasDictAll ds = false ∧ PyData.depthAll ds ≤ dp ∧ PyData.leavesShortAll 13 ds = true ∧ PyData.canLayAll0 ds = true ∧ PyData.weightAll ds ≤ (wt + 1) * ds.length
  | [], _ => ⟨rfl, rfl, by simp [PyData.depthAll], rfl, rfl, by simp [PyData.weightAll]⟩
  | d :: ds, h => by
    obtain ⟨a1, a2, a3, a4, a5, a6⟩ := Sh.all (ds := ds) fun e he => h e (List.mem_cons_of_mem _ he)
    have x := h d List.mem_cons_self
    refine ⟨?_, ?_, ?_, ?_, ?_, ?_⟩
    · simp only [PyData.showableAll, a1, x.s, Bool.and_self]
    · simp only [PyData.hasDictAll, a2, x.n, Bool.or_self]
    · have := x.dl
      simp only [PyData.depthAll]
      omega
    · simp only [PyData.leavesShortAll, a4, x.l, Bool.and_self]
    · simp only [PyData.canLayAll0, a5, x.c, Bool.and_self]
    · have := x.w
      simp only [PyData.weightAll, List.length_cons, Nat.mul_succ]
      omega
theorem Sh.list {dp wt : Nat} {ds : List PyData} (h : ∀ d ∈ ds, Sh dp wt d) : Sh (dp + 1) ((wt + 1) * ds.length) (.list ds) := by
  obtain ⟨a1, a2, a3, a4, a5, a6⟩ := Sh.all h
  refine ⟨?_, ?_, ?_, ?_, ?_, ?_⟩
  · simp only [PyData.showable]; exact a1
  · simp only [PyData.hasDict]; exact a2
  · simp only [PyData.depth]; omega
  · simp only [PyData.leavesShort]; exact a4
  · simp only [PyData.canLay0]; exact a5
  · simp only [PyData.weight]; exact a6
theorem Sh.tup {dp wt : Nat} {ds : List PyData} (h : ∀ d ∈ ds, Sh dp wt d) : Sh (dp + 1) ((wt + 1) * ds.length) (.tuple ds) := by
  obtain ⟨a1, a2, a3, a4, a5, a6⟩ := Sh.all h
  refine ⟨?_, ?_, ?_, ?_, ?_, ?_⟩
  · simp only [PyData.showable]; exact a1
  · simp only [PyData.hasDict]; exact a2
  · simp only [PyData.depth]; omega
  · simp only [PyData.leavesShort]; exact a4
  · simp only [PyData.canLay0]; exact a5
  · simp only [PyData.weight]; exact a6
theorem Sh.fits {dp wt : Nat} {d : PyData} (h : Sh dp wt d) (h1 : dp ≤ 60 := by omega) (h2 : wt ≤ 1000000 := by omega) : d.showable = true ∧ d.hasDict = false ∧ d.depth ≤ 60 ∧ d.shown.length ≤ sizeLine :=
  ⟨h.s, h.n, Nat.le_trans h.dl h1, PyData.shown_fits (B := 13) (by decide) (by decide) h.l (Nat.le_trans (Nat.le_trans h.w h2) (by decide))⟩
theorem Sh.shaped {dp wt : Nat} {d : PyData} (h : Sh dp wt d) (h1 : dp ≤ 60 := by omega) : SeqAt.shaped d = true := by
  have := h.dl
  unfold SeqAt.shaped
  rw [h.c, decide_eq_true (by omega)]
  rfl
/-- a list of ints as data -/
theorem dp_ints {K : PySem.W.Frag} {H : Hp} : ∀ ns : List Int, DpAll K H (ns.map V.int) (ns.map PyData.int)
  | [] => .nil
  | n :: ns => .cons (.int n) (dp_ints ns)
theorem sh_ints {ns : List Int} (h : ∀ n ∈ ns, n.natAbs < 10 ^ 12) : Sh 1 (65 * ns.length) (.list (ns.map PyData.int)) := by
  have := Sh.list (dp := 0) (wt := 64) (ds := ns.map PyData.int) fun d hd => by
    obtain ⟨n, hn, rfl⟩ := List.mem_map.mp hd
    exact Sh.int (h n hn)
  rw [List.length_map] at this
  exact this
end Gd
set_option Elab.async false
set_option linter.all false
set_option maxRecDepth 100000
set_option maxHeartbeats 4000000
/-! K01a: the law's digits and draws. -/
namespace K1
open PySem PySem.Spec PyProof.Rows L2 Gd
def topx (i : Nat) : Stmt := PySem.Challenge.pw_keptbywitness_k01_what_references_lead_t.main.body.getD i (.Pass ⟨0, 0, 0, 0⟩)
abbrev s_law_cell : Stmt := topx 6
theorem sc_law_cell : FnScope ["script", "k"] ["script", "k"] (defScope s_law_cell) := ⟨rfl, rfl, rfl, by decide +kernel, rfl, by decide +kernel, by decide +kernel⟩
abbrev s_law_digits : Stmt := topx 7
theorem sc_law_digits : FnScope ["script", "first", "last", "digits", "k", "cell", "turn", "seed"] ["script", "first", "last"] (defScope s_law_digits) := ⟨rfl, rfl, rfl, by decide +kernel, rfl, by decide +kernel, by decide +kernel⟩
abbrev s_law_draw : Stmt := topx 8
theorem sc_law_draw : FnScope ["box", "many", "at"] ["box", "many"] (defScope s_law_draw) := ⟨rfl, rfl, rfl, by decide +kernel, rfl, by decide +kernel, by decide +kernel⟩
abbrev s_law_alike : Stmt := topx 9
theorem sc_law_alike : FnScope ["one", "two"] ["one", "two"] (defScope s_law_alike) := ⟨rfl, rfl, rfl, by decide +kernel, rfl, by decide +kernel, by decide +kernel⟩
abbrev s_law_reference : Stmt := topx 10
theorem sc_law_reference : FnScope ["box", "many", "kind"] ["box", "many"] (defScope s_law_reference) := ⟨rfl, rfl, rfl, by decide +kernel, rfl, by decide +kernel, by decide +kernel⟩
abbrev s_law_heap : Stmt := topx 11
theorem sc_law_heap : FnScope ["box", "many", "heap", "k", "field"] ["box"] (defScope s_law_heap) := ⟨rfl, rfl, rfl, by decide +kernel, rfl, by decide +kernel, by decide +kernel⟩
abbrev s_law_led_to : Stmt := topx 12
theorem sc_law_led_to : FnScope ["heap", "start", "reference", "found", "turn", "field"] ["heap", "start"] (defScope s_law_led_to) := ⟨rfl, rfl, rfl, by decide +kernel, rfl, by decide +kernel, by decide +kernel⟩
abbrev s_law : Stmt := topx 13
theorem sc_law : FnScope ["script", "box", "turn", "heap", "k", "start", "found", "number", "objects", "row", "imports", "rising", "before", "given"] ["script"] (defScope s_law) := ⟨rfl, rfl, rfl, by decide +kernel, rfl, by decide +kernel, by decide +kernel⟩
abbrev s_led_objects : Stmt := topx 1
theorem sc_led_objects : FnScope ["heap", "start"] ["heap", "start"] (defScope s_led_objects) := ⟨rfl, rfl, rfl, by decide +kernel, rfl, by decide +kernel, by decide +kernel⟩
abbrev s_led_imports : Stmt := topx 2
theorem sc_led_imports : FnScope ["heap", "start", "reference"] ["heap", "start"] (defScope s_led_imports) := ⟨rfl, rfl, rfl, by decide +kernel, rfl, by decide +kernel, by decide +kernel⟩
abbrev s_led : Stmt := topx 3
theorem sc_led : FnScope ["heap", "start", "found", "waiting", "reference"] ["heap", "start"] (defScope s_led) := ⟨rfl, rfl, rfl, by decide +kernel, rfl, by decide +kernel, by decide +kernel⟩
abbrev s_object_ids : Stmt := topx 4
theorem sc_object_ids : FnScope ["references", "row"] ["references"] (defScope s_object_ids) := ⟨rfl, rfl, rfl, by decide +kernel, rfl, by decide +kernel, by decide +kernel⟩
structure All (K : PySem.W.Frag) (mg : Str → Option Value) : Prop where
  law_cell : ∃ (f : Addr) (fd : FuncData), Fun K "_law_cell" "_law_cell" s_law_cell f fd ∧ mg "_law_cell" = some (.ref f) ∧ Binds K fd ["script", "k"] []
  law_digits : ∃ (f : Addr) (fd : FuncData), Fun K "_law_digits" "_law_digits" s_law_digits f fd ∧ mg "_law_digits" = some (.ref f) ∧ Binds K fd ["script", "first", "last"] []
  law_draw : ∃ (f : Addr) (fd : FuncData), Fun K "_law_draw" "_law_draw" s_law_draw f fd ∧ mg "_law_draw" = some (.ref f) ∧ Binds K fd ["box", "many"] []
  law_alike : ∃ (f : Addr) (fd : FuncData), Fun K "_law_alike" "_law_alike" s_law_alike f fd ∧ mg "_law_alike" = some (.ref f) ∧ Binds K fd ["one", "two"] []
  law_reference : ∃ (f : Addr) (fd : FuncData), Fun K "_law_reference" "_law_reference" s_law_reference f fd ∧ mg "_law_reference" = some (.ref f) ∧ Binds K fd ["box", "many"] []
  law_heap : ∃ (f : Addr) (fd : FuncData), Fun K "_law_heap" "_law_heap" s_law_heap f fd ∧ mg "_law_heap" = some (.ref f) ∧ Binds K fd ["box"] []
  law_led_to : ∃ (f : Addr) (fd : FuncData), Fun K "_law_led_to" "_law_led_to" s_law_led_to f fd ∧ mg "_law_led_to" = some (.ref f) ∧ Binds K fd ["heap", "start"] []
  law : ∃ (f : Addr) (fd : FuncData), Fun K "law" "law" s_law f fd ∧ mg "law" = some (.ref f) ∧ Binds K fd ["script"] []
  led_objects : ∃ (f : Addr) (fd : FuncData), Fun K "led_objects" "led_objects" s_led_objects f fd ∧ mg "led_objects" = some (.ref f) ∧ Binds K fd ["heap", "start"] []
  led_imports : ∃ (f : Addr) (fd : FuncData), Fun K "led_imports" "led_imports" s_led_imports f fd ∧ mg "led_imports" = some (.ref f) ∧ Binds K fd ["heap", "start"] []
  led : ∃ (f : Addr) (fd : FuncData), Fun K "_led" "_led" s_led f fd ∧ mg "_led" = some (.ref f) ∧ Binds K fd ["heap", "start"] []
  object_ids : ∃ (f : Addr) (fd : FuncData), Fun K "_object_ids" "_object_ids" s_object_ids f fd ∧ mg "_object_ids" = some (.ref f) ∧ Binds K fd ["references"] []
  len : mg "len" = none
  int : mg "int" = none
  range : mg "range" = none
  tuple : mg "tuple" = none
  list : mg "list" = none
  sorted : mg "sorted" = none
  repr : mg "repr" = none

theorem lt_size {n : Nat} (h : n ≤ 1000000) : n < sizeLine := Nat.lt_of_le_of_lt h (by decide)
theorem same_new {H H' : Hp} {p : Addr} {o : HO} (s : Same H H') (h : H' p = none) : Same H (upd H' p o) := fun b x e => by
  rw [upd_ne (ne_of_none (s b x e) h)]
  exact s b x e
theorem same_mut {H H' : Hp} {p : Addr} {o : HO} (s : Same H H') (h : H p = none) : Same H (upd H' p o) := fun b x e => by
  rw [upd_ne (ne_of_none e h)]
  exact s b x e

section
variable {P : Program} {w : World} {K : PySem.W.Frag} {mg : Str → Option Value} {base : Heap}

/-! ### _law_cell -/
def spCell (K : PySem.W.Frag) : Sp := fun vs H Q _ => ∃ (a : Addr) (ns : List Int) (k : Nat), vs = [.ref a, .int (k : Int)] ∧ SqL K H a (ns.map V.int) ∧ ∀ v : Int, Q (.int v) H
theorem ok_law_cell {f : Addr} {fd : FuncData} (A : All K mg) (F : Fun K "_law_cell" "_law_cell" s_law_cell f fd) : FnOk P w K mg base CX0 1 f fd ["script", "k"] (spCell K) := by
  refine F.ok sc_law_cell (fun vs H Q E h => ?_) (fun cdv A' outer s H vs Q E hr h => ?_)
  · obtain ⟨a, ns, k, rfl, _⟩ := h
    rfl
  · obtain ⟨a, ns, k, rfl, hS, q⟩ := h
    refine ⟨_, (pss_cons (ps_if (pt_cmpR op_lt (pv 1) (pe_callB call_len_seq (by rfl) A.len PySem.boot_len (pa_cons (pv 0) pa_nil)) (nomark _))
(pss_one (ps_ret (pe_ix ix_list (pv 0) (pv 1) (fun _ _ => rfl))))
pss_nil)
(pss_one (ps_ret pe_int))), ?_⟩
    refine ⟨_, rfl, _, rfl, a, _, rfl, .inl hS, _, _, rfl, rfl, _, rfl, ite2 (fun e => ?_) (fun e => ?_)⟩
    · have lt : k < (ns.map V.int).length := by
        have := of_decide_eq_true e
        omega
      have lt' := lt
      rw [List.length_map] at lt'
      have g : (ns.map V.int)[k]? = some (.int ns[k]) := by
        rw [List.getElem?_map, List.getElem?_eq_getElem lt']
        rfl
      exact ⟨_, rfl, _, rfl, a, _, _, _, rfl, rfl, hS, atI_nat g, q _⟩
    · exact q _

/-! ### _law_digits -/
def spDigits (K : PySem.W.Frag) : Sp := fun vs H Q _ => ∃ (a : Addr) (ns : List Int), vs = [.ref a, .int 0, .int 63] ∧ SqL K H a (ns.map V.int) ∧
  ∀ (p : Addr) (ds : List Int) (H' : Hp), Same H H' → H p = none → H' p = some (.lst (ds.map V.int)) → Q (.ref p) H'
theorem ok_law_digits {f : Addr} {fd : FuncData} (A : All K mg) (F : Fun K "_law_digits" "_law_digits" s_law_digits f fd) : FnOk P w K mg base CX0 2 f fd ["script", "first", "last"] (spDigits K) := by
  obtain ⟨f_law_cell, fd_law_cell, F_law_cell, g_law_cell, b_law_cell⟩ := A.law_cell
  have G_law_cell := ok_law_cell (P := P) (w := w) (base := base) A F_law_cell
  refine F.ok sc_law_digits (fun vs H Q E h => ?_) (fun cdv A' outer s H vs Q E hr h => ?_)
  · obtain ⟨a, ns, rfl, _⟩ := h
    rfl
  · obtain ⟨a, ns, rfl, hS, q⟩ := h
    refine ⟨_, (pss_cons (ps_set (i := 3) sc_law_digits.nd rfl (.inl rfl) (pe_lst pa_nil))
(pss_cons (ps_for PassesOwn.never rfl (pi_range2 (by rfl) A.range (pa_cons (pv 1) (pa_cons (pv 2) pa_nil))) (pg_name (i := 4) sc_law_digits.nd rfl (.inl rfl))
(pss_cons (ps_set (i := 5) sc_law_digits.nd rfl (.inl rfl) (pe_call G_law_cell (hr.mono (by decide)) (by rfl) g_law_cell F_law_cell.kp b_law_cell .nil pass0 (pa_cons (pv 0) (pa_cons (pv 4) pa_nil))))
(Evl.pss_cut (ps_if (pt_cmpR op_lt (pv 5) pe_int (nomark _))
(pss_one (ps_set (i := 5) sc_law_digits.nd rfl (.inl rfl) (pe_op op_sub pe_int (pe_op op_mul pe_int (pv 5)))))
pss_nil)
(pss_one (ps_if (pt_cmpR op_ge (pv 5) pe_int (nomark _))
(pss_one (ps_for PassesOwn.never rfl (pi_range1 (by rfl) A.range (pa_cons pe_int pa_nil)) (pg_name (i := 6) sc_law_digits.nd rfl (.inl rfl))
(pss_one (ps_if (pt_cmpR op_gt (pv 5) pe_int (nomark _))
(pss_cons (ps_expr (pe_bm PySem.F.plainAttrs_list PySem.F.slot_list_append PySem.F.type_list_append mt_append (pv 3) (pa_cons (pe_op op_mod (pe_callTy call_int1 (by rfl) A.int (by decide +kernel) (pa_cons (pv 5) pa_nil)) pe_int) pa_nil)))
(pss_one (ps_set (i := 5) sc_law_digits.nd rfl (.inl rfl) (pe_op op_fdiv (pv 5) pe_int))))
pss_nil))))
(pss_cons (ps_set (i := 7) sc_law_digits.nd rfl (.inl rfl) (pe_op op_mod (pe_callTy call_int1 (by rfl) A.int (by decide +kernel) (pa_cons (pe_op op_add (pe_op op_add (pe_op op_mul (pv 5) pe_int) (pe_op op_mul (pv 4) pe_int)) pe_int) pa_nil)) pe_int))
(pss_one (ps_for PassesOwn.never rfl (pi_range1 (by rfl) A.range (pa_cons pe_int pa_nil)) (pg_name (i := 6) sc_law_digits.nd rfl (.inl rfl))
(pss_cons (ps_set (i := 7) sc_law_digits.nd rfl (.inl rfl) (pe_op op_mod (pe_callTy call_int1 (by rfl) A.int (by decide +kernel) (pa_cons (pe_op op_add (pe_op op_add (pe_op op_mul (pv 7) pe_int) (pe_op op_mul pe_int (pv 6))) pe_int) pa_nil)) pe_int))
(pss_one (ps_expr (pe_bm PySem.F.plainAttrs_list PySem.F.slot_list_append PySem.F.type_list_append mt_append (pv 3) (pa_cons (pe_op op_mod (pe_callTy call_int1 (by rfl) A.int (by decide +kernel) (pa_cons (pe_op op_fdiv (pv 7) pe_int) pa_nil)) pe_int) pa_nil)))))))))))))
(pss_one (ps_ret (pv 3))))), ?_⟩
    refine ⟨Nat.zero_le _, fun d nd => ?_⟩
    refine ⟨_, rfl, _, rfl, 0, 63, rfl, by decide, ?_⟩
    let St1 : Nat → L2.St → Hp → Prop := fun m σ H' => ∃ (ds : List Int) (v4 c v6 v7 : Option V), σ = [some (.ref a), some (.int 0), some (.int 63), some (.ref d), v4, c, v6, v7] ∧ Same H H' ∧ H' d = some (.lst (ds.map V.int)) ∧ ds.length ≤ m
    refine for_range (lo := 0) (n := 63) (fun i => St1 (60 * i)) ⟨[], none, none, none, none, rfl, same_new (Same.refl H) nd, upd_same, Nat.le_refl _⟩ ?_ ?_
    · rintro i σ H1 hi ⟨ds, v4, c, v6, v7, rfl, s1, hd, hl⟩
      refine ⟨_, rfl, _, rfl, a, ns, i, by rw [Int.zero_add]; rfl, s1.seq hS, fun cv => ?_⟩
      refine ⟨fun σ H2 => H2 = H1 ∧ ∃ cv : Int, σ = [some (.ref a), some (.int 0), some (.int 63), some (.ref d), some (.int (0 + (i : Int))), some (.int cv), v6, v7], ?_, ?_⟩
      · refine ⟨_, rfl, _, _, rfl, rfl, _, rfl, ite2 (fun _ => ?_) (fun _ => ?_)⟩
        · exact ⟨_, rfl, _, _, rfl, rfl, .inl ⟨by decide, by decide⟩, _, _, rfl, rfl, rfl, _, rfl⟩
        · exact ⟨rfl, cv, rfl⟩
      rintro σ H2 ⟨rfl, cv, rfl⟩
      refine ⟨_, rfl, _, _, rfl, rfl, _, rfl, ite2 (fun _ => ?_) (fun _ => ?_)⟩
      · -- the digits of a great number
        refine ⟨60, rfl, by decide, by decide, for_range (lo := 0) (n := 60) (fun j σ H' => ∃ (ds : List Int) (cv : Int) (v6 : Option V), σ = [some (.ref a), some (.int 0), some (.int 63), some (.ref d), some (.int (0 + (i : Int))), some (.int cv), v6, v7] ∧ Same H H' ∧ H' d = some (.lst (ds.map V.int)) ∧ ds.length ≤ 60 * i + j)
          ⟨ds, cv, v6, rfl, s1, hd, hl⟩ ?_ ?_⟩
        · rintro j σ H3 hj ⟨ds, cv, v6, rfl, s2, hd, hl⟩
          refine ⟨_, rfl, _, _, rfl, rfl, _, rfl, ite2 (fun _ => ?_) (fun _ => ?_)⟩
          · refine ⟨_, rfl, .inl ⟨rfl, _, SqL.of hd⟩, _, rfl, .inl ⟨_, rfl, _, _, rfl, rfl, (by show (0 : Int) < 1000; decide), d, _, _, rfl, rfl, hd, lt_size (by rw [List.length_map]; omega), ?_⟩⟩
            refine ⟨_, rfl, _, _, rfl, rfl, ⟨by decide, by decide⟩, ds ++ [cv % 1000], cv / 1000, _, rfl, same_mut s2 nd, ?_, ?_⟩
            · rw [upd_same, List.map_append]
              rfl
            · rw [List.length_append]
              show ds.length + 1 ≤ _
              omega
          · exact ⟨ds, cv, _, rfl, s2, hd, by omega⟩
        · rintro σ H3 ⟨ds, cv, v6, rfl, s2, hd, hl⟩
          exact ⟨ds, _, _, _, _, rfl, s2, hd, by omega⟩
      · refine ⟨_, rfl, _, _, rfl, rfl, .inr ⟨by decide, by decide⟩, _, rfl, _, _, rfl, rfl, .inr ⟨by decide, by decide⟩, _, _, rfl, rfl, _, _, rfl, rfl, .inl ⟨_, rfl, _, _, rfl, rfl, (by show (0 : Int) < 2147483399; decide), ?_⟩⟩
        refine ⟨12, rfl, by decide, by decide, for_range (lo := 0) (n := 12) (fun j σ H' => ∃ (ds : List Int) (sv : Int) (v6 : Option V), σ = [some (.ref a), some (.int 0), some (.int 63), some (.ref d), some (.int (0 + (i : Int))), some (.int cv), v6, some (.int sv)] ∧ Same H H' ∧ H' d = some (.lst (ds.map V.int)) ∧ ds.length ≤ 60 * i + j)
          ⟨ds, _, v6, rfl, s1, hd, hl⟩ ?_ ?_⟩
        · rintro j σ H3 hj ⟨ds, sv, v6, rfl, s2, hd, hl⟩
          refine ⟨_, rfl, _, _, rfl, rfl, .inr ⟨by decide, by decide⟩, _, rfl, _, _, rfl, rfl, .inl ⟨by decide, by decide⟩, _, _, rfl, rfl, _, _, rfl, rfl, .inl ⟨_, rfl, _, _, rfl, rfl, (by show (0 : Int) < 2147483563; decide), ?_⟩⟩
          refine ⟨_, rfl, .inl ⟨rfl, _, SqL.of hd⟩, _, rfl, _, _, rfl, rfl, ⟨by decide, by decide⟩, .inl ⟨_, rfl, _, _, rfl, rfl, (by show (0 : Int) < 1000; decide), d, _, _, rfl, rfl, hd, lt_size (by rw [List.length_map]; omega), ?_⟩⟩
          refine ⟨ds ++ [((sv * 40014 + 5 * (0 + (j : Int)) + 3) % 2147483563 / 1009) % 1000], _, _, rfl, same_mut s2 nd, ?_, ?_⟩
          · rw [upd_same, List.map_append]
            rfl
          · rw [List.length_append]
            show ds.length + 1 ≤ _
            omega
        · rintro σ H3 ⟨ds, sv, v6, rfl, s2, hd, hl⟩
          exact ⟨ds, _, _, _, _, rfl, s2, hd, by omega⟩
    · rintro σ H1 ⟨ds, v4, c, v6, v7, rfl, s1, hd, hl⟩
      exact ⟨_, rfl, q d ds H1 s1 nd hd⟩

/-! ### the box of draws -/
def Bx (H : Hp) (b dg : Addr) (ds : List Int) : Prop := ∃ n : Nat, H b = some (.lst [.ref dg, .int (n : Int)]) ∧ H dg = some (.lst (ds.map V.int))
/-- all stays but b -/
def Fx (b : Addr) (H H' : Hp) : Prop := ∀ c o, c ≠ b → H c = some o → H' c = some o
theorem Fx.refl (b : Addr) (H : Hp) : Fx b H H := fun _ _ _ h => h
theorem Fx.trans {b : Addr} {H H1 H2 : Hp} (a : Fx b H H1) (c : Fx b H1 H2) : Fx b H H2 := fun x o n h => c x o n (a x o n h)
theorem Fx.new {b p : Addr} {H H1 : Hp} {o : HO} (a : Fx b H H1) (h : H1 p = none) : Fx b H (upd H1 p o) := fun x u n e => by
  have := a x u n e
  rw [upd_ne (ne_of_none this h)]
  exact this
theorem Fx.mut {b p : Addr} {H H1 : Hp} {o : HO} (a : Fx b H H1) (h : H p = none) : Fx b H (upd H1 p o) := fun x u n e => by
  rw [upd_ne (ne_of_none e h)]
  exact a x u n e
theorem Bx.new {H : Hp} {b dg p : Addr} {ds : List Int} {o : HO} (B : Bx H b dg ds) (h : H p = none) : Bx (upd H p o) b dg ds := by
  obtain ⟨n, h1, h2⟩ := B
  exact ⟨n, by rw [upd_ne (ne_of_none h1 h)]; exact h1, by rw [upd_ne (ne_of_none h2 h)]; exact h2⟩
theorem Bx.upd {H : Hp} {b dg p : Addr} {ds : List Int} {o : HO} (B : Bx H b dg ds) (h1 : p ≠ b) (h2 : p ≠ dg) : Bx (upd H p o) b dg ds := by
  obtain ⟨n, e1, e2⟩ := B
  exact ⟨n, by rw [upd_ne h1.symm]; exact e1, by rw [upd_ne h2.symm]; exact e2⟩
theorem Bx.nb {H : Hp} {b dg p : Addr} {ds : List Int} (B : Bx H b dg ds) (h : H p = none) : p ≠ b ∧ p ≠ dg := by
  obtain ⟨n, e1, e2⟩ := B
  exact ⟨(ne_of_none e1 h).symm, (ne_of_none e2 h).symm⟩
theorem Fx.none {b p : Addr} {H H1 : Hp} (a : Fx b H H1) {dg : Addr} {ds : List Int} (B : Bx H b dg ds) (h : H1 p = Option.none) (B1 : Bx H1 b dg ds) : H p = Option.none := by
  cases e : H p with
  | none => rfl
  | some o =>
    have := a p o (B1.nb h).1 e
    rw [h] at this
    cases this

/-! ### _law_draw -/
def spDraw : Sp := fun vs H Q _ => ∃ (b dg : Addr) (ds : List Int) (m : Int), vs = [.ref b, .int m] ∧ 0 < m ∧ Bx H b dg ds ∧
  ∀ (r : Int) (H' : Hp), 0 ≤ r → r < m → Fx b H H' → Bx H' b dg ds → Q (.int r) H'
theorem ok_law_draw {f : Addr} {fd : FuncData} (A : All K mg) (F : Fun K "_law_draw" "_law_draw" s_law_draw f fd) : FnOk P w K mg base CX0 1 f fd ["box", "many"] spDraw := by
  refine F.ok sc_law_draw (fun vs H Q E h => ?_) (fun cdv A' outer s H vs Q E hr h => ?_)
  · obtain ⟨b, dg, ds, m, rfl, _⟩ := h
    rfl
  · obtain ⟨b, dg, ds, m, rfl, hm, ⟨n, hb, hd⟩, q⟩ := h
    have nbd : dg ≠ b := ne_of hd hb (fun z => by
      cases ds with
      | nil => exact nomatch z
      | cons d r => exact nomatch (List.cons.inj (HO.lst.inj z)).1)
    refine ⟨_, (pss_cons (ps_set (i := 2) sc_law_draw.nd rfl (.inl rfl) (pe_ix ix_list (pv 0) pe_int (fun _ _ => rfl)))
(pss_cons (ps_asg (pe_op op_add (pv 2) pe_int) (pg_sub (pv 0) pe_int set_list))
(pss_cons (ps_if (pt_cmpR op_lt (pv 2) (pe_callB call_len_seq (by rfl) A.len PySem.boot_len (pa_cons (pe_ix ix_list (pv 0) pe_int (fun _ _ => rfl)) pa_nil)) (nomark _))
(pss_one (ps_ret (pe_op op_mod (pe_callTy call_int1 (by rfl) A.int (by decide +kernel) (pa_cons (pe_ix ix_list (pe_ix ix_list (pv 0) pe_int (fun _ _ => rfl)) (pv 2) (fun _ _ => rfl)) pa_nil)) (pv 1))))
pss_nil)
(pss_one (ps_ret (pe_op op_mod (pe_callTy call_int1 (by rfl) A.int (by decide +kernel) (pa_cons (pe_op op_add (pe_op op_mul (pv 2) pe_int) pe_int) pa_nil)) (pv 1))))))), ?_⟩
    refine ⟨_, rfl, b, _, 1, _, rfl, rfl, SqL.of hb, atI_nat (j := 1) rfl, ?_⟩
    refine ⟨_, rfl, _, _, rfl, rfl, _, rfl, b, _, 1, 1, rfl, rfl, hb, rfl, ?_⟩
    have hb2 : upd H b (.lst [.ref dg, .int ((n : Int) + 1)]) b = some (.lst [.ref dg, .int ((n : Int) + 1)]) := upd_same
    have hd2 : upd H b (.lst [.ref dg, .int ((n : Int) + 1)]) dg = some (.lst (ds.map V.int)) := by
      rw [upd_ne nbd]
      exact hd
    have fin : ∀ r : Int, 0 ≤ r → r < m → Q (.int r) (upd H b (.lst [.ref dg, .int ((n : Int) + 1)])) := fun r h1 h2 =>
      q r _ h1 h2 (fun c o nc e => by rw [upd_ne nc]; exact e) ⟨n + 1, by rw [hb2]; rfl, hd2⟩
    refine ⟨_, rfl, _, rfl, b, _, 0, _, rfl, rfl, SqL.of hb2, atI_nat (j := 0) rfl, dg, _, rfl, .inl (SqL.of hd2), _, _, rfl, rfl, _, rfl, ite2 (fun e => ?_) (fun e => ?_)⟩
    · have lt : n < ds.length := by
        have := of_decide_eq_true e
        rw [List.length_map] at this
        omega
      have g : (ds.map V.int)[n]? = some (.int ds[n]) := by
        rw [List.getElem?_map, List.getElem?_eq_getElem lt]
        rfl
      refine ⟨_, rfl, b, _, 0, _, rfl, rfl, SqL.of hb2, atI_nat (j := 0) rfl, _, rfl, dg, _, _, _, rfl, rfl, SqL.of hd2, atI_nat g, .inl ⟨_, rfl, _, rfl, _, _, rfl, rfl, hm, ?_⟩⟩
      exact fin _ (Int.emod_nonneg _ (by omega)) (Int.emod_lt_of_pos _ hm)
    · refine ⟨_, rfl, _, _, rfl, rfl, .inr ⟨by decide, by decide⟩, _, _, rfl, rfl, .inl ⟨_, rfl, _, rfl, _, _, rfl, rfl, hm, ?_⟩⟩
      exact fin _ (Int.emod_nonneg _ (by omega)) (Int.emod_lt_of_pos _ hm)

/-! ### _law_alike -/
def spAlike (K : PySem.W.Frag) : Sp := fun vs H Q _ => ∃ (a b : Addr) (d e : PyData), vs = [.ref a, .ref b] ∧ Dp K H (.ref a) d ∧ Dp K H (.ref b) e ∧
  (d.showable = true ∧ d.hasDict = false ∧ d.depth ≤ 60 ∧ d.shown.length ≤ sizeLine) ∧ (e.showable = true ∧ e.hasDict = false ∧ e.depth ≤ 60 ∧ e.shown.length ≤ sizeLine) ∧
  Q (.bl (decide (V.str d.shown = V.str e.shown))) H
theorem ok_law_alike {f : Addr} {fd : FuncData} (A : All K mg) (F : Fun K "_law_alike" "_law_alike" s_law_alike f fd) : FnG P w K mg base 1 f fd ["one", "two"] (spAlike K) := by
  refine fn_G F sc_law_alike (fun vs H Q E h => ?_) (fun cdv A' outer s H vs Q E hgd hr h => ?_)
  · obtain ⟨a, b, d, e, rfl, _⟩ := h
    rfl
  · obtain ⟨a, b, d, e, rfl, hd, he, ⟨d1, d2, d3, d4⟩, ⟨e1, e2, e3, e4⟩, q⟩ := h
    have hu64 := hr.units
    refine ⟨_, (pss_one (ps_ret (pe_cmpR op_eq (pe_callB (call_reprG (by exact hgd) (by exact hu64)) (by rfl) A.repr (by decide +kernel) (pa_cons (pv 0) pa_nil)) (pe_callB (call_reprG (by exact hgd) (by exact hu64)) (by rfl) A.repr (by decide +kernel) (pa_cons (pv 1) pa_nil)) (nomark _)))), ?_⟩
    exact ⟨_, rfl, a, d, rfl, hd, d1, d2, d3, d4, _, rfl, b, e, rfl, he, e1, e2, e3, e4, rfl, q⟩

/-! ### references -/
def RfV (H : Hp) : Option Rf → V → Prop
  | none, v => v = .non
  | some (.ob i), v => ∃ a, v = .ref a ∧ H a = some (.tup [.str "object", .int i])
  | some (.im o e), v => ∃ a, v = .ref a ∧ H a = some (.tup [.str "import", .int o, .int e])
abbrev RfAll (H : Hp) : List (Option Rf) → List V → Prop := Paired (RfV H)
/-- tuples stay -/
def TupS (H H' : Hp) : Prop := ∀ c xs, H c = some (.tup xs) → H' c = some (.tup xs)
theorem RfV.mono {H H' : Hp} (s : TupS H H') : ∀ {r : Option Rf} {v : V}, RfV H r v → RfV H' r v
  | none, _, h => h
  | some (.ob _), _, ⟨a, e, h⟩ => ⟨a, e, s _ _ h⟩
  | some (.im _ _), _, ⟨a, e, h⟩ => ⟨a, e, s _ _ h⟩
theorem RfAll.mono {H H' : Hp} (s : TupS H H') {rs : List (Option Rf)} {vs : List V} (h : RfAll H rs vs) : RfAll H' rs vs := Paired.mapP h fun _ _ x => x.mono s
theorem TupS.of_same {H H' : Hp} (s : Same H H') : TupS H H' := fun c xs e => s c _ e
theorem TupS.of_fx {H H' : Hp} {b dg : Addr} {ds : List Int} (f : Fx b H H') (B : Bx H b dg ds) : TupS H H' := fun c xs e => by
  obtain ⟨n, h1, _⟩ := B
  exact f c _ (ne_of e h1 (fun z => nomatch z)) e
theorem TupS.trans {H H1 H2 : Hp} (a : TupS H H1) (b : TupS H1 H2) : TupS H H2 := fun c xs e => b c xs (a c xs e)
theorem TupS.new {H H1 : Hp} {p : Addr} {o : HO} (a : TupS H H1) (h : H1 p = none) : TupS H (upd H1 p o) := fun c xs e => by
  have := a c xs e
  rw [upd_ne (ne_of_none this h)]
  exact this
theorem TupS.mut {H H1 : Hp} {p : Addr} {o u : HO} (a : TupS H H1) (h : H1 p = some u) (hu : ∀ xs, u ≠ .tup xs) : TupS H (upd H1 p o) := fun c xs e => by
  have := a c xs e
  rw [upd_ne (ne_of this h (fun z => hu xs z.symm))]
  exact this
/-- a reference that may be drawn where there are so many objects -/
def Good (many : Int) : Option Rf → Prop
  | none => True
  | some (.ob i) => ∃ k : Int, 0 ≤ k ∧ k < many ∧ i = 3 * k
  | some (.im o e) => 0 ≤ o ∧ o < 4 ∧ 0 ≤ e ∧ e < 3

/-! ### _law_reference -/
def spRef : Sp := fun vs H Q _ => ∃ (b dg : Addr) (ds : List Int) (m : Int), vs = [.ref b, .int m] ∧ Bx H b dg ds ∧
  ∀ (r : Option Rf) (v : V) (H' : Hp), Good m r → RfV H' r v → Fx b H H' → Bx H' b dg ds → Q v H'
theorem ok_law_reference {f : Addr} {fd : FuncData} (A : All K mg) (F : Fun K "_law_reference" "_law_reference" s_law_reference f fd) : FnOk P w K mg base CX0 2 f fd ["box", "many"] spRef := by
  obtain ⟨f_law_draw, fd_law_draw, F_law_draw, g_law_draw, b_law_draw⟩ := A.law_draw
  have G_law_draw := ok_law_draw (P := P) (w := w) (base := base) A F_law_draw
  refine F.ok sc_law_reference (fun vs H Q E h => ?_) (fun cdv A' outer s H vs Q E hr h => ?_)
  · obtain ⟨b, dg, ds, m, rfl, _⟩ := h
    rfl
  · obtain ⟨b, dg, ds, m, rfl, B, q⟩ := h
    refine ⟨_, (pss_cons (ps_set (i := 2) sc_law_reference.nd rfl (.inl rfl) (pe_call G_law_draw (hr.mono (by decide)) (by rfl) g_law_draw F_law_draw.kp b_law_draw .nil pass0 (pa_cons (pv 0) (pa_cons pe_int pa_nil))))
(Evl.pss_cut (ps_if (PW.pt (pw_and (pt_cmpR op_le (pv 2) pe_int (nomark _)) (pw_and1 (pt_cmpR op_gt (pv 1) pe_int (nomark _)))))
(pss_one (ps_ret (pe_tup (pa_cons pe_str (pa_cons (pe_op op_mul pe_int (pe_call G_law_draw (hr.mono (by decide)) (by rfl) g_law_draw F_law_draw.kp b_law_draw .nil pass0 (pa_cons (pv 0) (pa_cons (pv 1) pa_nil)))) pa_nil)))))
pss_nil)
(pss_cons (ps_if (pt_cmpR op_eq (pv 2) pe_int (nomark _))
(pss_one (ps_ret (pe_tup (pa_cons pe_str (pa_cons (pe_call G_law_draw (hr.mono (by decide)) (by rfl) g_law_draw F_law_draw.kp b_law_draw .nil pass0 (pa_cons (pv 0) (pa_cons pe_int pa_nil))) (pa_cons (pe_call G_law_draw (hr.mono (by decide)) (by rfl) g_law_draw F_law_draw.kp b_law_draw .nil pass0 (pa_cons (pv 0) (pa_cons pe_int pa_nil))) pa_nil))))))
pss_nil)
(pss_one (ps_ret pe_non))))), ?_⟩
    refine ⟨_, rfl, b, dg, ds, 5, rfl, by decide, B, fun k H1 h0 h5 f1 B1 => ?_⟩
    refine ⟨fun σ H' => σ = [some (.ref b), some (.int m), some (.int k)] ∧ H' = H1, ?_, ?_⟩
    · refine ⟨_, rfl, _, _, rfl, rfl, _, rfl, ite2 (fun e1 => ?_) (fun e1 => iteF ⟨rfl, rfl⟩)⟩
      refine ⟨_, rfl, _, _, rfl, rfl, _, rfl, ite2 (fun e2 => ?_) (fun e2 => ⟨rfl, rfl⟩)⟩
      refine ⟨_, rfl, _, rfl, b, dg, ds, m, rfl, of_decide_eq_true e2, B1, fun r H2 r0 rm f2 B2 => ⟨_, _, rfl, rfl, .inl ⟨by decide, by decide⟩, (by show 2 ≤ sizeLine; decide), fun p hp => ?_⟩⟩
      exact q (some (.ob (3 * r))) _ _ ⟨r, r0, rm, rfl⟩ ⟨p, rfl, upd_same⟩ ((f1.trans f2).new hp) (B2.new hp)
    · rintro σ H' ⟨rfl, rfl⟩
      refine ⟨_, rfl, rfl, _, rfl, ite2 (fun e1 => ?_) (fun e1 => ?_)⟩
      · refine ⟨_, rfl, b, dg, ds, 4, rfl, by decide, B1, fun o H2 o0 o4 f2 B2 => ⟨_, rfl, b, dg, ds, 3, rfl, by decide, B2, fun e H3 e0 e3 f3 B3 => ⟨(by show 3 ≤ sizeLine; decide), fun p hp => ?_⟩⟩⟩
        exact q (some (.im o e)) _ _ ⟨o0, o4, e0, e3⟩ ⟨p, rfl, upd_same⟩ (((f1.trans f2).trans f3).new hp) (B3.new hp)
      · exact q none _ _ trivial rfl f1 B1
end
end K1
set_option Elab.async false
set_option linter.all false
set_option maxRecDepth 100000
set_option maxHeartbeats 4000000
/-! K01b: heaps that are drawn, what they lead to. -/
namespace Gd
open PySem PySem.Spec PyProof.Rows L2
/-- for k in a dict (tuple keys) that was made on the spot -/
theorem pi_keysN {X : Cx} {tg e : Expr} {td : TE} (he : PE X e td) : PI X tg e (fun σ H R => td σ H fun x H1 => ∃ (d : Addr) (kvs : List (List L2.Key × V)), x = .ref d ∧ H1 d = some (.dT kvs) ∧
    ∀ o, R (Itkt d o kvs) (upd H1 d (.frz o (.dT kvs)))) := by
  constructor
  intro pins s σ H R I h
  refine thn (he.run pins s σ H _ I h) fun u s1 ⟨x, H1, J, rx, d, kvs, ex, hd, q⟩ => ?_
  subst ex
  obtain rfl : u = Value.ref d := rx
  obtain ⟨o, L⟩ := J.lock hd trivial
  obtain ⟨n1, n2, n3, es, ep, n4, n5, _⟩ := L.frzT upd_same
  have sz : (kvs.length : Int) = (es.size : Int) := by rw [n5]
  refine iter_keys n1 n2 n3 n4 (pi_one (tk := s1.toks) L _ (turn_keysT _ n4) ⟨_, Heap.get?_push_size _ rfl, rfl, ?_⟩ (q o))
  rw [← n5]
  rfl
end Gd
namespace K1
open PySem PySem.Spec PyProof.Rows L2 Gd

/-! ### heaps -/
def HKv (H : Hp) : List (L2.Key × V) → List (Int × List (Option Rf)) → Prop := Paired fun kv e => kv.1 = Sum.inl e.1 ∧ ∃ t vs, kv.2 = .ref t ∧ H t = some (.tup vs) ∧ RfAll H e.2 vs
theorem HKv.mono {H H' : Hp} (s : TupS H H') {kvs : List (L2.Key × V)} {hp : List (Int × List (Option Rf))} (h : HKv H kvs hp) : HKv H' kvs hp :=
  Paired.mapP h fun _ _ ⟨e, t, vs, e2, ht, r⟩ => ⟨e, t, vs, e2, s _ _ ht, RfAll.mono s r⟩
theorem HKv.keys {H : Hp} : ∀ {kvs : List (L2.Key × V)} {hp : List (Int × List (Option Rf))}, HKv H kvs hp → kvs.map (·.1) = (ids hp).map Sum.inl
  | _, _, .nil => rfl
  | _, _, .cons ⟨e, _⟩ t => congr (congrArg List.cons e) (HKv.keys t)
theorem HKv.len {H : Hp} {kvs : List (L2.Key × V)} {hp : List (Int × List (Option Rf))} (h : HKv H kvs hp) : kvs.length = hp.length := Paired.length h
theorem HKv.get {H : Hp} {i : Int} : ∀ {kvs : List (L2.Key × V)} {hp : List (Int × List (Option Rf))}, HKv H kvs hp → i ∈ ids hp →
    ∃ t vs, valV kvs (Sum.inl i) = some (.ref t) ∧ H t = some (.tup vs) ∧ RfAll H (look hp i) vs
  | _, _, .nil, h => nomatch h
  | _, _, .cons (a := kv) (b := e) (l₁ := kvs) (l₂ := hp) ⟨e1, t, vs, e2, ht, r⟩ rest, h => by
    by_cases q : e.1 = i
    · refine ⟨t, vs, ?_, ht, ?_⟩
      · rw [valV_pos (by rw [e1, q]), e2]
      · unfold look
        rw [List.find?_cons_of_pos (by simp [q])]
        exact r
    · have hi : i ∈ ids hp := by
        rcases List.mem_cons.mp h with z | z
        · exact (q z.symm).elim
        · exact z
      obtain ⟨t', vs', a1, a2, a3⟩ := HKv.get rest hi
      refine ⟨t', vs', ?_, a2, ?_⟩
      · rw [valV_neg (by rw [e1]; exact fun z => q (Sum.inl.inj z))]
        exact a1
      · unfold look
        rw [List.find?_cons_of_neg (by simp [q])]
        exact a3
theorem paired_app {α β : Type} {F : α → β → Prop} : ∀ {xs xs' : List α} {ys ys' : List β}, Paired F xs ys → Paired F xs' ys' → Paired F (xs ++ xs') (ys ++ ys')
  | _, _, _, _, .nil, h => h
  | _, _, _, _, .cons r t, h => .cons r (paired_app t h)
theorem paired_one {α β : Type} {F : α → β → Prop} {a : α} {b : β} (h : F a b) : Paired F [a] [b] := .cons h .nil
theorem valV_none {κ : Type} [DecidableEq κ] {kvs : List (κ × V)} {k : κ} (h : k ∉ kvs.map (·.1)) : valV kvs k = none := by
  unfold valV
  rw [Option.map_eq_none_iff, List.find?_eq_none]
  intro p hp z
  exact h (List.mem_map.mpr ⟨p, hp, of_decide_eq_true z⟩)

structure GoodHeap (m : Int) (hp : List (Int × List (Option Rf))) : Prop where
  keys : ids hp = (List.range hp.length).map fun (k : Nat) => 3 * (k : Int)
  fld : ∀ e ∈ hp, e.2.length ≤ 4 ∧ ∀ r ∈ e.2, Good m r
theorem GoodHeap.nodup {m : Int} {hp : List (Int × List (Option Rf))} (g : GoodHeap m hp) : (ids hp).Nodup := by
  rw [g.keys]
  exact List.Pairwise.map _ (fun a b h z => h (by omega)) List.nodup_range
theorem GoodHeap.mem {m : Int} {hp : List (Int × List (Option Rf))} (g : GoodHeap m hp) {i : Int} (h : ∃ k : Int, 0 ≤ k ∧ k < hp.length ∧ i = 3 * k) : i ∈ ids hp := by
  obtain ⟨k, h0, h1, rfl⟩ := h
  rw [g.keys, List.mem_map]
  exact ⟨k.toNat, List.mem_range.mpr (by omega), by omega⟩
theorem GoodHeap.wf {hp : List (Int × List (Option Rf))} (g : GoodHeap hp.length hp) {st : List (Option Rf)} (hs : ∀ r ∈ st, Good hp.length r) : WF hp st :=
  ⟨g.nodup, fun i h => g.mem (hs _ h), fun p hp' i h => g.mem ((g.fld p hp').2 _ h)⟩
theorem GoodHeap.look {m : Int} {hp : List (Int × List (Option Rf))} (g : GoodHeap m hp) (i : Int) : (K1.look hp i).length ≤ 4 := by
  unfold K1.look
  cases e : hp.find? fun p => decide (p.1 = i) with
  | none => exact Nat.zero_le _
  | some p => exact (g.fld p (List.mem_of_find?_eq_some e)).1
theorem flat_len {α β : Type} (f : α → List β) (c : Nat) : ∀ l : List α, (∀ x ∈ l, (f x).length ≤ c) → (l.flatMap f).length ≤ c * l.length
  | [], _ => by simp
  | x :: l, h => by
    have ih := flat_len f c l fun y hy => h y (List.mem_cons_of_mem _ hy)
    have h1 := h x List.mem_cons_self
    rw [List.flatMap_cons, List.length_append, List.length_cons, Nat.mul_succ]
    omega
theorem GoodHeap.univ {m : Int} {hp : List (Int × List (Option Rf))} (g : GoodHeap m hp) (h10 : hp.length ≤ 10) {st : List (Option Rf)} (hs : st.length ≤ 4) : (univ hp st).length ≤ 44 := by
  unfold K1.univ
  have h1 := flat_len (·.2) 4 hp fun e he => (g.fld e he).1
  refine Nat.le_trans (List.length_filterMap_le _ _) ?_
  rw [List.length_append]
  omega

section
variable {P : Program} {w : World} {K : PySem.W.Frag} {mg : Str → Option Value} {base : Heap}

/-! ### _law_heap -/
def spHeap : Sp := fun vs H Q _ => ∃ (b dg : Addr) (ds : List Int), vs = [.ref b] ∧ Bx H b dg ds ∧
  ∀ (p : Addr) (kvs : List (L2.Key × V)) (hp : List (Int × List (Option Rf))) (H' : Hp), H p = none → H' p = some (.dK kvs) → HKv H' kvs hp → GoodHeap hp.length hp → hp.length ≤ 10 → Fx b H H' → Bx H' b dg ds → Q (.ref p) H'
theorem ok_law_heap {f : Addr} {fd : FuncData} (A : All K mg) (F : Fun K "_law_heap" "_law_heap" s_law_heap f fd) : FnOk P w K mg base CX0 3 f fd ["box"] spHeap := by
  obtain ⟨f_law_draw, fd_law_draw, F_law_draw, g_law_draw, b_law_draw⟩ := A.law_draw
  have G_law_draw := ok_law_draw (P := P) (w := w) (base := base) A F_law_draw
  obtain ⟨f_law_reference, fd_law_reference, F_law_reference, g_law_reference, b_law_reference⟩ := A.law_reference
  have G_law_reference := ok_law_reference (P := P) (w := w) (base := base) A F_law_reference
  refine F.ok sc_law_heap (fun vs H Q E h => ?_) (fun cdv A' outer s H vs Q E hr h => ?_)
  · obtain ⟨b, dg, ds, rfl, _⟩ := h
    rfl
  · obtain ⟨b, dg, ds, rfl, B, q⟩ := h
    have hu := hu_of hr
    refine ⟨_, (pss_cons (ps_set (i := 1) sc_law_heap.nd rfl (.inr rfl) (pe_call G_law_draw (hr.mono (by decide)) (by rfl) g_law_draw F_law_draw.kp b_law_draw .nil pass0 (pa_cons (pv 0) (pa_cons pe_int pa_nil))))
(pss_cons (ps_set (i := 2) sc_law_heap.nd rfl (.inl rfl) pe_dnewK)
(pss_cons (ps_for PassesOwn.never rfl (pi_range1 (by rfl) A.range (pa_cons (pv 1) pa_nil)) (pg_name (i := 3) sc_law_heap.nd rfl (.inl rfl))
(pss_one (ps_dput hu (pv 2) (pe_op op_mul pe_int (pv 3)) (pe_callTy call_tuple_of (by rfl) A.tuple (by decide +kernel) (pa_cons (pe_lc (own := [("field", 4)]) (tt := tYes) rfl sc_law_heap.nd (pi_range1 (by rfl) A.range (pa_cons (pe_call G_law_draw (hr.mono (by decide)) (by rfl) g_law_draw F_law_draw.kp b_law_draw .nil pass0 (pa_cons (pv 0) (pa_cons pe_int pa_nil))) pa_nil)) (blkOk_by (N := ["box", "many", "heap", "k", "field"]) (sc := defScope s_law_heap) (by decide +kernel)) (fun _ _ _ _ _ => pg_name (i := 4) sc_law_heap.nd rfl (Or.inl rfl)) (fun _ _ _ _ _ => pts_nil) (fun _ _ _ _ _ => (pe_call G_law_reference (hr.mono (by decide)) (by rfl) g_law_reference F_law_reference.kp b_law_reference .nil pass0 (pa_cons (pv 0) (pa_cons (pv 1) pa_nil))))) pa_nil)) rfl)))
(pss_one (ps_ret (pv 2)))))), ?_⟩
    refine ⟨_, rfl, b, dg, ds, 11, rfl, by decide, B, fun m H1 m0 m11 f1 B1 => ?_⟩
    intro p np
    have hp0 : H p = none := f1.none B np B1
    have nb := B1.nb np
    refine ⟨_, rfl, m, rfl, by omega, by omega, for_range (lo := 0) (n := m.toNat) (fun k σ H' => ∃ (kvs : List (L2.Key × V)) (hp : List (Int × List (Option Rf))) (v3 v4 : Option V),
        σ = [some (.ref b), some (.int m), some (.ref p), v3, v4] ∧ H' p = some (.dK kvs) ∧ HKv H' kvs hp ∧ GoodHeap m hp ∧ hp.length = k ∧ Fx b H H' ∧ Bx H' b dg ds)
      ⟨[], [], none, none, rfl, upd_same, .nil, ⟨rfl, fun _ h => nomatch h⟩, rfl, f1.new np, B1.new np⟩ ?_ ?_⟩
    · rintro k σ H2 hk ⟨kvs, hp, v3, v4, rfl, hP, hK, gH, hl, f2, B2⟩
      refine ⟨_, rfl, b, dg, ds, 5, rfl, by decide, B2, fun r H3 r0 r5 f3 B3 => ⟨r, rfl, by omega, by omega, fun D nD => lc_range (lo := 0) (n := r.toNat) (fun i H' => ∃ (rs : List (Option Rf)) (vs : List V),
        H' D = some (.lst vs) ∧ RfAll H' rs vs ∧ rs.length = i ∧ (∀ x ∈ rs, Good m x) ∧ Fx b H3 H' ∧ Bx H' b dg ds) ?_ ?_ ?_⟩⟩
      · exact ⟨[], [], upd_same, .nil, rfl, fun _ h => (nomatch h), (Fx.refl b H3).new nD, B3.new nD⟩
      · rintro i H4 hi ⟨rs, vs, hD, hR, hrl, hg, f4, B4⟩
        refine ⟨rfl, ?_⟩
        refine ⟨_, rfl, _, rfl, b, dg, ds, m, rfl, B4, fun x v H5 gx rx f5 B5 => ?_⟩
        have nDb : D ≠ b := (B3.nb nD).1
        have nDd : D ≠ dg := (B3.nb nD).2
        have hD5 : H5 D = some (.lst vs) := f5 D _ nDb hD
        have t45 : TupS H4 H5 := TupS.of_fx f5 B4
        have t56 : TupS H5 (upd H5 D (.lst (vs ++ [v]))) := TupS.mut (fun _ _ e => e) hD5 (fun _ z => nomatch z)
        refine ⟨vs, hD5, lt_size (by have := Paired.length hR; omega), rs ++ [x], vs ++ [v], upd_same, ?_, ?_, ?_, ?_, ?_⟩
        · exact paired_app ((hR.mono t45).mono t56) (paired_one (rx.mono t56))
        · rw [List.length_append, hrl]; rfl
        · intro y hy
          rcases List.mem_append.mp hy with z | z
          · exact hg y z
          · rw [List.mem_singleton.mp z]; exact gx
        · exact (f4.trans f5).mut nD
        · exact B5.upd nDb nDd
      · rintro H4 ⟨rs, vs, hD, hR, hrl, hg, f4, B4⟩
        refine ⟨D, vs, rfl, .inl ⟨SqL.of hD, fun t nt => ?_⟩⟩
        have hP4 : H4 p = some (.dK kvs) := f4 p _ nb.1 (f3 p _ nb.1 hP)
        have npt : p ≠ t := ne_of_none hP4 nt
        have hP5 : upd H4 t (.tup vs) p = some (.dK kvs) := by rw [upd_ne npt]; exact hP4
        refine ⟨_, rfl, _, rfl, _, _, rfl, rfl, .inl ⟨by decide, by decide⟩, p, _, rfl, DPut.k (k := Sum.inl (3 * (0 + (k : Int)))) hP5 (lt_size (by have := hK.len; omega)), ?_⟩
        have new : valV kvs (Sum.inl (3 * (0 + (k : Int))) : L2.Key) = none := valV_none (by
          rw [hK.keys, gH.keys, List.map_map, List.mem_map]
          rintro ⟨j, hj, e⟩
          have hj := List.mem_range.mp hj
          have e : 3 * (j : Int) = 3 * (0 + (k : Int)) := Sum.inl.inj e
          omega)
        rw [putK_new _ new]
        have t2 : TupS H2 H4 := (TupS.of_fx f3 B2).trans (TupS.of_fx f4 B3)
        have t4 : TupS H4 (upd H4 t (.tup vs)) := TupS.new (fun _ _ e => e) nt
        have t5 : TupS (upd H4 t (.tup vs)) (upd (upd H4 t (.tup vs)) p (.dK (kvs ++ [(Sum.inl (3 * (0 + (k : Int))), V.ref t)]))) := TupS.mut (fun _ _ e => e) hP5 (fun _ z => nomatch z)
        refine ⟨_, hp ++ [(3 * (0 + (k : Int)), rs)], _, _, rfl, upd_same, ?_, ⟨?_, ?_⟩, ?_, ?_, ?_⟩
        · refine paired_app (hK.mono (t2.trans (t4.trans t5))) (paired_one ⟨rfl, t, vs, rfl, t5 _ _ upd_same, hR.mono (t4.trans t5)⟩)
        · have e := gH.keys
          unfold ids at e ⊢
          rw [List.map_append, e, List.length_append, List.length_singleton, List.range_succ, List.map_append, hl]
          congr 1
          show [3 * (0 + (k : Int))] = [3 * (k : Int)]
          rw [Int.zero_add]
        · intro e he
          rcases List.mem_append.mp he with z | z
          · exact gH.fld e z
          · rw [List.mem_singleton.mp z]
            exact ⟨by show rs.length ≤ 4; omega, hg⟩
        · rw [List.length_append, hl]; rfl
        · exact (((f2.trans f3).trans f4).new nt).mut hp0
        · exact (B4.new nt).upd nb.1 nb.2
    · rintro σ H2 ⟨kvs, hp, v3, v4, rfl, hP, hK, gH, hl, f2, B2⟩
      have em : m = (hp.length : Int) := by omega
      subst em
      exact ⟨_, rfl, q p kvs hp H2 hp0 hP hK gH (by omega) f2 B2⟩

/-! ### references as data -/
theorem nobimp : ¬ V.str "object" = V.str "import" := fun z => absurd (V.str.inj z) (by decide +kernel)
theorem nimpob : ¬ V.str "import" = V.str "object" := fun z => absurd (V.str.inj z) (by decide +kernel)
def rfD : Option Rf → PyData
  | none => .none
  | some (.ob i) => .tuple [.str "object", .int i]
  | some (.im o e) => .tuple [.str "import", .int o, .int e]
theorem rf_dp {H : Hp} : ∀ {r : Option Rf} {v : V}, RfV H r v → Dp K H v (rfD r)
  | none, v, h => by
    have e : v = .non := h
    subst e
    exact .non
  | some (.ob i), v, ⟨a, e, h⟩ => by
    subst e
    exact .tup (SqT.of h) (.cons (.str _) (.cons (.int _) .nil))
  | some (.im o e), v, ⟨a, e2, h⟩ => by
    subst e2
    exact .tup (SqT.of h) (.cons (.str _) (.cons (.int _) (.cons (.int _) .nil)))
theorem rf_dps {H : Hp} : ∀ {rs : List (Option Rf)} {vs : List V}, RfAll H rs vs → DpAll K H vs (rs.map rfD)
  | _, _, .nil => .nil
  | _, _, .cons h t => .cons (rf_dp h) (rf_dps t)
theorem rf_lay (r : Option Rf) : (rfD r).canLay0 = true := by
  rcases r with _ | ⟨i⟩ | ⟨o, e⟩ <;> simp [rfD, PyData.canLay0, PyData.canLayAll0] <;> decide +kernel
theorem rf_depth (r : Option Rf) : (rfD r).depth ≤ 1 := by
  rcases r with _ | ⟨i⟩ | ⟨o, e⟩ <;> simp [rfD, PyData.depth, PyData.depthAll]
theorem rfs_lay : ∀ rs : List (Option Rf), PyData.canLayAll0 (rs.map rfD) = true
  | [] => by simp [PyData.canLayAll0]
  | r :: rs => by simp [PyData.canLayAll0, rf_lay r, rfs_lay rs]
theorem rfs_depth : ∀ rs : List (Option Rf), PyData.depthAll (rs.map rfD) ≤ 1
  | [] => by simp [PyData.depthAll]
  | r :: rs => by
    have h1 := rfs_depth rs
    have h2 := rf_depth r
    simp only [List.map_cons, PyData.depthAll]
    omega
theorem rf_shaped (r : Option Rf) : SeqAt.shaped (rfD r) = true := by
  have h := rf_depth r
  unfold SeqAt.shaped
  rw [rf_lay r, decide_eq_true (by omega)]
  rfl
theorem rfs_shaped (rs : List (Option Rf)) : SeqAt.shaped (.list (rs.map rfD)) = true := by
  have h := rfs_depth rs
  have e : PyData.canLay0 (.list (rs.map rfD)) = true := by
    simp only [PyData.canLay0]
    exact rfs_lay rs
  have d : PyData.depth (.list (rs.map rfD)) ≤ 64 := by
    simp only [PyData.depth]
    omega
  unfold SeqAt.shaped
  rw [e, decide_eq_true d]
  rfl
theorem rf_eqv (r q : Option Rf) : PyData.eqv (rfD r) (rfD q) = decide (r = q) := by
  by_cases h : r = q
  · subst h
    rw [decide_eq_true rfl]
    exact SeqAt.eqv_refl _ (rf_lay r)
  · rw [decide_eq_false h]
    have s1 : (Str.ofString "object" == Str.ofString "import") = false := by decide +kernel
    have s2 : (Str.ofString "import" == Str.ofString "object") = false := by decide +kernel
    have s3 : ((Str.ofString "object").cps == (Str.ofString "import").cps) = false := by decide +kernel
    have s4 : ((Str.ofString "import").cps == (Str.ofString "object").cps) = false := by decide +kernel
    rcases r with _ | ⟨i⟩ | ⟨o, e⟩ <;> rcases q with _ | ⟨j⟩ | ⟨o', e'⟩ <;> simp [rfD, PyData.eqv, PyData.eqvAll] at h ⊢ <;> first | done | exact h | (intro z; exact h z) | (decide +kernel)
theorem rf_any (r : Rf) (G : List Rf) : ((G.map some).map rfD).any (fun z => PyData.eqv z (rfD (some r))) = decide (r ∈ G) := by
  induction G with
  | nil => simp
  | cons g G ih =>
    rw [List.map_cons, List.map_cons, List.any_cons, ih, rf_eqv]
    by_cases h : g = r
    · subst h; simp
    · simp [h, Ne.symm h]

/-! ### _law_led_to -/
structure Given (H : Hp) (p : Addr) (kvs : List (L2.Key × V)) (hp : List (Int × List (Option Rf))) (s : Addr) (svs : List V) (st : List (Option Rf)) : Prop where
  atP : H p = some (.dK kvs)
  hk : HKv H kvs hp
  hs : H s = some (.lst svs)
  hst : RfAll H st svs
  g : ∃ m, GoodHeap m hp
  wf : WF hp st
  l10 : hp.length ≤ 10
  s4 : st.length ≤ 4
def spLedTo : Sp := fun vs H Q _ => ∃ (p s : Addr) (kvs : List (L2.Key × V)) (hp : List (Int × List (Option Rf))) (svs : List V) (st : List (Option Rf)), vs = [.ref p, .ref s] ∧ Given H p kvs hp s svs st ∧
  ∀ (f : Addr) (fvs : List V) (F : List Rf) (H' : Hp), Same H H' → H f = none → H' f = some (.lst fvs) → RfAll H' (F.map some) fvs → (∀ r, r ∈ F ↔ Reach hp st r) → F.length ≤ 176 → Q (.ref f) H'
theorem paired_back {α β : Type} {F : α → β → Prop} : ∀ {xs : List α} {ys : List β}, Paired F xs ys → ∀ {i : Nat} {y : β}, ys[i]? = some y → ∃ x, xs[i]? = some x ∧ F x y
  | _, _, .nil, _, _, h => by simp at h
  | _, _, .cons r t, 0, _, h => by simp at h; subst h; exact ⟨_, rfl, r⟩
  | _, _, .cons r t, i + 1, _, h => by
    obtain ⟨x, h1, h2⟩ := paired_back t (i := i) (by simpa using h)
    exact ⟨x, by simpa using h1, h2⟩
theorem take_fm {st : List (Option Rf)} {i : Nat} {r : Option Rf} (h : st[i]? = some r) : (st.take (i + 1)).filterMap id = (st.take i).filterMap id ++ r.toList := by
  rw [List.take_add_one, h, List.filterMap_append]
  cases r <;> rfl
theorem ok_law_led_to {f : Addr} {fd : FuncData} (A : All K mg) (F : Fun K "_law_led_to" "_law_led_to" s_law_led_to f fd) : FnOk P w K mg base CX0 1 f fd ["heap", "start"] spLedTo := by
  refine F.ok sc_law_led_to (fun vs H Q E h => ?_) (fun cdv A' outer s0 H vs Q E hr h => ?_)
  · obtain ⟨p, s, kvs, hp, svs, st, rfl, _⟩ := h
    rfl
  · obtain ⟨p, s, kvs, hp, svs, st, rfl, G, q⟩ := h
    have hu := hu_of hr
    have hu65 : (A'.deeper (envOfC "_law_led_to" (defScope s_law_led_to) s0.heap.objs.size f cdv)).units + 65 < cLine := by
      have := hr.un
      omega
    obtain ⟨m, gh⟩ := G.g
    have hl := gh.look
    have hU := gh.univ G.l10 G.s4
    refine ⟨_, (pss_cons (ps_set (i := 3) sc_law_led_to.nd rfl (.inr rfl) (pe_lc (own := [("reference", 2)]) rfl sc_law_led_to.nd (pi_list (pv 1)) (blkOk_by (N := ["heap", "start", "reference", "found", "turn", "field"]) (sc := defScope s_law_led_to) (by decide +kernel)) (fun _ _ _ _ _ => pg_name (i := 2) sc_law_led_to.nd rfl (Or.inl rfl)) (fun _ _ _ _ _ => (pts_one (pt_cmp (pc_notN (pv 2))))) (fun _ _ _ _ _ => (pv 2))))
(pss_cons (ps_for PassesOwn.never rfl (pi_range1 (by rfl) A.range (pa_cons (pe_op op_add (pe_callB call_lenD (by rfl) A.len PySem.boot_len (pa_cons (pv 0) pa_nil)) pe_int) pa_nil)) (pg_name (i := 4) sc_law_led_to.nd rfl (.inl rfl))
(pss_one (ps_for PassesOwn.never rfl (pi_list (pe_callTy call_list_of (by rfl) A.list (by decide +kernel) (pa_cons (pv 3) pa_nil))) (pg_name (i := 2) sc_law_led_to.nd rfl (.inl rfl))
(pss_one (ps_if (pt_cmpR op_eq (pe_ix ix_tup (pv 2) pe_int (fun _ _ => rfl)) pe_str (nomark _))
(pss_one (ps_set (i := 3) sc_law_led_to.nd rfl (.inr rfl) (pe_op op_cat (pv 3) (pe_lc (own := [("field", 5)]) rfl sc_law_led_to.nd (pi_tup (pe_dget hu (pv 0) (pe_ix ix_tup (pv 2) pe_int (fun _ _ => rfl)) (fun _ _ => rfl))) (blkOk_by (N := ["heap", "start", "reference", "found", "turn", "field"]) (sc := defScope s_law_led_to) (by decide +kernel)) (fun _ _ _ _ _ => pg_name (i := 5) sc_law_led_to.nd rfl (Or.inl rfl)) (fun _ _ _ _ _ => (pts_one (PW.pt (pw_and (pt_cmp (pc_notN (pv 5))) (pw_and1 (pt_cmpR (show OpR _ _ (rNotInD K) from op_notInD (by exact hu65)) (pv 5) (pv 3) (by rfl))))))) (fun _ _ _ _ _ => (pv 5))))))
pss_nil)))))
(pss_one (ps_ret (pv 3))))), ?_⟩
    -- found = [reference for reference in start if reference is not None]
    refine ⟨_, rfl, s, rfl, ⟨_, SqL.of G.hs⟩, fun f nf => ?_⟩
    refine lc_list (K := K) (a := s) (xs := svs) (fun i H' => ∃ (fvs : List V), H' f = some (.lst fvs) ∧ RfAll H' (((st.take i).filterMap id).map some) fvs ∧ Same H H') ?_ ?_ ?_ ?_
    · exact ⟨[], upd_same, .nil, same_new (Same.refl H) nf⟩
    · rintro i H' _ ⟨fvs, hf, hR, sm⟩
      exact SqL.of (sm _ _ G.hs)
    · rintro i x H' hi ⟨fvs, hf, hR, sm⟩
      obtain ⟨r, hr', rx⟩ := paired_back G.hst hi
      refine ⟨rfl, ?_⟩
      refine ⟨_, rfl, _, rfl, ?_⟩
      cases r with
      | none =>
        obtain rfl : x = .non := rx
        refine ite2 (fun e => absurd e (by decide)) (fun _ => ⟨fvs, hf, ?_, sm⟩)
        rw [take_fm hr']
        simpa using hR
      | some r =>
        refine ite2 (fun _ => ?_) (fun e => ?_)
        · have t1 : TupS H' (upd H' f (.lst (fvs ++ [x]))) := TupS.mut (fun _ _ e => e) hf (fun _ z => nomatch z)
          refine ⟨_, rfl, fvs, hf, lt_size ?_, fvs ++ [x], upd_same, ?_, same_mut sm nf⟩
          · have h1 := Paired.length hR
            rw [List.length_map] at h1
            have h2 := List.length_filterMap_le id (st.take i)
            rw [List.length_take] at h2
            have := G.s4
            omega
          · rw [take_fm hr', List.map_append]
            exact paired_app (hR.mono t1) (paired_one ((rx.mono (TupS.of_same sm)).mono t1))
        · have ne : x ≠ .non := by
            cases r with
            | ob i => obtain ⟨a, e, _⟩ := rx; rw [e]; exact fun z => nomatch z
            | im o e => obtain ⟨a, e, _⟩ := rx; rw [e]; exact fun z => nomatch z
          exact (e (by show (!decide (x = V.non)) = true; rw [decide_eq_false ne]; rfl)).elim
    rintro H1 ⟨fvs, hf, hR, sm⟩
    rw [show st.take svs.length = st by rw [← Paired.length G.hst]; exact List.take_length] at hR
    -- for turn in range(len(heap) + 2)
    let F0 := st.filterMap id
    refine ⟨_, rfl, p, kvs, rfl, sm _ _ G.atP, _, _, rfl, rfl, _, rfl, ?_, ?_, ?_⟩
    · have := G.hk.len; have := G.l10; omega
    · have := G.hk.len; have := G.l10; omega
    have en : ((kvs.length : Int) + 2).toNat = hp.length + 2 := by have := G.hk.len; omega
    rw [en]
    refine for_range (lo := 0) (n := hp.length + 2) (fun t σ H' => ∃ (f : Addr) (fvs : List V) (v2 v4 v5 : Option V), σ = [some (.ref p), some (.ref s), v2, some (.ref f), v4, v5] ∧ H' f = some (.lst fvs) ∧ RfAll H' ((turns hp F0 t).map some) fvs ∧ Same H H' ∧ H f = none) ⟨f, fvs, _, _, _, rfl, hf, hR, sm, nf⟩ ?_ ?_
    · rintro t σ H2 ht ⟨f, fvs, v2, v4, v5, rfl, hf, hR, sm, nf⟩
      refine ⟨_, rfl, f, fvs, rfl, .inl (SqL.of hf), fun l nl => ⟨l, rfl, ⟨_, SqL.of upd_same⟩, ?_⟩⟩
      have nl0 : H l = none := sm.free nl
      let T := turns hp F0 t
      refine for_list (K := K) (a := l) (xs := fvs) (fun k σ H' => ∃ (g : Addr) (gvs : List V) (v2 v4 v5 : Option V), σ = [some (.ref p), some (.ref s), v2, some (.ref g), v4, v5] ∧ H' g = some (.lst gvs) ∧
          RfAll H' (((T.take k).foldl (expand hp) T).map some) gvs ∧ Same H H' ∧ H g = none ∧ H' l = some (.lst fvs) ∧ TupS H2 H') ?_ ?_ ?_ ?_
      · have nfl : f ≠ l := ne_of_none hf nl
        have t1 : TupS H2 (upd H2 l (.lst fvs)) := TupS.new (fun _ _ e => e) nl
        exact ⟨f, fvs, _, _, _, rfl, by rw [upd_ne nfl]; exact hf, hR.mono t1, same_new sm nl, nf, upd_same, t1⟩
      · rintro k σ H' _ ⟨_, _, _, _, _, _, _, _, _, _, hL, _⟩
        exact SqL.of hL
      · rintro k x σ H3 hk ⟨g, gvs, v2, v4, v5, rfl, hg, hR3, sm3, ng, hL, t23⟩
        obtain ⟨r, hr', rx⟩ := paired_back hR hk
        rw [List.getElem?_map] at hr'
        obtain ⟨y, hy, e⟩ : ∃ y, T[k]? = some y ∧ r = some y := by
          cases e : T[k]? with
          | none => rw [e] at hr'; cases hr'
          | some y => rw [e] at hr'; exact ⟨y, rfl, (Option.some.inj hr').symm⟩
        subst e
        have rx3 := rx.mono t23
        have step : (T.take (k + 1)).foldl (expand hp) T = expand hp ((T.take k).foldl (expand hp) T) y := by
          rw [List.take_add_one, hy, List.foldl_append]
          rfl
        have reach : Reach hp st y := turns_reach t (List.mem_of_getElem? hy)
        have flen : ((T.take (k + 1)).foldl (expand hp) T).length ≤ 4 * (univ hp st).length := fold_len (st := st) hl G.s4 t (k + 1)
        cases y with
        | im o e =>
          obtain ⟨a, rfl, ha⟩ := rx3
          refine ⟨_, rfl, a, _, 0, _, rfl, rfl, SqT.of ha, atI_nat (j := 0) rfl, rfl, _, rfl, ite2 (fun e => absurd (of_decide_eq_true e) nimpob) (fun _ => ?_)⟩
          refine ⟨g, gvs, _, _, _, rfl, hg, ?_, sm3, ng, hL, t23⟩
          rw [step]
          exact hR3
        | ob i =>
          obtain ⟨a, rfl, ha⟩ := rx3
          refine ⟨_, rfl, a, _, 0, _, rfl, rfl, SqT.of ha, atI_nat (j := 0) rfl, rfl, _, rfl, ite2 (fun _ => ?_) (fun e => absurd (decide_eq_true rfl) e)⟩
          obtain ⟨tt, tvs, hv, htt, hTV⟩ := (G.hk.mono (TupS.of_same sm3)).get (reach_id G.wf reach)
          refine ⟨_, rfl, _, rfl, _, rfl, a, _, 1, _, rfl, rfl, SqT.of ha, atI_nat (j := 1) rfl, p, _, rfl, (by rw [← hv]; exact DGet.k (k := Sum.inl i) (sm3 _ _ G.atP)), tt, rfl, ⟨_, SqT.of htt⟩, fun D nD => ?_⟩
          let C := (T.take k).foldl (expand hp) T
          have nD0 : H D = none := sm3.free nD
          refine lc_tup (K := K) (a := tt) (xs := tvs) (fun j H' => ∃ (dvs : List V), H' D = some (.lst dvs) ∧ RfAll H' (((((look hp i).take j).filterMap id).filter fun z => !decide (z ∈ C)).map some) dvs ∧ Same H3 H') ?_ ?_ ?_ ?_
          · exact ⟨[], upd_same, .nil, same_new (Same.refl H3) nD⟩
          · rintro j H' _ ⟨dvs, hD, hRD, s3⟩
            exact SqT.of (s3 _ _ htt)
          · rintro j x H' hj ⟨dvs, hD, hRD, s3⟩
            obtain ⟨z, hz, zx⟩ := paired_back hTV hj
            have zx' := zx.mono (TupS.of_same s3)
            refine ⟨rfl, ?_⟩
            refine ⟨_, rfl, _, rfl, ?_⟩
            cases z with
            | none =>
              obtain rfl : x = .non := zx
              refine ite2 (fun e => absurd e (by decide)) (fun _ => iteF ⟨dvs, hD, ?_, s3⟩)
              rw [take_fm hz]
              simpa using hRD
            | some z =>
              have ne : x ≠ .non := by
                cases z with
                | ob i => obtain ⟨a, e, _⟩ := zx; rw [e]; exact fun z => nomatch z
                | im o e => obtain ⟨a, e, _⟩ := zx; rw [e]; exact fun z => nomatch z
              refine ite2 (fun _ => ?_) (fun e => (e (by show (!decide (x = V.non)) = true; rw [decide_eq_false ne]; rfl)).elim)
              refine ⟨_, rfl, _, rfl, rfD (some z), (C.map some).map rfD, rf_dp zx', .lst (SqL.of (s3 _ _ hg)) (rf_dps (hR3.mono (TupS.of_same s3))), rf_shaped _, rfs_shaped _, _, rfl, ?_⟩
              rw [rf_any]
              have nx : ((((look hp i).take (j + 1)).filterMap id).filter fun z => !decide (z ∈ C)) = ((((look hp i).take j).filterMap id).filter fun z => !decide (z ∈ C)) ++ (if z ∈ C then [] else [z]) := by
                rw [take_fm hz, List.filter_append]
                congr 1
                by_cases q : z ∈ C <;> simp [q]
              by_cases qz : z ∈ C
              · refine ite2 (fun e => absurd e (by simp [qz])) (fun _ => ⟨dvs, hD, ?_, s3⟩)
                rw [nx, if_pos qz, List.append_nil]
                exact hRD
              · refine ite2 (fun _ => ?_) (fun e => absurd (show (!decide (z ∈ C)) = true by simp [qz]) e)
                have t1 : TupS H' (upd H' D (.lst (dvs ++ [x]))) := TupS.mut (fun _ _ e => e) hD (fun _ z => nomatch z)
                refine ⟨_, rfl, dvs, hD, lt_size ?_, dvs ++ [x], upd_same, ?_, same_mut s3 nD⟩
                · have h1 := Paired.length hRD
                  rw [List.length_map] at h1
                  have h2 := List.length_filter_le (fun z => !decide (z ∈ C)) (((look hp i).take j).filterMap id)
                  have h3 := List.length_filterMap_le id ((look hp i).take j)
                  have h4 : ((look hp i).take j).length ≤ (look hp i).length := by rw [List.length_take]; exact Nat.min_le_right _ _
                  have h5 := hl i
                  omega
                · rw [nx, if_neg qz, List.map_append]
                  exact paired_app (hRD.mono t1) (paired_one (zx'.mono t1))
          · rintro H4 ⟨dvs, hD, hRD, s3⟩
            rw [show (look hp i).take tvs.length = look hp i by rw [← Paired.length hTV]; exact List.take_length] at hRD
            have eqx : (expand hp C (.ob i)).map some = C.map some ++ ((((look hp i).filterMap id).filter fun z => !decide (z ∈ C)).map some) := List.map_append ..
            have t34 : TupS H3 H4 := TupS.of_same s3
            have all := paired_app (hR3.mono t34) hRD
            have ln := Paired.length all
            rw [← eqx, List.length_map, ← step] at ln
            rw [List.length_append] at ln
            refine ⟨g, D, gvs, dvs, rfl, rfl, s3 _ _ hg, hD, Nat.le_of_lt (lt_size (by omega)), fun n nn => ?_⟩
            have t5 : TupS H4 (upd H4 n (.lst (gvs ++ dvs))) := TupS.new (fun _ _ e => e) nn
            have nl4 : l ≠ n := ne_of_none (s3 _ _ hL) nn
            refine ⟨n, gvs ++ dvs, _, _, _, rfl, upd_same, ?_, same_new (sm3.trans s3) nn, (sm3.trans s3).free nn, by rw [upd_ne nl4]; exact s3 _ _ hL, t23.trans (t34.trans t5)⟩
            rw [step, eqx]
            exact RfAll.mono t5 all
      · rintro σ H3 ⟨g, gvs, v2, v4, v5, rfl, hg, hR3, sm3, ng, hL, t23⟩
        refine ⟨g, gvs, _, _, _, rfl, hg, ?_, sm3, ng⟩
        have e : T.take fvs.length = T := by
          have h1 := Paired.length hR
          rw [List.length_map] at h1
          rw [← h1]
          exact List.take_length
        rw [e] at hR3
        exact hR3
    · rintro σ H2 ⟨f, fvs, v2, v4, v5, rfl, hf, hR, sm, nf⟩
      refine ⟨_, rfl, q f fvs _ H2 sm nf hf hR (fun r => turns_done G.wf r) ?_⟩
      have h1 := fold_len (st := st) hl G.s4 (hp.length + 2) 0
      rw [List.take_zero, List.foldl_nil] at h1
      exact Nat.le_trans h1 (by omega)
end
end K1
set_option Elab.async false
set_option linter.all false
set_option maxRecDepth 100000
set_option maxHeartbeats 4000000
/-! K01c: the program's walk. -/
namespace K1
open PySem PySem.Spec PyProof.Rows L2 Gd
def keyOf : Rf → List L2.Key
  | .ob i => [Sum.inr "object", Sum.inl i]
  | .im o e => [Sum.inr "import", Sum.inl o, Sum.inl e]
theorem keyOf_inj : ∀ {a b : Rf}, keyOf a = keyOf b → a = b
  | .ob i, .ob j, h => by
    injection h with _ h
    injection h with h _
    rw [Sum.inl.inj h]
  | .im o e, .im o' e', h => by
    injection h with _ h
    injection h with h1 h
    injection h with h2 _
    rw [Sum.inl.inj h1, Sum.inl.inj h2]
  | .ob i, .im o e, h => by
    injection h with _ h
    injection h with _ h
    cases h
  | .im o e, .ob i, h => by
    injection h with _ h
    injection h with _ h
    cases h
theorem rf_tup {H : Hp} {r : Rf} {v : V} (h : RfV H (some r) v) : ∃ a, v = .ref a ∧ H a = some (.tup ((keyOf r).map kV)) := by
  cases r with
  | ob i => exact h
  | im o e => exact h
theorem keys_has {kvs : List (List L2.Key × V)} {ks : List Rf} (hk : kvs.map (·.1) = ks.map keyOf) (r : Rf) : (valV kvs (keyOf r)).isSome = decide (r ∈ ks) := by
  rw [← valV_any]
  by_cases h : r ∈ ks
  · rw [decide_eq_true h, List.any_eq_true]
    have : keyOf r ∈ kvs.map (·.1) := by rw [hk]; exact List.mem_map.mpr ⟨r, h, rfl⟩
    obtain ⟨p, hp, e⟩ := List.mem_map.mp this
    exact ⟨p, hp, decide_eq_true e⟩
  · rw [decide_eq_false h, List.any_eq_false]
    intro p hp e
    have : p.1 ∈ ks.map keyOf := by rw [← hk]; exact List.mem_map.mpr ⟨p, hp, rfl⟩
    obtain ⟨q, hq, e2⟩ := List.mem_map.mp this
    rw [of_decide_eq_true e] at e2
    exact h (keyOf_inj e2 ▸ hq)
def obId : Rf → Option Int
  | .ob i => some i
  | .im _ _ => none
def imPr : Rf → Option (Int × Int)
  | .ob _ => none
  | .im o e => some (o, e)

section
variable {P : Program} {w : World} {K : PySem.W.Frag} {mg : Str → Option Value} {base : Heap}

/-! ### _led -/
def spLed : Sp := fun vs H Q _ => ∃ (p s : Addr) (kvs : List (L2.Key × V)) (hp : List (Int × List (Option Rf))) (svs : List V) (st : List (Option Rf)), vs = [.ref p, .ref s] ∧ Given H p kvs hp s svs st ∧
  ∀ (f : Addr) (es : List (List L2.Key × V)) (ks : List Rf) (H' : Hp), Same H H' → H f = none → H' f = some (.dT es) → es.map (·.1) = ks.map keyOf → ks.Nodup → (∀ r, r ∈ ks ↔ Reach hp st r) → ks.length ≤ 44 → Q (.ref f) H'
theorem ok_led {f : Addr} {fd : FuncData} (A : All K mg) (F : Fun K "_led" "_led" s_led f fd) : FnOk P w K mg base CX0 1 f fd ["heap", "start"] spLed := by
  refine F.ok sc_led (fun vs H Q E h => ?_) (fun cdv A' outer s0 H vs Q E hr h => ?_)
  · obtain ⟨p, s, kvs, hp, svs, st, rfl, _⟩ := h
    rfl
  · obtain ⟨p, s, kvs, hp, svs, st, rfl, G, q⟩ := h
    have hu := hu_of hr
    obtain ⟨m, gh⟩ := G.g
    have hl := gh.look
    have hU := gh.univ G.l10 G.s4
    refine ⟨_, (pss_cons (ps_set (i := 2) sc_led.nd rfl (.inl rfl) pe_dnewT)
(pss_cons (ps_set (i := 3) sc_led.nd rfl (.inl rfl) (pe_callTy call_list_of (by rfl) A.list (by decide +kernel) (pa_cons (pv 1) pa_nil)))
(pss_cons (ps_while PassesOwn.never (pt_truth (pv 3) (by intro _; rfl))
(pss_cons (ps_set (i := 4) sc_led.nd rfl (.inl rfl) (pe_bm0 PySem.F.plainAttrs_list PySem.F.slot_list_pop PySem.F.type_list_pop mt_pop (pv 3)))
(pss_one (ps_if (PW.pt (pw_and (pt_cmp (pc_notN (pv 4))) (pw_and1 (pt_cmp (pc_dnotin hu (pv 4) (pv 2))))))
(pss_cons (ps_dput hu (pv 2) (pv 4) pe_bl rfl)
(pss_one (ps_if (pt_cmpR op_eq (pe_ix ix_tup (pv 4) pe_int (fun _ _ => rfl)) pe_str (nomark _))
(pss_one (ps_expr (pe_bm PySem.F.plainAttrs_list PySem.F.slot_list_extend PySem.F.type_list_extend mt_extT (pv 3) (pa_cons (pe_dget hu (pv 0) (pe_ix ix_tup (pv 4) pe_int (fun _ _ => rfl)) (fun _ _ => rfl)) pa_nil))))
pss_nil)))
pss_nil))))
(pss_one (ps_ret (pv 2)))))), ?_⟩
    intro f nf
    have s1 : Same H (upd H f (.dT [])) := same_new (Same.refl H) nf
    refine ⟨_, rfl, s, svs, rfl, .inl (SqL.of (s1 _ _ G.hs)), fun l nl => ?_⟩
    have nl0 : H l = none := s1.free nl
    have nfl : f ≠ l := ne_of_none upd_same nl
    let W : Nat → L2.St → Hp → Prop := fun m σ H' => ∃ (es : List (List L2.Key × V)) (ks : List Rf) (ws : List (Option Rf)) (wvs : List V) (v4 : Option V), σ = [some (.ref p), some (.ref s), some (.ref f), some (.ref l), v4] ∧ H' f = some (.dT es) ∧ es.map (·.1) = ks.map keyOf ∧
        H' l = some (.lst wvs) ∧ RfAll H' ws wvs ∧ LInv hp st ks ws ∧ Same H H' ∧ m = (44 - ks.length) * 100 + ws.length ∧ m ≤ 5000
    refine ⟨W, ⟨4400 + st.length, [], [], st, svs, none, rfl, ?_, rfl, upd_same, ?_, .init, same_new s1 nl, rfl, ?_⟩, ?_⟩
    · rw [upd_ne nfl]
      exact upd_same
    · exact RfAll.mono (TupS.of_same (same_new s1 nl)) G.hst
    · have := G.s4
      omega
    rintro m σ H1 ⟨es, ks, ws, wvs, v4, rfl, hf, hk, hw, hR, L, sm, em, lm⟩
    have lks : ks.length ≤ 44 := Nat.le_trans L.len hU
    have les : es.length = ks.length := by
      have := congrArg List.length hk
      rwa [List.length_map, List.length_map] at this
    refine ⟨_, rfl, _, .inl ⟨wvs, SqL.of hw, rfl⟩, ?_⟩
    rcases List.eq_nil_or_concat wvs with e | ⟨wr, x, e⟩
    · subst e
      refine iteF ?_
      have ew : ws = [] := by
        cases hR
        rfl
      subst ew
      exact ⟨_, rfl, q f es ks H1 sm nf hf hk L.nd L.done lks⟩
    · rw [List.concat_eq_append] at e
      subst e
      have ws_ne : ∃ wq y, ws = wq ++ [y] := by
        rcases List.eq_nil_or_concat ws with e | ⟨wq, y, e⟩
        · subst e
          have := Paired.length hR
          simp at this
        · exact ⟨wq, y, by rw [e, List.concat_eq_append]⟩
      obtain ⟨wq, y, rfl⟩ := ws_ne
      have hsplit : RfAll H1 wq wr ∧ RfV H1 y x := by
        have ll : wq.length = wr.length := by
          have := Paired.length hR
          simp at this
          exact this
        have gen : ∀ {a : List (Option Rf)} {b : List V}, a.length = b.length → RfAll H1 (a ++ [y]) (b ++ [x]) → RfAll H1 a b ∧ RfV H1 y x := by
          intro a
          induction a with
          | nil =>
            intro b e h
            cases b with
            | nil =>
              cases h with
              | cons h _ => exact ⟨.nil, h⟩
            | cons _ _ => simp at e
          | cons a0 a ih =>
            intro b e h
            cases b with
            | nil => simp at e
            | cons b0 b =>
              cases h with
              | cons h t =>
                obtain ⟨h1, h2⟩ := ih (by simpa using e) t
                exact ⟨.cons h h1, h2⟩
        exact gen ll hR
      obtain ⟨hRq, hy⟩ := hsplit
      refine ite2 (fun _ => ?_) (fun z => absurd (show (!(wr ++ [x]).isEmpty) = true by simp) z)
      refine ⟨fun σ' H' => ∃ m', m' < m ∧ W m' σ' H', fun _ _ h => h, ?_⟩
      refine ⟨_, rfl, .inl ⟨rfl, _, SqL.of hw⟩, l, _, x, rfl, rfl, hw, by simp, ?_⟩
      have hdl : (wr ++ [x]).dropLast = wr := by simp
      rw [hdl]
      let H2 := upd H1 l (.lst wr)
      have hf2 : H2 f = some (.dT es) := (upd_ne nfl).trans hf
      have hw2 : H2 l = some (.lst wr) := upd_same
      have t2 : TupS H1 H2 := TupS.mut (fun _ _ e => e) hw (fun _ z => nomatch z)
      have sm2 : Same H H2 := same_mut sm nl0
      have lq : (wq ++ [y]).length = wq.length + 1 := by simp
      have hsz := Paired.length hRq
      refine ⟨_, rfl, _, rfl, ?_⟩
      cases y with
      | none =>
        obtain rfl : x = .non := hy
        refine ite2 (fun e => absurd e (by decide)) (fun _ => iteF ?_)
        exact ⟨m - 1, by omega, es, ks, wq, wr, _, rfl, hf2, hk, hw2, RfAll.mono t2 hRq, L.skipN, sm2, by omega, by omega⟩
      | some y =>
        have hy2 := hy.mono t2
        obtain ⟨a, rfl, ha⟩ := rf_tup hy2
        refine ite2 (fun _ => ?_) (fun e => absurd (show (!decide (V.ref a = V.non)) = true from rfl) e)
        refine ⟨_, rfl, _, rfl, f, _, rfl, DGet.t hf2 ha, _, rfl, ?_⟩
        have hh := keys_has hk y
        by_cases hin : y ∈ ks
        · rw [decide_eq_true hin] at hh
          refine ite2 (fun e => absurd e (by rw [hh]; decide)) (fun _ => ?_)
          exact ⟨m - 1, by omega, es, ks, wq, wr, _, rfl, hf2, hk, hw2, RfAll.mono t2 hRq, L.skipF hin, sm2, by omega, by omega⟩
        · rw [decide_eq_false hin] at hh
          refine ite2 (fun _ => ?_) (fun e => absurd (show (!(valV es (keyOf y)).isSome) = true by rw [hh]; rfl) e)
          have new : valV es (keyOf y) = none := by
            cases e : valV es (keyOf y) with
            | none => rfl
            | some v => rw [e] at hh; cases hh
          refine ⟨_, rfl, _, rfl, f, _, rfl, DPut.t hf2 ha (lt_size (by omega)), ?_⟩
          rw [putK_new _ new]
          let H3 := upd H2 f (.dT (es ++ [(keyOf y, V.bl true)]))
          have t3 : TupS H2 H3 := TupS.mut (fun _ _ e => e) hf2 (fun _ z => nomatch z)
          have hf3 : H3 f = some (.dT (es ++ [(keyOf y, V.bl true)])) := upd_same
          have hw3 : H3 l = some (.lst wr) := (upd_ne nfl.symm).trans hw2
          have sm3 : Same H H3 := same_mut sm2 nf
          have hk3 : (es ++ [(keyOf y, V.bl true)]).map (·.1) = (ks ++ [y]).map keyOf := by
            rw [List.map_append, List.map_append, hk]
            rfl
          have ha3 := t3 _ _ ha
          cases y with
          | im o e =>
            have L3 := L.addI hin
            have l3 := Nat.le_trans L3.len hU
            rw [List.length_append] at l3
            simp at l3
            refine ⟨_, rfl, a, _, 0, _, rfl, rfl, SqT.of ha3, atI_nat (j := 0) rfl, rfl, _, rfl, ite2 (fun e => absurd (of_decide_eq_true e) nimpob) (fun _ => ?_)⟩
            refine ⟨(44 - (ks.length + 1)) * 100 + wq.length, by omega, _, ks ++ [.im o e], wq, wr, _, rfl, hf3, hk3, hw3, RfAll.mono t3 (RfAll.mono t2 hRq), L3, sm3, ?_, by omega⟩
            rw [List.length_append]
            rfl
          | ob i =>
            have L3 := L.addO hin
            have l3 := Nat.le_trans L3.len hU
            rw [List.length_append] at l3
            simp at l3
            have hi := reach_id G.wf (L.rw (.ob i) (by simp))
            refine ⟨_, rfl, a, _, 0, _, rfl, rfl, SqT.of ha3, atI_nat (j := 0) rfl, rfl, _, rfl, ite2 (fun _ => ?_) (fun e => absurd (decide_eq_true rfl) e)⟩
            obtain ⟨tt, tvs, hv, htt, hTV⟩ := (G.hk.mono (TupS.of_same sm3)).get hi
            have ltv := Paired.length hTV
            have lo := hl i
            refine ⟨_, rfl, .inl ⟨rfl, _, SqL.of hw3⟩, _, rfl, _, rfl, a, _, 1, _, rfl, rfl, SqT.of ha3, atI_nat (j := 1) rfl, p, _, rfl, (by rw [← hv]; exact DGet.k (k := Sum.inl i) (sm3 _ _ G.atP)), l, tt, wr, tvs, rfl, rfl, hw3, SqT.of htt, Nat.le_of_lt (lt_size (by omega)), ?_⟩
            have t4 : TupS H3 (upd H3 l (.lst (wr ++ tvs))) := TupS.mut (fun _ _ e => e) hw3 (fun _ z => nomatch z)
            refine ⟨(44 - (ks.length + 1)) * 100 + (wq.length + (look hp i).length), by omega, _, ks ++ [.ob i], wq ++ look hp i, wr ++ tvs, _, rfl, ?_, hk3, upd_same, ?_, L3, same_mut sm3 nl0, ?_, by omega⟩
            · rw [upd_ne nfl]
              exact hf3
            · exact RfAll.mono t4 (paired_app (RfAll.mono t3 (RfAll.mono t2 hRq)) hTV)
            · rw [List.length_append, List.length_append]
              rfl

/-! ### _object_ids -/
def spObjIds : Sp := fun vs H Q _ => ∃ (f : Addr) (es : List (List L2.Key × V)) (ks : List Rf), vs = [.ref f] ∧ H f = some (.dT es) ∧ es.map (·.1) = ks.map keyOf ∧ ks.length ≤ 44 ∧
  ∀ (p : Addr) (H' : Hp), Same H H' → H p = none → H' p = some (.lst ((ks.filterMap obId).map V.int)) → Q (.ref p) H'
theorem key_at {es : List (List L2.Key × V)} {ks : List Rf} (hk : es.map (·.1) = ks.map keyOf) {i : Nat} {k : List L2.Key} {v : V} (h : es[i]? = some (k, v)) : ∃ r, ks[i]? = some r ∧ k = keyOf r := by
  have h1 : (es.map (·.1))[i]? = some k := by
    rw [List.getElem?_map, h]
    rfl
  rw [hk, List.getElem?_map] at h1
  cases e : ks[i]? with
  | none => rw [e] at h1; cases h1
  | some r => rw [e] at h1; exact ⟨r, rfl, (Option.some.inj h1).symm⟩
theorem take_map {α β : Type} (f : α → Option β) {l : List α} {i : Nat} {x : α} (h : l[i]? = some x) : (l.take (i + 1)).filterMap f = (l.take i).filterMap f ++ (f x).toList := by
  rw [List.take_add_one, h, List.filterMap_append]
  show _ ++ List.filterMap f [x] = _
  cases e : f x with
  | none => rw [List.filterMap_cons_none e]; rfl
  | some y => rw [List.filterMap_cons_some e]; rfl
theorem ok_object_ids {f : Addr} {fd : FuncData} (A : All K mg) (F : Fun K "_object_ids" "_object_ids" s_object_ids f fd) : FnOk P w K mg base CX0 1 f fd ["references"] spObjIds := by
  refine F.ok sc_object_ids (fun vs H Q E h => ?_) (fun cdv A' outer s0 H vs Q E hr h => ?_)
  · obtain ⟨f, es, ks, rfl, _⟩ := h
    rfl
  · obtain ⟨f, es, ks, rfl, hf, hk, h44, q⟩ := h
    have les : es.length = ks.length := by
      have := congrArg List.length hk
      rwa [List.length_map, List.length_map] at this
    refine ⟨_, (pss_one (ps_ret (pe_lock (pe_lc (own := [("row", 1)]) rfl sc_object_ids.nd (pi_keys (pv 0)) (blkOk_by (N := ["references", "row"]) (sc := defScope s_object_ids) (by decide +kernel)) (fun _ _ _ _ _ => pg_name (i := 1) sc_object_ids.nd rfl (Or.inl rfl)) (fun _ _ _ _ _ => (pts_one (PW.pt (pw_and (pt_cmp (pc_notN (pv 1))) (pw_and1 (pt_cmpR op_eq (pe_ix (show IxR _ (rIxT K) from ix_tup) (pv 1) pe_int (fun _ _ => rfl)) pe_str (nomark _))))))) (fun _ _ _ _ _ => (pe_ix (show IxR _ (rIxT K) from ix_tup) (pv 1) pe_int (fun _ _ => rfl))))))), ?_⟩
    refine ⟨f, _, hf, trivial, fun od => ?_⟩
    let H0 := upd H f (.frz od (.dT es))
    have hz : H0 f = some (.frz od (.dT es)) := upd_same
    refine ⟨_, rfl, f, od, rfl, .inr ⟨es, hz, fun D nD => ?_⟩⟩
    have nfD : f ≠ D := ne_of_none hz nD
    have nD0 : H D = none := by
      have z : upd H f (.frz od (.dT es)) D = none := nD
      rw [upd_ne nfD.symm] at z
      exact z
    refine lc_it walk_keysT (fun i H' => H' D = some (.lst (((ks.take i).filterMap obId).map V.int)) ∧ Same H0 H') ?_ ?_ ?_ ?_
    · exact ⟨upd_same, same_new (Same.refl H0) nD⟩
    · rintro i H' _ ⟨_, sm⟩
      exact sm _ _ hz
    · rintro i x H' H'' hi ⟨hD, sm⟩ ⟨rfl, k, v, a, hi2, rfl, ha⟩
      obtain ⟨r, hr', rfl⟩ := key_at hk hi2
      refine ⟨rfl, ?_⟩
      refine ⟨_, rfl, _, rfl, ite2 (fun _ => ?_) (fun e => absurd (show (!decide (V.ref a = V.non)) = true from rfl) e)⟩
      have tk := take_map obId hr'
      cases r with
      | im o e =>
        refine ⟨_, rfl, a, _, 0, _, rfl, rfl, SqT.of ha, atI_nat (j := 0) rfl, rfl, _, rfl, ite2 (fun e => absurd (of_decide_eq_true e) nimpob) (fun _ => ⟨?_, sm⟩)⟩
        rw [tk]
        simpa [obId] using hD
      | ob j =>
        refine ⟨_, rfl, a, _, 0, _, rfl, rfl, SqT.of ha, atI_nat (j := 0) rfl, rfl, _, rfl, ite2 (fun _ => ?_) (fun e => absurd (decide_eq_true rfl) e)⟩
        refine ⟨_, rfl, a, _, 1, _, rfl, rfl, SqT.of ha, atI_nat (j := 1) rfl, _, hD, lt_size ?_, ?_, same_mut sm nD⟩
        · have h1 := List.length_filterMap_le obId (ks.take i)
          rw [List.length_take] at h1
          rw [List.length_map]
          omega
        · rw [upd_same, tk, List.map_append]
          rfl
    · rintro H' ⟨hD, sm⟩
      refine ⟨sm _ _ hz, q D _ ?_ nD0 ?_⟩
      · intro c o e
        by_cases z : c = f
        · subst z
          rw [hf] at e
          cases e
          exact upd_same
        · rw [upd_ne z]
          exact sm c o (by show upd H f _ c = _; rw [upd_ne z]; exact e)
      · rw [upd_ne nfD.symm, hD, les, List.take_length]

/-! ### led_objects -/
def spObjs : Sp := fun vs H Q _ => ∃ (p s : Addr) (kvs : List (L2.Key × V)) (hp : List (Int × List (Option Rf))) (svs : List V) (st : List (Option Rf)), vs = [.ref p, .ref s] ∧ Given H p kvs hp s svs st ∧
  ∀ (f : Addr) (ns : List Int) (H' : Hp), Same H H' → H f = none → H' f = some (.lst (ns.map V.int)) → ns.Pairwise (· ≤ ·) → ns.Nodup → (∀ i, i ∈ ns ↔ Reach hp st (.ob i)) → Q (.ref f) H'
theorem filterMap_nodup {α β : Type} {f : α → Option β} (inj : ∀ a b y, f a = some y → f b = some y → a = b) : ∀ {l : List α}, l.Nodup → (l.filterMap f).Nodup
  | [], _ => .nil
  | x :: l, h => by
    have h1 := List.nodup_cons.mp h
    cases e : f x with
    | none => rw [List.filterMap_cons_none e]; exact filterMap_nodup inj h1.2
    | some y =>
      rw [List.filterMap_cons_some e, List.nodup_cons]
      refine ⟨fun m => ?_, filterMap_nodup inj h1.2⟩
      obtain ⟨a, ha, e2⟩ := List.mem_filterMap.mp m
      exact h1.1 (inj _ _ _ e2 e ▸ ha)
theorem ok_led_objects {f : Addr} {fd : FuncData} (A : All K mg) (F : Fun K "led_objects" "led_objects" s_led_objects f fd) : FnOk P w K mg base CX0 2 f fd ["heap", "start"] spObjs := by
  obtain ⟨f_object_ids, fd_object_ids, F_object_ids, g_object_ids, b_object_ids⟩ := A.object_ids
  have G_object_ids := ok_object_ids (P := P) (w := w) (base := base) A F_object_ids
  obtain ⟨f_led, fd_led, F_led, g_led, b_led⟩ := A.led
  have G_led := ok_led (P := P) (w := w) (base := base) A F_led
  refine F.ok sc_led_objects (fun vs H Q E h => ?_) (fun cdv A' outer s0 H vs Q E hr h => ?_)
  · obtain ⟨p, s, kvs, hp, svs, st, rfl, _⟩ := h
    rfl
  · obtain ⟨p, s, kvs, hp, svs, st, rfl, G, q⟩ := h
    refine ⟨_, (pss_one (ps_ret (pe_callB cr_sortedI (by rfl) A.sorted (by decide +kernel) (pa_cons (pe_call G_object_ids (hr.mono (by decide)) (by rfl) g_object_ids F_object_ids.kp b_object_ids .nil pass0 (pa_cons (pe_call G_led (hr.mono (by decide)) (by rfl) g_led F_led.kp b_led .nil pass0 (pa_cons (pv 0) (pa_cons (pv 1) pa_nil))) pa_nil)) pa_nil)))), ?_⟩
    refine ⟨_, rfl, _, rfl, p, s, kvs, hp, svs, st, rfl, G, fun f es ks H1 s1 nf hf hk nd hR l44 => ?_⟩
    refine ⟨f, es, ks, rfl, hf, hk, l44, fun a H2 s2 na ha => ?_⟩
    refine ⟨a, ks.filterMap obId, rfl, SqL.of ha, fun ns b pm pw nb => ?_⟩
    have ndk : (ks.filterMap obId).Nodup := filterMap_nodup (fun x y z h1 h2 => by
      cases x <;> cases y <;> simp [obId] at h1 h2
      rw [h1, h2]) nd
    refine q b ns _ (same_new (s1.trans s2) nb) ((s1.trans s2).free nb) upd_same pw (pm.nodup_iff.mpr ndk) fun i => ?_
    rw [pm.mem_iff, List.mem_filterMap, ← hR]
    constructor
    · rintro ⟨x, hx, e⟩
      cases x with
      | ob j => simp [obId] at e; subst e; exact hx
      | im o e' => simp [obId] at e
    · intro h
      exact ⟨_, h, rfl⟩

/-! ### led_imports -/
def PrV (H : Hp) (x : Int × Int) (v : V) : Prop := ∃ a, v = .ref a ∧ H a = some (.tup [.int x.1, .int x.2])
abbrev PrAll (H : Hp) : List (Int × Int) → List V → Prop := Paired (PrV H)
theorem PrV.mono {H H' : Hp} (s : TupS H H') {x : Int × Int} {v : V} (h : PrV H x v) : PrV H' x v := by
  obtain ⟨a, e, h⟩ := h
  exact ⟨a, e, s _ _ h⟩
theorem PrAll.mono {H H' : Hp} (s : TupS H H') {xs : List (Int × Int)} {vs : List V} (h : PrAll H xs vs) : PrAll H' xs vs := Paired.mapP h fun _ _ x => x.mono s
/-- the pair that a value is -/
def kOf (H : Hp) (v : V) : Int × Int :=
  match v with
  | .ref a => match H a with
    | some (.tup [.int i, .int j]) => (i, j)
    | _ => (0, 0)
  | _ => (0, 0)
theorem kOf_eq {H : Hp} {x : Int × Int} {v : V} (h : PrV H x v) : kOf H v = x := by
  obtain ⟨a, rfl, e⟩ := h
  show (match H a with | some (.tup [.int i, .int j]) => (i, j) | _ => (0, 0)) = x
  rw [e]
theorem kOf_map {H : Hp} : ∀ {xs : List (Int × Int)} {vs : List V}, PrAll H xs vs → vs.map (kOf H) = xs
  | _, _, .nil => rfl
  | _, _, .cons h t => by rw [List.map_cons, kOf_eq h, kOf_map t]
theorem pr_mem {H : Hp} : ∀ {xs : List (Int × Int)} {vs : List V}, PrAll H xs vs → ∀ v ∈ vs, PrV H (kOf H v) v
  | _, _, .nil, v, h => nomatch h
  | _, _, .cons (b := b) h t, v, hv => by
    rcases List.mem_cons.mp hv with e | e
    · subst e; rw [kOf_eq h]; exact h
    · exact pr_mem t v e
theorem pr_back {H : Hp} : ∀ (vs : List V), (∀ v ∈ vs, PrV H (kOf H v) v) → PrAll H (vs.map (kOf H)) vs
  | [], _ => .nil
  | v :: vs, h => .cons (h v List.mem_cons_self) (pr_back vs fun u hu => h u (List.mem_cons_of_mem _ hu))
/-- what sorted gives of pairs -/
theorem pr_sorted {H : Hp} {xs : List (Int × Int)} {vs ys : List V} (h : PrAll H xs vs) (so : SrtO.Srtd (ltP (kOf H)) ys) (st : SrtO.Stb (ltP (kOf H)) ys vs) :
    ∃ zs, PrAll H zs ys ∧ zs.Pairwise pLe ∧ zs.Perm xs := by
  refine ⟨ys.map (kOf H), pr_back ys fun v hv => pr_mem h v (st.perm.mem_iff.mp hv), ?_, ?_⟩
  · rw [List.pairwise_map]
    refine so.imp fun {a b} e => ?_
    have := SrtO.lexB_no.mp e
    unfold pLe
    omega
  · have := st.perm.map (kOf H)
    rw [kOf_map h] at this
    exact this
def spImps : Sp := fun vs H Q _ => ∃ (p s : Addr) (kvs : List (L2.Key × V)) (hp : List (Int × List (Option Rf))) (svs : List V) (st : List (Option Rf)), vs = [.ref p, .ref s] ∧ Given H p kvs hp s svs st ∧
  ∀ (f : Addr) (ys : List V) (zs : List (Int × Int)) (H' : Hp), Same H H' → H f = none → H' f = some (.lst ys) → PrAll H' zs ys → zs.Pairwise pLt → (∀ x, x ∈ zs ↔ Reach hp st (.im x.1 x.2)) → Q (.ref f) H'
theorem ok_led_imports {f : Addr} {fd : FuncData} (A : All K mg) (F : Fun K "led_imports" "led_imports" s_led_imports f fd) : FnOk P w K mg base CX0 2 f fd ["heap", "start"] spImps := by
  obtain ⟨f_led, fd_led, F_led, g_led, b_led⟩ := A.led
  have G_led := ok_led (P := P) (w := w) (base := base) A F_led
  refine F.ok sc_led_imports (fun vs H Q E h => ?_) (fun cdv A' outer s0 H vs Q E hr h => ?_)
  · obtain ⟨p, s, kvs, hp, svs, st, rfl, _⟩ := h
    rfl
  · obtain ⟨p, s, kvs, hp, svs, st, rfl, G, q⟩ := h
    refine ⟨_, (pss_one (ps_ret (pe_callB cr_sortedPO (by rfl) A.sorted (by decide +kernel) (pa_cons (pe_lc (own := [("reference", 2)]) rfl sc_led_imports.nd (pi_keysN (pe_call G_led (hr.mono (by decide)) (by rfl) g_led F_led.kp b_led .nil pass0 (pa_cons (pv 0) (pa_cons (pv 1) pa_nil)))) (blkOk_by (N := ["heap", "start", "reference"]) (sc := defScope s_led_imports) (by decide +kernel)) (fun _ _ _ _ _ => pg_name (i := 2) sc_led_imports.nd rfl (Or.inl rfl)) (fun _ _ _ _ _ => (pts_one (pt_cmpR op_eq (pe_ix (show IxR _ (rIxT K) from ix_tup) (pv 2) pe_int (fun _ _ => rfl)) pe_str (nomark _)))) (fun _ _ _ _ _ => (pe_slice (show SlR _ (rSlT K) from sl_tup) (pv 2) (po_some pe_int) po_none))) pa_nil)))), ?_⟩
    refine ⟨_, rfl, _, rfl, p, s, kvs, hp, svs, st, rfl, G, fun f es ks H1 s1 nf hf hk nd hR l44 => ?_⟩
    have les : es.length = ks.length := by
      have := congrArg List.length hk
      rwa [List.length_map, List.length_map] at this
    refine ⟨f, es, rfl, hf, fun od D nD => ?_⟩
    let H2 := upd H1 f (.frz od (.dT es))
    have hz : H2 f = some (.frz od (.dT es)) := upd_same
    have s2 : Same H H2 := same_mut s1 nf
    have nD0 : H D = none := s2.free nD
    refine lc_it walk_keysT (fun i H' => ∃ vs, H' D = some (.lst vs) ∧ PrAll H' ((ks.take i).filterMap imPr) vs ∧ Same H2 H') ?_ ?_ ?_ ?_
    · exact ⟨[], upd_same, .nil, same_new (Same.refl H2) nD⟩
    · rintro i H' _ ⟨_, _, _, sm⟩
      exact sm _ _ hz
    · rintro i x H'' H' hi ⟨vs, hD, hP, sm⟩ ⟨rfl, k, v, a, hi2, rfl, ha⟩
      obtain ⟨r, hr', rfl⟩ := key_at hk hi2
      have tk := take_map imPr hr'
      refine ⟨rfl, ?_⟩
      cases r with
      | ob j =>
        refine ⟨_, rfl, a, _, 0, _, rfl, rfl, SqT.of ha, atI_nat (j := 0) rfl, rfl, _, rfl, ite2 (fun e => absurd (of_decide_eq_true e) nobimp) (fun _ => ⟨vs, hD, ?_, sm⟩)⟩
        rw [tk]
        simpa [imPr] using hP
      | im o e =>
        refine ⟨_, rfl, a, _, 0, _, rfl, rfl, SqT.of ha, atI_nat (j := 0) rfl, rfl, _, rfl, ite2 (fun _ => ?_) (fun e => absurd (decide_eq_true rfl) e)⟩
        refine ⟨_, rfl, 1, rfl, a, _, rfl, SqT.of ha, (fun z => absurd z.1 (show ¬ HT.sIx 3 0 (some 1) = 0 by decide)), fun t nt => ?_⟩
        have nDt : D ≠ t := ne_of_none hD nt
        have hD2 : upd H' t (.tup (cutV ((keyOf (.im o e)).map kV) (some 1) none)) D = some (.lst vs) := by rw [upd_ne nDt]; exact hD
        have ct : cutV ((keyOf (.im o e)).map kV) (some 1) none = [V.int o, V.int e] := by rfl
        rw [ct] at hD2 ⊢
        have t1 : TupS H' (upd H' t (.tup [V.int o, V.int e])) := TupS.new (fun _ _ e => e) nt
        have t2 : TupS (upd H' t (.tup [V.int o, V.int e])) (upd (upd H' t (.tup [V.int o, V.int e])) D (.lst (vs ++ [V.ref t]))) := TupS.mut (fun _ _ e => e) hD2 (fun _ z => nomatch z)
        refine ⟨vs, hD2, lt_size ?_, vs ++ [V.ref t], upd_same, ?_, same_mut (same_new sm nt) nD⟩
        · have h1 := Paired.length hP
          have h2 := List.length_filterMap_le imPr (ks.take i)
          rw [List.length_take] at h2
          omega
        · rw [tk]
          exact paired_app (PrAll.mono t2 (PrAll.mono t1 hP)) (paired_one ⟨t, rfl, t2 _ _ upd_same⟩)
    · rintro H3 ⟨vs, hD, hP, sm⟩
      rw [les, List.take_length] at hP
      refine ⟨D, vs, kOf H3, rfl, SqL.of hD, fun v hv => ?_, fun ys b so sb nb => ?_⟩
      · exact pr_mem hP v hv
      · obtain ⟨zs, hZ, pw, pm⟩ := pr_sorted hP so sb
        have ndk : (ks.filterMap imPr).Nodup := filterMap_nodup (fun x y z h1 h2 => by
          cases x <;> cases y <;> simp [imPr] at h1 h2
          rw [← h2] at h1
          obtain ⟨h1, h2⟩ := Prod.mk.inj h1
          rw [h1, h2]) nd
        have t1 : TupS H3 (upd H3 b (.lst ys)) := TupS.new (fun _ _ e => e) nb
        refine q b ys zs _ (same_new (s2.trans sm) nb) ((s2.trans sm).free nb) upd_same (PrAll.mono t1 hZ) (strict_of pw (pm.nodup_iff.mpr ndk)) fun x => ?_
        rw [pm.mem_iff, List.mem_filterMap, ← hR]
        constructor
        · rintro ⟨r, hr, e⟩
          cases r with
          | ob j => simp [imPr] at e
          | im o e' => simp [imPr] at e; subst e; exact hr
        · intro h
          exact ⟨_, h, rfl⟩
end
end K1
set_option Elab.async false
set_option linter.all false
set_option maxRecDepth 100000
set_option maxHeartbeats 8000000
/-! K01d: the law. -/
namespace K1
open PySem PySem.Spec PyProof.Rows L2 Gd

def prD (x : Int × Int) : PyData := .tuple [.int x.1, .int x.2]
theorem pr_dp {K : PySem.W.Frag} {H : Hp} {x : Int × Int} {v : V} (h : PrV H x v) : Dp K H v (prD x) := by
  obtain ⟨a, rfl, e⟩ := h
  exact .tup (SqT.of e) (.cons (.int _) (.cons (.int _) .nil))
theorem pr_dps {K : PySem.W.Frag} {H : Hp} : ∀ {xs : List (Int × Int)} {vs : List V}, PrAll H xs vs → DpAll K H vs (xs.map prD)
  | _, _, .nil => .nil
  | _, _, .cons h t => .cons (pr_dp h) (pr_dps t)
theorem pr_lay (x : Int × Int) : (prD x).canLay0 = true := by simp [prD, PyData.canLay0, PyData.canLayAll0]
theorem pr_shaped (x : Int × Int) : SeqAt.shaped (prD x) = true := by
  have : (prD x).depth ≤ 64 := by simp [prD, PyData.depth, PyData.depthAll]
  unfold SeqAt.shaped
  rw [pr_lay, decide_eq_true this]
  rfl
theorem pr_eqv (x y : Int × Int) : PyData.eqv (prD x) (prD y) = decide (x = y) := by
  obtain ⟨a, b⟩ := x
  obtain ⟨c, d⟩ := y
  by_cases h : a = c ∧ b = d
  · obtain ⟨rfl, rfl⟩ := h
    rw [decide_eq_true rfl]
    exact SeqAt.eqv_refl _ (pr_lay _)
  · rw [decide_eq_false (fun z => h (Prod.mk.inj z))]
    simp [prD, PyData.eqv, PyData.eqvAll]
    omega
def kvD (e : Int × List (Option Rf)) : PyData := .tuple [.int e.1, .tuple (e.2.map rfD)]
theorem rf_sh (m : Int) (hm : m ≤ 1000) {r : Option Rf} (h : Good m r) : Sh 1 1000 (rfD r) := by
  have so : Sh 0 64 (.str "object") := Sh.str (by decide +kernel) (by decide +kernel)
  have si : Sh 0 64 (.str "import") := Sh.str (by decide +kernel) (by decide +kernel)
  rcases r with _ | ⟨i⟩ | ⟨o, e⟩
  · exact Sh.none.mono (by omega) (by omega)
  · obtain ⟨k, h0, h1, rfl⟩ := h
    refine (Sh.tup (dp := 0) (wt := 64) (ds := [.str "object", .int (3 * k)]) fun d hd => ?_).mono (by omega) (by simp)
    simp at hd
    rcases hd with rfl | rfl
    · exact so
    · exact Sh.int (by omega)
  · obtain ⟨h0, h1, h2, h3⟩ := h
    refine (Sh.tup (dp := 0) (wt := 64) (ds := [.str "import", .int o, .int e]) fun d hd => ?_).mono (by omega) (by simp)
    simp at hd
    rcases hd with rfl | rfl | rfl
    · exact si
    · exact Sh.int (by omega)
    · exact Sh.int (by omega)
theorem reach_good {m : Int} {hp : List (Int × List (Option Rf))} (g : GoodHeap m hp) {st : List (Option Rf)} (hs : ∀ r ∈ st, Good m r) {r : Rf} (h : Reach hp st r) : Good m (some r) := by
  cases h with
  | start h => exact hs _ h
  | step _ h =>
    obtain ⟨p, hp', _, hm⟩ := look_mem h
    exact (g.fld p hp').2 _ hm
theorem hk_dp {K : PySem.W.Frag} {H : Hp} {ts : List Addr} {kvs : List (L2.Key × V)} {hp : List (Int × List (Option Rf))} (h1 : Paired (fun t q => H t = some (.tup [kV q.1, q.2])) ts kvs) (h2 : HKv H kvs hp) :
    DpAll K H (ts.map V.ref) (hp.map kvD) := by
  induction h1 generalizing hp with
  | nil => cases h2; exact .nil
  | cons a t ih =>
    cases h2 with
    | cons b r =>
      obtain ⟨e, tt, vs, e2, ht, hr⟩ := b
      rw [e, e2] at a
      exact .cons (.tup (SqT.of a) (.cons (.int _) (.cons (.tup (SqT.of ht) (rf_dps hr)) .nil))) (ih r)
theorem kv_sh {m : Int} (hm : m ≤ 10) (h0 : 0 ≤ m) {hp : List (Int × List (Option Rf))} (g : GoodHeap m hp) (l10 : hp.length ≤ 10) : Sh 4 1000000 (.list (hp.map kvD)) := by
  have := Sh.list (dp := 3) (wt := 50000) (ds := hp.map kvD) fun d hd => by
    obtain ⟨e, he, rfl⟩ := List.mem_map.mp hd
    have hi : e.1 ∈ ids hp := List.mem_map.mpr ⟨e, he, rfl⟩
    rw [g.keys, List.mem_map] at hi
    obtain ⟨k, hk, hke⟩ := hi
    have hk := List.mem_range.mp hk
    have f := g.fld e he
    refine (Sh.tup (dp := 2) (wt := 5000) (ds := [.int e.1, .tuple (e.2.map rfD)]) fun d hd => ?_).mono (by omega) (by simp)
    simp at hd
    rcases hd with rfl | rfl
    · exact (Sh.int (by omega)).mono (by omega) (by omega)
    · refine (Sh.tup (dp := 1) (wt := 1000) fun d hd => ?_).mono (by omega) (by rw [List.length_map]; omega)
      obtain ⟨r, hr, rfl⟩ := List.mem_map.mp hd
      exact rf_sh m (by omega) (f.2 r hr)
  exact this.mono (by omega) (by rw [List.length_map]; omega)

section
variable {P : Program} {w : World} {K : PySem.W.Frag} {mg : Str → Option Value} {base : Heap}
def spLaw (K : PySem.W.Frag) : Sp := fun vs H Q _ => ∃ (a : Addr) (ns : List Int), vs = [.ref a] ∧ SqL K H a (ns.map V.int) ∧ ns.length ≤ 63 ∧ ∀ H', Q (.bl true) H'
theorem ok_law {f : Addr} {fd : FuncData} (A : All K mg) (F : Fun K "law" "law" s_law f fd) : FnG P w K mg base 4 f fd ["script"] (spLaw K) := by
  obtain ⟨f_law_digits, fd_law_digits, F_law_digits, g_law_digits, b_law_digits⟩ := A.law_digits
  have G_law_digits := ok_law_digits (P := P) (w := w) (base := base) A F_law_digits
  obtain ⟨f_law_heap, fd_law_heap, F_law_heap, g_law_heap, b_law_heap⟩ := A.law_heap
  have G_law_heap := ok_law_heap (P := P) (w := w) (base := base) A F_law_heap
  obtain ⟨f_law_led_to, fd_law_led_to, F_law_led_to, g_law_led_to, b_law_led_to⟩ := A.law_led_to
  have G_law_led_to := ok_law_led_to (P := P) (w := w) (base := base) A F_law_led_to
  obtain ⟨f_law_reference, fd_law_reference, F_law_reference, g_law_reference, b_law_reference⟩ := A.law_reference
  have G_law_reference := ok_law_reference (P := P) (w := w) (base := base) A F_law_reference
  obtain ⟨f_led_objects, fd_led_objects, F_led_objects, g_led_objects, b_led_objects⟩ := A.led_objects
  have G_led_objects := ok_led_objects (P := P) (w := w) (base := base) A F_led_objects
  obtain ⟨f_led_imports, fd_led_imports, F_led_imports, g_led_imports, b_led_imports⟩ := A.led_imports
  have G_led_imports := ok_led_imports (P := P) (w := w) (base := base) A F_led_imports
  obtain ⟨f_law_alike, fd_law_alike, F_law_alike, g_law_alike, b_law_alike⟩ := A.law_alike
  have G_law_alike := ok_law_alike (P := P) (w := w) (base := base) A F_law_alike
  obtain ⟨f_law_draw, fd_law_draw, F_law_draw, g_law_draw, b_law_draw⟩ := A.law_draw
  have G_law_draw := ok_law_draw (P := P) (w := w) (base := base) A F_law_draw
  refine fn_G F sc_law (fun vs H Q E h => ?_) (fun cdv A' outer s0 H vs Q E hgd hr h => ?_)
  · obtain ⟨a, ns, rfl, _⟩ := h
    rfl
  · obtain ⟨a, ns, rfl, hS, hlen, q⟩ := h
    have hu64 := hr.units
    have hu65 : (A'.deeper (envOfC "law" (defScope s_law) s0.heap.objs.size f cdv)).units + 65 < cLine := by
      have := hr.un
      omega
    refine ⟨_, (pss_cons (ps_set (i := 1) sc_law.nd rfl (.inr rfl) (pe_lst (pa_cons (pe_call G_law_digits (hr.mono (by decide)) (by rfl) g_law_digits F_law_digits.kp b_law_digits .nil pass0 (pa_cons (pv 0) (pa_cons pe_int (pa_cons pe_int pa_nil)))) (pa_cons pe_int pa_nil))))
(pss_cons (ps_for PassesOwn.never rfl (pi_range1 (by rfl) A.range (pa_cons pe_int pa_nil)) (pg_name (i := 2) sc_law.nd rfl (.inl rfl))
(pss_cons (ps_set (i := 3) sc_law.nd rfl (.inr rfl) (pe_call G_law_heap (hr.mono (by decide)) (by rfl) g_law_heap F_law_heap.kp b_law_heap .nil pass0 (pa_cons (pv 1) pa_nil)))
(pss_cons (ps_setLc (i := 5) (own := [("k", 4)]) (tt := tYes) rfl sc_law.nd rfl rfl (sw_true rfl rfl rfl (by decide +kernel)) (pi_range1 (by rfl) A.range (pa_cons (pe_call G_law_draw (hr.mono (by decide)) (by rfl) g_law_draw F_law_draw.kp b_law_draw .nil pass0 (pa_cons (pv 1) (pa_cons pe_int pa_nil))) pa_nil)) (blkOk_by (N := ["script", "box", "turn", "heap", "k", "start", "found", "number", "objects", "row", "imports", "rising", "before", "given"]) (sc := defScope s_law) (by decide +kernel)) (fun _ _ _ _ _ => pg_name (i := 4) sc_law.nd rfl (Or.inl rfl)) (fun _ _ _ _ _ => pts_nil) (fun _ _ _ _ _ => (pe_call G_law_reference (hr.mono (by decide)) (by rfl) g_law_reference F_law_reference.kp b_law_reference .nil pass0 (pa_cons (pv 1) (pa_cons (pe_callB call_lenD (by rfl) A.len PySem.boot_len (pa_cons (pv 3) pa_nil)) pa_nil)))))
(pss_cons (ps_set (i := 6) sc_law.nd rfl (.inr rfl) (pe_call G_law_led_to (hr.mono (by decide)) (by rfl) g_law_led_to F_law_led_to.kp b_law_led_to .nil pass0 (pa_cons (pv 3) (pa_cons (pv 5) pa_nil))))
(pss_cons (ps_setLc (i := 8) (own := [("number", 7)]) rfl sc_law.nd rfl rfl (sw_true rfl rfl rfl (by decide +kernel)) (pi_list (pe_callB (call_sortedDI rfl) (by rfl) A.sorted (by decide +kernel) (pa_cons (pv 3) pa_nil))) (blkOk_by (N := ["script", "box", "turn", "heap", "k", "start", "found", "number", "objects", "row", "imports", "rising", "before", "given"]) (sc := defScope s_law) (by decide +kernel)) (fun _ _ _ _ _ => pg_name (i := 7) sc_law.nd rfl (Or.inl rfl)) (fun _ _ _ _ _ => (pts_one (pt_cmpR (show OpR _ _ (rInD K) from op_inD (by exact hu65)) (pe_tup (pa_cons pe_str (pa_cons (pv 7) pa_nil))) (pv 6) (by rfl)))) (fun _ _ _ _ _ => (pv 7)))
(pss_cons (ps_set (i := 10) sc_law.nd rfl (.inr rfl) (pe_callB cr_sortedPO (by rfl) A.sorted (by decide +kernel) (pa_cons (pe_lc (own := [("row", 9)]) rfl sc_law.nd (pi_list (pv 6)) (blkOk_by (N := ["script", "box", "turn", "heap", "k", "start", "found", "number", "objects", "row", "imports", "rising", "before", "given"]) (sc := defScope s_law) (by decide +kernel)) (fun _ _ _ _ _ => pg_name (i := 9) sc_law.nd rfl (Or.inl rfl)) (fun _ _ _ _ _ => (pts_one (pt_cmpR op_eq (pe_ix (show IxR _ (rIxT K) from ix_tup) (pv 9) pe_int (fun _ _ => rfl)) pe_str (nomark _)))) (fun _ _ _ _ _ => (pe_tup (pa_cons (pe_ix (show IxR _ (rIxT K) from ix_tup) (pv 9) pe_int (fun _ _ => rfl)) (pa_cons (pe_ix (show IxR _ (rIxT K) from ix_tup) (pv 9) pe_int (fun _ _ => rfl)) pa_nil))))) pa_nil)))
(pss_cons (ps_setLc (i := 11) (own := [("k", 4)]) rfl sc_law.nd rfl rfl (sw_true rfl rfl rfl (by decide +kernel)) (pi_range1 (by rfl) A.range (pa_cons (pe_callB call_len_seq (by rfl) A.len PySem.boot_len (pa_cons (pv 10) pa_nil)) pa_nil)) (blkOk_by (N := ["script", "box", "turn", "heap", "k", "start", "found", "number", "objects", "row", "imports", "rising", "before", "given"]) (sc := defScope s_law) (by decide +kernel)) (fun _ _ _ _ _ => pg_name (i := 4) sc_law.nd rfl (Or.inl rfl)) (fun _ _ _ _ _ => (pts_one (PW.pt (pw_or (pt_cmpR op_eq (pv 4) pe_int (nomark _)) (pw_or1 (pt_cmpR (show OpR _ _ (rNeD K) from op_neD (by exact hu64)) (pe_ix (show IxR _ (rIxL K) from ix_list) (pv 10) (pv 4) (fun _ _ => rfl)) (pe_ix (show IxR _ (rIxL K) from ix_list) (pv 10) (pe_op op_sub (pv 4) pe_int) (fun _ _ => rfl)) (nomark _))))))) (fun _ _ _ _ _ => (pe_ix (show IxR _ (rIxL K) from ix_list) (pv 10) (pv 4) (fun _ _ => rfl))))
(pss_cons (ps_set (i := 12) sc_law.nd rfl (.inl rfl) (LiI.pe_listItems rfl (pv 3) (by rfl) A.list (by decide +kernel)))
(pss_cons (ps_set (i := 13) sc_law.nd rfl (.inl rfl) (pe_callTy call_list_of (by rfl) A.list (by decide +kernel) (pa_cons (pv 5) pa_nil)))
(pss_cons (ps_if (PW.pt (pw_or (pt_not (pt_val (pe_callG G_law_alike hgd (hr.mono (by decide)) (by rfl) g_law_alike F_law_alike.kp b_law_alike .nil (pa_cons (pe_call G_led_objects (hr.mono (by decide)) (by rfl) g_led_objects F_led_objects.kp b_led_objects .nil pass0 (pa_cons (pv 3) (pa_cons (pv 5) pa_nil))) (pa_cons (pv 8) pa_nil))))) (pw_or1 (pt_not (pt_val (pe_callG G_law_alike hgd (hr.mono (by decide)) (by rfl) g_law_alike F_law_alike.kp b_law_alike .nil (pa_cons (pe_call G_led_imports (hr.mono (by decide)) (by rfl) g_led_imports F_led_imports.kp b_led_imports .nil pass0 (pa_cons (pv 3) (pa_cons (pv 5) pa_nil))) (pa_cons (pv 11) pa_nil))))))))
(pss_one (ps_ret pe_bl))
pss_nil)
(pss_one (ps_if (PW.pt (pw_or (pt_cmpR (op_neD (by exact hu64)) (LiI.pe_listItems rfl (pv 3) (by rfl) A.list (by decide +kernel)) (pv 12) (nomark _)) (pw_or1 (pt_cmpR (op_neD (by exact hu64)) (pv 5) (pv 13) (nomark _)))))
(pss_one (ps_ret pe_bl))
pss_nil))))))))))))
(pss_one (ps_ret (pe_and (pe_cmpR (op_eqD (by exact hu64)) (pe_call G_led_objects (hr.mono (by decide)) (by rfl) g_led_objects F_led_objects.kp b_led_objects .nil pass0 (pa_cons pe_dnewK (pa_cons (pe_lst pa_nil) pa_nil))) (pe_lst pa_nil) (nomark _)) (pe_one (pe_cmpR (op_eqD (by exact hu64)) (pe_call G_led_imports (hr.mono (by decide)) (by rfl) g_led_imports F_led_imports.kp b_led_imports .nil pass0 (pa_cons pe_dnewK (pa_cons (pe_lst (pa_cons pe_non pa_nil)) pa_nil))) (pe_lst pa_nil) (nomark _)))))))), ?_⟩
    refine ⟨_, rfl, a, ns, rfl, hS, fun dg ds H1 s1 n1 hdg => ⟨(by show 2 ≤ sizeLine; decide), fun b nb => ?_⟩⟩
    have B1 : Bx (upd H1 b (.lst [.ref dg, .int 0])) b dg ds := ⟨0, upd_same, by rw [upd_ne (ne_of_none hdg nb)]; exact hdg⟩
    refine ⟨4, rfl, by decide, by decide, for_range (lo := 0) (n := 4) (fun i σ H' => ∃ (v2 v3 v4 v5 v6 v7 v8 v9 v10 v11 v12 v13 : Option V), σ = [some (.ref a), some (.ref b), v2, v3, v4, v5, v6, v7, v8, v9, v10, v11, v12, v13] ∧ Bx H' b dg ds)
      ⟨none, none, none, none, none, none, none, none, none, none, none, none, rfl, B1⟩ ?_ ?_⟩
    · rintro turn σ H2 ht ⟨v2, v3, v4, v5, v6, v7, v8, v9, v10, v11, v12, v13, rfl, B2⟩
      -- heap = _law_heap(box)
      refine ⟨_, rfl, b, dg, ds, rfl, B2, fun p kvs hp H3 np hP hK gH l10 f3 B3 => ?_⟩
      have nbp := (B2.nb np).1
      have lkh := hK.len
      -- start = [..]
      refine ⟨_, rfl, b, dg, ds, 5, rfl, by decide, B3, fun r H4 r0 r5 f4 B4 => ⟨r, rfl, by omega, by omega, fun D nD => ?_⟩⟩
      have hP4 : H4 p = some (.dK kvs) := f4 p _ nbp hP
      have t34 : TupS H3 H4 := TupS.of_fx f4 B3
      have nDb := B4.nb nD
      refine lc_range (lo := 0) (n := r.toNat) (fun i H' => ∃ (rs : List (Option Rf)) (vs : List V), H' D = some (.lst vs) ∧ RfAll H' rs vs ∧ rs.length = i ∧ (∀ x ∈ rs, Good hp.length x) ∧ Fx b H4 H' ∧ Bx H' b dg ds) ?_ ?_ ?_
      · exact ⟨[], [], upd_same, .nil, rfl, fun _ h => (nomatch h), (Fx.refl b H4).new nD, B4.new nD⟩
      · rintro i H5 hi ⟨rs, vs, hD, hR, hrl, hg, f5, B5⟩
        have npD : p ≠ D := ne_of_none hP4 nD
        refine ⟨rfl, ?_⟩
        refine ⟨_, rfl, _, rfl, p, kvs, rfl, f5 p _ nbp hP4, b, dg, ds, _, rfl, B5, fun x v H6 gx rx f6 B6 => ?_⟩
        have hD6 : H6 D = some (.lst vs) := f6 D _ nDb.1 hD
        have t56 : TupS H5 H6 := TupS.of_fx f6 B5
        have t6 : TupS H6 (upd H6 D (.lst (vs ++ [v]))) := TupS.mut (fun _ _ e => e) hD6 (fun _ z => nomatch z)
        refine ⟨vs, hD6, lt_size (by have := Paired.length hR; omega), rs ++ [x], vs ++ [v], upd_same, ?_, ?_, ?_, ?_, ?_⟩
        · exact paired_app (RfAll.mono t6 (RfAll.mono t56 hR)) (paired_one (rx.mono t6))
        · rw [List.length_append, hrl]; rfl
        · intro y hy
          rcases List.mem_append.mp hy with z | z
          · exact hg y z
          · rw [List.mem_singleton.mp z, ← lkh]; exact gx
        · exact (f5.trans f6).mut nD
        · exact B6.upd nDb.1 nDb.2
      rintro H5 ⟨st, svs, hD, hR, hrl, hg, f5, B5⟩
      have t45 : TupS H4 H5 := TupS.of_fx f5 B4
      have G : Given H5 p kvs hp D svs st := ⟨f5 p _ nbp hP4, hK.mono (t34.trans t45), hD, hR, ⟨_, gH⟩, gH.wf hg, l10, by omega⟩
      -- found = _law_led_to(heap, start)
      refine ⟨_, rfl, _, rfl, p, D, kvs, hp, svs, st, rfl, G, fun fd fvs Fd H6 s6 nfd hfd hRF hiff hFl => ?_⟩
      have s56 : TupS H5 H6 := TupS.of_same s6
      have hP6 : H6 p = some (.dK kvs) := s6 _ _ G.atP
      have hK6 : HKv H6 kvs hp := G.hk.mono s56
      -- objects = [number for number in sorted(heap) if ("object", number) in found]
      refine ⟨_, rfl, p, kvs, ids hp, rfl, .inl hP6, hK6.keys, (by unfold ids; rw [List.length_map]; omega), fun ys l pm pw nl => ⟨l, rfl, ⟨_, SqL.of upd_same⟩, fun D2 nD2 => ?_⟩⟩
      let H7 := upd H6 l (.lst (ys.map V.int))
      have s67 : Same H6 H7 := same_new (Same.refl H6) nl
      have hl7 : H7 l = some (.lst (ys.map V.int)) := upd_same
      refine lc_list (K := K) (a := l) (xs := ys.map V.int) (fun i H' => H' D2 = some (.lst (((ys.take i).filter fun n => decide (Rf.ob n ∈ Fd)).map V.int)) ∧ Same H7 H') ?_ ?_ ?_ ?_
      · exact ⟨upd_same, same_new (Same.refl H7) nD2⟩
      · rintro i H' _ ⟨_, sm⟩
        exact SqL.of (sm _ _ hl7)
      · rintro i x H' hi ⟨hD2, sm⟩
        rw [List.getElem?_map] at hi
        obtain ⟨n, hn, rfl⟩ : ∃ n, ys[i]? = some n ∧ x = V.int n := by
          cases e : ys[i]? with
          | none => rw [e] at hi; cases hi
          | some n => rw [e] at hi; exact ⟨n, rfl, (Option.some.inj hi).symm⟩
        refine ⟨rfl, ?_⟩
        refine ⟨_, rfl, (by show 2 ≤ sizeLine; decide), fun t nt => ?_⟩
        have sm2 : Same H7 (upd H' t (.tup [.str "object", .int n])) := same_new sm nt
        have sF : Same H6 (upd H' t (.tup [.str "object", .int n])) := s67.trans sm2
        refine ⟨_, rfl, rfD (some (.ob n)), (Fd.map some).map rfD, rf_dp (r := some (.ob n)) ⟨t, rfl, upd_same⟩, .lst (SqL.of (sF _ _ hfd)) (rf_dps (RfAll.mono (TupS.of_same sF) hRF)), rf_shaped _, rfs_shaped _, _, rfl, ?_⟩
        rw [rf_any]
        have tk : (ys.take (i + 1)).filter (fun n => decide (Rf.ob n ∈ Fd)) = (ys.take i).filter (fun n => decide (Rf.ob n ∈ Fd)) ++ (if Rf.ob n ∈ Fd then [n] else []) := by
          rw [List.take_add_one, hn, List.filter_append]
          congr 1
          by_cases z : Rf.ob n ∈ Fd <;> simp [z]
        have nDt : D2 ≠ t := ne_of_none hD2 nt
        have hD3 : upd H' t (.tup [.str "object", .int n]) D2 = some (.lst (((ys.take i).filter fun n => decide (Rf.ob n ∈ Fd)).map V.int)) := by rw [upd_ne nDt]; exact hD2
        by_cases z : Rf.ob n ∈ Fd
        · refine ite2 (fun _ => ?_) (fun e => absurd (decide_eq_true z) e)
          refine ⟨_, rfl, _, hD3, lt_size ?_, ?_, same_mut sm2 nD2⟩
          · have h1 := List.length_filter_le (fun n => decide (Rf.ob n ∈ Fd)) (ys.take i)
            have h2 : (ys.take i).length ≤ ys.length := by rw [List.length_take]; exact Nat.min_le_right _ _
            have h3 := pm.length_eq
            unfold ids at h3
            rw [List.length_map] at h3
            rw [List.length_map]
            omega
          · rw [upd_same, tk, if_pos z, List.map_append]
            rfl
        · refine ite2 (fun e => absurd (of_decide_eq_true e) z) (fun _ => ⟨?_, sm2⟩)
          rw [tk, if_neg z, List.append_nil]
          exact hD3
      rintro H8 ⟨hD2, sm⟩
      rw [List.length_map, List.take_length] at hD2
      let obs := ys.filter fun n => decide (Rf.ob n ∈ Fd)
      have hob : H8 D2 = some (.lst (obs.map V.int)) := hD2
      have s68 : Same H6 H8 := s67.trans sm
      have nD2' : H6 D2 = none := s67.free nD2
      -- imports = sorted([(row[1], row[2]) for row in found if row[0] == "import"])
      have hf8 := s68 _ _ hfd
      have hR8 := RfAll.mono (TupS.of_same s68) hRF
      refine ⟨_, rfl, fd, rfl, ⟨_, SqL.of hf8⟩, fun D3 nD3 => ?_⟩
      refine lc_list (K := K) (a := fd) (xs := fvs) (fun i H' => ∃ vs, H' D3 = some (.lst vs) ∧ PrAll H' ((Fd.take i).filterMap imPr) vs ∧ Same H8 H') ?_ ?_ ?_ ?_
      · exact ⟨[], upd_same, .nil, same_new (Same.refl H8) nD3⟩
      · rintro i H' _ ⟨_, _, _, sm⟩
        exact SqL.of (sm _ _ hf8)
      · rintro i x H' hi ⟨vs, hD3, hP3, sm⟩
        obtain ⟨r, hr', rx⟩ := paired_back hR8 hi
        rw [List.getElem?_map] at hr'
        obtain ⟨y, hy, rfl⟩ : ∃ y, Fd[i]? = some y ∧ r = some y := by
          cases e : Fd[i]? with
          | none => rw [e] at hr'; cases hr'
          | some y => rw [e] at hr'; exact ⟨y, rfl, (Option.some.inj hr').symm⟩
        have tk := take_map imPr hy
        have rx' := rx.mono (TupS.of_same sm)
        refine ⟨rfl, ?_⟩
        cases y with
        | ob j =>
          obtain ⟨t, rfl, ht⟩ := rx'
          refine ⟨_, rfl, t, _, 0, _, rfl, rfl, SqT.of ht, atI_nat (j := 0) rfl, rfl, _, rfl, ite2 (fun e => absurd (of_decide_eq_true e) nobimp) (fun _ => ⟨vs, hD3, ?_, sm⟩)⟩
          rw [tk]
          simpa [imPr] using hP3
        | im o e =>
          obtain ⟨t, rfl, ht⟩ := rx'
          refine ⟨_, rfl, t, _, 0, _, rfl, rfl, SqT.of ht, atI_nat (j := 0) rfl, rfl, _, rfl, ite2 (fun _ => ?_) (fun e => absurd (decide_eq_true rfl) e)⟩
          refine ⟨_, rfl, t, _, 1, _, rfl, rfl, SqT.of ht, atI_nat (j := 1) rfl, _, rfl, t, _, 2, _, rfl, rfl, SqT.of ht, atI_nat (j := 2) rfl, (by show 2 ≤ sizeLine; decide), fun u nu => ?_⟩
          have nDu : D3 ≠ u := ne_of_none hD3 nu
          have hD4 : upd H' u (.tup [V.int o, V.int e]) D3 = some (.lst vs) := by rw [upd_ne nDu]; exact hD3
          have t1 : TupS H' (upd H' u (.tup [V.int o, V.int e])) := TupS.new (fun _ _ e => e) nu
          have t2 : TupS (upd H' u (.tup [V.int o, V.int e])) (upd (upd H' u (.tup [V.int o, V.int e])) D3 (.lst (vs ++ [V.ref u]))) := TupS.mut (fun _ _ e => e) hD4 (fun _ z => nomatch z)
          refine ⟨vs, hD4, lt_size ?_, vs ++ [V.ref u], upd_same, ?_, same_mut (same_new sm nu) nD3⟩
          · have h1 := Paired.length hP3
            have h2 := List.length_filterMap_le imPr (Fd.take i)
            have h3 : (Fd.take i).length ≤ Fd.length := by rw [List.length_take]; exact Nat.min_le_right _ _
            omega
          · rw [tk]
            exact paired_app (PrAll.mono t2 (PrAll.mono t1 hP3)) (paired_one ⟨u, rfl, t2 _ _ upd_same⟩)
      rintro H9 ⟨vs, hD3, hP3, s89⟩
      have lfv := Paired.length hRF
      rw [List.length_map] at lfv
      rw [← lfv, List.take_length] at hP3
      refine ⟨D3, vs, kOf H9, rfl, SqL.of hD3, fun v hv => pr_mem hP3 v hv, fun zvs im so sb nim => ?_⟩
      obtain ⟨zs, hZ, pwz, pmz⟩ := pr_sorted hP3 so sb
      let H10 := upd H9 im (.lst zvs)
      have t910 : TupS H9 H10 := TupS.new (fun _ _ e => e) nim
      have s910 : Same H9 H10 := same_new (Same.refl H9) nim
      have hZ10 := PrAll.mono t910 hZ
      have him : H10 im = some (.lst zvs) := upd_same
      have lz := Paired.length hZ
      have lzs : zs.length ≤ 176 := by
        have h1 := pmz.length_eq
        have h2 := List.length_filterMap_le imPr Fd
        omega
      -- rising = [imports[k] for k in range(len(imports)) if k == 0 or imports[k] != imports[k - 1]]
      refine ⟨_, rfl, im, zvs, rfl, .inl (SqL.of him), _, rfl, by omega, by omega, fun D4 nD4 => ?_⟩
      rw [show ((zvs.length : Int)).toNat = zs.length by omega]
      refine lc_range (lo := 0) (n := zs.length) (fun k H' => ∃ ws, H' D4 = some (.lst ws) ∧ PrAll H' (risingTo zs k) ws ∧ Same H10 H') ?_ ?_ ?_
      · exact ⟨[], upd_same, .nil, same_new (Same.refl H10) nD4⟩
      · rintro k H' hk ⟨ws, hD4, hW, sm⟩
        have hZ' := PrAll.mono (TupS.of_same sm) hZ10
        have him' := sm _ _ him
        have gk : zs[k]? = some zs[k] := List.getElem?_eq_getElem hk
        obtain ⟨xk, hxk, pk⟩ := LiI.paired_get hZ' gk
        have lws : ws.length ≤ 176 := by
          have h1 := Paired.length hW
          have h2 : ∀ k, (risingTo zs k).length ≤ k := fun k => by
            induction k with
            | zero => exact Nat.le_refl _
            | succ k ih =>
              rw [rising_succ]
              split
              · rw [List.length_append]
                have : (zs[k]?).toList.length ≤ 1 := by cases zs[k]? <;> simp
                omega
              · omega
          have := h2 k
          omega
        have ek : (0 : Int) + (k : Int) = ((k : Nat) : Int) := Int.zero_add _
        have fin : ∀ Hx, Hx = H' → (k = 0 ∨ zs[k]? ≠ zs[k - 1]?) → ∃ acc, Hx D4 = some (.lst acc) ∧ acc.length < sizeLine ∧ ∃ ws, (upd Hx D4 (.lst (acc ++ [xk]))) D4 = some (.lst ws) ∧ PrAll (upd Hx D4 (.lst (acc ++ [xk]))) (risingTo zs (k + 1)) ws ∧ Same H10 (upd Hx D4 (.lst (acc ++ [xk]))) := by
          intro Hx e hc
          subst e
          refine ⟨ws, hD4, lt_size (by omega), ws ++ [xk], upd_same, ?_, same_mut sm nD4⟩
          have t1 : TupS Hx (upd Hx D4 (.lst (ws ++ [xk]))) := TupS.mut (fun _ _ e => e) hD4 (fun _ z => nomatch z)
          rw [rising_succ, if_pos hc, gk]
          exact paired_app (PrAll.mono t1 hW) (paired_one (pk.mono t1))
        refine ⟨rfl, ?_⟩
        refine ⟨_, rfl, rfl, _, rfl, ite2 (fun e => ?_) (fun e => ?_)⟩
        · have k0 : k = 0 := by
            have := V.int.inj (of_decide_eq_true e)
            omega
          refine iteT ?_
          exact ⟨_, rfl, _, rfl, im, zvs, _, xk, rfl, by rw [ek], SqL.of him', atI_nat hxk, fin _ rfl (.inl k0)⟩
        · have k0 : k ≠ 0 := fun z => e (by subst z; exact decide_eq_true rfl)
          have gp : zs[k - 1]? = some zs[k - 1] := List.getElem?_eq_getElem (by omega)
          obtain ⟨xp, hxp, pp⟩ := LiI.paired_get hZ' gp
          have ep : (0 : Int) + (k : Int) - 1 = ((k - 1 : Nat) : Int) := by omega
          refine ⟨_, rfl, _, rfl, im, zvs, _, xk, rfl, by rw [ek], SqL.of him', atI_nat hxk, _, rfl, _, rfl, _, _, rfl, rfl, im, zvs, ((k - 1 : Nat) : Int), xp, rfl, by rw [← ep], SqL.of him', atI_nat hxp, prD zs[k], prD zs[k - 1], pr_dp pk, pr_dp pp, pr_shaped _, pr_shaped _, _, rfl, ?_⟩
          rw [pr_eqv]
          by_cases ez : zs[k] = zs[k - 1]
          · refine ite2 (fun z => absurd z (by rw [decide_eq_true ez]; decide)) (fun _ => ⟨ws, hD4, ?_, sm⟩)
            rw [rising_succ, if_neg (fun z => z.elim k0 fun z => z (by rw [gk, gp, ez]))]
            exact hW
          · refine ite2 (fun _ => ?_) (fun z => absurd (show (!decide (zs[k] = zs[k - 1])) = true by rw [decide_eq_false ez]; rfl) z)
            exact ⟨_, rfl, _, rfl, im, zvs, _, xk, rfl, by rw [ek], SqL.of him', atI_nat hxk, fin _ rfl (.inr (by rw [gk, gp]; exact fun z => ez (Option.some.inj z)))⟩
      rintro H11 ⟨ws, hD4, hW, s1011⟩
      have s611 : Same H6 H11 := s68.trans (s89.trans (s910.trans s1011))
      have hP11 := s611 _ _ hP6
      have hK11 := hK6.mono (TupS.of_same s611)
      have hg10 : (hp.length : Int) ≤ 10 := by omega
      -- before = list(heap.items()); given = list(start)
      refine ⟨_, rfl, p, kvs, rfl, hP11, fun H12 pb ts s12x npb nts nin hpb hts => ?_⟩
      have s12 : Same H11 H12 := s12x
      have hD12 : H12 D = some (.lst svs) := s12 _ _ (s611 _ _ (s6 _ _ hD))
      refine ⟨_, rfl, D, svs, rfl, .inl (SqL.of hD12), fun g ng => ?_⟩
      let H13 := upd H12 g (.lst svs)
      have s1213 : Same H12 H13 := same_new (Same.refl H12) ng
      have s613 : Same H6 H13 := s611.trans (s12.trans s1213)
      have s513 : Same H5 H13 := s6.trans s613
      have G13 : Given H13 p kvs hp D svs st := ⟨s513 _ _ G.atP, G.hk.mono (TupS.of_same s513), s513 _ _ hD, RfAll.mono (TupS.of_same s513) hR, G.g, G.wf, l10, G.s4⟩
      have s813 : Same H8 H13 := s89.trans (s910.trans (s1011.trans (s12.trans s1213)))
      have s1113 : Same H11 H13 := s12.trans s1213
      have idb : ∀ i ∈ ids hp, i.natAbs < 10 ^ 12 := fun i hi => by
        rw [gH.keys, List.mem_map] at hi
        obtain ⟨k, hk, rfl⟩ := hi
        have := List.mem_range.mp hk
        omega
      have ndy : ys.Nodup := pm.nodup_iff.mpr gH.nodup
      have obm : ∀ i, i ∈ obs ↔ Reach hp st (.ob i) := fun i => by
        show i ∈ ys.filter (fun n => decide (Rf.ob n ∈ Fd)) ↔ _
        rw [List.mem_filter, pm.mem_iff]
        constructor
        · rintro ⟨_, z⟩
          exact (hiff _).mp (of_decide_eq_true z)
        · intro z
          exact ⟨reach_id G.wf z, decide_eq_true ((hiff _).mpr z)⟩
      have obl : obs.length ≤ 10 := by
        have h1 := List.length_filter_le (fun n => decide (Rf.ob n ∈ Fd)) ys
        have h3 := pm.length_eq
        unfold ids at h3
        rw [List.length_map] at h3
        show (ys.filter (fun n => decide (Rf.ob n ∈ Fd))).length ≤ 10
        omega
      have shO : Sh 1 1000 (.list (obs.map PyData.int)) := (sh_ints (ns := obs) fun n hn => idb n (reach_id G.wf ((obm n).mp hn))).mono (by omega) (by omega)
      let ri := risingTo zs zs.length
      have rim : ∀ x, x ∈ ri ↔ Reach hp st (.im x.1 x.2) := fun x => by
        show x ∈ risingTo zs zs.length ↔ _
        rw [rising_mem, List.take_length, pmz.mem_iff, List.mem_filterMap, ← hiff]
        constructor
        · rintro ⟨r, hr, e⟩
          cases r with
          | ob j => simp [imPr] at e
          | im o e' => simp [imPr] at e; subst e; exact hr
        · intro h
          exact ⟨_, h, rfl⟩
      have ril : ∀ k, (risingTo zs k).length ≤ k := fun k => by
        induction k with
        | zero => exact Nat.le_refl _
        | succ k ih =>
          rw [rising_succ]
          split
          · rw [List.length_append]
            have : (zs[k]?).toList.length ≤ 1 := by cases zs[k]? <;> simp
            omega
          · omega
      have shI : Sh 2 100000 (.list (ri.map prD)) := by
        refine (Sh.list (dp := 1) (wt := 200) fun d hd => ?_).mono (by omega) (by rw [List.length_map]; have := ril zs.length; show (200 + 1) * (risingTo zs zs.length).length ≤ 100000; omega)
        obtain ⟨x, hx, rfl⟩ := List.mem_map.mp hd
        obtain ⟨a0, a1, a2, a3⟩ : Good hp.length (some (.im x.1 x.2)) := reach_good gH hg ((rim x).mp hx)
        refine (Sh.tup (dp := 0) (wt := 64) (ds := [.int x.1, .int x.2]) fun d hd => ?_).mono (by omega) (by simp)
        simp at hd
        rcases hd with rfl | rfl
        · exact Sh.int (by omega)
        · exact Sh.int (by omega)
      -- the two answers
      refine ⟨_, rfl, _, rfl, p, D, kvs, hp, svs, st, rfl, G13, fun f1 ns1 Ha sa na ha pwa nda hia => ?_⟩
      have e1 : ns1 = obs := ints_unique pwa (pw.filter _) nda (ndy.filter _) fun x => by rw [hia, obm]
      subst e1
      refine ⟨_, rfl, f1, D2, .list (obs.map .int), .list (obs.map .int), rfl, .lst (SqL.of ha) (dp_ints _), .lst (SqL.of (sa _ _ (s813 _ _ hob))) (dp_ints _), shO.fits, shO.fits, _, rfl, ?_⟩
      refine ite2 (fun z => absurd z (by rw [decide_eq_true rfl]; decide)) (fun _ => ?_)
      have s513a : Same H5 Ha := s513.trans sa
      have Ga : Given Ha p kvs hp D svs st := ⟨s513a _ _ G.atP, G.hk.mono (TupS.of_same s513a), s513a _ _ hD, RfAll.mono (TupS.of_same s513a) hR, G.g, G.wf, l10, G.s4⟩
      refine ⟨_, rfl, _, rfl, p, D, kvs, hp, svs, st, rfl, Ga, fun f2 ys2 zs2 Hb sb2 nb2 hb2 hPr pwl hib => ?_⟩
      have e2 : zs2 = ri := pairs_unique pwl (rising_pair pwz zs.length (Nat.le_refl _)).1 fun x => by rw [hib, rim]
      subst e2
      have s11b : Same H11 Hb := s1113.trans (sa.trans sb2)
      refine ⟨_, rfl, f2, D4, .list (ri.map prD), .list (ri.map prD), rfl, .lst (SqL.of hb2) (pr_dps hPr), .lst (SqL.of (s11b _ _ hD4)) (pr_dps (PrAll.mono (TupS.of_same s11b) hW)), shI.fits, shI.fits, _, rfl, ?_⟩
      refine ite2 (fun z => absurd z (by rw [decide_eq_true rfl]; decide)) (fun _ => ?_)
      -- list(heap.items()) != before or start != given
      have s12b : Same H12 Hb := s1213.trans (sa.trans sb2)
      have shK := kv_sh hg10 (by omega) gH l10
      refine ⟨_, rfl, p, kvs, rfl, s11b _ _ hP11, fun Hc pc ts2 sc npc nts2 nin2 hpc hts2 => ?_⟩
      have s11c : Same H11 Hc := s11b.trans sc
      have s12c : Same H12 Hc := s12b.trans sc
      have htsc : Paired (fun t q => Hc t = some (.tup [kV q.1, q.2])) ts kvs := Paired.mapP hts fun t q e => s12c _ _ e
      refine ⟨_, rfl, .list (hp.map kvD), .list (hp.map kvD), .lst (SqL.of hpc) (hk_dp hts2 (hK11.mono (TupS.of_same s11c))), .lst (SqL.of (s12c _ _ hpb)) (hk_dp htsc (hK11.mono (TupS.of_same s11c))), shK.shaped, shK.shaped, _, rfl, ?_⟩
      rw [SeqAt.eqv_refl _ shK.c]
      refine iteF ?_
      have s5c : Same H5 Hc := s6.trans (s611.trans s11c)
      have hRc := RfAll.mono (TupS.of_same s5c) hR
      refine ⟨_, rfl, _, rfl, .list (st.map rfD), .list (st.map rfD), .lst (SqL.of (s5c _ _ hD)) (rf_dps hRc), .lst (SqL.of (sc _ _ (sb2 _ _ (sa _ _ upd_same)))) (rf_dps hRc), rfs_shaped _, rfs_shaped _, _, rfl, ?_⟩
      have lay : PyData.canLay0 (.list (st.map rfD)) = true := by
        simp only [PyData.canLay0]
        exact rfs_lay st
      rw [SeqAt.eqv_refl _ lay]
      refine iteF ?_
      obtain ⟨n5, b1, b2⟩ := B5
      exact ⟨_, _, _, _, _, _, _, _, _, _, _, _, rfl, n5, s5c _ _ b1, s5c _ _ b2⟩
    · rintro σ H2 ⟨v2, v3, v4, v5, v6, v7, v8, v9, v10, v11, v12, v13, rfl, B2⟩
      have none_of : ∀ {r : Rf}, ¬ Reach [] [] r := fun {r} h => by
        cases h with
        | start m => exact nomatch m
        | step _ m => exact nomatch (look_mem m).choose_spec.1
      have none_of2 : ∀ {r : Rf}, ¬ Reach [] [none] r := fun {r} h => by
        cases h with
        | start m => simp at m
        | step _ m => exact nomatch (look_mem m).choose_spec.1
      have wf0 : ∀ {st : List (Option Rf)}, (∀ i, some (Rf.ob i) ∉ st) → WF [] st := fun h => ⟨.nil, fun i m => (h i m).elim, fun p m => nomatch m⟩
      intro p np
      refine ⟨Nat.zero_le _, fun l nl => ?_⟩
      have npl : p ≠ l := ne_of_none upd_same nl
      refine ⟨p, l, [], [], [], [], rfl, ⟨by rw [upd_ne npl]; exact upd_same, .nil, upd_same, .nil, ⟨0, rfl, fun _ h => nomatch h⟩, wf0 (fun _ h => nomatch h), Nat.zero_le _, Nat.zero_le _⟩, fun f1 ns1 H3 s3 n3 h3 _ _ hi => ?_⟩
      have e1 : ns1 = [] := List.eq_nil_iff_forall_not_mem.mpr fun i hi2 => none_of ((hi i).mp hi2)
      subst e1
      have lay : SeqAt.shaped (.list []) = true := by rfl
      refine ⟨Nat.zero_le _, fun l2 nl2 => ?_⟩
      have nf : f1 ≠ l2 := ne_of_none h3 nl2
      refine ⟨.list [], .list [], .lst (SqL.of (by rw [upd_ne nf]; exact h3)) .nil, .lst (SqL.of upd_same) .nil, lay, lay, true, rfl, ?_⟩
      refine iteT ?_
      intro p2 np2
      refine ⟨(by show 1 ≤ sizeLine; decide), fun l3 nl3 => ?_⟩
      have npl3 : p2 ≠ l3 := ne_of_none upd_same nl3
      refine ⟨p2, l3, [], [], [.non], [none], rfl, ⟨by rw [upd_ne npl3]; exact upd_same, .nil, upd_same, .cons rfl .nil, ⟨0, rfl, fun _ h => nomatch h⟩, wf0 (fun _ h => by simp at h), Nat.zero_le _, by decide⟩, fun f2 ys2 zs2 H4 s4 n4 h4 hp4 _ hi4 => ?_⟩
      have e2 : zs2 = [] := List.eq_nil_iff_forall_not_mem.mpr fun x hx => none_of2 ((hi4 x).mp hx)
      subst e2
      cases hp4
      refine ⟨Nat.zero_le _, fun l4 nl4 => ?_⟩
      have nf2 : f2 ≠ l4 := ne_of_none h4 nl4
      exact ⟨.list [], .list [], .lst (SqL.of (by rw [upd_ne nf2]; exact h4)) .nil, .lst (SqL.of upd_same) .nil, lay, lay, q _⟩
end
end K1
set_option Elab.async false
set_option linter.all false
set_option maxRecDepth 100000
set_option maxHeartbeats 8000000
namespace K1
open PySem PySem.Spec PyProof.Rows L2 Gd
/-! K01e: what the top has written; the end. -/
theorem all_mk {l : PySem.W.OpenLaw} {w : World} {K : PySem.W.Frag} {h : Heap} {mg : Str → Option Value} {fa p0 p1 p2 p3 p4 p5 p6 p7 p8 p9 p10 p11 : Addr} (X : K.In h) (G : h.Ns mainGlobals mg) (hfa : mg "law" = some (.ref fa))
    {od0 an0 od1 an1 od2 an2 od3 an3 od4 an4 od5 an5 od6 an6 od7 an7 od8 an8 od9 an9 od10 an10 od11 an11 : Option Addr} {sl0 sl1 sl2 sl3 sl4 sl5 sl6 sl7 sl8 sl9 sl10 sl11 : Array (Option Value)} {oc0 kV0 dc0 pm0 cd0 ct0 oc1 kV1 dc1 pm1 cd1 ct1 oc2 kV2 dc2 pm2 cd2 ct2 oc3 kV3 dc3 pm3 cd3 ct3 oc4 kV4 dc4 pm4 cd4 ct4 oc5 kV5 dc5 pm5 cd5 ct5 oc6 kV6 dc6 pm6 cd6 ct6 oc7 kV7 dc7 pm7 cd7 ct7 oc8 kV8 dc8 pm8 cd8 ct8 oc9 kV9 dc9 pm9 cd9 ct9 oc10 kV10 dc10 pm10 cd10 ct10 oc11 kV11 dc11 pm11 cd11 ct11 : Value}
    (a0 : PySem.W.nsIn K mainGlobals "_law_cell" = some (some (.ref p0))) (l0 : K.lookup p0 = some ⟨oc0, od0, .func (PySem.W.fnOf "_law_cell" "_law_cell" (defArgs s_law_cell) (defBody s_law_cell) (defScope s_law_cell) .none kV0 dc0 pm0 an0 cd0 ct0), sl0⟩) (c0 : PySem.W.codeIn K cd0 "_law_cell" = true) (k0 : PySem.W.keepIn K (.ref p0) = true)
    (a1 : PySem.W.nsIn K mainGlobals "_law_digits" = some (some (.ref p1))) (l1 : K.lookup p1 = some ⟨oc1, od1, .func (PySem.W.fnOf "_law_digits" "_law_digits" (defArgs s_law_digits) (defBody s_law_digits) (defScope s_law_digits) .none kV1 dc1 pm1 an1 cd1 ct1), sl1⟩) (c1 : PySem.W.codeIn K cd1 "_law_digits" = true) (k1 : PySem.W.keepIn K (.ref p1) = true)
    (a2 : PySem.W.nsIn K mainGlobals "_law_draw" = some (some (.ref p2))) (l2 : K.lookup p2 = some ⟨oc2, od2, .func (PySem.W.fnOf "_law_draw" "_law_draw" (defArgs s_law_draw) (defBody s_law_draw) (defScope s_law_draw) .none kV2 dc2 pm2 an2 cd2 ct2), sl2⟩) (c2 : PySem.W.codeIn K cd2 "_law_draw" = true) (k2 : PySem.W.keepIn K (.ref p2) = true)
    (a3 : PySem.W.nsIn K mainGlobals "_law_alike" = some (some (.ref p3))) (l3 : K.lookup p3 = some ⟨oc3, od3, .func (PySem.W.fnOf "_law_alike" "_law_alike" (defArgs s_law_alike) (defBody s_law_alike) (defScope s_law_alike) .none kV3 dc3 pm3 an3 cd3 ct3), sl3⟩) (c3 : PySem.W.codeIn K cd3 "_law_alike" = true) (k3 : PySem.W.keepIn K (.ref p3) = true)
    (a4 : PySem.W.nsIn K mainGlobals "_law_reference" = some (some (.ref p4))) (l4 : K.lookup p4 = some ⟨oc4, od4, .func (PySem.W.fnOf "_law_reference" "_law_reference" (defArgs s_law_reference) (defBody s_law_reference) (defScope s_law_reference) .none kV4 dc4 pm4 an4 cd4 ct4), sl4⟩) (c4 : PySem.W.codeIn K cd4 "_law_reference" = true) (k4 : PySem.W.keepIn K (.ref p4) = true)
    (a5 : PySem.W.nsIn K mainGlobals "_law_heap" = some (some (.ref p5))) (l5 : K.lookup p5 = some ⟨oc5, od5, .func (PySem.W.fnOf "_law_heap" "_law_heap" (defArgs s_law_heap) (defBody s_law_heap) (defScope s_law_heap) .none kV5 dc5 pm5 an5 cd5 ct5), sl5⟩) (c5 : PySem.W.codeIn K cd5 "_law_heap" = true) (k5 : PySem.W.keepIn K (.ref p5) = true)
    (a6 : PySem.W.nsIn K mainGlobals "_law_led_to" = some (some (.ref p6))) (l6 : K.lookup p6 = some ⟨oc6, od6, .func (PySem.W.fnOf "_law_led_to" "_law_led_to" (defArgs s_law_led_to) (defBody s_law_led_to) (defScope s_law_led_to) .none kV6 dc6 pm6 an6 cd6 ct6), sl6⟩) (c6 : PySem.W.codeIn K cd6 "_law_led_to" = true) (k6 : PySem.W.keepIn K (.ref p6) = true)
    (a7 : PySem.W.nsIn K mainGlobals "law" = some (some (.ref p7))) (l7 : K.lookup p7 = some ⟨oc7, od7, .func (PySem.W.fnOf "law" "law" (defArgs s_law) (defBody s_law) (defScope s_law) .none kV7 dc7 pm7 an7 cd7 ct7), sl7⟩) (c7 : PySem.W.codeIn K cd7 "law" = true) (k7 : PySem.W.keepIn K (.ref p7) = true)
    (a8 : PySem.W.nsIn K mainGlobals "led_objects" = some (some (.ref p8))) (l8 : K.lookup p8 = some ⟨oc8, od8, .func (PySem.W.fnOf "led_objects" "led_objects" (defArgs s_led_objects) (defBody s_led_objects) (defScope s_led_objects) .none kV8 dc8 pm8 an8 cd8 ct8), sl8⟩) (c8 : PySem.W.codeIn K cd8 "led_objects" = true) (k8 : PySem.W.keepIn K (.ref p8) = true)
    (a9 : PySem.W.nsIn K mainGlobals "led_imports" = some (some (.ref p9))) (l9 : K.lookup p9 = some ⟨oc9, od9, .func (PySem.W.fnOf "led_imports" "led_imports" (defArgs s_led_imports) (defBody s_led_imports) (defScope s_led_imports) .none kV9 dc9 pm9 an9 cd9 ct9), sl9⟩) (c9 : PySem.W.codeIn K cd9 "led_imports" = true) (k9 : PySem.W.keepIn K (.ref p9) = true)
    (a10 : PySem.W.nsIn K mainGlobals "_led" = some (some (.ref p10))) (l10 : K.lookup p10 = some ⟨oc10, od10, .func (PySem.W.fnOf "_led" "_led" (defArgs s_led) (defBody s_led) (defScope s_led) .none kV10 dc10 pm10 an10 cd10 ct10), sl10⟩) (c10 : PySem.W.codeIn K cd10 "_led" = true) (k10 : PySem.W.keepIn K (.ref p10) = true)
    (a11 : PySem.W.nsIn K mainGlobals "_object_ids" = some (some (.ref p11))) (l11 : K.lookup p11 = some ⟨oc11, od11, .func (PySem.W.fnOf "_object_ids" "_object_ids" (defArgs s_object_ids) (defBody s_object_ids) (defScope s_object_ids) .none kV11 dc11 pm11 an11 cd11 ct11), sl11⟩) (c11 : PySem.W.codeIn K cd11 "_object_ids" = true) (k11 : PySem.W.keepIn K (.ref p11) = true)
    (z_len : PySem.W.nsIn K mainGlobals "len" = some none)
    (z_int : PySem.W.nsIn K mainGlobals "int" = some none)
    (z_range : PySem.W.nsIn K mainGlobals "range" = some none)
    (z_tuple : PySem.W.nsIn K mainGlobals "tuple" = some none)
    (z_list : PySem.W.nsIn K mainGlobals "list" = some none)
    (z_sorted : PySem.W.nsIn K mainGlobals "sorted" = some none)
    (z_repr : PySem.W.nsIn K mainGlobals "repr" = some none)
    : ∃ fd : FuncData, (∀ (s : Shared) (v : Value), BindsTo s fd ⟨[v], []⟩ [("script", v)]) ∧ ∀ base : Heap, K.In base → base.Ns mainGlobals mg → FnG l.prog w K mg base 4 fa fd ["script"] (spLaw K) := by
  have e := hfa.symm.trans (PySem.W.mg_of X G a7)
  cases e
  have F0 := fun_mk (st := s_law_cell) l0 c0 k0
  have b0 := F0.binds (ps := ["script", "k"]) fun _ _ _ _ _ _ us hl => match us, hl with | [_, _], _ => rfl
  have F1 := fun_mk (st := s_law_digits) l1 c1 k1
  have b1 := F1.binds (ps := ["script", "first", "last"]) fun _ _ _ _ _ _ us hl => match us, hl with | [_, _, _], _ => rfl
  have F2 := fun_mk (st := s_law_draw) l2 c2 k2
  have b2 := F2.binds (ps := ["box", "many"]) fun _ _ _ _ _ _ us hl => match us, hl with | [_, _], _ => rfl
  have F3 := fun_mk (st := s_law_alike) l3 c3 k3
  have b3 := F3.binds (ps := ["one", "two"]) fun _ _ _ _ _ _ us hl => match us, hl with | [_, _], _ => rfl
  have F4 := fun_mk (st := s_law_reference) l4 c4 k4
  have b4 := F4.binds (ps := ["box", "many"]) fun _ _ _ _ _ _ us hl => match us, hl with | [_, _], _ => rfl
  have F5 := fun_mk (st := s_law_heap) l5 c5 k5
  have b5 := F5.binds (ps := ["box"]) fun _ _ _ _ _ _ us hl => match us, hl with | [_], _ => rfl
  have F6 := fun_mk (st := s_law_led_to) l6 c6 k6
  have b6 := F6.binds (ps := ["heap", "start"]) fun _ _ _ _ _ _ us hl => match us, hl with | [_, _], _ => rfl
  have F7 := fun_mk (st := s_law) l7 c7 k7
  have b7 := F7.binds (ps := ["script"]) fun _ _ _ _ _ _ us hl => match us, hl with | [_], _ => rfl
  have F8 := fun_mk (st := s_led_objects) l8 c8 k8
  have b8 := F8.binds (ps := ["heap", "start"]) fun _ _ _ _ _ _ us hl => match us, hl with | [_, _], _ => rfl
  have F9 := fun_mk (st := s_led_imports) l9 c9 k9
  have b9 := F9.binds (ps := ["heap", "start"]) fun _ _ _ _ _ _ us hl => match us, hl with | [_, _], _ => rfl
  have F10 := fun_mk (st := s_led) l10 c10 k10
  have b10 := F10.binds (ps := ["heap", "start"]) fun _ _ _ _ _ _ us hl => match us, hl with | [_, _], _ => rfl
  have F11 := fun_mk (st := s_object_ids) l11 c11 k11
  have b11 := F11.binds (ps := ["references"]) fun _ _ _ _ _ _ us hl => match us, hl with | [_], _ => rfl
  have A : All K mg := ⟨⟨_, _, F0, PySem.W.mg_of X G a0, b0⟩, ⟨_, _, F1, PySem.W.mg_of X G a1, b1⟩, ⟨_, _, F2, PySem.W.mg_of X G a2, b2⟩, ⟨_, _, F3, PySem.W.mg_of X G a3, b3⟩, ⟨_, _, F4, PySem.W.mg_of X G a4, b4⟩, ⟨_, _, F5, PySem.W.mg_of X G a5, b5⟩, ⟨_, _, F6, PySem.W.mg_of X G a6, b6⟩, ⟨_, _, F7, PySem.W.mg_of X G a7, b7⟩, ⟨_, _, F8, PySem.W.mg_of X G a8, b8⟩, ⟨_, _, F9, PySem.W.mg_of X G a9, b9⟩, ⟨_, _, F10, PySem.W.mg_of X G a10, b10⟩, ⟨_, _, F11, PySem.W.mg_of X G a11, b11⟩, PySem.W.mg_none_of X G z_len, PySem.W.mg_none_of X G z_int, PySem.W.mg_none_of X G z_range, PySem.W.mg_none_of X G z_tuple, PySem.W.mg_none_of X G z_list, PySem.W.mg_none_of X G z_sorted, PySem.W.mg_none_of X G z_repr⟩
  exact ⟨_, fun s v => .of_eq rfl, fun base _ _ => ok_law A F7⟩
end K1
open PySem PySem.W PyProof.Rows
set_option maxRecDepth 100000 in
set_option maxHeartbeats 0 in
theorem PySem.Challenge.cw_keptbywitness_k01_what_references_lead_t_holds : PySem.Challenge.rw_keptbywitness_k01_what_references_lead_t.Holds := by
  w_on; o_law; k_head; (case hw => w_witness2)
  k_fill
  refine Gd.walkG (l := PySem.Challenge.rw_keptbywitness_k01_what_references_lead_t) (n := 63) (k := 4) (x := "script") (sp := fun w => K1.spLaw _) rfl (by decide) rfl ⟨rfl, by decide, by decide⟩ (fun w h Y => PySem.W.kIn_of Y) ?F (fun w H a ns hl _ hS => ⟨a, ns, rfl, hS, hl, fun _ => rfl⟩)
  case F =>
    intro w mg fa h KX G hmg
    refine' K1.all_mk KX G hmg ?a0 ?l0 ?c0 ?k0 ?a1 ?l1 ?c1 ?k1 ?a2 ?l2 ?c2 ?k2 ?a3 ?l3 ?c3 ?k3 ?a4 ?l4 ?c4 ?k4 ?a5 ?l5 ?c5 ?k5 ?a6 ?l6 ?c6 ?k6 ?a7 ?l7 ?c7 ?k7 ?a8 ?l8 ?c8 ?k8 ?a9 ?l9 ?c9 ?k9 ?a10 ?l10 ?c10 ?k10 ?a11 ?l11 ?c11 ?k11 ?z_len ?z_int ?z_range ?z_tuple ?z_list ?z_sorted ?z_repr
    (case a0 => k_is)
    (case l0 => k_is)
    (case c0 => k_is)
    (case k0 => k_is)
    (case a1 => k_is)
    (case l1 => k_is)
    (case c1 => k_is)
    (case k1 => k_is)
    (case a2 => k_is)
    (case l2 => k_is)
    (case c2 => k_is)
    (case k2 => k_is)
    (case a3 => k_is)
    (case l3 => k_is)
    (case c3 => k_is)
    (case k3 => k_is)
    (case a4 => k_is)
    (case l4 => k_is)
    (case c4 => k_is)
    (case k4 => k_is)
    (case a5 => k_is)
    (case l5 => k_is)
    (case c5 => k_is)
    (case k5 => k_is)
    (case a6 => k_is)
    (case l6 => k_is)
    (case c6 => k_is)
    (case k6 => k_is)
    (case a7 => k_is)
    (case l7 => k_is)
    (case c7 => k_is)
    (case k7 => k_is)
    (case a8 => k_is)
    (case l8 => k_is)
    (case c8 => k_is)
    (case k8 => k_is)
    (case a9 => k_is)
    (case l9 => k_is)
    (case c9 => k_is)
    (case k9 => k_is)
    (case a10 => k_is)
    (case l10 => k_is)
    (case c10 => k_is)
    (case k10 => k_is)
    (case a11 => k_is)
    (case l11 => k_is)
    (case c11 => k_is)
    (case k11 => k_is)
    (case z_len => k_is)
    (case z_int => k_is)
    (case z_range => k_is)
    (case z_tuple => k_is)
    (case z_list => k_is)
    (case z_sorted => k_is)
    (case z_repr => k_is)
