import PyProof.Rows.All
import Wide.All
import OpenK.AllK
import Wide.FinOn
import PyProof.EqAt
import PyProof.EqKinds
import PyProof.TupleCall
import HandS.ForMost
import HandS.FStr
import HandS.RaiseMore
import HandS.IsInst
import PyProof.FactsAll.dict
import HandS.OwnEq
import PyProof.InstNe
import HandS.Defaults
import HandS.MakeKwOnly
import HandS.Conv
import HandS.Property
import HandS.Style
import PySem.Challenge.RW_lonetill_k73_lids_floors_and_strips
import HandS.Iter
import PyProof.EnumMake
import PyProof.EnumIter
import HandS.Deep
import HandS.TupAny
import PyProof.P3In
import HandS.Codes
import HandS.Comp
import OpenK.KOps
import PyProof.Draws
import PyProof.FString3
import PyProof.Rows.StrIntSpec
import HandS.NoneIn
import PyProof.DictDisplay
import PyProof.DictFindH
import PyProof.DictRoadsH
import PyProof.DictTable
import HandS.TupSets
import PyProof.Rows.RegFStrParts
import HandS.Call
import PyProof.AssignAttr
import HandS.CallLocal
import PyProof.FitsInt

section
set_option Elab.async false
set_option linter.all false
set_option maxRecDepth 100000
set_option maxHeartbeats 2000000
/-! Defs that are called while nothing is being shown (no repr runs around): their promise, their calls, the law's end. -/
namespace L2.Gd
open PySem PySem.Spec PyProof.Rows

structure FnG (P : Program) (w : World) (K : PySem.W.Frag) (mg : Str → Option Value) (base : Heap)
    (k : Nat) (f : Addr) (fd : FuncData) (ps : List Str) (sp : Sp) : Prop where
  cnt : ∀ (vs : List V) (H : Hp) (Q : VK), sp vs H Q E0 → vs.length = ps.length
  go : ∀ (A : Around) (outer : List Env) (s : Shared) (H : Hp) (args : Args)
      (us : List Value) (vs : List V) (Q : VK), A.guards = some [] → Room k A →
    Env0 P w K mg base A outer s H → BindsTo s fd args (ps.zip us) → Vals vs us →
    sp vs H Q E0 → codeAny (model P w) A (.call (.ref f) args) (CR CX0 outer P w H s Q E0) s

section
variable {P : Program} {w : World} {K : PySem.W.Frag} {mg : Str → Option Value} {base : Heap}
  {k : Nat} {f : Addr} {fd : FuncData} {ps N : List Str} {sp : Sp}

theorem FnG.of (F : FnOk P w K mg base CX0 k f fd ps sp) : FnG P w K mg base k f fd ps sp :=
  ⟨fun vs H Q h => F.len vs H Q E0 h,
   fun A outer s H args us vs Q _ hr e0 hb r h => F.run A outer s H args us vs Q E0 hr e0 hb r h⟩

theorem FnG.mono {j : Nat} (F : FnG P w K mg base j f fd ps sp) (h : j ≤ k) : FnG P w K mg base k f fd ps sp :=
  ⟨F.cnt, fun A outer s H args us vs Q hg hr => F.go A outer s H args us vs Q hg (hr.mono h)⟩

/-- a def of the text, by its body, where nothing is being shown around it -/
theorem okG {x qual : Str} {st : Stmt} (F : Fun K x qual st f fd) (S : FnScope N ps (defScope st))
    (cnt : ∀ (vs : List V) (H : Hp) (Q : VK), sp vs H Q E0 → vs.length = ps.length)
    (body : ∀ (cdv : Value) (A : Around) (outer : List Env) (s : Shared) (H : Hp) (vs : List V) (Q : VK),
      A.guards = some [] → Room k (A.deeper (envOfC qual (defScope st) s.heap.objs.size f cdv)) →
      sp vs H Q E0 →
      ∃ t, PSs (cxOf CX0 P w K mg base N qual (defScope st) f cdv A outer s H E0).nox (defBody st) t ∧
        t { nx := fun _ H' => Q .non H', rt := Q } (start N vs) H) :
    FnG P w K mg base (k + 1) f fd ps sp := by
  obtain ⟨oc, od, kV, doc, pm, an, cdv, ct, osl, rfl, there, code⟩ := F.ex
  refine ⟨cnt, ?_⟩
  intro A outer s H args us vs Q hg hr e0 bind rv hsp
  have inK : K.In s.heap := e0.mod.kin.keeps (fun b o q => (e0.bs b o q).1)
  have nolim : s.heap.NoLimit := e0.mod.nolimit.keeps (fun b o q => (e0.bs b o q).1)
  have kinds : ∀ y ∈ ps.zip us, (defScope st).names.lookup y.1 = some .local ∨
      ((defScope st).names.lookup y.1 = some .cell ∧
        ((cellsFrom (s.heap.objs.size + 1) (defScope st).names []).lookup y.1).isSome = true) := by
    rintro ⟨n, v⟩ hy
    cases S.par n (List.of_mem_zip hy).1 with
    | inl q => exact .inl q
    | inr q => exact .inr ⟨q, PySem.W.cellsFrom_some _ _ _ (.inl q)⟩
  refine codeAny_call_function hr.depth (inK _ _ there) rfl S.co S.gen rfl
    (PySem.W.codeRec_of inK code) (bind _ _ _ _ ?_)
  refine wpAny_newFunctionEnv_cells S.kind kinds ?_
  intro env he s1 ic
  subst he
  refine ⟨nolim.keeps ic.toInCall.keep, codeAny_func ?_⟩
  obtain ⟨t, ht, hq⟩ := body cdv A outer s H vs Q hg (hr.deeper _) hsp
  have hl : vs.length = ps.length := cnt _ _ _ hsp
  have I := inv_start (CX := CX0) (P := P) (w := w) (mg := mg) (base := base) (E := E0) S hr.hd e0 hl rv ic
  refine wpAny_mono (ht.nox.run [] s1 (start N vs) H _ I hq) (fun fl s' z => ?_) (fun e s' z => z)
  cases fl with
  | ret u =>
    obtain ⟨v, σ', H', J, r1, q⟩ := z
    exact ⟨v, H', J.os, J.bare, J.base, J.hok, r1, q⟩
  | next =>
    obtain ⟨σ', H', J, q⟩ := z
    exact ⟨.non, H', J.os, J.bare, J.base, J.hok, rfl, q⟩
  | brk =>
    obtain ⟨_, _, _, q⟩ := z
    exact q.elim
  | cont =>
    obtain ⟨_, _, _, q⟩ := z
    exact q.elim
end

section
variable {X : Cx} {k : Nat} {f : Addr} {fd : FuncData} {ps : List Str} {sp : Sp} {x : Str}
  {p pos : Pos} {e : Expr} {es : List Expr} {t : TA}

theorem run_fnG {pins : List (Addr × Obj)} {σ : St} {H : Hp} {s : Shared} {Q : VK} {us : List Value} {vs : List V}
    (F : FnG X.prog X.w X.K X.mg X.base k f fd ps sp) (hg : X.A.guards = some []) (hr : Room k X.A)
    (hb : Binds X.K fd ps []) (I : Inv X pins σ H s) (r : Vals vs us) (h : sp vs H Q E0) :
    wpAny (model X.prog X.w) X.A (call (.ref f) us) (EP X pins σ Q) X.xe s := by
  have hl : (us ++ []).length = ps.length := by
    rw [List.append_nil, ← r.length]
    exact F.cnt _ _ _ h
  have hb2 := hb s us I.kIn hl
  rw [List.append_nil] at hb2
  refine wpAny_call (codeAny_mono
    (F.go X.A X.stack s H ⟨us, []⟩ us vs Q hg hr I.env0 hb2 r h) ?_)
  intro res s' hq
  cases res with
  | error er => exact (show False from hq).elim
  | ok fl =>
    cases fl with
    | ret u => exact I.after hq
    | next => exact hq.elim
    | brk => exact hq.elim
    | cont => exact hq.elim

/-- f(e, ..), f such a def -/
theorem pe_callG (F : FnG X.prog X.w X.K X.mg X.base k f fd ps sp) (hg : X.A.guards = some [])
    (hr : Room k X.A) (gl : Gl X x) (hm : X.mg x = some (.ref f))
    (hk : PySem.W.keepIn X.K (.ref f) = true) (hb : Binds X.K fd ps []) (ha : PA X (e :: es) t)
    (hdb : (x == ("__debug__" : Str)) = false := by decide)
    (he : starEach (e :: es) X.env = (false, eval e X.env) :: starEach es X.env := by rfl)
    (hpl : (backTo pos (starEach es X.env)).any (·.1) = false := by rfl) :
    PE X (.Call (.Name x p) (e :: es) [] pos) (tCall sp [] E0 t) := by
  constructor
  intro pins s σ H Q I h
  refine wpAny_Call_Name_kw (ld_glob I gl hm ?_ hdb)
  refine PySem.W.callWith_K (h₀ := X.base) I.ok.mod.kin hk ?_ he hpl
  refine thn (ha.run pos pins s σ H _ I h) ?_
  rintro us s1 ⟨vs, H1, I1, r, q⟩
  rw [List.append_nil] at q
  exact ⟨I1.kIn, run_fnG F hg hr hb I1 r q⟩
end
end L2.Gd
end

section
set_option Elab.async false
set_option linter.all false
set_option maxRecDepth 100000
set_option maxHeartbeats 2000000
namespace L2.Gd
open PySem PySem.Spec PyProof.Rows

section
variable {P : Program} {w : World} {K : PySem.W.Frag} {mg mb : Str → Option Value} {k : Nat} {fa a : Addr}
  {fd : FuncData} {x : Str} {sp : Sp} {s₁ : Shared} {vs : List Value} {ns : List Int}

/-- the law's run from a heap of which at most the script is tracked -/
theorem law_core (inK : K.In s₁.heap) (hns : s₁.heap.Ns mainGlobals mg) (hb : s₁.heap.Ns builtinsNs mb)
    (hbb : ∀ x : Str, x ≠ "__name__" → mb x = bootBuiltins x) (nolim : s₁.heap.NoLimit) (hg : s₁.gens = #[])
    (ha : s₁.heap.get? a = some { cls := .type "list", data := .seq vs.toArray }) (hr : Room k callerA)
    (F : ∀ base : Heap, K.In base → base.Ns mainGlobals mg → FnG P w K mg base k fa fd [x] sp)
    (bind : ∀ (s : Shared) (u : Value), BindsTo s fd ⟨[u], []⟩ [(x, u)])
    (H : Hp) (only : Only H) (hsp : sp [.ref a] H (fun v _ => v = .bl true) E0)
    (ok : HOk P w H s₁.heap) (hA : ∀ b, H b ≠ none → b = a) (hK : H a ≠ none → K.lookup a = none) :
    codeAny (model P w) callerA (.call (.ref fa) ⟨[.ref a], []⟩)
      (fun r s' => r = .ok (.ret (.bool true)) ∧ OldK s₁.heap s'.heap ∧ s'.os = s₁.os ∧ AllBare s'.gens) s₁ := by
  have untracked : ∀ {b : Addr} {o : Obj} {es : Array DictEntry} {ep : Nat},
      s₁.heap.get? b = some o → o.data = .dict es ep → H b = none := by
    intro b o es ep q d
    cases hb' : H b with
    | none => rfl
    | some u =>
      have q2 : b = a := hA b (by rw [hb']; exact fun z => nomatch z)
      subst q2
      have q3 := ha.symm.trans q
      cases q3
      exact nomatch (show Data.seq vs.toArray _ = Data.dict es ep from d)
  have nsB : ∀ {b : Addr} {m : Str → Option Value}, s₁.heap.Ns b m → (hidT s₁.heap H).Ns b m := by
    rintro b m ⟨o, es, ep, q, d, r⟩
    exact ⟨o, es, ep, hidT_get q (untracked q d), d, r⟩
  have inB : K.In (hidT s₁.heap H) := by
    intro b o q
    refine hidT_get (inK b o q) ?_
    cases hb' : H b with
    | none => rfl
    | some u =>
      have q2 : b = a := hA b (by rw [hb']; exact fun z => nomatch z)
      subst q2
      rw [hK (by rw [hb']; exact fun z => nomatch z)] at q
      exact nomatch q
  obtain ⟨mc, l1, l2⟩ := nolim
  have md : Mod K mg (hidT s₁.heap H) := ⟨inB, nsB hns, ⟨mb, nsB hb, hbb⟩, ⟨mc, nsB l1, l2⟩⟩
  have e0 : Env0 P w K mg (hidT s₁.heap H) callerA [] s₁ H :=
    ⟨rfl, md, fun b o q => of_hidT q, Nat.le_of_eq (hidT_size _ _), trivial,
      fun b z => absurd (show b ∈ ([] : List Addr) from z) (by simp), ok, .of_eq hg⟩
  refine codeAny_mono ((F _ inB (nsB hns)).go callerA [] s₁ H ⟨[.ref a], []⟩ [.ref a] [.ref a] _ rfl hr e0
    (bind s₁ (.ref a)) (.cons rfl .nil) hsp) ?_
  intro r s' h
  cases r with
  | error e => exact (show False from h).elim
  | ok fl =>
    cases fl with
    | next => exact h.elim
    | brk => exact h.elim
    | cont => exact h.elim
    | ret u =>
      obtain ⟨v, H', os, bare, un, ok', rv, q⟩ := h
      obtain rfl : v = V.bl true := q
      obtain rfl : u = Value.bool true := rv
      refine ⟨rfl, OldK.of_keep ?_, os, bare⟩
      intro b o q1
      cases hb' : H b with
      | none =>
        exact un.keep b o q1 hb' (fun z => absurd (show b ∈ ([] : List Addr) from z) (by simp)) (by simp)
      | some u =>
        rcases only b with z | ⟨ob, xs, z⟩
        · exact nomatch hb'.symm.trans z
        · obtain ⟨q2, _⟩ := ok b _ z
          obtain ⟨q3, _⟩ := ok' b _ (un.frzs b ob _ z)
          cases q1.symm.trans q2
          exact q3

theorem law_callG (inK : K.In s₁.heap) (hns : s₁.heap.Ns mainGlobals mg) (hb : s₁.heap.Ns builtinsNs mb)
    (hbb : ∀ x : Str, x ≠ "__name__" → mb x = bootBuiltins x) (nolim : s₁.heap.NoLimit) (hg : s₁.gens = #[])
    (ha : s₁.heap.get? a = some { cls := .type "list", data := .seq vs.toArray }) (hi : IntsAre vs ns)
    (hl : ns.length ≤ sizeLine) (hr : Room k callerA)
    (F : ∀ base : Heap, K.In base → base.Ns mainGlobals mg → FnG P w K mg base k fa fd [x] sp)
    (bind : ∀ (s : Shared) (u : Value), BindsTo s fd ⟨[u], []⟩ [(x, u)])
    (hsp : ∀ H : Hp, Only H → SqL K H a (ns.map V.int) → sp [.ref a] H (fun v _ => v = .bl true) E0) :
    codeAny (model P w) callerA (.call (.ref fa) ⟨[.ref a], []⟩)
      (fun r s' => r = .ok (.ret (.bool true)) ∧ OldK s₁.heap s'.heap ∧ s'.os = s₁.os ∧ AllBare s'.gens) s₁ := by
  have rv := vals_ints hi
  have lenV := hi.length
  cases hk : K.lookup a with
  | some o =>
    -- the script is one of the module's own objects
    cases ha.symm.trans (inK a o hk)
    have only : Only (fun _ => none) := fun _ => .inl rfl
    have sq : SqL K (fun _ => none) a (ns.map V.int) :=
      .inr ⟨_, vs.toArray, _, hk, rfl, rfl, rfl, by rw [List.size_toArray, lenV]; exact hl, by simpa using rv⟩
    refine law_core inK hns hb hbb nolim hg ha hr F bind _ only (hsp _ only sq) ?_ ?_ ?_
    · intro b u z
      exact nomatch (show (none : Option HO) = some u from z)
    · exact fun b z => absurd rfl z
    · exact fun z => absurd rfl z
  | none =>
    let Hs : Hp := fun b => if b = a then some (.frz { cls := .type "list", data := .seq vs.toArray } (.lst (ns.map V.int))) else none
    have at_a : Hs a = some (.frz { cls := .type "list", data := .seq vs.toArray } (.lst (ns.map V.int))) := if_pos rfl
    have else_ : ∀ b, b ≠ a → Hs b = none := fun b n => if_neg n
    have only : Only Hs := by
      intro b
      by_cases q : b = a
      · subst q; exact .inr ⟨_, _, at_a⟩
      · exact .inl (else_ b q)
    refine law_core inK hns hb hbb nolim hg ha hr F bind Hs only (hsp _ only (.inl (.inr ⟨_, at_a⟩))) ?_ ?_ ?_
    · intro b u z
      by_cases q : b = a
      · subst q
        cases at_a.symm.trans z
        exact ⟨ha, by rw [List.length_map]; exact hl, vs, _, rv, ha⟩
      · exact nomatch (else_ b q).symm.trans z
    · intro b z
      by_cases q : b = a
      · exact q
      · exact absurd (else_ b q) z
    · exact fun _ => hk
end

/-- the goal that the head leaves, from the law's promise -/
theorem walk_ofG {l : PySem.W.OpenLaw} {n k : Nat} {q : Program} {loose : List Str}
    {XP : (Str → Option Value) → Heap → Prop} {YP : World → Heap → Prop} {d : DefRec} {K : Params → PySem.W.Frag}
    {sp : PySem.W.Frag → Sp} {x : Str}
    (hn : l.most = some n) (hn2 : n ≤ sizeLine) (hdf : d.params.defaults = []) (hr : Room k callerA)
    (hY : ∀ (w : World) (h : Heap), YP w h → (K w.params).In h)
    (F : ∀ (w : World) (mg : Str → Option Value) (fa : Addr) (h : Heap), (K w.params).In h →
      h.Ns mainGlobals mg → mg d.name = some (.ref fa) →
      ∃ fd : FuncData, (∀ (s : Shared) (u : Value), BindsTo s fd ⟨[u], []⟩ [(x, u)]) ∧
        ∀ base : Heap, (K w.params).In base → base.Ns mainGlobals mg →
          FnG l.prog w (K w.params) mg base k fa fd [x] (sp (K w.params)))
    (hsp : ∀ (K : PySem.W.Frag) (H : Hp) (a : Addr) (ns : List Int), ns.length ≤ n → Only H →
      SqL K H a (ns.map V.int) → sp K [.ref a] H (fun v _ => v = .bl true) E0) :
    PySem.W.WalkO q loose XP YP l.row.toRowW d [] (fun f vs => PySem.call f vs) := by
  refine Att.attach_call hn hdf ?_
  intro w s₀ s₁ mg mb fa o pm cd doc a vs ns G Y ho hd hcd hmg hobj hints hlen hg
  have inK := hY w _ Y
  obtain ⟨fd, bind, hF⟩ := F w mg fa _ inK G.T.g hmg
  exact law_callG inK G.T.g G.T.b G.T.builtins G.T.nolimit hg hobj hints (Nat.le_trans hlen hn2) hr hF bind
    (fun H hO hS => hsp (K w.params) H a ns hlen hO hS)
end L2.Gd
end

section
set_option Elab.async false
set_option linter.all false
set_option maxRecDepth 100000
set_option maxHeartbeats 2000000
namespace L2.Gd
open PySem PySem.Spec PyProof.Rows

/-- a list or a tuple of plain data: what is told of it fits -/
def Showy (d : PyData) : Prop := d.showable = true ∧ d.hasDict = false ∧ d.depth ≤ 20 ∧ d.shown.length ≤ sizeLine
section
variable {X : Cx} {pins : List (Addr × Obj)} {σ : St} {H : Hp} {s : Shared}
theorem reprObj_D {A : Around} (I : Inv X pins σ H s) (hg : A.guards = some []) (hu : A.units + 64 < cLine) {a : Addr} {d : PyData}
    (hd : Dp X.K H (.ref a) d) (hs : Showy d) {Q : Value → Shared → Prop} {E : Value → Shared → Prop}
    (h : ∀ s' u, Inv X pins σ H s' → Q (.str d.shown u) s') :
    wpAny (model X.prog X.w) A (pyReprObj (.ref a)) Q E s := by
  obtain ⟨as, r⟩ := Dp.reads I d _ _ hd rfl
  obtain ⟨h1, h2, h3, h4⟩ := hs
  refine pyReprObj_of_reads r h1 (PyData.noDict_hsm h2) hg (by omega) (fun _ _ q => q) ?_ h4
  intro h' u tk k
  exact h _ u (I.kept k)
end
section
variable {X : Cx}
/-- repr(x), x a list or a tuple of plain data -/
theorem call_reprD (hg : X.A.guards = some []) (hu : X.A.units + 64 < cLine) :
    CallR X (.builtin "repr") (fun xs H Q => ∃ a d, xs = [.ref a] ∧ Dp X.K H (.ref a) d ∧ Showy d ∧ Q (.str d.shown) H) := by
  rintro pins s σ H xs us Q I r ⟨a, d, rfl, hd, ⟨h1, h2, h3, h4⟩, q⟩
  cases r with
  | cons r1 r2 =>
    cases r2
    obtain rfl := r1
    obtain ⟨as, rd⟩ := Dp.reads I d _ _ hd rfl
    refine repr_of_reads' rd h1 (PyData.noDict_hsm h2) hg (by omega) (fun _ _ q => q) ?_ h4
    intro h' u tk k
    exact ⟨.str d.shown, H, I.kept k, ⟨_, rfl⟩, q⟩
/-- {x!r} of such -/
theorem pe_fmtRD {e : Expr} {te : TE} {pos : Pos} (hg : X.A.guards = some []) (hu : X.A.units + 64 < cLine) (he : PE X e te) :
    PE X (.FormattedValue e 114 none pos) (fun σ H Q => te σ H fun x H1 => ∃ a d, x = .ref a ∧ Dp X.K H1 (.ref a) d ∧ Showy d ∧ Q (.str d.shown) H1) := by
  constructor
  intro pins s σ H Q I h
  refine wpAny_FormattedValue_repr (thn (he.run pins s σ H _ I h) ?_)
  rintro v s1 ⟨x, H1, I1, r1, a, d, rfl, hd, hs, q⟩
  obtain rfl := r1
  refine reprObj_D I1 hg hu hd hs ?_
  intro s' u I'
  exact wpAny_formatField_str ⟨.str d.shown, H1, I', ⟨u, rfl⟩, q⟩ ⟨.str d.shown, H1, I'.tok _, ⟨_, rfl⟩, q⟩ hs.2.2.2
end
end L2.Gd
end

section
set_option Elab.async false
set_option linter.all false
set_option maxRecDepth 100000
set_option maxHeartbeats 2000000
namespace L2.Gd
open PySem PySem.Spec PyProof.Rows

/-! ### a def's run, whatever it hands back (NotImplemented, too) -/
def RawEnd (R : Result → Shared → Prop) (fl : Flow) (s' : Shared) : Prop := match fl with
  | .ret u => R (.ok (.ret u)) s'
  | .next => R (.ok (.ret .none)) s'
  | _ => False
section
variable {P : Program} {w : World} {K : PySem.W.Frag} {mg : Str → Option Value} {base : Heap}
  {k : Nat} {f : Addr} {fd : FuncData} {ps N : List Str}

theorem raw_call {x qual : Str} {st : Stmt} (F : Fun K x qual st f fd) (S : FnScope N ps (defScope st))
    {A : Around} {outer : List Env} {s : Shared} {H : Hp} {args : Args} {us : List Value} {vs : List V}
    {R : Result → Shared → Prop} (hr : Room (k + 1) A) (e0 : Env0 P w K mg base A outer s H)
    (bind : BindsTo s fd args (ps.zip us)) (rv : Vals vs us) (hl : vs.length = ps.length)
    (body : ∀ (cdv : Value) (s1 : Shared),
      Inv (cxOf CX0 P w K mg base N qual (defScope st) f cdv A outer s H E0).nox [] (start N vs) H s1 →
      wpAny (model P w) (A.deeper (envOfC qual (defScope st) s.heap.objs.size f cdv))
        (execs (defBody st) (envOfC qual (defScope st) s.heap.objs.size f cdv)) (RawEnd R) (fun _ _ => False) s1) :
    codeAny (model P w) A (.call (.ref f) args) R s := by
  obtain ⟨oc, od, kV, doc, pm, an, cdv, ct, osl, rfl, there, code⟩ := F.ex
  have inK : K.In s.heap := e0.mod.kin.keeps (fun b o q => (e0.bs b o q).1)
  have nolim : s.heap.NoLimit := e0.mod.nolimit.keeps (fun b o q => (e0.bs b o q).1)
  have kinds : ∀ y ∈ ps.zip us, (defScope st).names.lookup y.1 = some .local ∨
      ((defScope st).names.lookup y.1 = some .cell ∧
        ((cellsFrom (s.heap.objs.size + 1) (defScope st).names []).lookup y.1).isSome = true) := by
    rintro ⟨n, v⟩ hy
    cases S.par n (List.of_mem_zip hy).1 with
    | inl q => exact .inl q
    | inr q => exact .inr ⟨q, PySem.W.cellsFrom_some _ _ _ (.inl q)⟩
  refine codeAny_call_function hr.depth (inK _ _ there) rfl S.co S.gen rfl
    (PySem.W.codeRec_of inK code) (bind _ _ _ _ ?_)
  refine wpAny_newFunctionEnv_cells S.kind kinds ?_
  intro env he s1 ic
  subst he
  refine ⟨nolim.keeps ic.toInCall.keep, codeAny_func ?_⟩
  have I := inv_start (CX := CX0) (P := P) (w := w) (mg := mg) (base := base) (E := E0) S hr.hd e0 hl rv ic
  refine wpAny_mono (body cdv s1 (I.wish _)) (fun fl s' z => ?_) (fun e s' z => z.elim)
  cases fl with
  | ret u => exact z
  | next => exact z
  | brk => exact z.elim
  | cont => exact z.elim
end

/-! ### == of an own class that answers NotImplemented -/
/-- the state behind it: nothing that was tracked has changed -/
def After (X : Cx) (pins : List (Addr × Obj)) (σ : St) (H : Hp) (s' : Shared) : Prop := ∃ H', Inv X pins σ H' s' ∧ Same H H'
/-- the own __eq__ at f, of the class at C, declines what is of another kind -/
def Declines (X : Cx) (C f : Addr) (D : V → Hp → Prop) : Prop :=
  ∀ (pins : List (Addr × Obj)) (s : Shared) (σ : St) (H : Hp) (x : Addr) (y : V) (v : Value) (dx : Addr) (fs : List (Str × V)),
    Inv X pins σ H s → H x = some (.ins C dx fs) → RelV y v → D y H →
    wpAny (model X.prog X.w) X.A (call (.ref f) [.ref x, v]) (fun r s' => r = .notImplemented ∧ After X pins σ H s') (fun _ _ => False) s

section
variable {X : Cx} {C f : Addr}
theorem wpAny_noE {M : Model} {A : Around} {α : Type} {t : Sem α} {Q : α → Shared → Prop} {E : Value → Shared → Prop} {s : Shared}
    (h : wpAny M A t Q (fun _ _ => False) s) : wpAny M A t Q E s := wpAny_mono h (fun _ _ z => z) (fun _ _ z => z.elim)

/-- the value on the right: its type, and what its own == says of an instance -/
structure OtherKind (X : Cx) (C : Addr) (y : V) (tb : Value) (D : V → Hp → Prop) : Prop where
  ne : (tb == .ref C) = false
  sub : PySem.W.subIn X.K tb (.ref C) = some false
  ty : ∀ (pins : List (Addr × Obj)) (s : Shared) (σ : St) (H : Hp) (v : Value), Inv X pins σ H s → RelV y v → D y H →
    PySem.W.Looks (model X.prog X.w) s.heap (typeOf v) tb
  dec : ∀ (A : Around) (pins : List (Addr × Obj)) (s : Shared) (σ : St) (H : Hp) (x : Addr) (v : Value) (dx : Addr) (fs : List (Str × V)) (Q : Option Value → Shared → Prop) (E : Value → Shared → Prop),
    A.units + 8 < cLine → Inv X pins σ H s → RelV y v → D y H → H x = some (.ins C dx fs) → (∀ s', Inv X pins σ H s' → Q none s') →
    wpAny (model X.prog X.w) A (tryCompare v "__eq__" (.ref x)) Q E s
  mono : ∀ (H H' : Hp), Same H H' → D y H → D y H'
  notSame : ∀ (pins : List (Addr × Obj)) (s : Shared) (σ : St) (H : Hp) (x : Addr) (v : Value) (dx : Addr) (fs : List (Str × V)) (A : Around) (Q : Bool → Shared → Prop) (E : Value → Shared → Prop),
    Inv X pins σ H s → RelV y v → D y H → H x = some (.ins C dx fs) → Q false s → wpAny (model X.prog X.w) A (isSame (.ref x) v) Q E s

/-- x == y, x an instance of the class at C, y of another kind: False -/
theorem op_eqNI (hu : X.A.units + 64 < cLine) {DD : V → Hp → Prop} (hs : PySem.W.findIn X.K (.ref C) "__eq__" = some (some (.ref f)))
    (hf : PySem.W.isFn X.K (.ref f) = true) (dc : Declines X C f DD) :
    OpR X (compareOp .Eq) (fun x y H Q => ∃ (a dx : Addr) (fs : List (Str × V)) (tb : Value) (D : V → Hp → Prop),
      x = .ref a ∧ H a = some (.ins C dx fs) ∧ OtherKind X C y tb D ∧ D y H ∧ DD y H ∧ ∀ H', Same H H' → Q (.bl false) H') := by
  rintro pins s σ H x y u v Q I rx ry ⟨a, dx, fs, tb, D, rfl, ha, O, hD, hDD, q⟩
  obtain rfl := rx
  obtain ⟨mA, J, _⟩ := ins_get I.hok ha
  obtain ⟨od, J, _⟩ := J.look
  show wpAny _ _ (richCompare .Eq (.ref a) v) _ _ _
  unfold richCompare
  simp only [oneThing_ref]
  refine wpAny_holding (wpAny_bind (wpAny_cRoomFor (by omega) ?_))
  refine wpAny_bind (J.type.here (wpAny_bind ((O.ty pins s σ H v I ry hD).here ?_)))
  have ne : (Value.ref C != tb) = true := by
    have := O.ne
    rw [bne_comm, bne, this]
    rfl
  rw [if_pos ne]
  refine wpAny_bind ((PySem.W.looks_subIn I.kIn O.sub).here ?_)
  simp only [Bool.false_eq_true, if_false]
  have one : wpAny (model X.prog X.w) X.A (tryCompare (.ref a) (cmpInfo CmpOp.Eq).2.fst v)
      (fun r s' => r = none ∧ After X pins σ H s') X.xe s := by
    unfold tryCompare
    refine wpAny_bind (PySem.W.ifBound_K I.kIn J hs hf (wpAny_mono (wpAny_noE (dc pins s σ H a y v dx fs I ha ry hDD)) ?_ (fun _ _ z => z)))
    rintro r s' ⟨rfl, h⟩
    exact wpAny_pure ⟨rfl, h⟩
  refine wpAny_bind (thn one ?_)
  rintro r s1 ⟨rfl, H1, I1, sm⟩
  show wpAny _ _ (tryCompare v (cmpInfo CmpOp.Eq).2.snd (Value.ref a) >>= _) _ _ _
  refine wpAny_bind (O.dec X.A pins s1 σ H1 a v dx fs _ _ (by omega) I1 ry (O.mono _ _ sm hD) (sm _ _ ha) ?_)
  intro s2 I2
  show wpAny _ _ (rule "compare.eq-identity" >>= _) _ _ _
  refine wpAny_bind (wpAny_rule (wpAny_bind (O.notSame pins s2 σ H1 a v dx fs X.A _ _ I2 ry (O.mono _ _ sm hD) (sm _ _ ha) ?_)))
  exact wpAny_pure ⟨.bl false, H1, I2, rfl, q H1 sm⟩
end
end L2.Gd
end

section
set_option Elab.async false
set_option linter.all false
set_option maxRecDepth 100000
set_option maxHeartbeats 2000000
/-! What built-in values say of an instance of an own class: their own == declines. -/
namespace PySem.SeqAt
open AutoSeq1 (wpAny_loadPart')
open MeetsSeq
def NoSub (C : Addr) (T : String) (h : Heap) : Prop := ∀ M : Model, PySem.W.Looks M h (isSubtype (.ref C) (.type T)) false
theorem list_eq_ni (l x C dx : Addr) (items : Array Value) (n : Nat) (dd : Option Addr) (sl : Array (Option Value)) :
    Meets (Builtin.«list.__eq__» ⟨[.ref l, .ref x], []⟩) (fun _ R s =>
      s.heap.get? l = some { cls := .type "list", dict := dd, data := .seq items n, slots := sl } ∧
      s.heap.get? x = some (PySem.W.instObj C dx) ∧ NoSub C "list" s.heap ∧ R (.ok (.ret .notImplemented)) s) :=
  .of_wp fun prog w A R s h => by
    obtain ⟨hp, g, d, tk, os⟩ := s
    obtain ⟨hl, hx, ns, h⟩ := h
    wp_walk using wpAny_loadPart' hl
    refine (ns _).here ?_
    wp_walk
    exact ⟨_, rfl, h⟩
theorem tuple_eq_ni (l x C dx : Addr) (items : Array Value) (n : Nat) (dd : Option Addr) (sl : Array (Option Value)) :
    Meets (Builtin.«tuple.__eq__» ⟨[.ref l, .ref x], []⟩) (fun _ R s =>
      s.heap.get? l = some { cls := .type "tuple", dict := dd, data := .seq items n, slots := sl } ∧
      s.heap.get? x = some (PySem.W.instObj C dx) ∧ NoSub C "tuple" s.heap ∧ R (.ok (.ret .notImplemented)) s) :=
  .of_wp fun prog w A R s h => by
    obtain ⟨hp, g, d, tk, os⟩ := s
    obtain ⟨hl, hx, ns, h⟩ := h
    wp_walk using wpAny_loadPart' hl
    refine (ns _).here ?_
    wp_walk
    exact ⟨_, rfl, h⟩
theorem dict_eq_ni (l x C dx : Addr) (o : Obj) :
    Meets (Builtin.«dict.__eq__» ⟨[.ref l, .ref x], []⟩) (fun _ R s => s.heap.get? l = some o ∧ o.cls = .type "dict" ∧
      s.heap.get? x = some (PySem.W.instObj C dx) ∧ NoSub C "dict" s.heap ∧ R (.ok (.ret .notImplemented)) s) :=
  .of_wp fun prog w A R s h => by
    obtain ⟨hp, g, d, tk, os⟩ := s
    obtain ⟨hl, hc, hx, ns, h⟩ := h
    wp_walk using wpAny_loadPart' hl
    refine (ns _).here ?_
    wp_walk
    exact ⟨_, rfl, h⟩
theorem int_eq_ni (b : Int) (u : Tok) (x C dx : Addr) :
    Meets (Builtin.«int.__eq__» ⟨[.int b u, .ref x], []⟩) (fun _ R s => s.heap.get? x = some (PySem.W.instObj C dx) ∧ R (.ok (.ret .notImplemented)) s) :=
  .of_wp fun prog w A R s h => by
    obtain ⟨hp, g, d, tk, os⟩ := s
    obtain ⟨hx, h⟩ := h
    wp_walk using wpAny_loadPart' hx, wpAny_load hx
    exact ⟨_, rfl, h⟩
theorem str_eq_ni (b : Str) (u : Tok) (x C dx : Addr) :
    Meets (Builtin.«str.__eq__» ⟨[.str b u, .ref x], []⟩) (fun _ R s => s.heap.get? x = some (PySem.W.instObj C dx) ∧ R (.ok (.ret .notImplemented)) s) :=
  .of_wp fun prog w A R s h => by
    obtain ⟨hp, g, d, tk, os⟩ := s
    obtain ⟨hx, h⟩ := h
    wp_walk using wpAny_loadPart' hx, wpAny_load hx
    exact ⟨_, rfl, h⟩
end PySem.SeqAt

namespace L2.Gd
open PySem PySem.Spec PyProof.Rows PySem.SeqAt
section
variable {X : Cx} {C : Addr}
/-- the class at C is of no built-in kind -/
structure NoKin (K : PySem.W.Frag) (C : Addr) : Prop where
  none : PySem.W.subIn K (.type "NoneType") (.ref C) = some false
  int : PySem.W.subIn K (.type "int") (.ref C) = some false
  str : PySem.W.subIn K (.type "str") (.ref C) = some false
  lst : PySem.W.subIn K (.type "list") (.ref C) = some false
  tup : PySem.W.subIn K (.type "tuple") (.ref C) = some false
  dct : PySem.W.subIn K (.type "dict") (.ref C) = some false
  lst' : PySem.W.subIn K (.ref C) (.type "list") = some false
  tup' : PySem.W.subIn K (.ref C) (.type "tuple") = some false
  dct' : PySem.W.subIn K (.ref C) (.type "dict") = some false
theorem noSub_of {pins : List (Addr × Obj)} {σ : St} {H : Hp} {s : Shared} {T : String} (I : Inv X pins σ H s)
    (h : PySem.W.subIn X.K (.ref C) (.type T) = some false) : NoSub C T s.heap := fun _ => PySem.W.looks_subIn I.kIn h

theorem kind_none (nk : NoKin X.K C) : OtherKind X C .non (.type "NoneType") (fun _ _ => True) where
  ne := rfl
  sub := nk.none
  ty := by
    intro pins s σ H v I rv _
    obtain rfl := rv
    exact .now
  dec := by
    intro A pins s σ H x v dx fs Q E hu I rv _ hx k
    obtain rfl := rv
    exact wpAny_tryCompare_declines (T := "NoneType") rfl F.slot_NoneType_eq
      (call_gives F.slot_NoneType_eq rfl F.entry_NoneType_eq (F.args_NoneType_eq_2 _ _) (NoneType___eq___none_ref_0 x) ⟨rfl, k _ I⟩)
  mono := fun _ _ _ h => h
  notSame := by
    intro pins s σ H x v dx fs A Q E I rv _ hx q
    obtain rfl := rv
    exact wpAny_of_eq (rfl : isSame (.ref x) .none = pure false) q
theorem kind_int (i : Int) (nk : NoKin X.K C) : OtherKind X C (.int i) (.type "int") (fun _ _ => True) where
  ne := rfl
  sub := nk.int
  ty := by
    intro pins s σ H v I rv _
    obtain ⟨t, rfl⟩ := rv
    exact .now
  dec := by
    intro A pins s σ H x v dx fs Q E hu I rv _ hx k
    obtain ⟨t, rfl⟩ := rv
    obtain ⟨mA, J, _⟩ := ins_get I.hok hx
    exact wpAny_tryCompare_declines (T := "int") (typeIs_int _ _ _) F.slot_int_eq
      (call_meets F.slot_int_eq (typeIs_int _ _ _) F.entry_int_eq (F.args_int_eq_2 _ _) (int_eq_ni i t x C dx) ⟨J.1, rfl, k _ I⟩)
  mono := fun _ _ _ h => h
  notSame := by
    intro pins s σ H x v dx fs A Q E I rv _ hx q
    obtain ⟨t, rfl⟩ := rv
    exact wpAny_of_eq (rfl : isSame (.ref x) (.int i t) = pure false) q
theorem kind_str (z : Str) (nk : NoKin X.K C) : OtherKind X C (.str z) (.type "str") (fun _ _ => True) where
  ne := rfl
  sub := nk.str
  ty := by
    intro pins s σ H v I rv _
    obtain ⟨t, rfl⟩ := rv
    exact .now
  dec := by
    intro A pins s σ H x v dx fs Q E hu I rv _ hx k
    obtain ⟨t, rfl⟩ := rv
    obtain ⟨mA, J, _⟩ := ins_get I.hok hx
    exact wpAny_tryCompare_declines (T := "str") (typeIs_str _ _ _) F.slot_str_eq
      (call_meets F.slot_str_eq (typeIs_str _ _ _) F.entry_str_eq (F.args_str_eq_2 _ _) (str_eq_ni z t x C dx) ⟨J.1, rfl, k _ I⟩)
  mono := fun _ _ _ h => h
  notSame := by
    intro pins s σ H x v dx fs A Q E I rv _ hx q
    obtain ⟨t, rfl⟩ := rv
    exact wpAny_of_eq (rfl : isSame (.ref x) (.str z t) = pure false) q
theorem kind_list (l : Addr) (nk : NoKin X.K C) : OtherKind X C (.ref l) (.type "list") (fun _ H => ∃ xs, H l = some (.lst xs)) where
  ne := rfl
  sub := nk.lst
  ty := by
    intro pins s σ H v I rv ⟨xs, hl⟩
    obtain rfl := rv
    obtain ⟨_, its, n, _, e⟩ := (show ObjOk X.prog X.w H s.heap l (.lst xs) from I.hok l _ hl)
    exact (PySem.W.Looks.ld (part := none) e).andThen .now
  dec := by
    intro A pins s σ H x v dx fs Q E hu I rv ⟨xs, hl⟩ hx k
    obtain rfl := rv
    obtain ⟨_, its, n, _, e⟩ := (show ObjOk X.prog X.w H s.heap l (.lst xs) from I.hok l _ hl)
    obtain ⟨mA, J, _⟩ := ins_get I.hok hx
    exact wpAny_tryCompare_declines (T := "list") ⟨_, e, rfl⟩ F.slot_list_eq
      (call_meets F.slot_list_eq ⟨_, e, rfl⟩ F.entry_list_eq (F.args_list_eq_2 _ _) (list_eq_ni l x C dx _ _ _ _) ⟨e, J.1, noSub_of I nk.lst', rfl, k _ I⟩)
  mono := fun _ _ sm ⟨xs, h⟩ => ⟨xs, sm _ _ h⟩
  notSame := by
    intro pins s σ H x v dx fs A Q E I rv ⟨xs, hl⟩ hx q
    obtain rfl := rv
    obtain ⟨_, its, n, _, e⟩ := (show ObjOk X.prog X.w H s.heap l (.lst xs) from I.hok l _ hl)
    obtain ⟨mA, J, _⟩ := ins_get I.hok hx
    exact wpAny_isSame_ref_other' (ne_of hx hl (by intro z; cases z)) J.1 e (show Value.type "list" ≠ Value.type "tuple" by decide) q
theorem same_left {M : Model} {A : Around} {E : Value → Shared → Prop} {s : Shared} {x y : Addr} {ox oy : Obj} {R : Bool → Shared → Prop} (ne : x ≠ y)
    (hx : s.heap.get? x = some ox) (hy : s.heap.get? y = some oy) (hnt : ox.cls ≠ .type "tuple") (h : R false s) :
    wpAny M A (isSame (.ref x) (.ref y)) R E s := by
  show wpAny M A (if (x == y) = true then pure true else _) R E s
  rw [if_neg (fun z => ne (beq_iff_eq.mp z))]
  refine wpAny_bind (wpAny_load hx (wpAny_bind (wpAny_load hy ?_)))
  split
  · rename_i _ h1 _ _ _
    exact absurd h1 hnt
  · exact wpAny_pure h
theorem kind_tup (l : Addr) (nk : NoKin X.K C) : OtherKind X C (.ref l) (.type "tuple") (fun _ H => ∃ xs, H l = some (.tup xs)) where
  ne := rfl
  sub := nk.tup
  ty := by
    intro pins s σ H v I rv ⟨xs, hl⟩
    obtain rfl := rv
    obtain ⟨_, its, _, o, e, c, n, hd⟩ := (show ObjOk X.prog X.w H s.heap l (.tup xs) from I.hok l _ hl)
    obtain ⟨cls, dd, data, sl⟩ := o
    simp only at c hd
    subst c hd
    exact (PySem.W.Looks.ld (part := none) e).andThen .now
  dec := by
    intro A pins s σ H x v dx fs Q E hu I rv ⟨xs, hl⟩ hx k
    obtain rfl := rv
    obtain ⟨_, its, _, o, e, c, n, hd⟩ := (show ObjOk X.prog X.w H s.heap l (.tup xs) from I.hok l _ hl)
    obtain ⟨cls, dd, data, sl⟩ := o
    simp only at c hd
    subst c hd
    obtain ⟨mA, J, _⟩ := ins_get I.hok hx
    exact wpAny_tryCompare_declines (T := "tuple") ⟨_, e, rfl⟩ F.slot_tuple_eq
      (call_meets F.slot_tuple_eq ⟨_, e, rfl⟩ F.entry_tuple_eq (F.args_tuple_eq_2 _ _) (tuple_eq_ni l x C dx _ _ _ _) ⟨e, J.1, noSub_of I nk.tup', rfl, k _ I⟩)
  mono := fun _ _ sm ⟨xs, h⟩ => ⟨xs, sm _ _ h⟩
  notSame := by
    intro pins s σ H x v dx fs A Q E I rv ⟨xs, hl⟩ hx q
    obtain rfl := rv
    obtain ⟨_, its, _, o, e, c, n, hd⟩ := (show ObjOk X.prog X.w H s.heap l (.tup xs) from I.hok l _ hl)
    obtain ⟨mA, J, _⟩ := ins_get I.hok hx
    exact same_left (ne_of hx hl (by intro z; cases z)) J.1 e (by intro z; cases z) q
theorem kind_dict (l : Addr) (nk : NoKin X.K C) : OtherKind X C (.ref l) (.type "dict") (fun _ H => ∃ kvs, H l = some (.dK kvs)) where
  ne := rfl
  sub := nk.dct
  ty := by
    intro pins s σ H v I rv ⟨kvs, hl⟩
    obtain rfl := rv
    obtain ⟨_, _, vs, _, o, es, ep, e, c, _⟩ := (show ObjOk X.prog X.w H s.heap l (.dK kvs) from I.hok l _ hl)
    have c1 : o.cls = .type "dict" := c.1
    obtain ⟨cls, dd, data, sl⟩ := o
    simp only at c1
    subst c1
    exact (PySem.W.Looks.ld (part := none) e).andThen .now
  dec := by
    intro A pins s σ H x v dx fs Q E hu I rv ⟨kvs, hl⟩ hx k
    obtain rfl := rv
    obtain ⟨_, _, vs, _, o, es, ep, e, c, _⟩ := (show ObjOk X.prog X.w H s.heap l (.dK kvs) from I.hok l _ hl)
    obtain ⟨mA, J, _⟩ := ins_get I.hok hx
    exact wpAny_tryCompare_declines (T := "dict") ⟨_, e, c.1⟩ F.slot_dict_eq
      (call_meets F.slot_dict_eq ⟨_, e, c.1⟩ F.entry_dict_eq (F.args_dict_eq_2 _ _) (dict_eq_ni l x C dx o) ⟨e, c.1, J.1, noSub_of I nk.dct', rfl, k _ I⟩)
  mono := fun _ _ sm ⟨xs, h⟩ => ⟨xs, sm _ _ h⟩
  notSame := by
    intro pins s σ H x v dx fs A Q E I rv ⟨kvs, hl⟩ hx q
    obtain rfl := rv
    obtain ⟨_, _, vs, _, o, es, ep, e, c, _⟩ := (show ObjOk X.prog X.w H s.heap l (.dK kvs) from I.hok l _ hl)
    obtain ⟨mA, J, _⟩ := ins_get I.hok hx
    exact same_left (ne_of hx hl (by intro z; cases z)) J.1 e (by intro z; cases z) q
end
end L2.Gd
end

section
set_option Elab.async false
set_option linter.all false
set_option maxRecDepth 100000
set_option maxHeartbeats 2000000
/-! == and != of two instances of an own class that has an __eq__ alone. -/
namespace L2.Gd
open PySem PySem.Spec PyProof.Rows
section
variable {X : Cx} {C f N : Addr} {n : Nat} {fd : FuncData} {ps : List Str} {sp : Sp}

/-- the callee runs, somewhere below the body -/
theorem run_at (F : FnOk X.prog X.w X.K X.mg X.base CX0 n f fd ps sp) (hb : Binds X.K fd ps []) {A : Around} (sb : Sub X n A)
    {pins : List (Addr × Obj)} {σ : St} {H : Hp} {s : Shared} {Q : VK} {us : List Value} {vs : List V}
    (I : Inv X pins σ H s) (r : Vals vs us) (h : sp vs H Q E0) {E : Value → Shared → Prop} :
    wpAny (model X.prog X.w) A (call (.ref f) us) (EP X pins σ Q) E s := by
  have e := I.env0
  have e0 : Env0 X.prog X.w X.K X.mg X.base A X.stack s H := ⟨sb.fr.trans e.frames, e.mod, e.bs, e.bsz, e.funs, e.frf, e.hok, e.bare⟩
  have hl : (us ++ []).length = ps.length := by
    rw [List.append_nil, ← r.length]
    exact F.len _ _ _ _ h
  have hb2 := hb s us I.kIn hl
  rw [List.append_nil] at hb2
  refine wpAny_call (codeAny_mono (F.run A X.stack s H ⟨us, []⟩ us vs Q E0 sb.room e0 hb2 r h) ?_)
  intro res s' hq
  cases res with
  | error er => exact (show False from hq).elim
  | ok fl =>
    cases fl with
    | ret u => exact I.after hq
    | next => exact hq.elim
    | brk => exact hq.elim
    | cont => exact hq.elim

theorem binds2 (hb : Binds X.K fd ps []) : Binds X.K fd ps [] := hb

/-- x == y, two instances of the class at C -/
theorem op_eqOwn (hr : Room n X.A) (F : FnOk X.prog X.w X.K X.mg X.base CX0 n f fd ps sp) (hb : Binds X.K fd ps [])
    (hs : PySem.W.findIn X.K (.ref C) "__eq__" = some (some (.ref f))) (hf : PySem.W.isFn X.K (.ref f) = true) :
    OpR X (compareOp .Eq) (fun x y H Q => ∃ (a b dx dy : Addr) (fs gs : List (Str × V)), x = .ref a ∧ y = .ref b ∧
      H a = some (.ins C dx fs) ∧ H b = some (.ins C dy gs) ∧ sp [.ref a, .ref b] H (fun v H' => (∃ k, v = .bl k) ∧ Q v H') E0) := by
  rintro pins s σ H x y u v Q I rx ry ⟨a, b, dx, dy, fs, gs, rfl, rfl, ha, hb', h⟩
  obtain rfl := rx
  obtain rfl := ry
  obtain ⟨mA, J, _⟩ := ins_get I.hok ha
  obtain ⟨mB, J', _⟩ := ins_get I.hok hb'
  obtain ⟨od, J, _⟩ := J.look
  obtain ⟨od', J', _⟩ := J'.look
  obtain ⟨m, fr⟩ := I.fr
  show wpAny _ _ (richCompare .Eq (.ref a) (.ref b)) _ _ _
  refine PySem.W.cmp_K (op := .Eq) (tb := .ref C) hr.units0 fr I.ok.mod.kin J J'.type (by simp [PySem.W.notFirst]) hs hf ?_
  refine thn (run_at (us := [.ref a, .ref b]) (vs := [.ref a, .ref b]) F hb ⟨hr, rfl⟩ I (.cons rfl (.cons rfl .nil)) h) ?_
  rintro r s' ⟨z, H', I', rz, ⟨k, rfl⟩, q⟩
  obtain rfl := rz
  exact ⟨.bl k, H', I', rfl, q⟩

/-- what the text's class must have for != by its own == -/
structure NeC (K : PySem.W.Frag) (C f N : Addr) : Prop where
  cls : ∃ nm q bs sn sub ab col dd k0 k1 k2 k3 k5 newId, K.lookup C = some (excClassObj nm q C N bs [.type "object"] true sn sub ab col dd k0 k1 k2 k3 k5 newId)
  ok : PySem.W.nsOkIn K N = true
  eq : PySem.W.nsIn K N "__eq__" = some (some (.ref f))
  ne : PySem.W.nsIn K N "__ne__" = some none
  fn : ∃ o, K.lookup f = some o ∧ o.cls = .type "function"

theorem ns_some {K : PySem.W.Frag} {h : Heap} {N : Addr} {m : Str → Option Value} {x : Str} {v : Value} (k : K.In h) (G : h.Ns N m)
    (e : PySem.W.nsIn K N x = some (some v)) : m x = some v := by
  obtain ⟨o, es, ep, ho, hd, _, hf⟩ := G
  unfold PySem.W.nsIn at e
  split at e
  · rename_i c d es' n' sl q
    cases ho.symm.trans (k _ _ q)
    cases hd
    split at e
    · rename_i en he
      cases e
      rw [← hf]
      unfold nsFind findBy
      rw [← Array.find?_toList, he]
      rfl
    · split at e
      · cases e
      · cases e
  · cases e
theorem NeC.heap {K : PySem.W.Frag} {h : Heap} (c : NeC K C f N) (k : K.In h) {x : Addr} {o : Obj} (hx : h.get? x = some o) (hc : o.cls = .ref C) :
    h.OwnEqNoNe x C f "object" [.type "object"] := by
  obtain ⟨nm, q, bs, sn, sub, ab, col, dd, k0, k1, k2, k3, k5, newId, hC⟩ := c.cls
  obtain ⟨of, hf, ft⟩ := c.fn
  have ns := Heap.Ns.of_isNs (PySem.W.isNs_of_in k c.ok)
  exact ⟨o, of, nm, q, N, bs, true, sn, sub, ab, col, dd, k0, k1, k2, k3, k5, newId, _, _, hx, hc, k _ _ hC, ns,
    ns_some k ns c.eq, k _ _ hf, ft, PySem.F.cmp_object.mro, PySem.F.cmp_object.eq.lookup, PySem.W.nsMap_none_of_in k c.ok c.ne⟩

/-- x != y -/
theorem op_neOwn (hr : Room (n + 1) X.A) (F : FnOk X.prog X.w X.K X.mg X.base CX0 n f fd ps sp) (hb : Binds X.K fd ps []) (c : NeC X.K C f N) :
    OpR X (compareOp .NotEq) (fun x y H Q => ∃ (a b dx dy : Addr) (fs gs : List (Str × V)), x = .ref a ∧ y = .ref b ∧
      H a = some (.ins C dx fs) ∧ H b = some (.ins C dy gs) ∧
      sp [.ref a, .ref b] H (fun v H' => ∃ k, v = .bl k ∧ Q (.bl (!k)) H') E0) := by
  rintro pins s σ H x y u v Q I rx ry ⟨a, b, dx, dy, fs, gs, rfl, rfl, ha, hb', h⟩
  obtain rfl := rx
  obtain rfl := ry
  obtain ⟨mA, J, _⟩ := ins_get I.hok ha
  obtain ⟨mB, J', _⟩ := ins_get I.hok hb'
  show wpAny _ _ (richCompare .NotEq (.ref a) (.ref b)) _ _ _
  obtain ⟨hp, g, d, t, os⟩ := s
  refine richCompare_ne_ownEq PySem.F.cmp_object (c.heap I.kIn J.1 rfl) J'.1 rfl (by have := hr.units; omega) ?_
  refine thn (run_at (us := [.ref a, .ref b]) (vs := [.ref a, .ref b]) F hb (A := X.A.in1) ⟨hr.in1, rfl⟩ I (.cons rfl (.cons rfl .nil)) h) ?_
  rintro r s' ⟨z, H', I', rz, k, rfl, q⟩
  obtain rfl := rz
  exact ⟨k, rfl, .bl (!k), H', I', rfl, q⟩
end
end L2.Gd
end

section
set_option Elab.async false
set_option linter.all false
set_option maxRecDepth 100000
set_option maxHeartbeats 2000000
namespace L2.Gd
open PySem PySem.Spec PyProof.Rows
section
variable {X : Cx} {k : Nat} {f C : Addr} {fd : FuncData} {ps ks : List Str} {sp : Sp} {x m : Str} {p pos apos : Pos}
  {o : Expr} {kws : List Keyword} {ta tk : TE} {tks : TA} {g : List Value → List Value → List Value} {gV : List V → List V → List V}
/-- a call with keywords alone of a def: it binds by KBn -/
theorem run_kw {pins : List (Addr × Obj)} {σ : St} {H : Hp} {s : Shared} {Q : VK} {us ws : List Value} {vs zs : List V} {n : Nat}
    (F : FnOk X.prog X.w X.K X.mg X.base CX0 k f fd ps sp) (hr : Room k X.A) (hb : KBn X.K fd ps n ks g gV)
    (I : Inv X pins σ H s) (r : Vals vs us) (rz : Vals zs ws) (l1 : vs.length = n) (l2 : zs.length = ks.length)
    (h : sp (gV vs zs) H Q E0) : wpAny (model X.prog X.w) X.A (call (.ref f) us (ks.zip ws)) (EP X pins σ Q) X.xe s := by
  have n1 : us.length = n := r.length.symm.trans l1
  have n2 : ws.length = ks.length := rz.length.symm.trans l2
  refine wpAny_call (codeAny_mono (F.run X.A X.stack s H ⟨us, ks.zip ws⟩ (g us ws) (gV vs zs) Q E0 hr I.env0
    (hb.to s us ws I.kIn n1 n2) (hb.rel r rz) h) ?_)
  intro res s' hq
  cases res with
  | error er => exact (show False from hq).elim
  | ok fl =>
    cases fl with
    | ret u => exact I.after hq
    | next => exact hq.elim
    | brk => exact hq.elim
    | cont => exact hq.elim
/-- o.m(k = v, ..), o an instance of the class at C -/
def tMethK (C : Addr) (m : Str) (n : Nat) (sp : Sp) (gV : List V → List V → List V) (ta : TE) (tk : TA) : TE := fun σ H Q =>
  ta σ H fun x H1 => ∃ a dx fs, x = .ref a ∧ H1 a = some (.ins C dx fs) ∧ fs.lookup m = none ∧
    tk σ H1 fun zs H2 => zs.length = n ∧ sp (gV [x] zs) H2 Q E0
theorem pe_methK0 {pl : Sem Bool} (he : PE X o ta) (c : Cls X.K C) (hm : Meth X.K C m f)
    (F : FnOk X.prog X.w X.K X.mg X.base CX0 k f fd ps sp) (hr : Room k X.A) (hb : KBn X.K fd ps 1 ks g gV) (hkw : PK X kws tks)
    (hall : (backToKw pos (keywordEach kws X.env)).all (·.1.isSome) = true := by rfl)
    (hks : (backToKw pos (keywordEach kws X.env)).filterMap (·.1) = ks := by rfl)
    (hpl : ((backTo pos (starEach [] X.env)).any (·.1) || (backToKw pos (keywordEach kws X.env)).any (·.1.isNone)) = false := by rfl)
    (ht : eval (.Call (.Attribute o m apos) [] kws pos) X.env = (do
      let ov ← eval o X.env
      standAt apos.atName
      let (f, first) ← holding [ov] (getMethod ov m pl)
      callWith pos f first (backTo pos (starEach [] X.env))
        (backToKw pos (keywordEach kws X.env))) := by rfl) :
    PE X (.Call (.Attribute o m apos) [] kws pos) (tMethK C m ks.length sp gV ta tks) := by
  constructor
  intro pins s σ H Q I h
  refine PySem.W.methodCall_KW (pl := pl) (thn (he.run pins s σ H _ I h) ?_) ht
  rintro u s1 ⟨x, H1, I1, rx, a, dx, fs, rfl, ea, l, q⟩
  obtain rfl := rx
  refine getmeth_ok I1 ea c hm l ?_
  refine PySem.W.callWith_KW0 (first := [.ref a]) (h₀ := X.base) I.ok.mod.kin hm.kp hall ?_ hpl
  refine thn (hkw.run pos pins s1 σ H1 _ I1 q) ?_
  rintro ws s2 ⟨zs, H2, I2, rz, l2, q2⟩
  refine ⟨I2.kIn, ?_⟩
  rw [hks]
  have r1 : Vals [V.ref a] [Value.ref a] := .cons rfl .nil
  exact run_kw (us := [Value.ref a]) (vs := [V.ref a]) F hr hb I2 r1 rz rfl l2 q2
end
end L2.Gd
end

section
set_option Elab.async false
set_option linter.all false
set_option maxRecDepth 100000
set_option maxHeartbeats 2000000
namespace L2.K73
open PySem PySem.Spec PyProof.Rows
def top (i : Nat) : Stmt := PySem.Challenge.pw_lonetill_k73_lids_floors_and_strips.main.body.getD i (.Pass ⟨0, 0, 0, 0⟩)
abbrev sIsInt : Stmt := top 2
abbrev sIsCount : Stmt := top 3
abbrev sIsList : Stmt := top 4
abbrev sIsDeed : Stmt := top 40
abbrev sCheck : Stmt := top 41
abbrev cHouse (i : Nat) : Stmt := inClass (top 42) i

/-- built-in names that the module leaves alone -/
structure Nm (mg : Str → Option Value) : Prop where
  isi : mg "isinstance" = none
  int : mg "int" = none
  bool : mg "bool" = none
  list : mg "list" = none
  tuple : mg "tuple" = none
  str : mg "str" = none
  len : mg "len" = none
  all : mg "all" = none
  any : mg "any" = none
  enumerate : mg "enumerate" = none
  range : mg "range" = none
  sorted : mg "sorted" = none
  abs : mg "abs" = none
  max : mg "max" = none
  min : mg "min" = none
  repr : mg "repr" = none
  divmod : mg "divmod" = none
  ni : mg "NotImplemented" = none

/-! ### deeds -/
structure Dd where
  p : Int
  c : Int
  g : Int
  w : Str
  deriving DecidableEq
def Dd.vs (x : Dd) : List V := [.int x.p, .int x.c, .int x.g, .str x.w]
def Dd.d (x : Dd) : PyData := .tuple [.int x.p, .int x.c, .int x.g, .str x.w]
structure Dd.Ok (n : Int) (x : Dd) : Prop where
  p0 : 0 ≤ x.p
  pn : x.p < n
  g0 : 0 ≤ x.g
  gn : x.g < n
  w : (x.w = "any" ∧ -1 ≤ x.c ∧ x.c ≤ 1) ∨ (x.w = "empty" ∧ 0 ≤ x.c ∧ x.c ≤ 1)
def DdAt (H : Hp) (v : V) (x : Dd) : Prop := ∃ t, v = .ref t ∧ H t = some (.tup x.vs)

section
variable {P : Program} {w : World} {K : PySem.W.Frag} {mg : Str → Option Value} {base : Heap}

/-- what isinstance(x, T) asks, T a built-in type -/
theorem isi_mk {H : Hp} {v : V} {t T : String} {b : Bool} {Q : VK} (h : TyX K H v (.type t)) (e : kitB t T = some b) (q : Q (.bl b) H) :
    rIsi K [v, .ty T] H Q := ⟨_, _, _, _, b, rfl, .ty _, h, kit_ty e, q⟩
def tIsi (K : PySem.W.Frag) (te : TE) (T : String) : TE := fun σ H Q => te σ H fun v H1 => rIsi K [v, .ty T] H1 Q
theorem blT {p : Prop} [Decidable p] {Q : VK} {H : Hp} (h : p) (k : Q (.bl true) H) : Q (.bl (decide p)) H := by
  rw [decide_eq_true h]
  exact k
theorem blF {p : Prop} [Decidable p] {Q : VK} {H : Hp} (h : ¬ p) (k : Q (.bl false) H) : Q (.bl (decide p)) H := by
  rw [decide_eq_false h]
  exact k
theorem blNT {p : Prop} [Decidable p] {Q : VK} {H : Hp} (h : ¬ p) (k : Q (.bl true) H) : Q (.bl (!decide p)) H := by
  rw [decide_eq_false h]
  exact k
theorem blNF {p : Prop} [Decidable p] {Q : VK} {H : Hp} (h : p) (k : Q (.bl false) H) : Q (.bl (!decide p)) H := by
  rw [decide_eq_true h]
  exact k
section
variable {X : Cx} {e : Expr} {te : TE} {p q pos : Pos}
theorem pe_isInt (n : Nm X.mg) (he : PE X e te) (g1 : Gl X "isinstance" := by rfl) (g2 : Gl X "int" := by rfl)
    (s1 : starEach [e, .Name "int" q] X.env = (false, eval e X.env) :: starEach [.Name "int" q] X.env := by rfl)
    (s2 : starEach [.Name "int" q] X.env = (false, eval (.Name "int" q) X.env) :: starEach [] X.env := by rfl)
    (hpl : (backTo pos (starEach [.Name "int" q] X.env)).any (·.1) = false := by rfl) :
    PE X (.Call (.Name "isinstance" p) [e, .Name "int" q] [] pos) (tIsi X.K te "int") :=
  pe_callB call_isi g1 n.isi (by decide +kernel) (pa_cons he (pa_cons (pe_bltn (v := .ty "int") g2 n.int (by decide +kernel) rfl) pa_nil s2) s1) (he := s1) (hpl := hpl)
theorem pe_isBool (n : Nm X.mg) (he : PE X e te) (g1 : Gl X "isinstance" := by rfl) (g2 : Gl X "bool" := by rfl)
    (s1 : starEach [e, .Name "bool" q] X.env = (false, eval e X.env) :: starEach [.Name "bool" q] X.env := by rfl)
    (s2 : starEach [.Name "bool" q] X.env = (false, eval (.Name "bool" q) X.env) :: starEach [] X.env := by rfl)
    (hpl : (backTo pos (starEach [.Name "bool" q] X.env)).any (·.1) = false := by rfl) :
    PE X (.Call (.Name "isinstance" p) [e, .Name "bool" q] [] pos) (tIsi X.K te "bool") :=
  pe_callB call_isi g1 n.isi (by decide +kernel) (pa_cons he (pa_cons (pe_bltn (v := .ty "bool") g2 n.bool (by decide +kernel) rfl) pa_nil s2) s1) (he := s1) (hpl := hpl)
theorem pe_isTuple (n : Nm X.mg) (he : PE X e te) (g1 : Gl X "isinstance" := by rfl) (g2 : Gl X "tuple" := by rfl)
    (s1 : starEach [e, .Name "tuple" q] X.env = (false, eval e X.env) :: starEach [.Name "tuple" q] X.env := by rfl)
    (s2 : starEach [.Name "tuple" q] X.env = (false, eval (.Name "tuple" q) X.env) :: starEach [] X.env := by rfl)
    (hpl : (backTo pos (starEach [.Name "tuple" q] X.env)).any (·.1) = false := by rfl) :
    PE X (.Call (.Name "isinstance" p) [e, .Name "tuple" q] [] pos) (tIsi X.K te "tuple") :=
  pe_callB call_isi g1 n.isi (by decide +kernel) (pa_cons he (pa_cons (pe_bltn (v := .ty "tuple") g2 n.tuple (by decide +kernel) rfl) pa_nil s2) s1) (he := s1) (hpl := hpl)
theorem pe_isStr (n : Nm X.mg) (he : PE X e te) (g1 : Gl X "isinstance" := by rfl) (g2 : Gl X "str" := by rfl)
    (s1 : starEach [e, .Name "str" q] X.env = (false, eval e X.env) :: starEach [.Name "str" q] X.env := by rfl)
    (s2 : starEach [.Name "str" q] X.env = (false, eval (.Name "str" q) X.env) :: starEach [] X.env := by rfl)
    (hpl : (backTo pos (starEach [.Name "str" q] X.env)).any (·.1) = false := by rfl) :
    PE X (.Call (.Name "isinstance" p) [e, .Name "str" q] [] pos) (tIsi X.K te "str") :=
  pe_callB call_isi g1 n.isi (by decide +kernel) (pa_cons he (pa_cons (pe_bltn (v := .ty "str") g2 n.str (by decide +kernel) rfl) pa_nil s2) s1) (he := s1) (hpl := hpl)
end

theorem yes_ite {σ : L2.St} {H : Hp} {A B : Hp → Prop} (h : A H) : tYes σ H (fun b H3 => if b = true then A H3 else B H3) := by
  show if true = true then A H else B H
  exact iteT h
def spIsInt : Sp := fun vs H Q _ => ∃ i, vs = [.int i] ∧ Q (.bl true) H
theorem scI : FnScope ["value"] ["value"] (defScope sIsInt) := ⟨rfl, rfl, rfl, by decide +kernel, rfl, by decide +kernel, by decide +kernel⟩
theorem ok_isInt {f : Addr} {fd : FuncData} (F : Fun K "is_integer" "is_integer" sIsInt f fd) (n : Nm mg) : FnOk P w K mg base CX0 1 f fd ["value"] spIsInt := by
  refine F.ok scI (fun vs H Q E h => ?_) (fun cdv A outer s H vs Q E hr h => ?_)
  · obtain ⟨i, rfl, _⟩ := h
    rfl
  · obtain ⟨i, rfl, k⟩ := h
    refine ⟨_, pss_one (ps_ret (pe_and (pe_isInt n (pv 0)) (pe_one (pe_not (pe_isBool n (pv 0)))))), ?_⟩
    refine ⟨_, rfl, isi_mk (t := "int") (b := true) (.base (.int _)) (by decide +kernel) ⟨true, rfl, iteT ?_⟩⟩
    exact ⟨_, rfl, isi_mk (t := "int") (b := false) (.base (.int _)) (by decide +kernel) ⟨false, rfl, k⟩⟩

/-- a def called by its name: what a caller needs of it -/
structure Fn (P : Program) (w : World) (K : PySem.W.Frag) (mg : Str → Option Value) (base : Heap) (k : Nat) (x : Str) (ps : List Str) (sp : Sp) : Prop where
  ex : ∃ f fd, mg x = some (.ref f) ∧ PySem.W.keepIn K (.ref f) = true ∧ Binds K fd ps [] ∧ FnOk P w K mg base CX0 k f fd ps sp
theorem pe_fn {X : Cx} {k : Nat} {x : Str} {ps : List Str} {sp : Sp} {e : Expr} {es : List Expr} {t : TA} {p pos : Pos}
    (F : Fn X.prog X.w X.K X.mg X.base k x ps sp) (hr : Room k X.A) (ha : PA X (e :: es) t) (gl : Gl X x := by rfl) (hdb : (x == ("__debug__" : Str)) = false := by decide)
    (he : starEach (e :: es) X.env = (false, eval e X.env) :: starEach es X.env := by rfl)
    (hpl : (backTo pos (starEach es X.env)).any (·.1) = false := by rfl) :
    PE X (.Call (.Name x p) (e :: es) [] pos) (tCall sp [] E0 t) := by
  obtain ⟨f, fd, m, kp, b, G⟩ := F.ex
  exact pe_call G hr gl m kp b .nil pass0 ha hdb he hpl

def spIsCount : Sp := fun vs H Q _ => ∃ i, vs = [.int i] ∧ 0 ≤ i ∧ Q (.bl true) H
theorem scC : FnScope ["value"] ["value"] (defScope sIsCount) := ⟨rfl, rfl, rfl, by decide +kernel, rfl, by decide +kernel, by decide +kernel⟩
theorem ok_isCount {f : Addr} {fd : FuncData} (F : Fun K "is_count" "is_count" sIsCount f fd) (G : Fn P w K mg base 1 "is_integer" ["value"] spIsInt) : FnOk P w K mg base CX0 2 f fd ["value"] spIsCount := by
  refine F.ok scC (fun vs H Q E h => ?_) (fun cdv A outer s H vs Q E hr h => ?_)
  · obtain ⟨i, rfl, _⟩ := h
    rfl
  · obtain ⟨i, rfl, h0, k⟩ := h
    refine ⟨_, pss_one (ps_ret (pe_and (pe_fn G hr (pa_cons (pv 0) pa_nil)) (pe_one (pe_cmpR op_ge (pv 0) pe_int (nomark _))))), ?_⟩
    refine ⟨_, rfl, _, rfl, true, rfl, iteT ?_⟩
    refine ⟨_, rfl, _, _, rfl, rfl, ?_⟩
    exact blT (Q := Q) h0 k

theorem same_upd {H : Hp} {p : Addr} {o : HO} (h : H p = none) : Same H (upd H p o) := fun a u e => by
  rw [upd_ne (ne_of_none e h)]
  exact e
/-- a list or a tuple of these -/
def Seq (K : PySem.W.Frag) (H : Hp) (a : Addr) (xs : List V) : Prop := H a = some (.lst xs) ∨ H a = some (.tup xs)
def spIsList (K : PySem.W.Frag) : Sp := fun vs H Q _ => ∃ a xs, vs = [.ref a] ∧ Seq K H a xs ∧ ∀ H', Same H H' → Q (.bl true) H'
theorem scL : FnScope ["value"] ["value"] (defScope sIsList) := ⟨rfl, rfl, rfl, by decide +kernel, rfl, by decide +kernel, by decide +kernel⟩
theorem ok_isList {f : Addr} {fd : FuncData} (F : Fun K "is_list" "is_list" sIsList f fd) (n : Nm mg) : FnOk P w K mg base CX0 1 f fd ["value"] (spIsList K) := by
  refine F.ok scL (fun vs H Q E h => ?_) (fun cdv A outer s H vs Q E hr h => ?_)
  · obtain ⟨i, _, rfl, _⟩ := h
    rfl
  · obtain ⟨a, xs, rfl, hs, k⟩ := h
    refine ⟨_, pss_one (ps_ret (pe_callB call_isiT (by rfl) n.isi (by decide +kernel) (pa_cons (pv 0) (pa_cons (pe_tup (pa_cons (pe_bltn (v := .ty "list") (by rfl) n.list (by decide +kernel) rfl) (pa_cons (pe_bltn (v := .ty "tuple") (by rfl) n.tuple (by decide +kernel) rfl) pa_nil))) pa_nil)))), ?_⟩
    refine ⟨_, rfl, (by show 2 ≤ sizeLine; decide), fun p hp => ?_⟩
    have cs : Paired ClsV [V.ty "list", V.ty "tuple"] [Value.type "list", Value.type "tuple"] := .cons (.ty _) (.cons (.ty _) .nil)
    rcases hs with hs | hs
    · refine ⟨_, p, _, _, _, true, rfl, upd_same, cs, .base (.lst (by rw [upd_ne (ne_of_none hs hp)]; exact hs)), ?_, k _ (same_upd hp)⟩
      exact kitAny_cons (kit_ty (b := "list") (r := true) (by decide +kernel)) (fun z => nomatch z) (fun _ => rfl)
    · refine ⟨_, p, _, _, _, true, rfl, upd_same, cs, .base (.tup (by rw [upd_ne (ne_of_none hs hp)]; exact hs)), ?_, k _ (same_upd hp)⟩
      exact kitAny_cons (kit_ty (b := "list") (r := false) (by decide +kernel)) (fun _ => kitAny_cons (kit_ty (b := "tuple") (r := true) (by decide +kernel)) (fun z => nomatch z) (fun _ => rfl)) (fun z => nomatch z)

/-! ### is_deed: asked of deeds alone -/
def spIsDeed : Sp := fun vs H Q _ => ∃ (t : Addr) (x : Dd) (n : Int), vs = [.ref t, .int n] ∧ H t = some (.tup x.vs) ∧ x.Ok n ∧ ∀ H', Same H H' → Q (.bl true) H'
theorem scD : FnScope ["value", "places", "place", "change", "goal", "when", "end"] ["value", "places"] (defScope sIsDeed) := ⟨rfl, rfl, rfl, by decide +kernel, rfl, by decide +kernel, by decide +kernel⟩
theorem ok_isDeed {f : Addr} {fd : FuncData} (F : Fun K "is_deed" "is_deed" sIsDeed f fd) (n : Nm mg)
    (GI : Fn P w K mg base 1 "is_integer" ["value"] spIsInt) (GC : Fn P w K mg base 2 "is_count" ["value"] spIsCount) :
    FnOk P w K mg base CX0 3 f fd ["value", "places"] spIsDeed := by
  refine F.ok scD (fun vs H Q E h => ?_) (fun cdv A outer s H vs Q E hr h => ?_)
  · obtain ⟨t, x, m, rfl, _⟩ := h
    rfl
  · obtain ⟨t, x, m, rfl, ht, ok, k⟩ := h
    have nd := scD.nd
    refine ⟨_, pss_cons (ps_if (pw_or (pt_not (pt_val (pe_isTuple n (pv 0))))
          (pw_or1 (pt_cmpR op_ne (pe_callB call_len_seq (by rfl) n.len PySem.boot_len (pa_cons (pv 0) pa_nil)) pe_int (nomark _)))).pt pss_never pss_nil)
      (pss_cons (ps_asg (pv 0) (pg_tup rfl (pgs_cons (pg_name (i := 2) nd rfl (.inl rfl)) (pgs_cons (pg_name (i := 3) nd rfl (.inl rfl)) (pgs_cons (pg_name (i := 4) nd rfl (.inl rfl)) (pgs_cons (pg_name (i := 5) nd rfl (.inl rfl)) pgs_nil))))))
      (pss_cons (ps_if (pt_not (pt_val (pe_callB (cr_all rfl) (by rfl) n.all (by decide +kernel) (pa_cons
          (pe_lc (own := [("end", 6)]) (g := gName 6) (tt := tYes) rfl nd (pi_tup (pe_tup (pa_cons (pv 2) (pa_cons (pv 4) pa_nil)))) (blkOk_by (N := ["value", "places", "place", "change", "goal", "when", "end"]) (sc := defScope sIsDeed) (by decide +kernel))
            (fun _ _ _ _ _ => pg_name (i := 6) nd rfl (.inl rfl)) (fun _ _ _ _ _ => pts_nil)
            (fun _ _ _ _ _ => pe_and (pe_fn GC hr (pa_cons (pv 6) pa_nil)) (pe_one (pe_cmpR op_lt (pv 6) (pv 1) (nomark _))))) pa_nil)))) pss_never pss_nil)
      (pss_cons (ps_if (pw_or (pt_not (pt_val (pe_fn GI (hr.mono (by decide)) (pa_cons (pv 3) pa_nil)))) (pw_or1 (pt_not (pt_val (pe_isStr n (pv 5)))))).pt pss_never pss_nil)
      (pss_one (ps_ret (pe_or (pe_and (pe_cmpR op_eq (pv 5) pe_str (nomark _)) (pe_one (pe_chain op_le op_le (pe_un un_neg pe_int) (pv 3) pe_int)))
        (pe_one (pe_and (pe_cmpR op_eq (pv 5) pe_str (nomark _)) (pe_one (pe_chain op_le op_le pe_int (pv 3) pe_int))))))))) ), ?_⟩
    -- the first test: a tuple, of four
    refine ⟨_, rfl, isi_mk (t := "tuple") (b := true) (.base (.tup ht)) (by decide +kernel) ⟨true, rfl, iteF ?_⟩⟩
    refine ⟨_, rfl, t, x.vs, rfl, .inr (.inl (.inl ht)), rfl, false, rfl, iteF ?_⟩
    refine ⟨_, rfl, t, x.vs, rfl, .inl (.inl ht), rfl, _, _, rfl, _, _, rfl, _, _, rfl, _, _, rfl, rfl, ?_⟩
    -- all([is_count(end) and end < places for end in (place, goal)])
    refine ⟨_, rfl, _, rfl, (by show 2 ≤ sizeLine; decide), fun q hq => ⟨q, rfl, ⟨_, .inl (.inl upd_same)⟩, fun D hD => ?_⟩⟩
    have s1 := same_upd (o := .tup [V.int x.p, V.int x.g]) hq
    have nqD : q ≠ D := ne_of_none upd_same hD
    refine lc_tup (xs := [V.int x.p, V.int x.g]) (fun i H' => H' D = some (.lst (List.replicate i (.bl true))) ∧ ∀ b o, b ≠ D → upd H q (.tup [V.int x.p, V.int x.g]) b = some o → H' b = some o) ⟨upd_same, fun b o hb e => by rw [upd_ne hb]; exact e⟩ (fun i H' _ hI => .inl (.inl (hI.2 _ _ nqD upd_same))) ?_ ?_
    · intro i y H' hi hI
      have hy : ∃ z, y = V.int z ∧ 0 ≤ z ∧ z < m := by
        match i, hi with
        | 0, hi => cases hi; exact ⟨_, rfl, ok.p0, ok.pn⟩
        | 1, hi => cases hi; exact ⟨_, rfl, ok.g0, ok.gn⟩
      obtain ⟨z, rfl, z0, zn⟩ := hy
      refine ⟨rfl, yes_ite ?_⟩
      refine ⟨_, rfl, _, rfl, z0, true, rfl, iteT ?_⟩
      refine ⟨_, rfl, _, rfl, _, _, rfl, rfl, ?_⟩
      have hl : i < 2 := (List.getElem?_eq_some_iff.mp hi).1
      refine ⟨_, hI.1, (by rw [List.length_replicate]; exact small1000 (by omega)), ?_, fun b o hb e => by rw [upd_ne hb]; exact hI.2 b o hb e⟩
      rw [upd_same, List.replicate_succ']
      show some (HO.lst (List.replicate i (V.bl true) ++ [V.bl (decide (z < m))])) = _
      rw [decide_eq_true zn]
    · intro H' ⟨hD', hK'⟩
      have s2 : Same H H' := fun b o e => hK' b o (ne_of_none (s1 b o e) hD) (s1 b o e)
      have ht' : H' t = some (.tup x.vs) := s2 _ _ ht
      refine ⟨D, [true, true], rfl, .inl (.inl hD'), true, rfl, ?_⟩
      refine iteF ?_
      refine ⟨_, rfl, _, rfl, true, rfl, ?_⟩
      refine iteF ?_
      refine ⟨_, rfl, isi_mk (t := "str") (b := true) (.base (.str _)) (by decide +kernel) ⟨true, rfl, ?_⟩⟩
      refine iteF ?_
      have fin := k H' s2
      rcases ok.w with ⟨e, l, u⟩ | ⟨e, l, u⟩
      · refine ⟨_, rfl, rfl, true, congrArg V.bl (decide_eq_true (by rw [e])), ?_⟩
        refine iteT ?_
        refine ⟨1, rfl, _, rfl, _, _, rfl, rfl, true, congrArg V.bl (decide_eq_true l), ?_⟩
        refine iteT ?_
        refine ⟨_, _, rfl, rfl, true, congrArg V.bl (decide_eq_true u), ?_⟩
        exact iteT fin
      · have ne : ¬ V.str x.w = V.str "any" := by
          rw [e]
          decide +kernel
        refine ⟨_, rfl, rfl, false, congrArg V.bl (decide_eq_false ne), ?_⟩
        refine iteF ?_
        refine ⟨false, rfl, ?_⟩
        refine iteF ?_
        refine ⟨_, rfl, rfl, true, congrArg V.bl (decide_eq_true (by rw [e])), ?_⟩
        refine iteT ?_
        refine ⟨_, rfl, _, _, rfl, rfl, true, congrArg V.bl (decide_eq_true l), ?_⟩
        refine iteT ?_
        exact ⟨_, _, rfl, rfl, blT (Q := Q) u fin⟩
end
end L2.K73
end

section
set_option Elab.async false
set_option linter.all false
set_option maxRecDepth 100000
set_option maxHeartbeats 2000000
/-! enumerate of a tuple -/
namespace PyProof.Rows
open PySem
open Sem (wp)
open AutoSeq1 (wpAny_loadPart')
section
variable {prog : Program} {w : World} {A : Around} {E : Value → Shared → Prop} {s : Shared} {I T e : Addr} {i : Nat} {xs : Array Value} {x old : Value}
/-- the tuple's iterator, asked from within a builtin -/
theorem nextOf_tup {Q : Value → Shared → Prop} (it : IsTupIter s.heap I T i) (ht : IsTup s.heap T xs) (hx : xs[i]? = some x)
    (k : ∀ h', IsTupIter h' I T (i + 1) → Heap.SameBut I s.heap h' → Q x { s with heap := h' }) :
    wpAny (model prog w) A (Builtin.SmallTypes.nextOf (.ref I)) Q E s := by
  obtain ⟨o, oi, oc, od⟩ := id it
  obtain ⟨p, op, _, m, pd⟩ := ht
  unfold Builtin.SmallTypes.nextOf
  refine wpAny_bind (wpAny_callSpecial?_slot (name := Str.ofString "__next__") it.typeIs slot_tupleiter_next (wpAny_call_entry slot_tupleiter_next it.typeIs entry_tupleiter_next
    (?a : wpAny _ _ _ _ _ _) (args_tupleiter_next _)))
  show wpAny _ _ (field (.ref I) 0 >>= _) _ _ s
  refine wpAny_bind (wpAny_field oi od (x := .ref T) rfl ?_)
  show wpAny _ _ (if (Value.ref T == Value.none) = true then _ else _) _ _ s
  rw [if_neg (show ¬ ((Value.ref T == Value.none) = true) from Bool.false_ne_true)]
  show wpAny _ _ (field (.ref I) 1 >>= _) _ _ s
  refine wpAny_bind (wpAny_field oi od (x := .int i 0) rfl ?_)
  show wpAny _ _ (seqItems? (.ref T) >>= _) _ _ s
  refine wpAny_bind (wpAny_seqItems op pd ?_)
  simp only [hx, Int.toNat_natCast]
  refine wpAny_bind (wpAny_setField oi od (by simp) (wpAny_pure ⟨x, rfl, wpAny_pure (k _ ⟨_, Heap.get?_update_self _ oi (Obj.isFreed_of_fields (Obj.data_mapFields od _)), (Obj.cls_mapFields ..).trans oc, ?_⟩ (Heap.SameBut.update ..))⟩))
  rw [Obj.data_mapFields od]
  simp [rawInt]
theorem nextOf_tup_end {Q : Value → Shared → Prop} (hh : A.handled = none) (it : IsTupIter s.heap I T i) (ht : IsTup s.heap T xs) (hx : xs[i]? = none)
    (k : ∀ h' c, Heap.ExtBut I s.heap h' → (∃ o, h'.get? c = some o ∧ o.cls = .type "StopIteration") → E (.ref c) { s with heap := h' }) :
    wpAny (model prog w) A (Builtin.SmallTypes.nextOf (.ref I)) Q E s := by
  obtain ⟨o, oi, oc, od⟩ := id it
  obtain ⟨p, op, _, m, pd⟩ := ht
  unfold Builtin.SmallTypes.nextOf
  refine wpAny_bind (wpAny_callSpecial?_slot (name := Str.ofString "__next__") it.typeIs slot_tupleiter_next (wpAny_call_entry slot_tupleiter_next it.typeIs entry_tupleiter_next
    (?a : wpAny _ _ _ _ _ _) (args_tupleiter_next _)))
  show wpAny _ _ (field (.ref I) 0 >>= _) _ _ s
  refine wpAny_bind (wpAny_field oi od (x := .ref T) rfl ?_)
  show wpAny _ _ (if (Value.ref T == Value.none) = true then _ else _) _ _ s
  rw [if_neg (show ¬ ((Value.ref T == Value.none) = true) from Bool.false_ne_true)]
  show wpAny _ _ (field (.ref I) 1 >>= _) _ _ s
  refine wpAny_bind (wpAny_field oi od (x := .int i 0) rfl ?_)
  show wpAny _ _ (seqItems? (.ref T) >>= _) _ _ s
  refine wpAny_bind (wpAny_seqItems op pd ?_)
  simp only [hx, Int.toNat_natCast]
  refine wpAny_bind (wpAny_rule (wpAny_bind (wpAny_setField oi od (by simp) ?_)))
  show wpAny _ _ (newExc (.type "StopIteration") ([] : List Value) >>= _) _ _ _
  refine wpAny_bind ?_
  simp only [newTuple, newExc]
  refine wpAny_bind (wpAny_newObj_type ?_ (by size_fits))
  refine wpAny_bind (m := firstArgMember _ _) (wpAny_of_eq (a := Value.none) rfl ?_)
  refine wpAny_newObj_type ?_ (by size_fits)
  simp only [raiseNew]
  refine wpAny_bind (wpAny_handled ?_)
  rw [show A.in1.handled = none from hh]
  exact wpAny_bind (wpAny_pure (wpAny_throw (k _ _ (((Heap.SameBut.update ..).extBut.push _).push _) ⟨_, Heap.get?_push_size _ rfl, rfl⟩)))
/-- enumerate.__next__ over a tuple's iterator: a pair -/
theorem enumT_item {Q : Value → Shared → Prop} (he : IsEnum s.heap e I i old) (it : IsTupIter s.heap I T i) (ht : IsTup s.heap T xs) (hx : xs[i]? = some x) (ne : e ≠ I)
    (k : ∀ h', IsEnumOut h' e I ((i : Int) + 1) x s.heap.objs.size → IsTupIter h' I T (i + 1) →
      h'.get? s.heap.objs.size = some { cls := .type "tuple", data := .seq #[.int i s.toks, x] } → h'.objs.size = s.heap.objs.size + 1 →
      (∀ b o, b ≠ e → b ≠ I → s.heap.get? b = some o → h'.get? b = some o) → Q (.ref s.heap.objs.size) { s with heap := h', toks := s.toks + 1 }) :
    wpAny (model prog w) A (Builtin.«enumerate.__next__» ⟨[.ref e], []⟩) (fun r s' => ∃ v, r = .done (.ret v) ∧ Q v s') E s := by
  obtain ⟨hp, gs, dr, tk, os⟩ := s
  show wpAny _ _ (field (.ref e) 2 >>= _) _ _ (⟨hp, gs, dr, tk, os⟩ : Shared)
  refine wpAny_bind (wpAny_field he rfl (x := .ref I) rfl (wpAny_bind (nextOf_tup it ht hx ?_)))
  intro a1 ia1 (sa1 : Heap.SameBut I hp a1)
  have e1 : IsEnum a1 e I i old := (sa1.2 e ne).trans he
  show wpAny _ _ (field (.ref e) 3 >>= _) _ _ ⟨a1, gs, dr, tk, os⟩
  refine wpAny_bind (wpAny_field e1 rfl (x := rawInt i) rfl ?_)
  show wpAny _ _ (field (.ref e) 4 >>= _) _ _ ⟨a1, gs, dr, tk, os⟩
  refine wpAny_bind (wpAny_field e1 rfl (x := .none) rfl ?_)
  show wpAny _ _ (mkInt i >>= _) _ _ ⟨a1, gs, dr, tk, os⟩
  refine wpAny_bind (wpAny_mkInt ?_)
  show wpAny _ _ (setField (.ref e) 3 (rawInt ((i : Int) + 1)) >>= _) _ _ ⟨a1, gs, dr, tk + 1, os⟩
  refine wpAny_bind (wpAny_setField_rec e1 (by simp) ?_)
  intro a2 (e2 : IsEnum a2 e I ((i : Int) + 1) old) (sa2 : Heap.SameBut e a1 a2)
  show wpAny _ _ (setField (.ref e) 4 .none >>= _) _ _ ⟨a2, gs, dr, tk + 1, os⟩
  refine wpAny_bind (wpAny_setField_rec e2 (by simp) ?_)
  intro a3 (e3 : IsEnum a3 e I ((i : Int) + 1) old) (sa3 : Heap.SameBut e a2 a3)
  show wpAny _ _ (newTuple [.int i tk, x] >>= _) _ _ ⟨a3, gs, dr, tk + 1, os⟩
  refine wpAny_bind (wpAny_newTuple ?_)
  have z3 : a3.objs.size = hp.objs.size := by rw [sa3.1, sa2.1, sa1.1]
  have le : e < hp.objs.size := Heap.lt_size he
  have nz : hp.objs.size ≠ e := Nat.ne_of_gt le
  rw [z3]
  generalize hq : a3.push { cls := .type "tuple", data := .seq #[.int i tk, x] } = a4
  have e4 : IsEnum a4 e I ((i : Int) + 1) old := by
    rw [← hq]
    exact Heap.get?_push_of_some _ e3
  have t4 : a4.get? hp.objs.size = some { cls := .type "tuple", data := .seq #[.int i tk, x] } := by
    rw [← hq, ← z3]
    exact Heap.get?_push_size _ rfl
  have z4 : a4.objs.size = hp.objs.size + 1 := by rw [← hq, Heap.size_push, z3]
  have k4 : ∀ b o, b ≠ e → b ≠ I → hp.get? b = some o → a4.get? b = some o := by
    intro b o h1 h2 h3
    rw [← hq]
    exact Heap.get?_push_of_some _ (sa3.extBut b o h1 (sa2.extBut b o h1 (sa1.extBut b o h2 h3)))
  have i4 : IsTupIter a4 I T (i + 1) := by
    rw [← hq]
    obtain ⟨o, ho, r⟩ := (ia1.extBut sa2.extBut (Ne.symm ne)).extBut sa3.extBut (Ne.symm ne)
    exact ⟨o, Heap.get?_push_of_some _ ho, r⟩
  show wpAny _ _ (Builtin.SmallTypes.ownedTupleIsFree (.ref e) >>= _) _ _ ⟨a4, gs, dr, tk + 1, os⟩
  refine wpAny_bind ?_
  unfold Builtin.SmallTypes.ownedTupleIsFree
  refine wpAny_bind (wpAny_field e4 rfl (x := .none) rfl (wpAny_pure ?_))
  simp only [if_true]
  refine wpAny_bind (wpAny_rule (wpAny_bind (wpAny_field e4 rfl (x := old) rfl ?_)))
  refine wpAny_bind (wpAny_setField_rec e4 (by simp) ?_)
  intro a5 (e5 : IsEnum a5 e I ((i : Int) + 1) x) (sa5 : Heap.SameBut e a4 a5)
  show wpAny _ _ (Builtin.SmallTypes.ownedTupleHandOut (.ref e) (.ref hp.objs.size) >>= _) _ _ ⟨a5, gs, dr, tk + 1, os⟩
  refine wpAny_bind ?_
  unfold Builtin.SmallTypes.ownedTupleHandOut
  refine wpAny_bind (wpAny_setField_rec e5 (by simp) ?_)
  intro a6 (e6 : IsEnumOut a6 e I ((i : Int) + 1) x hp.objs.size) (sa6 : Heap.SameBut e a5 a6)
  refine wpAny_setField_rec e6 (by simp) ?_
  intro a7 (e7 : IsEnumOut a7 e I ((i : Int) + 1) x hp.objs.size) (sa7 : Heap.SameBut e a6 a7)
  refine wpAny_bind (wpAny_letGo (wpAny_pure ⟨_, rfl, k a7 e7 ?_ ?_ ?_ ?_⟩))
  · exact ((i4.extBut sa5.extBut (Ne.symm ne)).extBut sa6.extBut (Ne.symm ne)).extBut sa7.extBut (Ne.symm ne)
  · exact sa7.extBut _ _ nz (sa6.extBut _ _ nz (sa5.extBut _ _ nz t4))
  · rw [sa7.1, sa6.1, sa5.1, z4]
  · exact fun b o h1 h2 h3 => sa7.extBut b o h1 (sa6.extBut b o h1 (sa5.extBut b o h1 (k4 b o h1 h2 h3)))
theorem pyNext_enumT {Q : Option Value → Shared → Prop} (he : IsEnum s.heap e I i old) (it : IsTupIter s.heap I T i) (ht : IsTup s.heap T xs) (hx : xs[i]? = some x) (ne : e ≠ I)
    (k : ∀ h', IsEnumOut h' e I ((i : Int) + 1) x s.heap.objs.size → IsTupIter h' I T (i + 1) →
      h'.get? s.heap.objs.size = some { cls := .type "tuple", data := .seq #[.int i s.toks, x] } → h'.objs.size = s.heap.objs.size + 1 →
      (∀ b o, b ≠ e → b ≠ I → s.heap.get? b = some o → h'.get? b = some o) → Q (some (.ref s.heap.objs.size)) { s with heap := h', toks := s.toks + 1 }) :
    wpAny (model prog w) A (pyNext (.ref e)) Q E s := by
  have ty : s.TypeIs (.ref e) "enumerate" := ⟨_, he, rfl⟩
  unfold pyNext
  refine wpAny_bind (wpAny_attempt (wpAny_callSpecial?_slot (name := Str.ofString "__next__") ty F.slot_enumerate_next ?_))
  refine wpAny_call_entry F.slot_enumerate_next ty F.entry_enumerate_next ?_ (F.args_enumerate_next_1 _)
  exact enumT_item he it ht hx ne fun h' q1 q2 q3 q4 q5 => wpAny_pure (k h' q1 q2 q3 q4 q5)
theorem pyNext_enumT_end {Q : Option Value → Shared → Prop} (hh : A.handled = none) (he : IsEnum s.heap e I i old) (it : IsTupIter s.heap I T i) (ht : IsTup s.heap T xs) (hx : xs[i]? = none)
    (k : ∀ h', Heap.ExtBut I s.heap h' → Q none { s with heap := h' }) : wpAny (model prog w) A (pyNext (.ref e)) Q E s := by
  have ty : s.TypeIs (.ref e) "enumerate" := ⟨_, he, rfl⟩
  unfold pyNext
  refine wpAny_bind (wpAny_attempt (wpAny_callSpecial?_slot (name := Str.ofString "__next__") ty F.slot_enumerate_next ?_))
  refine wpAny_call_entry F.slot_enumerate_next ty F.entry_enumerate_next ?_ (F.args_enumerate_next_1 _)
  show wpAny _ _ (field (.ref e) 2 >>= _) _ _ s
  refine wpAny_bind (wpAny_field he rfl (x := .ref I) rfl (wpAny_bind (nextOf_tup_end hh it ht hx ?_)))
  rintro h' c q ⟨o, ho, hc⟩
  exact wpAny_bind (wpAny_isInstance (T := "StopIteration") (b := true) ⟨o, ho, hc⟩ isSubtype_stop (wpAny_pure (k _ q)))
/-- enumerate(t) -/
theorem call_enumT {Q : Value → Shared → Prop} (ht : IsTup s.heap T xs)
    (k : ∀ h', IsEnum h' (s.heap.objs.size + 1) s.heap.objs.size 0 .none → IsTupIter h' s.heap.objs.size T 0 →
      (∀ b o, s.heap.get? b = some o → h'.get? b = some o) → Q (.ref (s.heap.objs.size + 1)) { s with heap := h' }) :
    wpAny (model prog w) A (call (.type "enumerate") [.ref T]) Q E s := by
  obtain ⟨o, ho, hc, n, hd⟩ := id ht
  let mid := s.heap.push { cls := .type "tuple_iterator", data := .fields #[.ref T, .int 0 0] }
  let fin := mid.push { cls := .type "enumerate", data := .fields #[.none, .bool false, .ref s.heap.objs.size, rawInt 0, .none, .none] }
  have meets : Meets (Builtin.«enumerate.__new__» ⟨[.type "enumerate", .ref T], []⟩) (fun _ R s' => (∃ o, s'.heap.get? T = some o ∧ o.cls = .type "tuple" ∧ ∃ n, o.data = .seq xs n) ∧
      R (.ok (.ret (.ref (s'.heap.push { cls := .type "tuple_iterator", data := .fields #[.ref T, .int 0 0] }).objs.size)))
        { s' with heap := (s'.heap.push { cls := .type "tuple_iterator", data := .fields #[.ref T, .int 0 0] }).push { cls := .type "enumerate", data := .fields #[.none, .bool false, .ref s'.heap.objs.size, rawInt 0, .none, .none] } }) :=
    .of_wp fun prog w A R s' h => by
      obtain ⟨hp, g, d, tk, os⟩ := s'
      obtain ⟨hT, h⟩ := h
      obtain ⟨o', ho', _⟩ := id hT
      have sub := sub_enumerate
      have tu : IsTup (Shared.heap ⟨hp, g, d, tk, os⟩) T xs := hT
      wp_walk using wpAny_loadPart' ho'
      refine wpAny_stack_any fun st => wpAny_pure ?_
      split
      · rename_i c _ _ _ _ _
        cases (c == Value.type "enumerate") <;> (wp_walk using wpAny_loadPart' ho', iter_tuple tu; exact ⟨_, rfl, h⟩)
      · wp_walk using wpAny_loadPart' ho', iter_tuple tu
        exact ⟨_, rfl, h⟩
  have z : mid.objs.size = s.heap.objs.size + 1 := Heap.size_push ..
  have he : IsEnum fin (s.heap.objs.size + 1) s.heap.objs.size 0 .none := by
    have q := Heap.get?_push_size mid (o := { cls := .type "enumerate", data := .fields #[.none, .bool false, .ref s.heap.objs.size, rawInt 0, .none, .none] }) rfl
    rw [z] at q
    exact q
  refine callType_new F.called_enumerate (by decide) (F.typeCall_enumerate_1 _) (F.newCall_enumerate_1 _) (fun obj => F.args_object_init_2 obj _) F.entry_enumerate_new meets ⟨ht, ?_⟩
  show _ ∧ _
  rw [show (s.heap.push { cls := .type "tuple_iterator", data := .fields #[.ref T, .int 0 0] }).objs.size = s.heap.objs.size + 1 from z]
  exact ⟨⟨_, he, rfl⟩, k fin he ⟨_, Heap.get?_push_of_some _ (Heap.get?_push_size _ rfl), rfl, rfl⟩ fun b o q => Heap.get?_push_of_some _ (Heap.get?_push_of_some _ q)⟩
end
end PyProof.Rows

namespace L2.Gd
open PySem PySem.Spec PyProof.Rows
/-- the tuple at a: each item in a new pair -/
def IteT (K : PySem.W.Frag) (a : Addr) : It where
  go := fun i H => ∃ (xs : List V) (x : V), SqT K H a xs ∧ xs[i]? = some x
  yld := fun i H v H' => ∃ T x, v = .ref T ∧ H T = none ∧ H' = upd H T (.tup [.int (i : Nat), x]) ∧ ∀ xs, SqT K H a xs → xs[i]? = some x
  stop := fun i H => ∃ xs : List V, SqT K H a xs ∧ xs.length ≤ i
theorem turn_enumT {P : Program} {w : World} {K : PySem.W.Frag} {elts : List Expr} {kk : Nat} {tpos : Pos} (a e I : Addr) :
    Turn P w K (.Tuple elts kk tpos) (IteT K a) [e, I] e (fun i h => (∃ old, IsEnum h e I ((i : Nat) : Int) old) ∧ IsTupIter h I a i ∧ e ≠ I) where
  mem := List.mem_cons_self
  obj := by
    rintro i h ⟨⟨old, he⟩, ⟨o, ho, hc, hd⟩, _⟩ b hb
    rcases List.mem_cons.mp hb with rfl | hb
    · exact ⟨_, he, fun v q => nomatch q⟩
    · obtain rfl := List.mem_singleton.mp hb
      exact ⟨o, ho, fun v q => by rw [hd] at q; exact nomatch q⟩
  keep := by
    rintro i h h' ⟨⟨old, he⟩, ⟨o, ho, r⟩, ne⟩ k
    exact ⟨⟨old, k e (by simp) _ he⟩, ⟨o, k I (by simp) _ ho, r⟩, ne⟩
  item := by
    rintro X hP hw hK hc i pins s σ H E J hf ⟨⟨old, he⟩, it, ne⟩ ⟨xs, x, hq, hx⟩
    subst hP hw hK
    obtain ⟨its, rv, tu, _⟩ := J.tuple hq
    obtain ⟨u, hu, ru⟩ := rv.get hx
    have le : e < s.heap.objs.size := Heap.lt_size he
    have li : I < s.heap.objs.size := let ⟨_, q, _⟩ := it; Heap.lt_size q
    refine pyNext_enumT he it tu (x := u) (by simpa using hu) ne ?_
    intro h1 out it1 tup1 z1 k1
    refine ⟨_, rfl, wpAny_letOwnedTupleGo_enum (s := { s with heap := h1, toks := s.toks + 1 }) out ?_⟩
    intro h2 he2 sb
    have tup2 : h2.get? s.heap.objs.size = some { cls := .type "tuple", data := .seq #[.int i s.toks, u] } := (sb.2 _ (Nat.ne_of_gt le)).trans tup1
    have new : ObjOk X.prog X.w (upd H s.heap.objs.size (.tup [.int (i : Nat), x])) h2 s.heap.objs.size (.tup [.int (i : Nat), x]) :=
      ⟨by show 2 ≤ sizeLine; decide, [.int i s.toks, u], .cons ⟨_, rfl⟩ (.cons ru .nil), ⟨_, tup2, rfl, _, rfl⟩⟩
    have J1 : Inv X pins σ (upd H s.heap.objs.size (.tup [.int (i : Nat), x])) { s with heap := h2, toks := s.toks + 1 } := by
      refine J.turnedNew (ch := [e, I]) (fun b o hb q => ?_) hf (Nat.le_refl _) new
      have b1 : b ≠ e := fun z => hb (by simp [z])
      have b2 : b ≠ I := fun z => hb (by simp [z])
      exact (sb.2 b b1).trans (k1 b o b1 b2 q)
    refine ⟨.ref s.heap.objs.size, _, J1, rfl, ⟨_, x, rfl, J.hok.fresh (Nat.le_refl _), rfl, fun ys hy => by rw [J.tuple_inj hy hq]; exact hx⟩, ⟨⟨u, ?_⟩, ?_, ne⟩, ?_⟩
    · rw [show ((i + 1 : Nat) : Int) = (i : Int) + 1 by omega]
      exact he2
    · obtain ⟨o, ho, r⟩ := it1
      exact ⟨o, (sb.2 I (Ne.symm ne)).trans ho, r⟩
    · intro b hb
      have lb : b < s.heap.objs.size := by
        rcases List.mem_cons.mp hb with rfl | q
        · exact le
        · obtain rfl := List.mem_singleton.mp q
          exact li
      rw [upd_ne (Nat.ne_of_lt lb)]
      exact (hf b hb).1
  done := by
    rintro X hP hw hK hc i pins s σ H E J hf ⟨⟨old, he⟩, it, ne⟩ ⟨xs, hq, hx⟩
    subst hP hw hK
    obtain ⟨its, rv, tu, _⟩ := J.tuple hq
    obtain ⟨f0, f1, f2, f3, f4, f5⟩ := hf I (by simp)
    have hl := rv.length
    refine pyNext_enumT_end (J.ok.hd hc) he it tu (by simp; omega) ?_
    intro h1 eb
    exact ⟨rfl, J.turned (t' := s.toks) (fun b o hb q => eb b o hb q) f0 f1 f3 f4 f5⟩
  self := by
    rintro A i s Q E ⟨⟨_, he⟩, _⟩ h
    exact wpAny_pyIter_enum he h
/-- enumerate of a list or of a tuple -/
def iEnumA (K : PySem.W.Frag) (ta : TA) : TI := fun σ H R => ta σ H fun vs H1 => ∃ a xs, vs = [.ref a] ∧
  ((SqL K H1 a xs ∧ R (Ite K a) H1) ∨ (SqT K H1 a xs ∧ R (IteT K a) H1))
theorem pi_enumA {X : Cx} {e : Expr} {ta : TA} {p pos tpos : Pos} {elts : List Expr} {kk : Nat} (hg : Gl X "enumerate") (hm : X.mg "enumerate" = none) (ha : PA X [e] ta)
    (hs : starEach [e] X.env = [(false, eval e X.env)] := by rfl) :
    PI X (.Tuple elts kk tpos) (.Call (.Name "enumerate" p) [e] [] pos) (iEnumA X.K ta) := by
  constructor
  intro pins s σ H R J h
  refine Call_ (ld_blt J hg hm boot_enumerate (PyProof.Rows.callWith_type1 (thn (ha.run pos pins s σ H _ J h) ?_) hs rfl))
  rintro us s1 ⟨vs, H1, J1, r1, a, xs, rfl, q⟩
  cases r1 with
  | cons r rr =>
    cases rr
    cases r
    have fp : ∀ b ∈ [s1.heap.objs.size + 1, s1.heap.objs.size], FpOk X pins H1 b := by
      intro b hb
      have le : s1.heap.objs.size ≤ b := by
        rcases List.mem_cons.mp hb with rfl | q
        · omega
        · obtain rfl := List.mem_singleton.mp q
          exact Nat.le_refl _
      exact J1.fpOk le (J1.hok.fresh le)
    rcases q with ⟨hq, q⟩ | ⟨hq, q⟩
    · obtain ⟨its, rv, pl, _⟩ := J1.list hq
      refine call_enumerate_list pl.isList ?_
      intro h' he it z k
      exact wpAny_pyIter_enum he ⟨_, _, _, _, H1, rfl, J1.kept (t' := s1.toks) k, turn_enum a (s1.heap.objs.size + 1) s1.heap.objs.size,
        ⟨⟨.none, he⟩, it, Nat.succ_ne_self _⟩, fp, q⟩
    · obtain ⟨its, rv, tu, _⟩ := J1.tuple hq
      refine call_enumT tu ?_
      intro h' he it k
      exact wpAny_pyIter_enum he ⟨_, _, _, _, H1, rfl, J1.kept (t' := s1.toks) k, turn_enumT a (s1.heap.objs.size + 1) s1.heap.objs.size,
        ⟨⟨.none, he⟩, it, Nat.succ_ne_self _⟩, fp, q⟩
end L2.Gd
end

section
set_option Elab.async false
set_option linter.all false
set_option maxRecDepth 100000
set_option maxHeartbeats 2000000
namespace L2.K73
open PySem PySem.Spec PyProof.Rows L2.Gd

/-! ### deeds as data -/
theorem DdAt.dp {K : PySem.W.Frag} {H : Hp} {v : V} {x : Dd} (h : DdAt H v x) : Dp K H v x.d := by
  obtain ⟨t, rfl, ht⟩ := h
  exact .tup (.inl (.inl ht)) (.cons (.int _) (.cons (.int _) (.cons (.int _) (.cons (.str _) .nil))))
abbrev DdAll (H : Hp) : List V → List Dd → Prop := Paired (DdAt H)
theorem DdAll.dps {K : PySem.W.Frag} {H : Hp} : ∀ {vs : List V} {ds : List Dd}, DdAll H vs ds → DpAll K H vs (ds.map Dd.d)
  | _, _, .nil => .nil
  | _, _, .cons h t => .cons (DdAt.dp h) (DdAll.dps t)
def Dd.Wd (x : Dd) : Prop := x.w = "any" ∨ x.w = "empty"
theorem Dd.Ok.wd {n : Int} {x : Dd} (h : x.Ok n) : x.Wd := h.w.elim (fun q => .inl q.1) (fun q => .inr q.1)
theorem Dd.lay {x : Dd} (h : x.Wd) : x.d.canLay0 = true := by
  have e : PyData.strOk x.w = true := by
    rcases h with e | e <;> (rw [e]; decide +kernel)
  simp [Dd.d, PyData.canLay0, PyData.canLayAll0, e]
theorem Dd.dep (x : Dd) : x.d.depth = 1 := by simp [Dd.d, PyData.depth, PyData.depthAll]
theorem lays : ∀ {ds : List Dd}, (∀ x ∈ ds, x.Wd) → PyData.canLayAll0 (ds.map Dd.d) = true
  | [], _ => by simp [PyData.canLayAll0]
  | x :: r, h => by simp [PyData.canLayAll0, Dd.lay (h x List.mem_cons_self), lays (ds := r) fun y hy => h y (List.mem_cons_of_mem _ hy)]
theorem deps : ∀ ds : List Dd, PyData.depthAll (ds.map Dd.d) ≤ 1
  | [] => by simp [PyData.depthAll]
  | x :: r => by
    have h1 := deps r
    have h2 := x.dep
    simp only [List.map_cons, PyData.depthAll]
    omega
theorem Dd.shaped {x : Dd} (hx : x.Wd) : SeqAt.shaped x.d = true := by
  have h := x.dep
  show (x.d.canLay0 && decide (x.d.depth ≤ 64)) = true
  rw [Dd.lay hx, decide_eq_true (by omega)]
  rfl
theorem shapedL {ds : List Dd} (hd : ∀ x ∈ ds, x.Wd) : SeqAt.shaped (.list (ds.map Dd.d)) = true := by
  have h := deps ds
  have h2 : PyData.depth (.list (ds.map Dd.d)) ≤ 64 := by
    simp only [PyData.depth]
    omega
  show (PyData.canLay0 (.list (ds.map Dd.d)) && decide (PyData.depth (.list (ds.map Dd.d)) ≤ 64)) = true
  rw [Bool.and_eq_true]
  exact ⟨by simp only [PyData.canLay0]; exact lays hd, decide_eq_true h2⟩
theorem shapedT {ds : List Dd} (hd : ∀ x ∈ ds, x.Wd) : SeqAt.shaped (.tuple (ds.map Dd.d)) = true := by
  have h := deps ds
  have h2 : PyData.depth (.tuple (ds.map Dd.d)) ≤ 64 := by
    simp only [PyData.depth]
    omega
  show (PyData.canLay0 (.tuple (ds.map Dd.d)) && decide (PyData.depth (.tuple (ds.map Dd.d)) ≤ 64)) = true
  rw [Bool.and_eq_true]
  exact ⟨by simp only [PyData.canLay0]; exact lays hd, decide_eq_true h2⟩
theorem Dd.eqv (x y : Dd) : PyData.eqv x.d y.d = decide (x = y) := by
  obtain ⟨p, c, g, w⟩ := x
  obtain ⟨p', c', g', w'⟩ := y
  have e : PyData.eqv (Dd.d ⟨p, c, g, w⟩) (Dd.d ⟨p', c', g', w'⟩) = ((p == p') && ((c == c') && ((g == g') && ((w == w') && true)))) := by
    simp only [Dd.d, PyData.eqv, PyData.eqvAll]
  rw [e, Bool.eq_iff_iff]
  simp
theorem eqvs : ∀ xs ys : List Dd, PyData.eqvAll (xs.map Dd.d) (ys.map Dd.d) = decide (xs = ys)
  | [], [] => by simp [PyData.eqvAll]
  | [], y :: ys => by simp [PyData.eqvAll]
  | x :: xs, [] => by simp [PyData.eqvAll]
  | x :: xs, y :: ys => by
    simp only [List.map_cons, PyData.eqvAll, x.eqv y, eqvs xs ys]
    rw [Bool.eq_iff_iff]
    simp
theorem any_in (x : Dd) (ds : List Dd) : (ds.map Dd.d).any (fun z => PyData.eqv z x.d) = decide (x ∈ ds) := by
  rw [List.any_map, Bool.eq_iff_iff, List.any_eq_true, decide_eq_true_eq]
  constructor
  · rintro ⟨y, hy, e⟩
    have e2 : PyData.eqv y.d x.d = true := e
    rw [y.eqv x, decide_eq_true_eq] at e2
    exact e2 ▸ hy
  · intro h
    refine ⟨x, h, ?_⟩
    show PyData.eqv x.d x.d = true
    rw [x.eqv x]
    simp
theorem DdAt.same {H H' : Hp} {v : V} {x : Dd} (s : Same H H') (h : DdAt H v x) : DdAt H' v x := let ⟨t, e, q⟩ := h; ⟨t, e, s _ _ q⟩
theorem DdAll.same {H H' : Hp} {vs : List V} {ds : List Dd} (s : Same H H') (h : DdAll H vs ds) : DdAll H' vs ds := Paired.mapP h fun _ _ q => q.same s

theorem cutV_take (xs : List V) {i : Nat} (h : i ≤ xs.length) : cutV xs none (some (i : Int)) = xs.take i := by
  have e0 : HT.sIx xs.length 0 none = 0 := by simp [HT.sIx]
  have e1 : HT.sIx xs.length xs.length (some (i : Int)) = i := by
    simp only [HT.sIx]
    split <;> omega
  unfold cutV
  rw [e0, e1, List.drop_zero, Nat.sub_zero]
theorem Paired.at {α β : Type} {R : α → β → Prop} : ∀ {xs : List α} {ys : List β} {i : Nat} {x : α}, Paired R xs ys → xs[i]? = some x → ∃ y, ys[i]? = some y ∧ R x y
  | _, _, _, _, .nil, e => by simp at e
  | _, _, 0, _, .cons r _, e => by simp at e; subst e; exact ⟨_, rfl, r⟩
  | _, _, i + 1, x, .cons _ t, e => by
    obtain ⟨u, h1, h2⟩ := Paired.at (i := i) (x := x) t (by simpa using e)
    exact ⟨u, by simpa using h1, h2⟩
theorem Paired.takeP {α β : Type} {R : α → β → Prop} : ∀ {xs : List α} {ys : List β} (n : Nat), Paired R xs ys → Paired R (xs.take n) (ys.take n)
  | _, _, 0, _ => .nil
  | _, _, _ + 1, .nil => .nil
  | _, _, n + 1, .cons r t => .cons r (Paired.takeP n t)
theorem not_ahead {α : Type} {l : List α} {i : Nat} {x : α} (nd : l.Nodup) (h : l[i]? = some x) : x ∉ l.take i := by
  intro hm
  obtain ⟨j, hj⟩ := List.mem_iff_getElem?.mp hm
  obtain ⟨lt, e⟩ := List.getElem?_eq_some_iff.mp hj
  rw [List.length_take] at lt
  have e2 : l[j]? = some x := by
    rw [List.getElem?_take_of_lt (by omega)] at hj
    exact hj
  obtain ⟨l1, q1⟩ := List.getElem?_eq_some_iff.mp h
  obtain ⟨l2, q2⟩ := List.getElem?_eq_some_iff.mp e2
  exact (List.pairwise_iff_getElem.mp nd) j i l2 l1 (by omega) (q2.trans q1.symm)
theorem hu65 {k : Nat} {A : Around} (hr : Room k A) : A.units + 65 < cLine := by
  have := hr.un
  omega
/-- a for by an invariant, whatever is walked -/
theorem loop_of {J : It} {n : Nat} {g : TG} {tb : TS} {D : Ends} {σ : L2.St} {H : Hp} (Pv : Nat → L2.St → Hp → Prop) (h0 : Pv 0 σ H)
    (hd : ∀ σ H, Pv n σ H → J.stop n H ∧ D.nx σ H)
    (hs : ∀ i σ H, i < n → Pv i σ H → J.go i H ∧ ∀ x H', J.yld i H x H' → g x σ H' fun σ2 H2 => tb { D with nx := Pv (i + 1), ct := Pv (i + 1), bk := D.nx } σ2 H2) :
    ∃ W : Nat → Nat → L2.St → Hp → Prop, (∃ m, W 0 m σ H) ∧ ∀ i m σ H, W i m σ H → (J.stop i H ∧ D.nx σ H) ∨
      (J.go i H ∧ ∃ N : L2.St → Hp → Prop, (∀ σ' H', N σ' H' → ∃ m', m' < m ∧ W (i + 1) m' σ' H') ∧
        ∀ x H', J.yld i H x H' → g x σ H' fun σ2 H2 => tb { D with nx := N, ct := N, bk := D.nx } σ2 H2) := by
  refine ⟨fun i m σ H => m = n - i ∧ i ≤ n ∧ Pv i σ H, ⟨n, by simp, Nat.zero_le _, h0⟩, ?_⟩
  rintro i m σ H ⟨rfl, hi, hp⟩
  by_cases e : i < n
  · obtain ⟨go, k⟩ := hs i σ H e hp
    exact .inr ⟨go, Pv (i + 1), fun σ' H' q => ⟨n - (i + 1), by omega, rfl, e, q⟩, k⟩
  · obtain rfl : i = n := by omega
    exact .inl (hd σ H hp)
/-- x in s, s a list or a tuple -/
theorem op_inDT {X : Cx} (hu : X.A.units + 65 < cLine) : OpR X (compareOp .In) (fun x y H Q => ∃ d ds, Dp X.K H x d ∧ Dp X.K H y (.tuple ds) ∧ SeqAt.shaped d = true ∧ SeqAt.shaped (.tuple ds) = true ∧ Q (.bl (ds.any fun z => PyData.eqv z d)) H) := by
  rintro pins s σ H x y v u Q I rx ry ⟨d, ds, hd, he, sd, se, q⟩
  obtain ⟨as, r1⟩ := Dp.reads I d x v hd rx
  obtain ⟨bs, r2⟩ := Dp.reads I (.tuple ds) y u he ry
  refine SeqAt.in_tuple_reads r2 r1 (SeqAt.canLay_of_shaped se) (SeqAt.canLay_of_shaped sd) ?_ ⟨.bl _, H, I, rfl, q⟩
  exact room_in_shaped sd hu

section
variable {P : Program} {w : World} {K : PySem.W.Frag} {mg : Str → Option Value} {base : Heap}
theorem Seq.len {H : Hp} {a : Addr} {xs : List V} (h : Seq K H a xs) : SqL K H a xs ∨ SqT K H a xs := h.elim (fun q => .inl (.inl (.inl q))) (fun q => .inr (.inl (.inl q)))
theorem Seq.same {H H' : Hp} {a : Addr} {xs : List V} (s : Same H H') (h : Seq K H a xs) : Seq K H' a xs := h.elim (fun q => .inl (s _ _ q)) (fun q => .inr (s _ _ q))
def spCheck (K : PySem.W.Frag) : Sp := fun vs H Q _ => ∃ (m : Int) (a : Addr) (xs : List V) (ds : List Dd), vs = [.int m, .ref a] ∧ Seq K H a xs ∧ DdAll H xs ds ∧
  (∀ d ∈ ds, d.Ok m) ∧ ds.Nodup ∧ ds.length ≤ 60 ∧ ∀ H', Same H H' → Q .non H'
theorem scCk : FnScope ["places", "deeds", "position", "deed"] ["places", "deeds"] (defScope sCheck) := ⟨rfl, rfl, rfl, by decide +kernel, rfl, by decide +kernel, by decide +kernel⟩
theorem ok_check {f : Addr} {fd : FuncData} (F : Fun K "check_deeds" "check_deeds" sCheck f fd) (n : Nm mg)
    (GL : Fn P w K mg base 1 "is_list" ["value"] (spIsList K)) (GD : Fn P w K mg base 3 "is_deed" ["value", "places"] spIsDeed) {tk : Tok} (mm : mg "MOST_DEEDS" = some (.int 60 tk)) :
    FnOk P w K mg base CX0 4 f fd ["places", "deeds"] (spCheck K) := by
  refine F.ok scCk (fun vs H Q E h => ?_) (fun cdv A outer s H vs Q E hr h => ?_)
  · obtain ⟨m, a, xs, ds, rfl, _⟩ := h
    rfl
  · obtain ⟨m, a, xs, ds, rfl, hs, hd, ok, nd, hl, k⟩ := h
    have N := scCk.nd
    have lx : xs.length = ds.length := Paired.length hd
    refine ⟨_, pss_cons (ps_if (pt_not (pt_val (pe_fn GL (hr.mono (by decide)) (pa_cons (pv 1) pa_nil)))) pss_never pss_nil)
      (pss_cons (ps_for PassesOwn.never rfl (pi_enumA (by rfl) n.enumerate (pa_cons (pv 1) pa_nil)) (pg_tup rfl (pgs_cons (pg_name (i := 2) N rfl (.inl rfl)) (pgs_cons (pg_name (i := 3) N rfl (.inl rfl)) pgs_nil)))
        (pss_one (ps_if (pw_or (pt_not (pt_val (pe_fn GD hr (pa_cons (pv 3) (pa_cons (pv 0) pa_nil)))))
          (pw_or1 (pt_cmpR (OpR.or (op_inD (hu65 hr)) (op_inDT (hu65 hr))) (pv 3) (pe_slice (SlR.or sl_list sl_tupA) (pv 1) po_none (po_some (pv 2))) (by rfl)))).pt pss_never pss_nil)))
      (pss_one (ps_if (pt_cmpR op_gt (pe_callB call_len_seq (by rfl) n.len PySem.boot_len (pa_cons (pv 1) pa_nil)) (pe_glob (v := .int 60) (by rfl) mm ⟨_, rfl⟩) (nomark _)) pss_never pss_nil))), ?_⟩
    refine ⟨_, rfl, a, xs, rfl, hs, fun H1 s1 => ⟨true, rfl, ?_⟩⟩
    refine iteF ?_
    have hs1 := hs.same s1
    -- the loop: nothing but new things
    let Pv : Nat → L2.St → Hp → Prop := fun i σ H2 => ∃ v2 v3 : Option V, σ = [some (.int m), some (.ref a), v2, v3] ∧ Same H1 H2
    have body : ∀ (D : Ends) (i : Nat) (T : Addr) (y : V) (H2 : Hp) (v2 v3 : Option V), D.nx = Pv (i + 1) → Same H1 H2 → H2 T = none → xs[i]? = some y →
        (gTup K 2 (gCons (gName 2) (gCons (gName 3) gNil))) (.ref T) [some (.int m), some (.ref a), v2, v3] (upd H2 T (.tup [.int (i : Nat), y])) fun σ3 H3 => (tIfS
          (tOr (tNot (tB (tCall spIsDeed [] E0 (tCons (tVar 3) (tCons (tVar 0) tNil)))))
            (tTest (tOp (fun x y H Q => rInD K x y H Q ∨ ∃ d ds, Dp K H x d ∧ Dp K H y (.tuple ds) ∧ SeqAt.shaped d = true ∧ SeqAt.shaped (.tuple ds) = true ∧ Q (.bl (ds.any fun z => PyData.eqv z d)) H) (tVar 3)
              (tSl (fun x lo hi H Q => rSlL K x lo hi H Q ∨ rSlA K x lo hi H Q) (tVar 1) tNoPart (tPart (tVar 2)))))) tNever tNext) D σ3 H3 := by
      intro D i T y H2 v2 v3 hD s2 hT hy
      have ii : i < xs.length := (List.getElem?_eq_some_iff.mp hy).1
      have s3 : Same H1 (upd H2 T (.tup [.int (i : Nat), y])) := s2.trans (same_upd hT)
      obtain ⟨d, hdi, hdy⟩ := Paired.at hd hy
      have okd := ok d (List.mem_of_getElem? hdi)
      obtain ⟨t, rfl, ht⟩ := hdy
      refine ⟨T, _, rfl, .inl (.inl upd_same), rfl, _, _, rfl, _, _, rfl, rfl, ?_⟩
      refine ⟨_, rfl, _, rfl, t, d, m, rfl, s3 _ _ (s1 _ _ ht), okd, fun H4 s4 => ⟨true, rfl, ?_⟩⟩
      refine iteF ?_
      have sa : Same H H4 := s1.trans (s3.trans s4)
      refine ⟨_, rfl, _, rfl, _, rfl, i, rfl, ?_⟩
      have no : decide (d ∈ ds.take i) = false := decide_eq_false (not_ahead nd hdi)
      have dd : Dp K H4 (.ref t) d.d := DdAt.dp ⟨t, rfl, sa _ _ ht⟩
      have wd : ∀ x ∈ ds.take i, x.Wd := fun x hx => (ok x (List.mem_of_mem_take hx)).wd
      have dl : ∀ {H5 : Hp}, Same H4 H5 → DpAll K H5 (xs.take i) ((ds.take i).map Dd.d) := fun s5 => DdAll.dps (DdAll.same (sa.trans s5) (Paired.takeP i hd))
      rcases hs.same sa with h4 | h4
      · refine .inl ⟨a, xs, rfl, .inl (.inl h4), fun p hp => ?_⟩
        rw [cutV_take xs (Nat.le_of_lt ii)]
        have s5 : Same H4 (upd H4 p (.lst (xs.take i))) := same_upd hp
        refine .inl ⟨_, _, DdAt.dp ⟨t, rfl, s5 _ _ (sa _ _ ht)⟩, .lst (.inl (.inl upd_same)) (dl s5), Dd.shaped okd.wd, shapedL wd, false, ?_, ?_⟩
        · rw [any_in, no]
        · refine iteF ?_
          show D.nx _ _
          rw [hD]
          exact ⟨_, _, rfl, s3.trans (s4.trans s5)⟩
      · refine .inr ⟨a, xs, rfl, .inl (.inl h4), fun q => ?_, fun _ p hp => ?_⟩
        · exfalso
          have e1 : HT.sIx xs.length xs.length (some (i : Int)) = i := by
            simp only [HT.sIx]
            split <;> omega
          omega
        · rw [cutV_take xs (Nat.le_of_lt ii)]
          have s5 : Same H4 (upd H4 p (.tup (xs.take i))) := same_upd hp
          refine .inr ⟨_, _, DdAt.dp ⟨t, rfl, s5 _ _ (sa _ _ ht)⟩, .tup (.inl (.inl upd_same)) (dl s5), Dd.shaped okd.wd, shapedT wd, false, ?_, ?_⟩
          · rw [any_in, no]
          · refine iteF ?_
            show D.nx _ _
            rw [hD]
            exact ⟨_, _, rfl, s3.trans (s4.trans s5)⟩
    refine ⟨_, rfl, a, xs, rfl, ?_⟩
    have after : ∀ σ H2, Pv xs.length σ H2 → tIfS (tTest (tOp (rI0 fun i j => .bl (decide (j < i))) (tCB (fun xs H Q => ∃ p ys, xs = [.ref p] ∧ (SqL K H p ys ∨ SqT K H p ys) ∧ Q (.int ys.length) H) (tCons (tVar 1) tNil)) (tC (.int 60)))) tNever tNext { nx := fun _ H' => Q .non H', rt := Q } σ H2 := by
      rintro σ H2 ⟨v2, v3, rfl, s2⟩
      refine ⟨_, rfl, a, xs, rfl, (hs.same (s1.trans s2)).len, _, _, rfl, rfl, false, congrArg V.bl (decide_eq_false (by omega)), ?_⟩
      exact iteF (k _ (s1.trans s2))
    rcases hs1 with h1 | h1
    · refine .inl ⟨.inl (.inl h1), loop_of (n := xs.length) Pv ⟨none, none, rfl, fun _ _ q => q⟩ (fun σ H2 hp => ?_) ?_⟩
      · obtain ⟨v2, v3, e, s2⟩ := id hp
        exact ⟨⟨xs, .inl (.inl (s2 _ _ h1)), Nat.le_refl _⟩, after σ H2 hp⟩
      · rintro i σ H2 hi ⟨v2, v3, rfl, s2⟩
        refine ⟨⟨xs, _, .inl (.inl (s2 _ _ h1)), List.getElem?_eq_getElem hi⟩, ?_⟩
        rintro x H' ⟨T, y, rfl, hT, rfl, hy⟩
        exact body _ i T y H2 v2 v3 rfl s2 hT (hy xs (.inl (.inl (s2 _ _ h1))))
    · refine .inr ⟨.inl (.inl h1), loop_of (n := xs.length) Pv ⟨none, none, rfl, fun _ _ q => q⟩ (fun σ H2 hp => ?_) ?_⟩
      · obtain ⟨v2, v3, e, s2⟩ := id hp
        exact ⟨⟨xs, .inl (.inl (s2 _ _ h1)), Nat.le_refl _⟩, after σ H2 hp⟩
      · rintro i σ H2 hi ⟨v2, v3, rfl, s2⟩
        refine ⟨⟨xs, _, .inl (.inl (s2 _ _ h1)), List.getElem?_eq_getElem hi⟩, ?_⟩
        rintro x H' ⟨T, y, rfl, hT, rfl, hy⟩
        exact body _ i T y H2 v2 v3 rfl s2 hT (hy xs (.inl (.inl (s2 _ _ h1))))
end
end L2.K73
end

section
set_option Elab.async false
set_option linter.all false
set_option maxRecDepth 100000
set_option maxHeartbeats 2000000
namespace L2.K73
open PySem PySem.Spec PyProof.Rows L2.Gd

/-! ### a house: its attributes, its list -/
theorem kpd : ¬ (("_places" : Str) = "_deeds") := by decide +kernel
def flds (m : Int) (l : Addr) : List (Str × V) := putF "_deeds" (.ref l) (putF "_places" (.int m) [])
theorem flds_eq (m : Int) (l : Addr) : flds m l = ([("_places", V.int m), ("_deeds", V.ref l)] : List (Str × V)) := by
  show (if ("_places" : Str) = "_deeds" then [(("_places" : Str), V.ref l)] else (("_places" : Str), V.int m) :: putF "_deeds" (V.ref l) []) = ([("_places", V.int m), ("_deeds", V.ref l)] : List (Str × V))
  rw [if_neg kpd]
  all_goals rfl
theorem flds_p (m : Int) (l : Addr) : (flds m l).lookup ("_places" : Str) = some (.int m) := by
  unfold flds
  rw [lookup_putF, if_neg kpd, lookup_putF, if_pos rfl]
theorem flds_d (m : Int) (l : Addr) : (flds m l).lookup ("_deeds" : Str) = some (.ref l) := by
  unfold flds
  rw [lookup_putF, if_pos rfl]
theorem flds_no (m : Int) (l : Addr) {x : Str} (h1 : ¬ x = "_deeds") (h2 : ¬ x = "_places") : (flds m l).lookup x = none := by
  unfold flds
  rw [lookup_putF, if_neg h1, lookup_putF, if_neg h2]
  all_goals rfl
/-- a house at h with m places, its own list of the deeds ds at l -/
structure HouseL (C : Addr) (H : Hp) (h l : Addr) (m : Int) (xs : List V) (ds : List Dd) : Prop where
  ob : ∃ dx, H h = some (.ins C dx (flds m l))
  ls : H l = some (.lst xs)
  dd : DdAll H xs ds
structure WF (m : Int) (ds : List Dd) : Prop where
  m1 : 1 ≤ m
  m16 : m ≤ 16
  ok : ∀ d ∈ ds, d.Ok m
  nd : ds.Nodup
  len : ds.length ≤ 60
theorem WF.wd {m : Int} {ds : List Dd} (w : WF m ds) : ∀ d ∈ ds, d.Wd := fun d hd => (w.ok d hd).wd
theorem HouseL.same {C : Addr} {H H' : Hp} {h l : Addr} {m : Int} {xs : List V} {ds : List Dd} (s : Same H H') (x : HouseL C H h l m xs ds) : HouseL C H' h l m xs ds :=
  ⟨let ⟨dx, e⟩ := x.ob; ⟨dx, s _ _ e⟩, s _ _ x.ls, x.dd.same s⟩
theorem HouseL.lenE {C : Addr} {H : Hp} {h l : Addr} {m : Int} {xs : List V} {ds : List Dd} (x : HouseL C H h l m xs ds) : xs.length = ds.length := Paired.length x.dd

/-- what is known of the class -/
structure ClsT (K : PySem.W.Frag) (mg : Str → Option Value) (C : Addr) : Prop where
  isc : C8.InsC K C
  nP : NoAttr K C "_places"
  nD : NoAttr K C "_deeds"
  mgC : mg "House" = some (.ref C)
section
variable {P : Program} {w : World} {K : PySem.W.Frag} {mg : Str → Option Value} {base : Heap} {C : Addr}

/-! ### __init__ -/
def spInit (K : PySem.W.Frag) (C : Addr) : Sp := fun vs H Q _ => ∃ (x dx a : Addr) (m : Int) (xs : List V) (ds : List Dd), vs = [.ref x, .int m, .ref a] ∧ H x = some (.ins C dx []) ∧
  Seq K H a xs ∧ DdAll H xs ds ∧ WF m ds ∧
  ∀ (l : Addr) (H' : Hp), H l = none → H' x = some (.ins C dx (flds m l)) → H' l = some (.lst xs) → (∀ b o, b ≠ x → H b = some o → H' b = some o) → Q .non H'
theorem scIn : FnScope ["self", "places", "deeds"] ["self", "places", "deeds"] (defScope (cHouse 0)) := ⟨rfl, rfl, rfl, by decide +kernel, rfl, by decide +kernel, by decide +kernel⟩
theorem ok_init {f : Addr} {fd : FuncData} (F : Fun K "__init__" "House.__init__" (cHouse 0) f fd) (n : Nm mg) (T : ClsT K mg C)
    (GI : Fn P w K mg base 1 "is_integer" ["value"] spIsInt) (GC : Fn P w K mg base 4 "check_deeds" ["places", "deeds"] (spCheck K))
    {tk : Tok} (mm : mg "MOST_PLACES" = some (.int 16 tk)) : FnOk P w K mg base CX0 5 f fd ["self", "places", "deeds"] (spInit K C) := by
  refine F.ok scIn (fun vs H Q E h => ?_) (fun cdv A outer s H vs Q E hr h => ?_)
  · obtain ⟨x, dx, a, m, xs, ds, rfl, _⟩ := h
    rfl
  · obtain ⟨x, dx, a, m, xs, ds, rfl, hx, hs, hd, wf, k⟩ := h
    refine ⟨_, pss_cons (ps_if (pw_or (pt_not (pt_val (pe_fn GI (hr.mono (by decide)) (pa_cons (pv 1) pa_nil))))
          (pw_or1 (pt_not (pt_chain op_le op_le pe_int (pv 1) (pe_glob (v := .int 16) (by rfl) mm ⟨_, rfl⟩))))).pt pss_never pss_nil)
      (pss_cons (ps_expr (pe_fn GC hr (pa_cons (pv 1) (pa_cons (pv 2) pa_nil))))
      (pss_cons (ps_fld (pv 0) (pv 1) rfl)
      (pss_one (ps_fld (pv 0) (pe_callTy call_list_of (by rfl) n.list (by decide +kernel) (pa_cons (pv 2) pa_nil)) rfl)))), ?_⟩
    refine ⟨_, rfl, _, rfl, true, rfl, ?_⟩
    refine iteF ?_
    refine ⟨_, rfl, _, _, rfl, rfl, true, congrArg V.bl (decide_eq_true wf.m1), ?_⟩
    refine iteT ?_
    refine ⟨_, _, rfl, rfl, true, congrArg V.bl (decide_eq_true wf.m16), ?_⟩
    refine iteF ?_
    refine ⟨_, rfl, _, rfl, m, a, xs, ds, rfl, hs, hd, wf.ok, wf.nd, wf.len, fun H1 s1 => ?_⟩
    refine ⟨_, rfl, _, rfl, x, C, dx, [], rfl, s1 _ _ hx, T.isc.cl, T.nP, (by show 0 < 1000; decide), ?_⟩
    have nxa : ∀ {b : Addr} {ys : List V}, Seq K H b ys → b ≠ x := fun {b ys} q z => by
      subst z
      rcases q with q | q <;> (rw [hx] at q; exact nomatch q)
    have hs1 : Seq K (upd H1 x (.ins C dx (putF "_places" (.int m) []))) a xs := by
      rcases hs with q | q
      · exact .inl (by rw [upd_ne (nxa (.inl q))]; exact s1 _ _ q)
      · exact .inr (by rw [upd_ne (nxa (.inr q))]; exact s1 _ _ q)
    refine ⟨_, rfl, a, xs, rfl, hs1.len, fun l hl => ?_⟩
    have nl : x ≠ l := ne_of_none upd_same hl
    have hl0 : H l = none := by
      rw [upd_ne nl.symm] at hl
      exact s1.free hl
    refine ⟨_, rfl, x, C, dx, _, rfl, (by rw [upd_ne nl]; exact upd_same), T.isc.cl, T.nD, (by show 1 < 1000; decide), ?_⟩
    refine k l _ hl0 upd_same ?_ ?_
    · rw [upd_ne nl.symm, upd_same]
    · intro b o hb e
      rw [upd_ne hb, upd_ne (ne_of_none e hl0), upd_ne hb]
      exact s1 _ _ e
/-- C(..), a house: what the maker's promise wants -/
theorem init_read {H : Hp} {x dx a : Addr} {m : Int} {xs : List V} {ds : List Dd} {Q : VK} {E : XK} (nx : H x = none) (ndx : H dx = none) (ne : dx ≠ x)
    (hs : Seq K H a xs) (hd : DdAll H xs ds) (wf : WF m ds)
    (k : ∀ (l : Addr) (H' : Hp), H l = none → Same H H' → HouseL C H' x l m xs ds → Q (.ref x) H') :
    spInit K C [.ref x, .int m, .ref a] (upd (upd H dx (.own x)) x (.ins C dx [])) (fun v H2 => v = .non ∧ Q (.ref x) H2) E := by
  have s0 : Same H (upd (upd H dx (.own x)) x (.ins C dx [])) := fun b o e => by
    rw [upd_ne (ne_of_none e nx), upd_ne (ne_of_none e ndx)]
    exact e
  refine ⟨x, dx, a, m, xs, ds, rfl, upd_same, hs.same s0, hd.same s0, wf, fun l H' nl hx hl kp => ⟨rfl, ?_⟩⟩
  have s1 : Same H H' := fun b o e => kp b o (ne_of_none e nx) (s0 b o e)
  exact k l H' (s0.free nl) s1 ⟨⟨dx, hx⟩, hl, hd.same s1⟩
structure MkH (P : Program) (w : World) (K : PySem.W.Frag) (mg : Str → Option Value) (base : Heap) (C : Addr) : Prop where
  ex : ∃ f fd, Mk K C f ∧ Binds K fd ["self", "places", "deeds"] [] ∧ FnOk P w K mg base CX0 5 f fd ["self", "places", "deeds"] (spInit K C)
theorem pe_house {X : Cx} {e : Expr} {es : List Expr} {t : TA} {p pos : Pos} (M : MkH X.prog X.w X.K X.mg X.base C) (T : ClsT X.K X.mg C) (hr : Room 6 X.A) (ha : PA X (e :: es) t)
    (hg : Gl X "House" := by rfl) (he : starEach (e :: es) X.env = (false, eval e X.env) :: starEach es X.env := by rfl)
    (hpl : (backTo pos (starEach es X.env)).any (·.1) = false := by rfl) :
    PE X (.Call (.Name "House" p) (e :: es) [] pos) (tMake C (spInit X.K C) [] E0 t) := by
  obtain ⟨f, fd, mk, b, F⟩ := M.ex
  exact pe_make mk F hr hg T.mgC b .nil pass0 ha (by decide) he hpl

/-! ### places, deeds, len, is_plain -/
def spPlaces (C : Addr) : Sp := fun vs H Q _ => ∃ (h dx l : Addr) (m : Int), vs = [.ref h] ∧ H h = some (.ins C dx (flds m l)) ∧ Q (.int m) H
theorem scPl : FnScope ["self"] ["self"] (defScope (cHouse 1)) := ⟨rfl, rfl, rfl, by decide +kernel, rfl, by decide +kernel, by decide +kernel⟩
theorem ok_places {f : Addr} {fd : FuncData} (F : Fun K "places" "House.places" (cHouse 1) f fd) (T : ClsT K mg C) : FnOk P w K mg base CX0 1 f fd ["self"] (spPlaces C) := by
  refine F.ok scPl (fun vs H Q E h => ?_) (fun cdv A outer s H vs Q E hr h => ?_)
  · obtain ⟨h, dx, l, m, rfl, _⟩ := h
    rfl
  · obtain ⟨h, dx, l, m, rfl, hh, k⟩ := h
    refine ⟨_, pss_one (ps_ret (pe_fld (pv 0) rfl)), ?_⟩
    exact ⟨_, rfl, h, C, dx, _, _, rfl, hh, T.isc.cl, T.nP, flds_p _ _, k⟩
def spDeeds (C : Addr) : Sp := fun vs H Q _ => ∃ (h l : Addr) (m : Int) (xs : List V) (ds : List Dd), vs = [.ref h] ∧ HouseL C H h l m xs ds ∧ ∀ p, H p = none → Q (.ref p) (upd H p (.lst xs))
theorem scDe : FnScope ["self"] ["self"] (defScope (cHouse 3)) := ⟨rfl, rfl, rfl, by decide +kernel, rfl, by decide +kernel, by decide +kernel⟩
theorem ok_deeds {f : Addr} {fd : FuncData} (F : Fun K "deeds" "House.deeds" (cHouse 3) f fd) (n : Nm mg) (T : ClsT K mg C) : FnOk P w K mg base CX0 1 f fd ["self"] (spDeeds C) := by
  refine F.ok scDe (fun vs H Q E h => ?_) (fun cdv A outer s H vs Q E hr h => ?_)
  · obtain ⟨h, l, m, xs, ds, rfl, _⟩ := h
    rfl
  · obtain ⟨h, l, m, xs, ds, rfl, hh, k⟩ := h
    obtain ⟨dx, ob⟩ := hh.ob
    refine ⟨_, pss_one (ps_ret (pe_callTy call_list_of (by rfl) n.list (by decide +kernel) (pa_cons (pe_fld (pv 0) rfl) pa_nil))), ?_⟩
    exact ⟨_, rfl, h, C, dx, _, _, rfl, ob, T.isc.cl, T.nD, flds_d _ _, l, xs, rfl, .inl (.inl (.inl hh.ls)), k⟩
def spLen (C : Addr) : Sp := fun vs H Q _ => ∃ (h l : Addr) (m : Int) (xs : List V) (ds : List Dd), vs = [.ref h] ∧ HouseL C H h l m xs ds ∧ Q (.int ds.length) H
theorem scLe : FnScope ["self"] ["self"] (defScope (cHouse 4)) := ⟨rfl, rfl, rfl, by decide +kernel, rfl, by decide +kernel, by decide +kernel⟩
theorem ok_len {f : Addr} {fd : FuncData} (F : Fun K "__len__" "House.__len__" (cHouse 4) f fd) (n : Nm mg) (T : ClsT K mg C) : FnOk P w K mg base CX0 1 f fd ["self"] (spLen C) := by
  refine F.ok scLe (fun vs H Q E h => ?_) (fun cdv A outer s H vs Q E hr h => ?_)
  · obtain ⟨h, l, m, xs, ds, rfl, _⟩ := h
    rfl
  · obtain ⟨h, l, m, xs, ds, rfl, hh, k⟩ := h
    obtain ⟨dx, ob⟩ := hh.ob
    refine ⟨_, pss_one (ps_ret (pe_callB call_len_seq (by rfl) n.len PySem.boot_len (pa_cons (pe_fld (pv 0) rfl) pa_nil))), ?_⟩
    refine ⟨_, rfl, h, C, dx, _, _, rfl, ob, T.isc.cl, T.nD, flds_d _ _, l, xs, rfl, .inl (.inl (.inl hh.ls)), ?_⟩
    have e : ((xs.length : Nat) : Int) = (ds.length : Int) := by rw [hh.lenE]
    show Q (.int (xs.length : Int)) H
    rw [e]
    exact k
end
end L2.K73
end

section
set_option Elab.async false
set_option linter.all false
set_option maxRecDepth 100000
set_option maxHeartbeats 2000000
/-! [f(x) for x in xs if p(x)], xs a list or a tuple: what is made of each element -/
namespace L2.Gd
open PySem PySem.Spec PyProof.Rows
/-- all that stood, but for the list that is being made -/
def ButD (D : Addr) (H H' : Hp) : Prop := ∀ b o, b ≠ D → H b = some o → H' b = some o
theorem ButD.new {D : Addr} {H H' : Hp} (h : H D = none) (b : ButD D H H') : Same H H' := fun a o e => b a o (ne_of_none e h) e
theorem ButD.put {D : Addr} {H H' : Hp} {o : HO} (b : ButD D H H') : ButD D H (L2.upd H' D o) := fun a u ne e => by
  rw [upd_ne ne]
  exact b a u ne e
theorem ButD.more {D : Addr} {H H' H2 : Hp} (b : ButD D H H') (s : Same H' H2) : ButD D H H2 := fun a u ne e => s _ _ (b a u ne e)
theorem ButD.start {D : Addr} {H : Hp} {o : HO} : ButD D H (L2.upd H D o) := fun a u ne e => by
  rw [upd_ne ne]
  exact e
theorem filt_take {α β : Type} (f : α → Option β) {l : List α} {i : Nat} {x : α} (h : l[i]? = some x) : (l.take (i + 1)).filterMap f = (l.take i).filterMap f ++ (f x).toList := by
  rw [List.take_succ, h, List.filterMap_append]
  congr 1
theorem pair_at {α β : Type} {R : α → β → Prop} : ∀ {xs : List α} {ys : List β} {i : Nat} {x : α}, Paired R xs ys → xs[i]? = some x → ∃ y, ys[i]? = some y ∧ R x y
  | _, _, _, _, .nil, e => by simp at e
  | _, _, 0, _, .cons r _, e => by simp at e; subst e; exact ⟨_, rfl, r⟩
  | _, _, i + 1, x, .cons _ t, e => by
    obtain ⟨u, h1, h2⟩ := pair_at (i := i) (x := x) t (by simpa using e)
    exact ⟨u, by simpa using h1, h2⟩
section
variable {α β : Type} {K : PySem.W.Frag} {a : Addr} {xs : List V} {es : List α} {g : TG} {tt : TT} {te : TE} {vs : List Nat} {σ : L2.St} {H1 : Hp} {D : Addr} {Qd : Hp → Prop}
/-- what is promised of one turn -/
def StepOk (F : Hp → V → α → Prop) (G : Hp → V → β → Prop) (f : α → Option β) (g : TG) (tt : TT) (te : TE) (vs : List Nat) (σ : L2.St) (H1 : Hp) (D : Addr) (es : List α) : Prop :=
  ∀ (x : V) (e : α) (H : Hp) (A : V → Hp → Prop) (B : Hp → Prop), e ∈ es → F H1 x e → ButD D H1 H → (∃ zs, H D = some (.lst zs)) →
    (∀ b y H4, f e = some b → Same H H4 → G H4 y b → A y H4) → (∀ H3, f e = none → Same H H3 → B H3) →
    g x (wipe σ vs) H fun σ2 H2 => wipe σ2 vs = wipe σ vs ∧ tt σ2 H2 fun b H3 => if b = true then te σ2 H3 A else B H3
def Stab (G : Hp → V → β → Prop) (D : Addr) : Prop := ∀ (H H' : Hp) (y : V) (b : β), ButD D H H' → (∃ zs, H D = some (.lst zs)) → G H y b → G H' y b
def LcInv (G : Hp → V → β → Prop) (f : α → Option β) (H1 : Hp) (D : Addr) (es : List α) (i : Nat) (H : Hp) : Prop :=
  ∃ ys, H D = some (.lst ys) ∧ ys.length ≤ i ∧ Paired (G H) ys ((es.take i).filterMap f) ∧ ButD D H1 H
variable {F : Hp → V → α → Prop} {G : Hp → V → β → Prop} {f : α → Option β}
theorem lc_turn (st : Stab G D) (h1000 : xs.length ≤ 1000) (pa : Paired (F H1) xs es) (step : StepOk F G f g tt te vs σ H1 D es) {i : Nat} {x : V} {H : Hp} (hx : xs[i]? = some x) (h : LcInv G f H1 D es i H) :
    g x (wipe σ vs) H fun σ2 H2 => wipe σ2 vs = wipe σ vs ∧ tt σ2 H2 fun b H3 =>
      if b = true then te σ2 H3 fun y H4 => ∃ acc, H4 D = some (.lst acc) ∧ acc.length < sizeLine ∧ LcInv G f H1 D es (i + 1) (L2.upd H4 D (.lst (acc ++ [y]))) else LcInv G f H1 D es (i + 1) H3 := by
  obtain ⟨ys, h1, h2, h3, h4⟩ := h
  obtain ⟨e, he, hF⟩ := pair_at pa hx
  have hi : i < xs.length := (List.getElem?_eq_some_iff.mp hx).1
  refine step x e H _ _ (List.mem_of_getElem? he) hF h4 ⟨ys, h1⟩ (fun b y H4 hf s hg => ?_) (fun H3 hf s => ?_)
  · refine ⟨ys, s _ _ h1, by rw [sizeLine_eq]; omega, ys ++ [y], upd_same, by simp; omega, ?_, (h4.more s).put⟩
    rw [filt_take f he, hf]
    have bt : ButD D H4 (L2.upd H4 D (.lst (ys ++ [y]))) := ButD.start
    have hd : ∃ zs, H4 D = some (.lst zs) := ⟨ys, s _ _ h1⟩
    have o1 : Paired (G (L2.upd H4 D (.lst (ys ++ [y])))) ys ((es.take i).filterMap f) := Paired.mapP h3 fun u v q => st _ _ _ _ (show ButD D H _ from fun c o ne z => bt c o ne (s _ _ z)) ⟨ys, h1⟩ q
    exact PySem.Paired.snoc o1 (st _ _ _ _ bt hd hg)
  · refine ⟨ys, s _ _ h1, by omega, ?_, h4.more s⟩
    rw [filt_take f he, hf]
    simp only [Option.toList, List.append_nil]
    exact Paired.mapP h3 fun u v q => st _ _ _ _ (fun c o _ z => s _ _ z) ⟨ys, h1⟩ q
theorem lc_mapL (st : Stab G D) (hl : H1 a = some (.lst xs)) (hD : H1 D = none) (h1000 : xs.length ≤ 1000) (pa : Paired (F H1) xs es) (step : StepOk F G f g tt te vs σ H1 D es)
    (fin : ∀ ys H, H D = some (.lst ys) → Paired (G H) ys (es.filterMap f) → ButD D H1 H → Qd H) :
    ∃ W : Nat → Nat → Hp → Prop, (∃ m, W 0 m (L2.upd H1 D (.lst []))) ∧ ∀ i m H, W i m H →
      ((Itl K a).stop i H ∧ Qd H) ∨ ((Itl K a).go i H ∧ ∃ Nx : Hp → Prop, (∀ H', Nx H' → ∃ m', m' < m ∧ W (i + 1) m' H') ∧ ∀ x H', (Itl K a).yld i H x H' → g x (wipe σ vs) H' fun σ2 H2 => wipe σ2 vs = wipe σ vs ∧ tt σ2 H2 fun b H3 =>
        if b = true then te σ2 H3 fun y H4 => ∃ acc, H4 D = some (.lst acc) ∧ acc.length < sizeLine ∧ Nx (L2.upd H4 D (.lst (acc ++ [y]))) else Nx H3) := by
  refine lc_list (xs := xs) (LcInv G f H1 D es) ⟨[], upd_same, Nat.le_refl _, .nil, .start⟩ (fun i H _ ⟨ys, _, _, _, h4⟩ => .inl (.inl (h4.new hD _ _ hl))) (fun i x H hx h => lc_turn st h1000 pa step hx h) ?_
  rintro H ⟨ys, h1, _, h3, h4⟩
  rw [PySem.Paired.length pa, List.take_length] at h3
  exact fin ys H h1 h3 h4
theorem lc_mapT (st : Stab G D) (hl : H1 a = some (.tup xs)) (hD : H1 D = none) (h1000 : xs.length ≤ 1000) (pa : Paired (F H1) xs es) (step : StepOk F G f g tt te vs σ H1 D es)
    (fin : ∀ ys H, H D = some (.lst ys) → Paired (G H) ys (es.filterMap f) → ButD D H1 H → Qd H) :
    ∃ W : Nat → Nat → Hp → Prop, (∃ m, W 0 m (L2.upd H1 D (.lst []))) ∧ ∀ i m H, W i m H →
      ((Itt K a).stop i H ∧ Qd H) ∨ ((Itt K a).go i H ∧ ∃ Nx : Hp → Prop, (∀ H', Nx H' → ∃ m', m' < m ∧ W (i + 1) m' H') ∧ ∀ x H', (Itt K a).yld i H x H' → g x (wipe σ vs) H' fun σ2 H2 => wipe σ2 vs = wipe σ vs ∧ tt σ2 H2 fun b H3 =>
        if b = true then te σ2 H3 fun y H4 => ∃ acc, H4 D = some (.lst acc) ∧ acc.length < sizeLine ∧ Nx (L2.upd H4 D (.lst (acc ++ [y]))) else Nx H3) := by
  refine lc_tup (xs := xs) (LcInv G f H1 D es) ⟨[], upd_same, Nat.le_refl _, .nil, .start⟩ (fun i H _ ⟨ys, _, _, _, h4⟩ => .inl (.inl (h4.new hD _ _ hl))) (fun i x H hx h => lc_turn st h1000 pa step hx h) ?_
  rintro H ⟨ys, h1, _, h3, h4⟩
  rw [PySem.Paired.length pa, List.take_length] at h3
  exact fin ys H h1 h3 h4
end
end L2.Gd
end

section
set_option Elab.async false
set_option linter.all false
set_option maxRecDepth 100000
set_option maxHeartbeats 2000000
/-! [f(i) for i in range(..)] -/
namespace L2.Gd
open PySem PySem.Spec PyProof.Rows
def rgI (lo : Int) (n : Nat) : List Int := (List.range n).map fun i : Nat => lo + (i : Int)
theorem rgI_len (lo : Int) (n : Nat) : (rgI lo n).length = n := by unfold rgI; rw [List.length_map, List.length_range]
theorem paired_int : ∀ ns : List Int, Paired (fun v e => v = V.int e) (ns.map V.int) ns
  | [] => .nil
  | n :: r => .cons rfl (paired_int r)
section
variable {β : Type} {lo : Int} {n : Nat} {g : TG} {tt : TT} {te : TE} {vs : List Nat} {σ : L2.St} {H1 : Hp} {D : Addr} {Qd : Hp → Prop} {G : Hp → V → β → Prop} {f : Int → Option β}
theorem lc_mapR (st : Stab G D) (h1000 : n ≤ 1000) (step : StepOk (fun _ v e => v = V.int e) G f g tt te vs σ H1 D (rgI lo n))
    (fin : ∀ ys H, H D = some (.lst ys) → Paired (G H) ys ((rgI lo n).filterMap f) → ButD D H1 H → Qd H) :
    ∃ W : Nat → Nat → Hp → Prop, (∃ m, W 0 m (L2.upd H1 D (.lst []))) ∧ ∀ i m H, W i m H →
      ((Itr lo n).stop i H ∧ Qd H) ∨ ((Itr lo n).go i H ∧ ∃ Nx : Hp → Prop, (∀ H', Nx H' → ∃ m', m' < m ∧ W (i + 1) m' H') ∧ ∀ x H', (Itr lo n).yld i H x H' → g x (wipe σ vs) H' fun σ2 H2 => wipe σ2 vs = wipe σ vs ∧ tt σ2 H2 fun b H3 =>
        if b = true then te σ2 H3 fun y H4 => ∃ acc, H4 D = some (.lst acc) ∧ acc.length < sizeLine ∧ Nx (L2.upd H4 D (.lst (acc ++ [y]))) else Nx H3) := by
  have pa := paired_int (rgI lo n)
  have len : ((rgI lo n).map V.int).length = n := by rw [List.length_map, rgI_len]
  refine lc_range (LcInv G f H1 D (rgI lo n)) ⟨[], upd_same, Nat.le_refl _, .nil, .start⟩ (fun i H hi h => ?_) ?_
  · refine lc_turn (xs := (rgI lo n).map V.int) (F := fun _ v e => v = V.int e) st (by rw [len]; exact h1000) pa step (i := i) (x := .int (lo + i)) ?_ h
    unfold rgI
    rw [List.getElem?_map, List.getElem?_map, List.getElem?_range hi]
    rfl
  · rintro H ⟨ys, h1, _, h3, h4⟩
    rw [List.take_of_length_le (Nat.le_of_eq (rgI_len lo n))] at h3
    exact fin ys H h1 h3 h4
end
end L2.Gd
end

section
set_option Elab.async false
set_option linter.all false
set_option maxRecDepth 100000
set_option maxHeartbeats 2000000
/-! a comprehension by an invariant, whatever is walked -/
namespace L2.Gd
open PySem PySem.Spec PyProof.Rows
theorem lc_gen {J : It} {n : Nat} {g : TG} {tt : TT} {te : TE} {vs : List Nat} {σ : L2.St} {H1 : Hp} {D : Addr} {Qd : Hp → Prop} (Iv : Nat → Hp → Prop) (h0 : Iv 0 (L2.upd H1 D (.lst []))) (hd : ∀ H, Iv n H → J.stop n H ∧ Qd H)
    (hs : ∀ i H, i < n → Iv i H → J.go i H ∧ ∀ x H', J.yld i H x H' → g x (wipe σ vs) H' fun σ2 H2 => wipe σ2 vs = wipe σ vs ∧ tt σ2 H2 fun b H3 =>
      if b = true then te σ2 H3 fun y H4 => ∃ acc, H4 D = some (.lst acc) ∧ acc.length < sizeLine ∧ Iv (i + 1) (L2.upd H4 D (.lst (acc ++ [y]))) else Iv (i + 1) H3) :
    ∃ W : Nat → Nat → Hp → Prop, (∃ m, W 0 m (L2.upd H1 D (.lst []))) ∧ ∀ i m H, W i m H →
      (J.stop i H ∧ Qd H) ∨ (J.go i H ∧ ∃ Nx : Hp → Prop, (∀ H', Nx H' → ∃ m', m' < m ∧ W (i + 1) m' H') ∧ ∀ x H', J.yld i H x H' → g x (wipe σ vs) H' fun σ2 H2 => wipe σ2 vs = wipe σ vs ∧ tt σ2 H2 fun b H3 =>
        if b = true then te σ2 H3 fun y H4 => ∃ acc, H4 D = some (.lst acc) ∧ acc.length < sizeLine ∧ Nx (L2.upd H4 D (.lst (acc ++ [y]))) else Nx H3) := by
  refine ⟨fun i m H => m = n - i ∧ i ≤ n ∧ Iv i H, ⟨n, by simp, Nat.zero_le _, h0⟩, ?_⟩
  rintro i m H ⟨rfl, hi, hp⟩
  by_cases e : i < n
  · obtain ⟨go, k⟩ := hs i H e hp
    exact .inr ⟨go, Iv (i + 1), fun H' q => ⟨n - (i + 1), by omega, rfl, e, q⟩, k⟩
  · obtain rfl : i = n := by omega
    exact .inl (hd H hp)
/-! ### [f(i) for i in range(..)], long ones -/
section
variable {β : Type} {lo : Int} {n : Nat} {g : TG} {tt : TT} {te : TE} {vs : List Nat} {σ : L2.St} {H1 : Hp} {D : Addr} {Qd : Hp → Prop} {G : Hp → V → β → Prop} {f : Int → Option β}
theorem lc_mapRL (st : Stab G D) (hn : n ≤ 1000000) (step : StepOk (fun _ v e => v = V.int e) G f g tt te vs σ H1 D (rgI lo n))
    (fin : ∀ ys H, H D = some (.lst ys) → Paired (G H) ys ((rgI lo n).filterMap f) → ButD D H1 H → Qd H) :
    ∃ W : Nat → Nat → Hp → Prop, (∃ m, W 0 m (L2.upd H1 D (.lst []))) ∧ ∀ i m H, W i m H →
      ((Itr lo n).stop i H ∧ Qd H) ∨ ((Itr lo n).go i H ∧ ∃ Nx : Hp → Prop, (∀ H', Nx H' → ∃ m', m' < m ∧ W (i + 1) m' H') ∧ ∀ x H', (Itr lo n).yld i H x H' → g x (wipe σ vs) H' fun σ2 H2 => wipe σ2 vs = wipe σ vs ∧ tt σ2 H2 fun b H3 =>
        if b = true then te σ2 H3 fun y H4 => ∃ acc, H4 D = some (.lst acc) ∧ acc.length < sizeLine ∧ Nx (L2.upd H4 D (.lst (acc ++ [y]))) else Nx H3) := by
  refine lc_range (LcInv G f H1 D (rgI lo n)) ⟨[], upd_same, Nat.le_refl _, .nil, .start⟩ (fun i H hi h => ?_) ?_
  · obtain ⟨ys, h1, h2, h3, h4⟩ := h
    have he : (rgI lo n)[i]? = some (lo + (i : Int)) := by
      unfold rgI
      rw [List.getElem?_map, List.getElem?_range hi]
      rfl
    refine step (.int (lo + i)) (lo + i) H _ _ (List.mem_of_getElem? he) rfl h4 ⟨ys, h1⟩ (fun b y H4 hf s hg => ?_) (fun H3 hf s => ?_)
    · refine ⟨ys, s _ _ h1, by rw [sizeLine_eq]; omega, ys ++ [y], upd_same, by simp; omega, ?_, (h4.more s).put⟩
      rw [filt_take f he, hf]
      have bt : ButD D H4 (L2.upd H4 D (.lst (ys ++ [y]))) := ButD.start
      have hd : ∃ zs, H4 D = some (.lst zs) := ⟨ys, s _ _ h1⟩
      have o1 : Paired (G (L2.upd H4 D (.lst (ys ++ [y])))) ys (((rgI lo n).take i).filterMap f) := Paired.mapP h3 fun u v q => st _ _ _ _ (show ButD D H _ from fun c o ne z => bt c o ne (s _ _ z)) ⟨ys, h1⟩ q
      exact PySem.Paired.snoc o1 (st _ _ _ _ bt hd hg)
    · refine ⟨ys, s _ _ h1, by omega, ?_, h4.more s⟩
      rw [filt_take f he, hf]
      simp only [Option.toList, List.append_nil]
      exact Paired.mapP h3 fun u v q => st _ _ _ _ (fun c o _ z => s _ _ z) ⟨ys, h1⟩ q
  · rintro H ⟨ys, h1, _, h3, h4⟩
    rw [List.take_of_length_le (Nat.le_of_eq (rgI_len lo n))] at h3
    exact fin ys H h1 h3 h4
end
end L2.Gd
end

section
set_option Elab.async false
set_option linter.all false
set_option maxRecDepth 100000
set_option maxHeartbeats 2000000
/-! len of an instance of an own class that has a __len__. -/
namespace L2.Gd
open PySem PySem.Spec PyProof.Rows
section
variable {X : Cx} {C f N : Addr} {n : Nat} {fd : FuncData} {ps : List Str} {sp : Sp}
theorem call_lenOwn (hr : Room (n + 1) X.A) (F : FnOk X.prog X.w X.K X.mg X.base CX0 n f fd ps sp) (hb : Binds X.K fd ps [])
    (hs : PySem.W.findIn X.K (.ref C) "__len__" = some (some (.ref f))) (hf : PySem.W.isFn X.K (.ref f) = true) :
    CallR X (.builtin "len") (fun xs H Q => ∃ (a dx : Addr) (fs : List (Str × V)), xs = [.ref a] ∧ H a = some (.ins C dx fs) ∧
      sp [.ref a] H (fun v H' => (∃ k : Nat, v = .int k ∧ k < 1000000) ∧ Q v H') E0) := by
  rintro pins s σ H xs us Q I r ⟨a, dx, fs, rfl, ha, h⟩
  rw [Vals.ref1 r]
  obtain ⟨mA, J, _⟩ := ins_get I.hok ha
  obtain ⟨od, J, _⟩ := J.look
  obtain ⟨m, fr⟩ := I.fr
  refine PySem.W.len_K fr I.ok.mod.kin J hs hf ?_
  refine thn (run_at (us := [.ref a]) (vs := [.ref a]) F hb (A := X.A.in1) ⟨hr.in1, rfl⟩ I (.cons rfl .nil) h) ?_
  rintro r s' ⟨z, H', I', rz, ⟨k, rfl, hk⟩, q⟩
  obtain ⟨tk, rfl⟩ := rz
  exact ⟨⟨by omega, by omega⟩, .int k, H', I'.tok _, ⟨_, rfl⟩, q⟩
end
end L2.Gd
end

section
set_option Elab.async false
set_option linter.all false
set_option maxRecDepth 100000
set_option maxHeartbeats 2000000
/-! repr of data of any kind -/
namespace L2.Gd
open PySem PySem.Spec PyProof.Rows
section
variable {X : Cx}
theorem call_reprAny (hg : X.A.guards = some []) (hu : X.A.units + 64 < cLine) :
    CallR X (.builtin "repr") (fun xs H Q => ∃ x d, xs = [x] ∧ Dp X.K H x d ∧ Showy d ∧ Q (.str d.shown) H) := by
  rintro pins s σ H xs us Q I r ⟨x, d, rfl, hd, sh, q⟩
  obtain ⟨u, rfl, ru⟩ := vals1 r
  cases hd with
  | non =>
    obtain rfl := ru
    exact PySem.P.repr_of_none ⟨.str _, H, I.tok _, ⟨_, rfl⟩, q⟩
  | bl b =>
    obtain rfl := ru
    refine PySem.P.repr_of_bool ⟨.str _, H, I.tok _, ⟨_, rfl⟩, ?_⟩
    cases b <;> exact q
  | int i =>
    obtain ⟨t, rfl⟩ := ru
    have hz : i.natAbs.log2 < 1920 := by
      have := sh.1
      simpa only [PyData.showable, decide_eq_true_eq] using this
    exact PySem.P.repr_of_int hz ⟨.str _, H, I.tok _, ⟨_, rfl⟩, q⟩
  | str z =>
    obtain ⟨t, rfl⟩ := ru
    have hz := sh.2.2.2
    exact PySem.P.repr_of_str ⟨.str _, H, I.tok _, ⟨_, rfl⟩, q⟩ (by simpa only [PyData.shown] using hz)
  | lst h t => exact call_reprD hg hu pins s σ H _ _ Q I (.cons ru .nil) ⟨_, _, rfl, .lst h t, sh, q⟩
  | tup h t => exact call_reprD hg hu pins s σ H _ _ Q I (.cons ru .nil) ⟨_, _, rfl, .tup h t, sh, q⟩
end
end L2.Gd
namespace L2.Gd
open PySem PySem.Spec PyProof.Rows
/-- a dict of ints by ints -/
def dI (ps : List (Int × Int)) : List (Key × V) := ps.map fun p => (.inl p.1, .int p.2)
def dP (ps : List (Int × Int)) : PyData := .dict (ps.map fun p => (.int p.1, .int p.2))
theorem reads_ints {h : Heap} {P : Program} {w : World} : ∀ (ps : List (Int × Int)) (es : List DictEntry) (vs : List (Key × Value)), KV (dI ps) vs → Pairs (mixKind P w) es vs →
    ReadsAll h (es.map (·.key)) (ps.map fun p => PyData.int p.1) [] ∧ ReadsAll h (es.map (·.val)) (ps.map fun p => PyData.int p.2) []
  | [], es, vs, kv, pr => by
    cases kv
    cases pr
    exact ⟨.nil, .nil⟩
  | p :: ps, es, vs, kv, pr => by
    cases kv with
    | cons k1 k2 =>
      cases pr with
      | cons e1 e2 e3 =>
        obtain ⟨ke, kr⟩ := k1
        obtain ⟨a, b⟩ := reads_ints (h := h) ps _ _ k2 e3
        obtain ⟨t, ev⟩ := kr
        have e1' : keyIs _ _ = true := e1
        rw [← ke] at e1'
        rcases keyIs_shape e1' with ⟨i, u, h1, h2⟩ | ⟨x, u, h1, h2⟩
        · cases h1
          refine ⟨?_, ?_⟩
          · rw [List.map_cons, List.map_cons, h2]
            exact ReadsAll.cons (as := []) (bs := []) (.int _ _) a
          · rw [List.map_cons, List.map_cons, e2, ev]
            exact ReadsAll.cons (as := []) (bs := []) (.int _ _) b
        · exact nomatch h1
section
variable {X : Cx}
/-- repr of such -/
theorem call_reprDI (hg : X.A.guards = some []) (hu : X.A.units + 64 < cLine) :
    CallR X (.builtin "repr") (fun xs H Q => ∃ a ps, xs = [.ref a] ∧ H a = some (.dK (dI ps)) ∧ (dP ps).showable = true ∧ (dP ps).depth ≤ 20 ∧ (dP ps).shown.length ≤ sizeLine ∧ Q (.str (dP ps).shown) H) := by
  rintro pins s σ H xs us Q I r ⟨a, ps, rfl, ha, h1, h2, h3, q⟩
  rw [Vals.ref1 r]
  obtain ⟨hz, ns, vs, kv, o, es, ep, ho, ex, hd, _, prs, _⟩ := (show ObjOk X.prog X.w H s.heap a (.dK (dI ps)) from I.hok a _ ha)
  obtain ⟨r1, r2⟩ := reads_ints (h := s.heap) ps _ _ kv prs
  have rd : Reads s.heap (.ref a) (dP ps) (a :: [] ++ []) := .dict ho ex.1 hd (by rw [List.map_map]; exact r1) (by rw [List.map_map]; exact r2)
  refine repr_of_reads' rd h1 (fun _ hm => ?_) hg (by omega) (fun _ _ q => q) ?_ h3
  · have e : sysModules = a := by simpa using hm
    rw [e] at ns
    simp at ns
  · intro h' u tk k
    exact ⟨.str _, H, I.kept k, ⟨_, rfl⟩, q⟩
end
end L2.Gd
end

section
set_option Elab.async false
set_option linter.all false
set_option maxRecDepth 100000
set_option maxHeartbeats 2000000
/-! s[::-1] of a text; enumerate of a text -/
namespace L2.Gd
open PySem PySem.Spec PyProof.Rows
open Builtin Builtin.Str
def revS (z : Str) : Str := ⟨z.cps.toList.reverse.toArray⟩
theorem revS_ix (n : Nat) : strSliceIndices none none (-1) n = (List.range n).reverse := by
  have e : strSliceIndices none none (-1) n = sliceRange ((n : Int) - 1) (-1) (-1) := rfl
  rw [e, PySem.W.krv_sliceRange, PySem.W.krv_range]
theorem revS_cut (z : Str) : (⟨((strSliceIndices none none (-1) z.length).filterMap (z.cps[·]?)).toArray⟩ : Str) = revS z := by
  rw [revS_ix]
  unfold revS
  rw [List.filterMap_reverse]
  have : (List.range z.length).filterMap (z.cps[·]?) = z.cps.toList := PySem.W.krv_all z.cps
  rw [this]
def tRevS (te : TE) : TE := fun σ H Q => te σ H fun x H1 => ∃ z, x = .str z ∧ z.length ≤ sizeLine ∧ Q (.str (revS z)) H1
theorem pe_revS {X : Cx} {e : Expr} {te : TE} {k : Nat} {p1 p2 p3 pos : Pos} (he : PE X e te) : PE X (.Subscript e (.Slice none none (some (.UnaryOp .USub (.Constant (.int 1) k p1) p2)) p3) pos) (tRevS te) := by
  refine ⟨fun pins s σ H Q I h => ?_⟩
  refine Subscript_ (thn (he.run pins s σ H _ I h) fun v s1 ⟨x, H1, I1, r1, q1⟩ => ?_)
  obtain ⟨z, ex, hz, q⟩ := q1
  subst ex
  obtain ⟨t, rfl⟩ := r1
  have hst : PO X (some (.UnaryOp .USub (.Constant (.int 1) k p1) p2)) (tPart (tUn (rU fun i => .int (-i)) (tC (.int 1)))) := po_some (pe_un un_neg pe_int)
  refine wpAny_Slice (thn (po_none.run pins s1 σ H1 (fun o H2 => o = none ∧ H2 = H1) I1 ⟨rfl, rfl⟩) fun vl s2 ⟨l, H2, I2, pl, el, e2⟩ => ?_)
  subst el e2
  refine thn (po_none.run pins s2 σ H2 (fun o H3 => o = none ∧ H3 = H2) I2 ⟨rfl, rfl⟩) fun vu s3 ⟨u, H3, I3, pu, eu, e3⟩ => ?_
  subst eu e3
  refine thn (hst.run pins s3 σ H3 (fun o H4 => o = some (-1) ∧ H4 = H3) I3 ⟨1, rfl, -1, rfl, rfl, rfl⟩) fun vs s4 ⟨o, H4, I4, ps, eo, e4⟩ => ?_
  subst eo e4
  have I5 : Inv X pins σ H4 { s4 with heap := s4.heap.push { cls := .type "slice", data := .fields #[vl, vu, vs] } } := I4.kept (t' := s4.toks) fun b ob q => Heap.get?_push_of_some _ q
  obtain ⟨l', rfl, el⟩ := IsPart.raw pl
  obtain ⟨u', rfl, eu⟩ := IsPart.raw pu
  obtain ⟨st', rfl, es⟩ := IsPart.raw ps
  show wpAny (model X.prog X.w) X.A (subscriptTail e (.Slice none none (some (.UnaryOp .USub (.Constant (.int 1) k p1) p2)) p3) (.str z t) (.ref s4.heap.objs.size)) (EP X pins σ Q) X.xe { s4 with heap := s4.heap.push { cls := .type "slice", data := .fields #[partValue l', partValue u', partValue st'] } }
  refine tail_any (ops := [.ref s4.heap.objs.size, .str z t]) (typeIs_str _ _ _) (F.slot_str_getitem.lookup) ?_ (by with_unfolding_all rfl)
  refine wpAny_getItem_str_slice (l := l') (u := u') (st := st') ⟨_, Heap.get?_push_size _ rfl, rfl, rfl⟩ (by rw [es]; rfl) ?_
  have e1 : slicePicked z l' u' st' = strSliceIndices none none (-1) z.length := by
    unfold slicePicked
    rw [el, eu, es]
    rfl
  have hl : (revS z).length ≤ sizeLine := by
    show (z.cps.toList.reverse.toArray).size ≤ sizeLine
    rw [List.size_toArray, List.length_reverse, Array.length_toList]
    exact hz
  unfold sliceMade
  rw [e1, es, revS_cut]
  show Made.post (if ((-1 : Int) == 1 && _) = true then _ else _) _ _
  rw [if_neg (fun h => absurd (Bool.and_eq_true_iff.mp h).1 (by decide))]
  exact ⟨hl, .str _, _, I5.tok _, ⟨_, rfl⟩, q⟩
/-! ### enumerate of a text -/
def IteS (x : Str) : It where
  go := fun i _ => i < x.cps.size
  yld := fun i H v H' => ∃ T c, v = .ref T ∧ H T = none ∧ H' = upd H T (.tup [.int (i : Nat), .str ⟨#[c]⟩]) ∧ x.cps[i]? = some c
  stop := fun i _ => x.cps.size ≤ i
theorem drawsS {prog : Program} {w : World} {A : Around} (hh : A.handled = none) (I : Addr) (x : Str) (t : Tok) :
    Draws prog w A I [I] x.cps.size (fun i v => ∃ c u, x.cps[i]? = some c ∧ v = .str ⟨#[c]⟩ u) (fun i h => h.IsStrIter I (strIterType x) x t i) := by
  unfold strIterType
  by_cases h : x.cps.all (· < 128) = true
  · rw [if_pos h]
    exact Draws.strAscii hh I x t
  · rw [if_neg h]
    exact Draws.strWide hh I x t
theorem turn_enumS {P : Program} {w : World} {K : PySem.W.Frag} {elts : List Expr} {kk : Nat} {tpos : Pos} (x : Str) (t : Tok) (e I : Addr) :
    Turn P w K (.Tuple elts kk tpos) (IteS x) [e, I] e (fun i h => (∃ old, IsEnum h e I ((i : Nat) : Int) old) ∧ h.IsStrIter I (strIterType x) x t i ∧ i ≤ x.cps.size ∧ e ≠ I) where
  mem := List.mem_cons_self
  obj := by
    rintro i h ⟨⟨old, he⟩, ⟨o, ho, hc, hd⟩, _⟩ b hb
    rcases List.mem_cons.mp hb with rfl | hb
    · exact ⟨_, he, fun v q => nomatch q⟩
    · obtain rfl := List.mem_singleton.mp hb
      exact ⟨o, ho, fun v q => by rw [hd] at q; exact nomatch q⟩
  keep := by
    rintro i h h' ⟨⟨old, he⟩, ⟨o, ho, r⟩, le, ne⟩ k
    exact ⟨⟨old, k e (by simp) _ he⟩, ⟨o, k I (by simp) _ ho, r⟩, le, ne⟩
  item := by
    rintro X hP hw hK hc i pins s σ H E J hf ⟨⟨old, he⟩, it, lei, ne⟩ lt
    subst hP hw hK
    have lt : i < x.cps.size := lt
    have le : e < s.heap.objs.size := Heap.lt_size he
    have li : I < s.heap.objs.size := let ⟨_, q, _⟩ := it; Heap.lt_size q
    refine wpAny_pyNext_enum_itemD (drawsS (A := X.A.in1) (J.ok.hd hc) I x t) he it lt ne (by simpa using ne) ?_
    intro u h1 tk ⟨c, ut, hcx, hu⟩ out it1 tup1 z1 k1
    subst hu
    refine ⟨_, rfl, wpAny_letOwnedTupleGo_enum (s := { s with heap := h1, toks := tk + 1 }) out ?_⟩
    intro h2 he2 sb
    have tup2 : h2.get? s.heap.objs.size = some { cls := .type "tuple", data := .seq #[.int i tk, .str ⟨#[c]⟩ ut] } := (sb.2 _ (Nat.ne_of_gt le)).trans tup1
    have new : ObjOk X.prog X.w (upd H s.heap.objs.size (.tup [.int (i : Nat), .str ⟨#[c]⟩])) h2 s.heap.objs.size (.tup [.int (i : Nat), .str ⟨#[c]⟩]) :=
      ⟨by show 2 ≤ sizeLine; decide, [.int i tk, .str ⟨#[c]⟩ ut], .cons ⟨_, rfl⟩ (.cons ⟨_, rfl⟩ .nil), ⟨_, tup2, rfl, _, rfl⟩⟩
    have J1 : Inv X pins σ (upd H s.heap.objs.size (.tup [.int (i : Nat), .str ⟨#[c]⟩])) { s with heap := h2, toks := tk + 1 } := by
      refine J.turnedNew (ch := [e, I]) (fun b o hb q => ?_) hf (Nat.le_refl _) new
      have b1 : b ≠ e := fun z => hb (by simp [z])
      have b2 : b ≠ I := fun z => hb (by simp [z])
      exact (sb.2 b b1).trans (k1 b o b1 b2 q)
    refine ⟨.ref s.heap.objs.size, _, J1, rfl, ⟨_, c, rfl, J.hok.fresh (Nat.le_refl _), rfl, hcx⟩, ⟨⟨.str ⟨#[c]⟩ ut, ?_⟩, ?_, lt, ne⟩, ?_⟩
    · rw [show ((i + 1 : Nat) : Int) = (i : Int) + 1 by omega]
      exact he2
    · obtain ⟨o, ho, r⟩ := it1
      exact ⟨o, (sb.2 I (Ne.symm ne)).trans ho, r⟩
    · intro b hb
      have lb : b < s.heap.objs.size := by
        rcases List.mem_cons.mp hb with rfl | q
        · exact le
        · obtain rfl := List.mem_singleton.mp q
          exact li
      rw [upd_ne (Nat.ne_of_lt lb)]
      exact (hf b hb).1
  done := by
    rintro X hP hw hK hc i pins s σ H E J hf ⟨⟨old, he⟩, it, lei, ne⟩ hx
    subst hP hw hK
    have hx : x.cps.size ≤ i := hx
    obtain rfl : i = x.cps.size := by omega
    obtain ⟨f0, f1, f2, f3, f4, f5⟩ := hf I (by simp)
    refine wpAny_pyNext_enum_endD (drawsS (A := X.A.in1) (J.ok.hd hc) I x t) he it ?_
    intro h1 eb
    exact ⟨rfl, J.turned (t' := s.toks) (fun b o hb q => eb b o hb q) f0 f1 f3 f4 f5⟩
  self := by
    rintro A i s Q E ⟨⟨_, he⟩, _⟩ h
    exact wpAny_pyIter_enum he h
def iEnumS (ta : TA) : TI := fun σ H R => ta σ H fun vs H1 => ∃ x, vs = [.str x] ∧ R (IteS x) H1
theorem pi_enumS {X : Cx} {e : Expr} {ta : TA} {p pos tpos : Pos} {elts : List Expr} {kk : Nat} (hg : Gl X "enumerate") (hm : X.mg "enumerate" = none) (ha : PA X [e] ta)
    (hs : starEach [e] X.env = [(false, eval e X.env)] := by rfl) :
    PI X (.Tuple elts kk tpos) (.Call (.Name "enumerate" p) [e] [] pos) (iEnumS ta) := by
  constructor
  intro pins s σ H R J h
  refine Call_ (ld_blt J hg hm boot_enumerate (PyProof.Rows.callWith_type1 (thn (ha.run pos pins s σ H _ J h) ?_) hs rfl))
  rintro us s1 ⟨vs, H1, J1, r1, x, rfl, q⟩
  cases r1 with
  | cons r rr =>
    cases rr
    obtain ⟨t, rfl⟩ := r
    have fp : ∀ b ∈ [s1.heap.objs.size + 1, s1.heap.objs.size], FpOk X pins H1 b := by
      intro b hb
      have le : s1.heap.objs.size ≤ b := by
        rcases List.mem_cons.mp hb with rfl | q
        · omega
        · obtain rfl := List.mem_singleton.mp q
          exact Nat.le_refl _
      exact J1.fpOk le (J1.hok.fresh le)
    refine call_enumerate_str ?_
    intro h' he it z k
    exact wpAny_pyIter_enum he ⟨_, _, _, _, H1, rfl, J1.kept (t' := s1.toks) k, turn_enumS x t (s1.heap.objs.size + 1) s1.heap.objs.size,
      ⟨⟨.none, he⟩, it, Nat.zero_le _, Nat.succ_ne_self _⟩, fp, q⟩
end L2.Gd
end

section
set_option Elab.async false
set_option linter.all false
set_option maxRecDepth 100000
set_option maxHeartbeats 2000000
/-! f"{n:b}" of a number that is not below 0 -/
namespace PyProof.Rows
open PySem Builtin Float
def bitL (n : Nat) : List Nat := (Nat.toDigits 2 n).map Char.toNat
def bitT (n : Nat) : Str := ⟨(bitL n).toArray⟩
def specB : FormatSpec := { align := 62, type := some 98 }
theorem parse_b : parseFormatSpec ("b" : Str).cps.toList "int" 62 = .ok specB := by kernel_rfl
theorem bitT_length (n : Nat) : (bitT n).length = (Nat.toDigits 2 n).length := by
  show (bitL n).toArray.size = _
  unfold bitL
  rw [List.size_toArray, List.length_map]
section
variable {prog : Program} {w : World} {A : Around} {E : Value → Shared → Prop} {s : Shared}
theorem mkStr_to {x y : Str} {Q : Value → Shared → Prop} (e : x = y) (hy : y.length ≤ sizeLine) (h : Q (.str y s.toks) { s with toks := s.toks + 1 }) : wpAny (model prog w) A (mkStr x) Q E s := by
  subst e
  exact wpAny_mkStr h hy
set_option maxRecDepth 100000 in
theorem formatField_bin {n : Nat} {t : Tok} {Q : Value → Shared → Prop} (hl : (Nat.toDigits 2 n).length ≤ sizeLine)
    (h : Q (.str (bitT n) (s.toks + 1)) { s with toks := s.toks + 1 + 1 }) :
    wpAny (model prog w) A (formatField (.int (n : Int) t) ("b" : Str)) Q E s := by
  have hne : (("b" : Str).length == 0) = false := by decide +kernel
  have hasc : ((("b" : Str).cps.toList.drop 1).any (· ≥ 128) || (("b" : Str).cps.getD 0 0 ≥ 128 && !([60, 62, 61, 94] : List Nat).contains (("b" : Str).cps.getD 1 0))) = false := by decide +kernel
  have hlen : (bitT n).length ≤ sizeLine := by rw [bitT_length]; exact hl
  show wpAny _ _ (holding [.int (n : Int) t] (pyFormat (.int (n : Int) t) ("b" : Str))) Q E s
  refine wpAny_holding ?_
  unfold pyFormat
  refine wpAny_bind (wpAny_mkStr ?_ (by rw [sizeLine_eq]; decide +kernel))
  refine wpAny_bind (m := callSpecial? (.int (n : Int) t) (Str.ofString "__format__") [.str ("b" : Str) s.toks]) (wpAny_callSpecial?_slot (name := Str.ofString "__format__") (typeIs_int _ (n : Int) t) slot_int_format ?_)
  refine wpAny_call (codeAny_call_builtin slot_int_format.plain entry_int_format (slot_int_format.check _ _ _ _ _ _ _ _ (typeIs_int _ (n : Int) t) (args_int_format _ _) ?_))
  unfold Builtin.«int.__format__»
  simp only [selfAndOne, noKeywords, Int.intOfSelf, asInt?, asStr?, List.isEmpty_nil, if_true, pure_bind, bind_pure, bind_assoc, hne, hasc, Bool.false_eq_true, if_false,
    show (Value.str ("b" : Str) s.toks == Value.none) = false from rfl]
  refine wpAny_bind (wpAny_typeNameOf (T := "str") (typeIs_str _ _ _) (by decide) fun _ => ?_)
  refine wpAny_bind (wpAny_typeNameOfCut_int ?_)
  simp only [parse_b]
  show wpAny _ _ (if _ then _ else _) _ _ _
  rw [if_pos (by decide +kernel)]
  show wpAny _ _ (retStr _) _ _ _
  unfold retStr
  refine wpAny_bind (mkStr_to (y := bitT n) ?_ hlen (wpAny_pure ?_))
  · have nn : decide ((n : Int) < 0) = false := decide_eq_false (by omega)
    have ab : ((n : Int)).natAbs = n := Int.natAbs_natCast n
    rw [nn, ab]
    have al : specB.alt = false := rfl
    have ty : specB.type = some 98 := rfl
    simp only [al, ty, Bool.false_eq_true, if_false, Option.getD_some, show ((98 : Nat) == 88) = false by decide, show ((2 : Nat) == 10) = false by decide]
    conv => lhs; whnf
    have hne2 : (List.map Char.toNat (Nat.toDigits 2 n)).isEmpty = false := by
      rw [List.isEmpty_map]
      cases hd : Nat.toDigits 2 n with
      | nil => exact absurd hd (by
          have := Nat.length_toDigits_pos (b := 2) (n := n)
          intro z
          rw [z] at this
          exact absurd this (by decide))
      | cons a r => rfl
    have w0 : specB.width = none := rfl
    have g0 : specB.grouping = none := rfl
    have s0 : specB.sign = none := rfl
    have fa : (specB.fill == 48 && specB.align == 61) = false := by decide
    simp only [w0, g0, s0, fa, hne2, Bool.false_eq_true, if_false, List.length_nil, Int.toNat_zero, Nat.zero_sub, List.replicate_zero, List.nil_append, List.append_nil]
    have pz : ∀ m : Nat, ((-1 : Int) - (((0 : Nat) : Int) + ((0 : Nat) : Int) + ((0 : Nat) : Int)) - (m : Int)).toNat = 0 := fun m => by omega
    rw [pz]
    rfl
  · dsimp only
    exact wpAny_bind (wpAny_isInstance (typeIs_str _ _ _) isSubtype_str_str (wpAny_pure h))
end
end PyProof.Rows
namespace PyProof.Rows
open PySem
def revL (n : Nat) : List Nat := (bitL n).reverse
def bitC (b : Bool) : Nat := if b then 49 else 48
theorem revL_small {n : Nat} (h : n < 2) : revL n = [bitC (n.testBit 0)] := by
  unfold revL bitL
  rw [Nat.toDigits_of_lt_base h]
  have : n = 0 ∨ n = 1 := by omega
  rcases this with rfl | rfl <;> rfl
theorem revL_step {n : Nat} (h : 2 ≤ n) : revL n = bitC (n.testBit 0) :: revL (n / 2) := by
  unfold revL bitL
  rw [Nat.toDigits_of_base_le (by decide) h, List.map_append, List.reverse_append]
  show [(n % 2).digitChar.toNat].reverse ++ _ = _
  have e : (n % 2).digitChar.toNat = bitC (n.testBit 0) := by
    rw [Nat.testBit_zero]
    have : n % 2 = 0 ∨ n % 2 = 1 := by omega
    rcases this with z | z <;> rw [z] <;> rfl
  rw [e]
  rfl
theorem revL_at : ∀ (n k : Nat), (∀ c, (revL n)[k]? = some c → c = bitC (n.testBit k)) ∧ ((revL n).length ≤ k → n.testBit k = false) := by
  intro n
  induction n using Nat.strongRecOn with
  | _ n ih =>
    intro k
    by_cases h : n < 2
    · rw [revL_small h]
      cases k with
      | zero => exact ⟨fun c e => (Option.some.inj e).symm, fun z => absurd z (by simp)⟩
      | succ k =>
        refine ⟨fun c e => (nomatch e), fun _ => ?_⟩
        rw [Nat.testBit_succ, show n / 2 = 0 by omega]
        exact Nat.zero_testBit k
    · rw [revL_step (by omega)]
      cases k with
      | zero => exact ⟨fun c e => (Option.some.inj e).symm, fun z => absurd z (by simp)⟩
      | succ k =>
        obtain ⟨h1, h2⟩ := ih (n / 2) (by omega) k
        rw [Nat.testBit_succ]
        refine ⟨fun c e => h1 c e, fun z => h2 ?_⟩
        rw [List.length_cons] at z
        omega
theorem revL_length (n : Nat) : (revL n).length = (bitT n).length := by
  unfold revL
  rw [List.length_reverse]
  rfl
/-- the positions of the ones, rising -/
def onesL (n : Nat) : List Nat := (List.range (revL n).length).filter n.testBit
theorem mem_onesL {n k : Nat} : k ∈ onesL n ↔ n.testBit k = true := by
  unfold onesL
  rw [List.mem_filter, List.mem_range]
  refine ⟨fun h => h.2, fun h => ⟨Nat.lt_of_not_le fun z => ?_, h⟩⟩
  rw [(revL_at n k).2 z] at h
  exact nomatch h
theorem revL_len_le {n m : Nat} (h : n < 2 ^ m) (hm : 0 < m) : (revL n).length ≤ m := by
  unfold revL bitL
  rw [List.length_reverse, List.length_map]
  exact (Nat.length_toDigits_le_iff (by decide) hm).mpr h
/-- the same below any bound of the number -/
theorem onesL_range {n m : Nat} (h : n < 2 ^ m) : onesL n = (List.range m).filter n.testBit := by
  have key : ∀ j, (List.range ((revL n).length + j)).filter n.testBit = onesL n := by
    intro j
    induction j with
    | zero => rfl
    | succ j ih =>
      rw [← Nat.add_assoc, List.range_succ, List.filter_append, ih]
      have z := (revL_at n ((revL n).length + j)).2 (Nat.le_add_right _ _)
      simp [z]
  by_cases hm : 0 < m
  · have := revL_len_le h hm
    rw [← key (m - (revL n).length), show (revL n).length + (m - (revL n).length) = m by omega]
  · obtain rfl : m = 0 := by omega
    obtain rfl : n = 0 := by simpa using h
    decide
end PyProof.Rows
namespace L2
open PySem PySem.Spec PyProof.Rows
section
variable {X : Cx}
/-- {x:b} of a number that is not below 0 -/
def tFmtB (te : TE) : TE := fun σ H Q => te σ H fun x H1 => ∃ n : Nat, x = .int n ∧ (revL n).length ≤ sizeLine ∧ Q (.str (bitT n)) H1
theorem pe_fmtB {e : Expr} {te : TE} {k : Nat} {p1 p2 pos : Pos} (he : PE X e te) : PE X (.FormattedValue e (-1) (some (.JoinedStr [.Constant (.str "b") k p1] p2)) pos) (tFmtB te) := by
  refine ⟨fun pins s σ H Q I h => ?_⟩
  refine wpAny_FormattedValue_spec (thn (he.run pins s σ H _ I h) fun v s1 hv => ?_)
  obtain ⟨x, H1, I1, r1, n, rfl, hz, q⟩ := hv
  obtain ⟨t, rfl⟩ := r1
  refine wpAny_JoinedStr_one (wpAny_Constant_str ?_)
  refine ⟨_, _, rfl, ?_⟩
  exact formatField_bin (by rw [← bitT_length, ← revL_length]; exact hz) ⟨.str (bitT n), H1, (I1.tok _).tok _, ⟨_, rfl⟩, q⟩
end
end L2
end

section
set_option Elab.async false
set_option linter.all false
set_option maxRecDepth 100000
set_option maxHeartbeats 4000000
namespace L2.K73
open PySem PySem.Spec PyProof.Rows L2.Gd
section
variable {P : Program} {w : World} {K : PySem.W.Frag} {mg : Str → Option Value} {base : Heap} {C : Addr}
theorem small_le {n k : Nat} (h : n ≤ k) (hk : k ≤ 1000 := by decide) : n ≤ sizeLine := by
  rw [sizeLine_eq]
  omega
theorem Paired.app {α β : Type} {R : α → β → Prop} : ∀ {xs xs' : List α} {ys ys' : List β}, Paired R xs ys → Paired R xs' ys' → Paired R (xs ++ xs') (ys ++ ys')
  | _, _, _, _, .nil, h => h
  | _, _, _, _, .cons r t, h => .cons r (Paired.app t h)
theorem cutV_drop (xs : List V) {i : Nat} (h : i ≤ xs.length) : cutV xs (some (i : Int)) none = xs.drop i := by
  have e0 : HT.sIx xs.length 0 (some (i : Int)) = i := by
    simp only [HT.sIx]
    split <;> omega
  have e1 : HT.sIx xs.length xs.length none = xs.length := by simp [HT.sIx]
  unfold cutV
  rw [e0, e1]
  exact List.take_of_length_le (by rw [List.length_drop]; omega)
theorem Paired.dropP {α β : Type} {R : α → β → Prop} : ∀ {xs : List α} {ys : List β} (n : Nat), Paired R xs ys → Paired R (xs.drop n) (ys.drop n)
  | _, _, 0, h => h
  | _, _, _ + 1, .nil => .nil
  | _, _, n + 1, .cons r t => Paired.dropP n t
theorem stabD (D : Addr) : Stab DdAt D := fun H H' y d b ⟨zs, hD⟩ ⟨t, e, ht⟩ => ⟨t, e, b _ _ (fun z => by subst z; rw [hD] at ht; exact nomatch ht) ht⟩
theorem stabF (D : Addr) {H1 H : Hp} {t : Addr} {xs ys : List V} (b : ButD D H1 H) (hD : H D = some (.lst ys)) (h : H1 t = some (.tup xs)) (hD1 : H1 D = none) : H t = some (.tup xs) := b.new hD1 _ _ h
def keepD (p : Dd → Bool) (d : Dd) : Option Dd := if p d = true then some d else none
theorem keepD_filter (p : Dd → Bool) (ds : List Dd) : ds.filterMap (keepD p) = ds.filter p := by
  induction ds with
  | nil => rfl
  | cons d r ih =>
    by_cases h : p d = true
    · rw [List.filterMap_cons_some (show keepD p d = some d from if_pos h), List.filter_cons_of_pos h, ih]
    · rw [List.filterMap_cons_none (show keepD p d = none from if_neg h), List.filter_cons_of_neg h, ih]
theorem mapD (f : Dd → Dd) (ds : List Dd) : ds.filterMap (fun d => some (f d)) = ds.map f := by rw [List.filterMap_eq_map']

structure PrH (P : Program) (w : World) (K : PySem.W.Frag) (mg : Str → Option Value) (base : Heap) (C : Addr) (x : Str) (sp : Sp) : Prop where
  ex : ∃ p g fd, PropOf K C x p g ∧ Binds K fd ["self"] [] ∧ FnOk P w K mg base CX0 1 g fd ["self"] sp
theorem pe_prH {X : Cx} {x : Str} {sp : Sp} {e : Expr} {te : TE} {pos : Pos} (G : PrH X.prog X.w X.K X.mg X.base C x sp) (T : ClsT X.K X.mg C) (hr : Room 2 X.A) (he : PE X e te)
    (hab : attributeBase e x X.env (eval e X.env) = eval e X.env := by rfl) : PE X (.Attribute e x pos) (tProp C sp [] E0 te) := by
  obtain ⟨p, g, fd, hp, b, F⟩ := G.ex
  exact pe_prop he T.isc.cl hp F hr b .nil pass0 hab
theorem mapE {α β : Type} (f : α → β) (ds : List α) : ds.filterMap (fun d => some (f d)) = ds.map f := by rw [List.filterMap_eq_map']
theorem bls_of : ∀ {zs : List V} {bs : List Bool}, Paired (fun v b => v = V.bl b) zs bs → zs = bs.map V.bl
  | _, _, .nil => rfl
  | _, _, .cons h t => by rw [h, bls_of t]; rfl
/-! ### the pot -/
abbrev sDraw : Stmt := top 45
def PotAt (H : Hp) (p : Addr) : Prop := ∃ a b : Int, H p = some (.lst [.int a, .int b]) ∧ 0 ≤ a ∧ 0 ≤ b ∧ b < 2147483587
/-! ### a digit of the pot -/
theorem PotAt.same {H H' : Hp} {p : Addr} (s : Same H H') (h : PotAt H p) : PotAt H' p := let ⟨a, b, e, r⟩ := h; ⟨a, b, s _ _ e, r⟩
def spDraw : Sp := fun vs H Q _ => ∃ (p : Addr) (n : Int), vs = [.ref p, .int n] ∧ PotAt H p ∧ 1 ≤ n ∧ n < 1000000 ∧ ∀ d H', 0 ≤ d → d < n → PotAt H' p → ButD p H H' → Q (.int d) H'
theorem scDr : FnScope ["_law_pot_here", "_law_many", "_law_digit"] ["_law_pot_here", "_law_many"] (defScope sDraw) := ⟨rfl, rfl, rfl, by decide +kernel, rfl, by decide +kernel, by decide +kernel⟩
theorem ok_draw {f : Addr} {fd : FuncData} (F : Fun K "_law_draw" "_law_draw" sDraw f fd) (n : Nm mg) : FnOk P w K mg base CX0 1 f fd ["_law_pot_here", "_law_many"] spDraw := by
  refine F.ok scDr (fun vs H Q E h => ?_) (fun cdv A outer s H vs Q E hr h => ?_)
  · obtain ⟨p, m, rfl, _⟩ := h
    rfl
  · obtain ⟨p, m, rfl, ⟨a, b, hp, a0, b0, bu⟩, m1, mu, q⟩ := h
    have N := scDr.nd
    refine ⟨_, pss_cons (ps_if (pt_cmpR op_gt (pe_ix ix_list (pv 0) pe_int (fun _ _ => rfl)) pe_int (nomark _))
        (pss_cons (ps_asg (pe_callB call_divmod (by rfl) n.divmod (by decide +kernel) (pa_cons (pe_ix ix_list (pv 0) pe_int (fun _ _ => rfl)) (pa_cons (pv 1) pa_nil)))
            (pg_tup rfl (pgs_cons (pg_sub (pv 0) pe_int set_list) (pgs_cons (pg_name (i := 2) N rfl (.inl rfl)) pgs_nil))))
          (pss_one (ps_ret (pv 2)))) pss_nil)
      (pss_cons (ps_asg (pe_op op_mod (pe_callTy call_int1 (by rfl) n.int (by decide +kernel) (pa_cons (pe_op op_add (pe_op op_mul (pe_ix ix_list (pv 0) pe_int (fun _ _ => rfl)) pe_int) pe_int) pa_nil)) pe_int) (pg_sub (pv 0) pe_int set_list))
      (pss_one (ps_ret (pe_op op_mod (pe_callTy call_int1 (by rfl) n.int (by decide +kernel) (pa_cons (pe_op op_fdiv (pe_op op_mod (pe_callTy call_int1 (by rfl) n.int (by decide +kernel) (pa_cons
        (pe_op op_mul (pe_ix ix_list (pv 0) pe_int (fun _ _ => rfl)) (pe_ix ix_list (pv 0) pe_int (fun _ _ => rfl))) pa_nil)) pe_int) pe_int) pa_nil)) (pv 1))))), ?_⟩
    refine ⟨_, rfl, p, _, _, _, rfl, rfl, .inl (.inl hp), rfl, _, _, rfl, rfl, decide (a > 0), rfl, ?_⟩
    by_cases ha : a > 0
    · rw [decide_eq_true ha]
      refine iteT ?_
      refine ⟨_, rfl, p, _, _, _, rfl, rfl, .inl (.inl hp), rfl, _, rfl, _, _, rfl, ⟨by omega, by omega⟩, fun t ht => ?_⟩
      have hpt : upd H t (.tup [.int (a / m), .int (a % m)]) p = some (.lst [.int a, .int b]) := same_upd ht _ _ hp
      refine ⟨t, _, rfl, .inl (.inl upd_same), rfl, ?_⟩
      refine ⟨_, _, rfl, _, rfl, p, _, _, 0, rfl, rfl, hpt, rfl, _, _, rfl, rfl, ?_⟩
      refine ⟨_, rfl, q _ _ (Int.emod_nonneg _ (by omega)) (Int.emod_lt_of_pos _ (by omega)) ⟨_, _, upd_same, Int.ediv_nonneg a0 (by omega), b0, bu⟩ ?_⟩
      intro c o ne e
      rw [upd_ne ne]
      exact same_upd ht _ _ e
    · rw [decide_eq_false ha]
      refine iteF ?_
      refine ⟨_, rfl, p, _, _, _, rfl, rfl, .inl (.inl hp), rfl, _, _, rfl, rfl, .inr (by decide), _, _, rfl, rfl, .inl ⟨_, rfl, _, _, rfl, rfl, (by show (0 : Int) < 2147483563; decide), ?_⟩⟩
      refine ⟨_, rfl, p, _, _, 1, rfl, rfl, hp, rfl, ?_⟩
      have c0 : 0 ≤ (b * 40014 + 1109) % 2147483563 := by omega
      have cu : (b * 40014 + 1109) % 2147483563 < 2147483587 := by omega
      have hc : upd H p (.lst ([V.int a, V.int b].set 1 ((fun i j => V.int (i % j)) (b * 40014 + 1109) 2147483563))) p = some (.lst [.int a, .int ((b * 40014 + 1109) % 2147483563)]) := upd_same
      refine ⟨_, rfl, p, _, _, _, rfl, rfl, .inl (.inl hc), rfl, _, rfl, p, _, _, _, rfl, rfl, .inl (.inl hc), rfl, _, _, rfl, rfl, .inl ⟨by omega, by omega⟩, ?_⟩
      refine .inl ⟨_, rfl, _, _, rfl, rfl, (by show (0 : Int) < 2147483587; decide), _, _, rfl, rfl, ⟨by decide, by decide⟩, .inl ⟨_, rfl, _, rfl, _, _, rfl, rfl, (by show (0 : Int) < m; omega), ?_⟩⟩
      refine q _ _ (Int.emod_nonneg _ (by omega)) (Int.emod_lt_of_pos _ (by omega)) ⟨_, _, hc, a0, c0, cu⟩ ?_
      intro k o ne e
      rw [upd_ne ne]
      exact e
theorem ButD.refl {D : Addr} {H : Hp} : ButD D H H := fun _ _ _ e => e
theorem ButD.trans {D : Addr} {H1 H2 H3 : Hp} (a : ButD D H1 H2) (b : ButD D H2 H3) : ButD D H1 H3 := fun c o ne e => b c o ne (a c o ne e)
theorem Same.but {D : Addr} {H1 H2 : Hp} (a : Same H1 H2) : ButD D H1 H2 := fun c o _ e => a c o e
/-- tuples stay, the pot is a list -/
theorem pot_ne {H : Hp} {p t : Addr} {xs : List V} (hp : PotAt H p) (ht : H t = some (.tup xs)) : t ≠ p := by
  rintro rfl
  obtain ⟨a, b, e, _⟩ := hp
  rw [ht] at e
  exact nomatch e
theorem DdAll.pot {H H' : Hp} {p : Addr} {vs : List V} {ds : List Dd} (hp : PotAt H p) (b : ButD p H H') (h : DdAll H vs ds) : DdAll H' vs ds :=
  Paired.mapP h fun _ _ ⟨t, e, q⟩ => ⟨t, e, b _ _ (pot_ne hp q) q⟩

theorem take_map {α β : Type} (f : α → β) {l : List α} {i : Nat} {x : α} (h : l[i]? = some x) : (l.take (i + 1)).map f = (l.take i).map f ++ [f x] := by
  rw [List.take_succ, h, List.map_append]
  rfl
/-- all that stood, but for the list that is being made -/
def But (D : Addr) (H H' : Hp) : Prop := ∀ b o, b ≠ D → H b = some o → H' b = some o
theorem But.new {D : Addr} {H H' : Hp} (h : H D = none) (b : But D H H') : Same H H' := fun a o e => b a o (ne_of_none e h) e
theorem But.upd {D : Addr} {H H' : Hp} {o : HO} (b : But D H H') : But D H (upd H' D o) := fun a u ne e => by
  rw [upd_ne ne]
  exact b a u ne e
theorem But.more {D p : Addr} {H H' : Hp} {o : HO} (b : But D H H') (hp : H' p = none) : But D H (L2.upd H' p o) := fun a u ne e => by
  rw [upd_ne (ne_of_none (b a u ne e) hp)]
  exact b a u ne e
theorem But.start {D : Addr} {H : Hp} {o : HO} : But D H (L2.upd H D o) := fun a u ne e => by
  rw [upd_ne ne]
  exact e
theorem DdAll.but {D : Addr} {H H' : Hp} (hD : ∀ t ys, H t = some (.tup ys) → t ≠ D) (b : But D H H') {vs : List V} {ds : List Dd} (h : DdAll H vs ds) : DdAll H' vs ds :=
  Paired.mapP h fun v x ⟨t, e, q⟩ => ⟨t, e, b _ _ (hD _ _ q) q⟩

def isAny (d : Dd) : Bool := decide (d.w = "any")
def spPlain (C : Addr) : Sp := fun vs H Q _ => ∃ (h l : Addr) (m : Int) (xs : List V) (ds : List Dd), vs = [.ref h] ∧ HouseL C H h l m xs ds ∧ ds.length ≤ 60 ∧ ∀ H', Same H H' → Q (.bl (ds.all isAny)) H'
theorem scIp : FnScope ["self", "_", "when"] ["self"] (defScope (cHouse 2)) := ⟨rfl, rfl, rfl, by decide +kernel, rfl, by decide +kernel, by decide +kernel⟩
theorem ok_isPlain {f : Addr} {fd : FuncData} (F : Fun K "is_plain" "House.is_plain" (cHouse 2) f fd) (n : Nm mg) (T : ClsT K mg C) : FnOk P w K mg base CX0 1 f fd ["self"] (spPlain C) := by
  refine F.ok scIp (fun vs H Q E h => ?_) (fun cdv A outer s H vs Q E hr h => ?_)
  · obtain ⟨h, l, m, xs, ds, rfl, _⟩ := h
    rfl
  · obtain ⟨h, l, m, xs, ds, rfl, hh, le, k⟩ := h
    obtain ⟨dx, ob⟩ := hh.ob
    have N := scIp.nd
    refine ⟨_, pss_one (ps_ret (pe_callB (cr_all rfl) (by rfl) n.all (by decide +kernel) (pa_cons
      (pe_lc (own := [("_", 1), ("when", 2)]) (g := gTup K 4 (gCons (gName 1) (gCons (gName 1) (gCons (gName 1) (gCons (gName 2) gNil))))) (tt := tYes) rfl N (pi_list (pe_fld (pv 0) rfl)) (blkOk_by (N := ["self", "_", "when"]) (sc := defScope (cHouse 2)) (by decide +kernel))
        (fun _ _ _ _ _ => pg_tup rfl (pgs_cons (pg_name (i := 1) N rfl (.inl rfl)) (pgs_cons (pg_name (i := 1) N rfl (.inl rfl)) (pgs_cons (pg_name (i := 1) N rfl (.inl rfl)) (pgs_cons (pg_name (i := 2) N rfl (.inl rfl)) pgs_nil)))))
        (fun _ _ _ _ _ => pts_nil) (fun _ _ _ _ _ => pe_cmpR op_eq (pv 2) pe_str (nomark _))) pa_nil))), ?_⟩
    refine ⟨_, rfl, h, C, dx, _, _, rfl, ob, T.isc.cl, T.nD, flds_d _ _, l, rfl, ⟨xs, .inl (.inl hh.ls)⟩, fun D hD => ?_⟩
    refine lc_list (xs := xs) (fun i H' => H' D = some (.lst ((ds.take i).map fun d => V.bl (isAny d))) ∧ But D H H') ⟨upd_same, But.start⟩
      (fun i H' _ hI => .inl (.inl (hI.2.new hD _ _ hh.ls))) ?_ ?_
    · intro i x H' hx ⟨h1, h2⟩
      obtain ⟨d, hdi, t, rfl, ht⟩ := Paired.at hh.dd hx
      refine ⟨t, _, rfl, .inl (.inl (h2.new hD _ _ ht)), rfl, _, _, rfl, _, _, rfl, _, _, rfl, _, _, rfl, rfl, rfl, yes_ite ?_⟩
      refine ⟨_, rfl, rfl, _, h1, ?_, ?_, h2.upd⟩
      · rw [List.length_map]
        exact small1000 (by rw [List.length_take]; omega)
      · rw [upd_same, take_map _ hdi]
        have e : decide (V.str d.w = V.str "any") = isAny d := by
          unfold isAny
          rw [Bool.eq_iff_iff]
          simp
        show some (HO.lst (_ ++ [V.bl (decide (V.str d.w = V.str "any"))])) = _
        rw [e]
    · intro H' ⟨h1, h2⟩
      rw [hh.lenE, List.take_length] at h1
      refine ⟨D, ds.map isAny, rfl, .inl (.inl (by rw [h1, List.map_map]; rfl)), ?_⟩
      have e : (ds.map isAny).all id = ds.all isAny := by
        rw [List.all_map]
        rfl
      rw [e]
      exact k H' (h2.new hD)

def Made (C : Addr) (H : Hp) (Q : VK) (m : Int) (ds : List Dd) : Prop := ∀ (h l : Addr) (xs : List V) (H' : Hp), H h = none → H l = none → Same H H' → HouseL C H' h l m xs ds → Q (.ref h) H'
theorem Made.same {H H' : Hp} {Q : VK} {m : Int} {ds : List Dd} (s : Same H H') (k : Made C H Q m ds) : Made C H' Q m ds := fun h l xs H2 n1 n2 s2 hh => k h l xs H2 (s.free n1) (s.free n2) (s.trans s2) hh
theorem make_end {H : Hp} {a : Addr} {m : Int} {xs : List V} {ds : List Dd} {Q : VK} {E : XK} (hs : Seq K H a xs) (hd : DdAll H xs ds) (wf : WF m ds) (k : Made C H Q m ds) :
    ∀ x dx, H x = none → H dx = none → dx ≠ x → spInit K C (.ref x :: ([.int m, .ref a] ++ [])) (upd (upd H dx (.own x)) x (.ins C dx [])) (fun v H2 => v = .non ∧ Q (.ref x) H2) E :=
  fun x dx nx ndx ne => init_read nx ndx ne hs hd wf fun l H' nl s hh => k x l xs H' nx nl s hh

theorem make_any {K : PySem.W.Frag} {C : Addr} {R : Addr → VK} {H : Hp} {a : Addr} {m : Int} {xs : List V} {ds : List Dd} {E : XK} (hs : Seq K H a xs) (hd : DdAll H xs ds) (wf : WF m ds)
    (k : ∀ (x l : Addr) (H' : Hp), H x = none → H l = none → Same H H' → HouseL C H' x l m xs ds → R x .non H') :
    ∀ x dx, H x = none → H dx = none → dx ≠ x → spInit K C (.ref x :: ([.int m, .ref a] ++ [])) (upd (upd H dx (.own x)) x (.ins C dx [])) (R x) E := by
  intro x dx nx ndx ne
  have s0 : Same H (upd (upd H dx (.own x)) x (.ins C dx [])) := fun b o e => by
    rw [upd_ne (ne_of_none e nx), upd_ne (ne_of_none e ndx)]
    exact e
  refine ⟨x, dx, a, m, xs, ds, rfl, upd_same, hs.same s0, hd.same s0, wf, fun l H' nl hx hl kp => ?_⟩
  have s1 : Same H H' := fun b o e => kp b o (ne_of_none e nx) (s0 b o e)
  exact k x l H' nx (s0.free nl) s1 ⟨⟨dx, hx⟩, hl, hd.same s1⟩
/-! ### plain -/
def spPln (C : Addr) : Sp := fun vs H Q _ => ∃ (h l : Addr) (m : Int) (xs : List V) (ds : List Dd), vs = [.ref h] ∧ HouseL C H h l m xs ds ∧ WF m ds ∧ Made C H Q m (ds.filter isAny)
theorem WF.filter {m : Int} {ds : List Dd} (w : WF m ds) (p : Dd → Bool) : WF m (ds.filter p) :=
  ⟨w.m1, w.m16, fun d hd => w.ok d (List.mem_filter.mp hd).1, w.nd.filter _, Nat.le_trans (List.length_filter_le _ _) w.len⟩
theorem scPn : FnScope ["self", "deed"] ["self"] (defScope (cHouse 11)) := ⟨rfl, rfl, rfl, by decide +kernel, rfl, by decide +kernel, by decide +kernel⟩
theorem anyE (d : Dd) : decide (V.str d.w = V.str "any") = isAny d := by
  unfold isAny
  rw [Bool.eq_iff_iff]
  simp
theorem ok_plain {f : Addr} {fd : FuncData} (F : Fun K "plain" "House.plain" (cHouse 11) f fd) (T : ClsT K mg C) (M : MkH P w K mg base C) : FnOk P w K mg base CX0 7 f fd ["self"] (spPln C) := by
  refine F.ok scPn (fun vs H Q E h => ?_) (fun cdv A outer s H vs Q E hr h => ?_)
  · obtain ⟨h, l, m, xs, ds, rfl, _⟩ := h
    rfl
  · obtain ⟨h, l, m, xs, ds, rfl, hh, wf, k⟩ := h
    obtain ⟨dx, ob⟩ := hh.ob
    have N := scPn.nd
    refine ⟨_, pss_one (ps_ret (pe_house M T hr (pa_cons (pe_fld (pv 0) rfl) (pa_cons
      (pe_lc (own := [("deed", 1)]) (g := gName 1) rfl N (pi_list (pe_fld (pv 0) rfl)) (blkOk_by (N := ["self", "deed"]) (sc := defScope (cHouse 11)) (by decide +kernel))
        (fun _ _ _ _ _ => pg_name (i := 1) N rfl (.inl rfl))
        (fun _ _ _ _ _ => pts_one (pt_cmpR op_eq (pe_ix (r := rIxT K) ix_tup (pv 1) pe_int (fun _ _ => rfl)) pe_str (nomark _))) (fun _ _ _ _ _ => pv 1)) pa_nil)))), ?_⟩
    refine ⟨_, rfl, h, C, dx, _, _, rfl, ob, T.isc.cl, T.nP, flds_p _ _, ?_⟩
    refine ⟨_, rfl, h, C, dx, _, _, rfl, ob, T.isc.cl, T.nD, flds_d _ _, l, rfl, ⟨xs, .inl (.inl hh.ls)⟩, fun D hD => ?_⟩
    refine lc_mapL (es := ds) (F := DdAt) (G := DdAt) (f := keepD isAny) (stabD D) hh.ls hD (Nat.le_trans (Nat.le_of_eq hh.lenE) (Nat.le_trans wf.len (by decide))) hh.dd ?_ ?_
    · rintro x e H2 A B he ⟨t, rfl, ht⟩ b ⟨zs, hz⟩ hA hB
      have ht2 := b.new hD _ _ ht
      refine ⟨rfl, _, rfl, _, _, _, _, rfl, rfl, .inl (.inl ht2), rfl, rfl, isAny e, congrArg V.bl (anyE e), ?_⟩
      cases q : isAny e with
      | true => exact iteT ⟨_, rfl, hA e _ H2 (if_pos q) (fun _ _ z => z) ⟨t, rfl, ht2⟩⟩
      | false => exact iteF (hB H2 (if_neg (by rw [q]; decide)) fun _ _ z => z)
    · intro ys H2 h1 h2 h3
      rw [keepD_filter] at h2
      exact make_end (K := K) (.inl h1) h2 (wf.filter _) (k.same (h3.new hD))

def turnD (d : Dd) : Dd := ⟨d.g, 0 - d.c, d.p, d.w⟩
def spTrn (C : Addr) : Sp := fun vs H Q _ => ∃ (h l : Addr) (m : Int) (xs : List V) (ds : List Dd), vs = [.ref h] ∧ HouseL C H h l m xs ds ∧ ds.length ≤ 60 ∧ ds.all isAny = true ∧ WF m (ds.map turnD) ∧ Made C H Q m (ds.map turnD)
theorem scTn : FnScope ["self", "place", "change", "goal", "when"] ["self"] (defScope (cHouse 12)) := ⟨rfl, rfl, rfl, by decide +kernel, rfl, by decide +kernel, by decide +kernel⟩
theorem ok_turned {f : Addr} {fd : FuncData} (F : Fun K "turned" "House.turned" (cHouse 12) f fd) (T : ClsT K mg C) (M : MkH P w K mg base C) (G : PrH P w K mg base C "is_plain" (spPlain C)) :
    FnOk P w K mg base CX0 7 f fd ["self"] (spTrn C) := by
  refine F.ok scTn (fun vs H Q E h => ?_) (fun cdv A outer s H vs Q E hr h => ?_)
  · obtain ⟨h, l, m, xs, ds, rfl, _⟩ := h
    rfl
  · obtain ⟨h, l, m, xs, ds, rfl, hh, h60, ha, wf, k⟩ := h
    obtain ⟨dx, ob⟩ := hh.ob
    have N := scTn.nd
    refine ⟨_, pss_cons (ps_if (pt_not (pt_val (pe_prH G T (hr.mono (by decide)) (pv 0)))) pss_never pss_nil)
      (pss_one (ps_ret (pe_house M T hr (pa_cons (pe_fld (pv 0) rfl) (pa_cons
      (pe_lc (own := [("place", 1), ("change", 2), ("goal", 3), ("when", 4)]) (g := gTup K 4 (gCons (gName 1) (gCons (gName 2) (gCons (gName 3) (gCons (gName 4) gNil))))) (tt := tYes) rfl N (pi_list (pe_fld (pv 0) rfl)) (blkOk_by (N := ["self", "place", "change", "goal", "when"]) (sc := defScope (cHouse 12)) (by decide +kernel))
        (fun _ _ _ _ _ => pg_tup rfl (pgs_cons (pg_name (i := 1) N rfl (.inl rfl)) (pgs_cons (pg_name (i := 2) N rfl (.inl rfl)) (pgs_cons (pg_name (i := 3) N rfl (.inl rfl)) (pgs_cons (pg_name (i := 4) N rfl (.inl rfl)) pgs_nil)))))
        (fun _ _ _ _ _ => pts_nil) (fun _ _ _ _ _ => pe_tup (pa_cons (pv 3) (pa_cons (pe_op op_sub pe_int (pv 2)) (pa_cons (pv 1) (pa_cons (pv 4) pa_nil)))))) pa_nil))))), ?_⟩
    refine ⟨_, rfl, h, dx, _, rfl, ob, h, l, m, xs, ds, rfl, hh, h60, fun H1 s1 => ⟨true, congrArg V.bl ha, ?_⟩⟩
    refine iteF ?_
    have hh1 := hh.same s1
    refine ⟨_, rfl, h, C, dx, _, _, rfl, s1 _ _ ob, T.isc.cl, T.nP, flds_p _ _, ?_⟩
    refine ⟨_, rfl, h, C, dx, _, _, rfl, s1 _ _ ob, T.isc.cl, T.nD, flds_d _ _, l, rfl, ⟨xs, .inl (.inl hh1.ls)⟩, fun D hD => ?_⟩
    refine lc_mapL (es := ds) (F := DdAt) (G := DdAt) (f := fun d => some (turnD d)) (stabD D) hh1.ls hD (Nat.le_trans (Nat.le_of_eq hh.lenE) (Nat.le_trans h60 (by decide))) hh1.dd ?_ ?_
    · rintro x e H2 A B he ⟨t, rfl, ht⟩ b ⟨zs, hz⟩ hA hB
      have ht2 := b.new hD _ _ ht
      refine ⟨t, _, rfl, .inl (.inl ht2), rfl, _, _, rfl, _, _, rfl, _, _, rfl, _, _, rfl, rfl, rfl, yes_ite ?_⟩
      refine ⟨_, rfl, _, rfl, _, _, rfl, rfl, _, rfl, _, rfl, (by show 4 ≤ sizeLine; decide), fun p hp => ?_⟩
      exact hA (turnD e) _ _ rfl (same_upd hp) ⟨p, rfl, upd_same⟩
    · intro ys H2 h1 h2 h3
      rw [mapD] at h2
      exact make_end (K := K) (.inl h1) h2 wf (k.same (s1.trans (h3.new hD)))
theorem seqV {Good : L2.St → Hp → Prop} {t u : TS} {D : Ends} {σ : L2.St} {H : Hp} (h : ∀ nx : L2.St → Hp → Prop, (∀ σ2 H2, Good σ2 H2 → nx σ2 H2) → t { D with nx := nx } σ H)
    (hk : ∀ σ2 H2, Good σ2 H2 → u D σ2 H2) : tSeq t u D σ H := h (u D) hk
theorem via {Good : V → Hp → Prop} {t : TE} {σ : L2.St} {H : Hp} {Q : VK} (h : ∀ Q' : VK, (∀ v H2, Good v H2 → Q' v H2) → t σ H Q') (hk : ∀ v H2, Good v H2 → Q v H2) : t σ H Q := h Q hk
end
end L2.K73
end

section
/-! Levels: the mathematics. Relations over the places below n, told by masks. -/
set_option linter.all false
namespace L2.Lv
abbrev Rl := Nat → Nat → Prop
/-- masks tell a relation -/
structure Rep (n : Nat) (l : List Nat) (r : Rl) : Prop where
  len : l.length = n
  bit : ∀ a b, (l.getD a 0).testBit b = true ↔ r a b
def Sub (r s : Rl) : Prop := ∀ a b, r a b → s a b
def In (n : Nat) (r : Rl) : Prop := ∀ a b, r a b → a < n ∧ b < n
theorem Rep.ext {n : Nat} {l l' : List Nat} {r s : Rl} (h : Rep n l r) (h' : Rep n l' s) : l = l' ↔ ∀ a b, r a b ↔ s a b := by
  constructor
  · rintro rfl a b
    rw [← h.bit, ← h'.bit]
  · intro e
    refine List.ext_getElem (by rw [h.len, h'.len]) fun i h1 h2 => Nat.eq_of_testBit_eq fun j => ?_
    have x := h.bit i j
    have y := h'.bit i j
    rw [List.getD_eq_getElem?_getD, List.getElem?_eq_getElem h1] at x
    rw [List.getD_eq_getElem?_getD, List.getElem?_eq_getElem h2] at y
    have x : l[i].testBit j = true ↔ r i j := x
    have y : l'[i].testBit j = true ↔ s i j := y
    rw [Bool.eq_iff_iff, x, y]
    exact e i j
theorem Rep.iff {n : Nat} {l : List Nat} {r s : Rl} (h : Rep n l r) (e : ∀ a b, r a b ↔ s a b) : Rep n l s := ⟨h.len, fun a b => (h.bit a b).trans (e a b)⟩
theorem Rep.fst {n : Nat} {l : List Nat} {r : Rl} (h : Rep n l r) {a b : Nat} (x : r a b) : a < n := by
  rw [← h.bit] at x
  rw [← h.len]
  refine Nat.lt_of_not_le fun z => ?_
  rw [List.getD_eq_getElem?_getD, List.getElem?_eq_none z] at x
  simp at x
/-! ### closures -/
inductive Star (r : Rl) : Rl
  | refl (a : Nat) : Star r a a
  | step {a b c : Nat} : r a b → Star r b c → Star r a c
theorem Star.one {r : Rl} {a b : Nat} (h : r a b) : Star r a b := .step h (.refl b)
theorem Star.trans {r : Rl} {a b c : Nat} (h : Star r a b) (k : Star r b c) : Star r a c := by
  induction h with
  | refl a => exact k
  | step x _ ih => exact .step x (ih k)
theorem Star.mono {r s : Rl} (h : Sub r s) {a b : Nat} (k : Star r a b) : Star s a b := by
  induction k with
  | refl a => exact .refl a
  | step x _ ih => exact .step (h _ _ x) ih
theorem Star.flat {r s : Rl} (h : ∀ a b, r a b → Star s a b) {a b : Nat} (k : Star r a b) : Star s a b := by
  induction k with
  | refl a => exact .refl a
  | step x _ ih => exact (h _ _ x).trans ih
/-- the closure over the places below n -/
def Cl (n : Nat) (r : Rl) : Rl := fun a b => a < n ∧ b < n ∧ Star r a b
theorem Cl.mono {n : Nat} {r s : Rl} (h : Sub r s) : Sub (Cl n r) (Cl n s) := fun _ _ ⟨x, y, z⟩ => ⟨x, y, z.mono h⟩
theorem Cl.inn {n : Nat} {r : Rl} : In n (Cl n r) := fun _ _ h => ⟨h.1, h.2.1⟩
theorem Cl.trans {n : Nat} {r : Rl} {a b c : Nat} (h : Cl n r a b) (k : Cl n r b c) : Cl n r a c := ⟨h.1, k.2.1, h.2.2.trans k.2.2⟩
theorem Cl.refl {n : Nat} {r : Rl} {a : Nat} (h : a < n) : Cl n r a a := ⟨h, h, .refl a⟩
theorem Cl.sub {n : Nat} {r : Rl} (i : In n r) : Sub r (Cl n r) := fun a b h => ⟨(i a b h).1, (i a b h).2, .one h⟩
/-- the way by the middle places, one more at a time -/
def Wa (r : Rl) (n : Nat) : Nat → Rl
  | 0 => fun a b => r a b ∨ (a = b ∧ a < n)
  | m + 1 => fun a b => Wa r n m a b ∨ (Wa r n m a m ∧ Wa r n m m b)
theorem Wa.thru {r : Rl} {n : Nat} : ∀ (m k a b : Nat), k < m → Wa r n m a k → Wa r n m k b → Wa r n m a b
  | 0, _, _, _, h, _, _ => absurd h (Nat.not_lt_zero _)
  | m + 1, k, a, b, h, x, y => by
    by_cases e : k = m
    · subst e
      have x' : Wa r n k a k := x.elim id fun z => z.1
      have y' : Wa r n k k b := y.elim id fun z => z.2
      exact .inr ⟨x', y'⟩
    · have h' : k < m := by omega
      rcases x with x | ⟨x1, x2⟩ <;> rcases y with y | ⟨y1, y2⟩
      · exact .inl (Wa.thru m k a b h' x y)
      · exact .inr ⟨Wa.thru m k a m h' x y1, y2⟩
      · exact .inr ⟨x1, Wa.thru m k m b h' x2 y⟩
      · exact .inr ⟨x1, y2⟩
theorem Wa.up {r : Rl} {n : Nat} : ∀ (m a b : Nat), Wa r n 0 a b → Wa r n m a b
  | 0, _, _, h => h
  | m + 1, a, b, h => .inl (Wa.up m a b h)
theorem Wa.star {r : Rl} {n : Nat} (i : In n r) : ∀ (m a b : Nat), m ≤ n → Wa r n m a b → Cl n r a b
  | 0, a, b, _, h => h.elim (fun h => Cl.sub i a b h) (fun z => by obtain ⟨e, q⟩ := z; subst e; exact Cl.refl q)
  | m + 1, a, b, hm, h => h.elim (Wa.star i m a b (by omega)) fun ⟨x, y⟩ => (Wa.star i m a m (by omega) x).trans (Wa.star i m m b (by omega) y)
theorem star_wa {r : Rl} {n : Nat} (i : In n r) {a b : Nat} (h : Star r a b) : a < n → Wa r n n a b := by
  induction h with
  | refl a => exact fun ha => Wa.up n a a (.inr ⟨rfl, ha⟩)
  | @step a b c x _ ih => exact fun _ => Wa.thru n b a c (i _ _ x).2 (Wa.up n a b (.inl x)) (ih (i _ _ x).2)
theorem wa_cl {r : Rl} {n : Nat} (i : In n r) (a b : Nat) : Wa r n n a b ↔ Cl n r a b := by
  refine ⟨Wa.star i n a b (Nat.le_refl n), fun z => star_wa i z.2.2 z.1⟩
/-! ### one behind another, both, turned -/
def Cp (r s : Rl) : Rl := fun a b => ∃ x, r a x ∧ s x b
def Or2 (r s : Rl) : Rl := fun a b => r a b ∨ s a b
def Tr (r : Rl) : Rl := fun a b => r b a
theorem In.cp {n : Nat} {r s : Rl} (h : In n r) (k : In n s) : In n (Cp r s) := fun _ _ ⟨_, x, y⟩ => ⟨(h _ _ x).1, (k _ _ y).2⟩
theorem In.or {n : Nat} {r s : Rl} (h : In n r) (k : In n s) : In n (Or2 r s) := fun a b z => z.elim (h a b) (k a b)
theorem Cp.mono {r r' s s' : Rl} (h : Sub r r') (k : Sub s s') : Sub (Cp r s) (Cp r' s') := fun _ _ ⟨x, y, z⟩ => ⟨x, h _ _ y, k _ _ z⟩
theorem Or2.mono {r r' s s' : Rl} (h : Sub r r') (k : Sub s s') : Sub (Or2 r s) (Or2 r' s') := fun a b z => z.imp (h a b) (k a b)
section
variable (n : Nat) (U F D : Rl)
/-- gain 0, never below, at most so much above -/
def Hk : Nat → Rl
  | 0 => Cl n F
  | k + 1 => Cl n (Or2 (Hk k) (Cp (Cp U (Hk k)) D))
/-- gain 0, never below -/
def Gr : Rl := fun a b => ∃ k, Hk n U F D k a b
/-- gain 0 at the number k, never below 0 -/
def Ov : Rl := Or2 F (Cp (Cp U (Gr n U F D)) D)
def Le : Nat → Rl
  | 0 => Gr n U F D
  | k + 1 => Cl n (Or2 (Ov n U F D) (Cp (Cp D (Le k)) U))
end
section
variable {n : Nat} {U F D : Rl}
theorem hk_in : ∀ k, In n (Hk n U F D k)
  | 0 => Cl.inn
  | _ + 1 => Cl.inn
theorem hk_succ (k : Nat) : Sub (Hk n U F D k) (Hk n U F D (k + 1)) := fun a b h => ⟨(hk_in k a b h).1, (hk_in k a b h).2, .one (.inl h)⟩
theorem hk_le {j k : Nat} (h : j ≤ k) : Sub (Hk n U F D j) (Hk n U F D k) := by
  induction h with
  | refl => exact fun _ _ z => z
  | step _ ih => exact fun a b z => hk_succ _ a b (ih a b z)
theorem hk_trans : ∀ (k : Nat) {a b c : Nat}, Hk n U F D k a b → Hk n U F D k b c → Hk n U F D k a c
  | 0, _, _, _, h, i => Cl.trans h i
  | _ + 1, _, _, _, h, i => Cl.trans h i
theorem hk_refl : ∀ (k : Nat) {a : Nat}, a < n → Hk n U F D k a a
  | 0, _, h => Cl.refl h
  | _ + 1, _, h => Cl.refl h
theorem gr_in : In n (Gr n U F D) := fun a b ⟨k, h⟩ => hk_in k a b h
theorem gr_refl {a : Nat} (h : a < n) : Gr n U F D a a := ⟨0, hk_refl 0 h⟩
theorem gr_trans {a b c : Nat} (h : Gr n U F D a b) (i : Gr n U F D b c) : Gr n U F D a c := by
  obtain ⟨j, h⟩ := h
  obtain ⟨k, i⟩ := i
  exact ⟨j + k, hk_trans _ (hk_le (Nat.le_add_right j k) _ _ h) (hk_le (Nat.le_add_left k j) _ _ i)⟩
theorem gr_flat (i : In n F) : Sub F (Gr n U F D) := fun a b h => ⟨0, Cl.sub i a b h⟩
theorem gr_ugd (iu : In n U) (id : In n D) : Sub (Cp (Cp U (Gr n U F D)) D) (Gr n U F D) := fun a b ⟨y, ⟨x, h1, ⟨k, h2⟩⟩, h3⟩ =>
  ⟨k + 1, (iu _ _ h1).1, (id _ _ h3).2, .one (.inr ⟨y, ⟨x, h1, h2⟩, h3⟩)⟩
/-- where two neighbours are alike, all is told -/
theorem hk_stop {k : Nat} (h : Sub (Hk n U F D (k + 1)) (Hk n U F D k)) : Sub (Gr n U F D) (Hk n U F D k) := by
  have key : ∀ j, Sub (Hk n U F D (k + j)) (Hk n U F D k) := by
    intro j
    induction j with
    | zero => exact fun _ _ z => z
    | succ j ih => exact fun a b z => h a b (Cl.mono (Or2.mono ih (Cp.mono (Cp.mono (fun _ _ z => z) ih) fun _ _ z => z)) a b z)
  exact fun a b ⟨j, z⟩ => key j a b (hk_le (Nat.le_add_left j k) a b z)
theorem gr_eq {k : Nat} (h : ∀ a b, Hk n U F D (k + 1) a b ↔ Hk n U F D k a b) (a b : Nat) : Gr n U F D a b ↔ Hk n U F D k a b :=
  ⟨hk_stop (fun a b => (h a b).mp) a b, fun z => ⟨k, z⟩⟩
/-! ### levels -/
theorem le_in : ∀ k, In n (Le n U F D k)
  | 0 => gr_in
  | _ + 1 => Cl.inn
theorem le_refl : ∀ (k : Nat) {a : Nat}, a < n → Le n U F D k a a
  | 0, _, h => gr_refl h
  | _ + 1, _, h => Cl.refl h
theorem le_trans : ∀ (k : Nat) {a b c : Nat}, Le n U F D k a b → Le n U F D k b c → Le n U F D k a c
  | 0, _, _, _, h, i => gr_trans h i
  | _ + 1, _, _, _, h, i => Cl.trans h i
theorem ov_gr (iu : In n U) (i : In n F) (id : In n D) : Sub (Ov n U F D) (Gr n U F D) := fun a b h => h.elim (gr_flat i a b) (gr_ugd iu id a b)
/-- all that never falls below is had by steps of Ov -/
theorem gr_ov (i : In n F) : ∀ (k : Nat) {a b : Nat}, Hk n U F D k a b → Star (Ov n U F D) a b
  | 0, _, _, h => h.2.2.mono fun _ _ z => .inl z
  | k + 1, _, _, h => h.2.2.flat fun a b z => z.elim (gr_ov i k) fun ⟨y, ⟨x, h1, h2⟩, h3⟩ => .one (.inr ⟨y, ⟨x, h1, ⟨k, h2⟩⟩, h3⟩)
theorem ov_le (iu : In n U) (i : In n F) (id : In n D) : ∀ k, Sub (Ov n U F D) (Le n U F D k)
  | 0 => ov_gr iu i id
  | k + 1 => fun a b h => by
    have z := gr_in a b (ov_gr iu i id a b h)
    exact ⟨z.1, z.2, .one (.inl h)⟩
theorem le_succ (i : In n F) : ∀ k, Sub (Le n U F D k) (Le n U F D (k + 1))
  | 0 => fun a b h => by
    have z := gr_in a b h
    obtain ⟨k, h⟩ := h
    exact ⟨z.1, z.2, (gr_ov i k h).mono fun _ _ z => .inl z⟩
  | k + 1 => Cl.mono (Or2.mono (fun _ _ z => z) (Cp.mono (Cp.mono (fun _ _ z => z) (le_succ i k)) fun _ _ z => z))
theorem le_mono (i : In n F) {j k : Nat} (h : j ≤ k) : Sub (Le n U F D j) (Le n U F D k) := by
  induction h with
  | refl => exact fun _ _ z => z
  | step _ ih => exact fun a b z => le_succ i _ a b (ih a b z)
theorem le_stop {k : Nat} (h : ∀ a b, Le n U F D (k + 1) a b ↔ Le n U F D k a b) : ∀ (j a b : Nat), Le n U F D (k + j) a b ↔ Le n U F D k a b
  | 0, _, _ => Iff.rfl
  | j + 1, a, b => by
    have ih := le_stop h j
    rw [← h a b]
    exact ⟨Cl.mono (Or2.mono (fun _ _ z => z) (Cp.mono (Cp.mono (fun _ _ z => z) fun a b => (ih a b).mp) fun _ _ z => z)) a b,
      Cl.mono (Or2.mono (fun _ _ z => z) (Cp.mono (Cp.mono (fun _ _ z => z) fun a b => (ih a b).mpr) fun _ _ z => z)) a b⟩
theorem le_dlu (iu : In n U) (id : In n D) (k : Nat) : Sub (Cp (Cp D (Le n U F D k)) U) (Le n U F D (k + 1)) := fun a b h => by
  obtain ⟨y, ⟨x, h1, h2⟩, h3⟩ := id2 h
  exact ⟨(id _ _ h1).1, (iu _ _ h3).2, .one (.inr h)⟩
where id2 {p : Prop} (h : p) : p := h
/-! ### stand by stand -/
/-- one deed, all numbers from 0 to the cap -/
inductive St1 (cap : Nat) (U F D : Rl) : Nat × Nat → Nat × Nat → Prop
  | up {a b i : Nat} : U a b → i + 1 ≤ cap → St1 cap U F D (a, i) (b, i + 1)
  | flat {a b i : Nat} : F a b → i ≤ cap → St1 cap U F D (a, i) (b, i)
  | down {a b i : Nat} : D a b → i + 1 ≤ cap → St1 cap U F D (a, i + 1) (b, i)
inductive Re (cap : Nat) (U F D : Rl) (s : Nat × Nat) : Nat × Nat → Prop
  | start : Re cap U F D s s
  | next {t u : Nat × Nat} : Re cap U F D s t → St1 cap U F D t u → Re cap U F D s u
theorem Re.trans {cap : Nat} {s t u : Nat × Nat} (h : Re cap U F D s t) (k : Re cap U F D t u) : Re cap U F D s u := by
  induction k with
  | start => exact h
  | next _ x ih => exact .next ih x
theorem Re.one {cap : Nat} {s t : Nat × Nat} (h : St1 cap U F D s t) : Re cap U F D s t := .next .start h
theorem re_mono {cap cap' : Nat} (h : cap ≤ cap') {s t : Nat × Nat} (k : Re cap U F D s t) : Re cap' U F D s t := by
  induction k with
  | start => exact .start
  | next _ x ih =>
    refine .next ih ?_
    cases x with
    | up x y => exact .up x (by omega)
    | flat x y => exact .flat x (by omega)
    | down x y => exact .down x (by omega)
/-- what is told of heights is walked -/
theorem re_star {r : Rl} {cap i : Nat} (h : ∀ a b, r a b → Re cap U F D (a, i) (b, i)) {a b : Nat} (k : Star r a b) : Re cap U F D (a, i) (b, i) := by
  induction k with
  | refl a => exact .start
  | step x _ ih => exact (h _ _ x).trans ih
theorem re_hk : ∀ (k i : Nat) {a b : Nat}, Hk n U F D k a b → Re (i + k) U F D (a, i) (b, i)
  | 0, i, _, _, h => re_star (fun a b z => Re.one (.flat z (by omega))) h.2.2
  | k + 1, i, _, _, h => re_star (fun a b z => z.elim (fun z => re_mono (by omega) (re_hk k i z)) fun ⟨y, ⟨x, h1, h2⟩, h3⟩ => by
      have m := re_hk k (i + 1) h2
      rw [show i + 1 + k = i + (k + 1) by omega] at m
      exact ((Re.one (.up h1 (by omega))).trans m).trans (Re.one (.down h3 (by omega)))) h.2.2
/-- levels are walked, with the height that the ground wants -/
theorem re_le (iu : In n U) (i : In n F) (id : In n D) {M : Nat} (hM : Sub (Gr n U F D) (Hk n U F D M)) : ∀ (k : Nat) {a b : Nat}, Le n U F D k a b → Re (k + M) U F D (a, k) (b, k)
  | 0, _, _, h => re_hk M 0 (hM _ _ h)
  | k + 1, _, _, h => re_star (fun a b z => z.elim (fun z => re_hk M (k + 1) (hM _ _ (ov_gr iu i id a b z))) fun ⟨y, ⟨x, h1, h2⟩, h3⟩ => by
      have m := re_mono (show k + M ≤ k + 1 + M by omega) (re_le iu i id hM k h2)
      exact ((Re.one (.down h1 (by omega))).trans m).trans (Re.one (.up h3 (by omega)))) h.2.2
/-- what is walked is told: below the start .. -/
def Dn (n : Nat) (U F D : Rl) (k a : Nat) : Nat → Nat → Prop
  | 0 => fun c => Le n U F D k a c
  | d + 1 => fun c => ∃ x y, Dn n U F D k a d x ∧ D x y ∧ Le n U F D (k - (d + 1)) y c
/-- .. and above -/
def Up (n : Nat) (U F D : Rl) (k a : Nat) : Nat → Nat → Prop
  | 0 => fun c => Le n U F D k a c
  | d + 1 => fun c => ∃ x y, Up n U F D k a d x ∧ U x y ∧ Gr n U F D y c
theorem dn_le {k a : Nat} : ∀ (d : Nat) {c e : Nat}, Dn n U F D k a d c → Le n U F D (k - d) c e → Dn n U F D k a d e
  | 0, _, _, h, i => le_trans k h i
  | _ + 1, _, _, ⟨x, y, h1, h2, h3⟩, i => ⟨x, y, h1, h2, le_trans _ h3 i⟩
theorem up_gr (iu : In n U) (i : In n F) (id : In n D) {k a : Nat} : ∀ (d : Nat) {c e : Nat}, Up n U F D k a d c → (F c e ∨ Cp (Cp U (Gr n U F D)) D c e) → Up n U F D k a d e
  | 0, _, _, h, z => le_trans k h (ov_le iu i id k _ _ z)
  | _ + 1, _, _, ⟨x, y, h1, h2, h3⟩, z => ⟨x, y, h1, h2, gr_trans h3 (ov_gr iu i id _ _ z)⟩
theorem re_told (iu : In n U) (i : In n F) (id : In n D) {cap k a : Nat} (ha : a < n) {t : Nat × Nat} (h : Re cap U F D (a, k) t) :
    (∃ d, d ≤ k ∧ t.2 = k - d ∧ Dn n U F D k a d t.1) ∨ (∃ d, t.2 = k + d ∧ Up n U F D k a d t.1) := by
  induction h with
  | start => exact .inl ⟨0, Nat.zero_le k, rfl, le_refl k ha⟩
  | @next t u _ x ih =>
    cases x with
    | @flat c e j f _ =>
      rcases ih with ⟨d, hd, e1, h⟩ | ⟨d, e1, h⟩
      · exact .inl ⟨d, hd, e1, dn_le d h (ov_le iu i id _ _ _ (.inl f))⟩
      · exact .inr ⟨d, e1, up_gr iu i id d h (.inl f)⟩
    | @up c e j f _ =>
      rcases ih with ⟨d, hd, e1, h⟩ | ⟨d, e1, h⟩
      · have e1 : j = k - d := e1
        cases d with
        | zero => exact .inr ⟨1, by show j + 1 = k + 1; omega, c, e, h, f, gr_refl (iu _ _ f).2⟩
        | succ d =>
          obtain ⟨x, y, h1, h2, h3⟩ := h
          refine .inl ⟨d, by omega, by show j + 1 = k - d; omega, dn_le d h1 ?_⟩
          have := le_dlu iu id (k - (d + 1)) x e ⟨c, ⟨y, h2, h3⟩, f⟩
          rw [show k - (d + 1) + 1 = k - d by omega] at this
          exact this
      · have e1 : j = k + d := e1
        exact .inr ⟨d + 1, by show j + 1 = k + (d + 1); omega, c, e, h, f, gr_refl (iu _ _ f).2⟩
    | @down c e j f _ =>
      rcases ih with ⟨d, hd, e1, h⟩ | ⟨d, e1, h⟩
      · have e1 : j + 1 = k - d := e1
        exact .inl ⟨d + 1, by omega, by show j = k - (d + 1); omega, c, e, h, f, le_refl _ (id _ _ f).2⟩
      · have e1 : j + 1 = k + d := e1
        cases d with
        | zero => exact .inl ⟨1, by omega, by show j = k - 1; omega, c, e, h, f, le_refl _ (id _ _ f).2⟩
        | succ d =>
          obtain ⟨x, y, h1, h2, h3⟩ := h
          exact .inr ⟨d, by show j = k + d; omega, up_gr iu i id d h1 (.inr ⟨c, ⟨y, h2, h3⟩, f⟩)⟩
theorem re_level (iu : In n U) (i : In n F) (id : In n D) {cap k a b : Nat} (ha : a < n) (h : Re cap U F D (a, k) (b, k)) : Le n U F D k a b := by
  rcases re_told iu i id ha h with ⟨d, hd, e1, h⟩ | ⟨d, e1, h⟩
  · have e1 : k = k - d := e1
    by_cases z : d = 0
    · subst z
      exact h
    · have : k = 0 := by omega
      omega
  · have e1 : k = k + d := e1
    obtain rfl : d = 0 := by omega
    exact h
end
end L2.Lv
end

section
set_option Elab.async false
set_option linter.all false
set_option maxRecDepth 100000
set_option maxHeartbeats 4000000
namespace L2.K73
open PySem PySem.Spec PyProof.Rows L2.Gd
def iN (l : List Nat) : List V := l.map fun n : Nat => V.int (n : Int)
theorem iN_len (l : List Nat) : (iN l).length = l.length := List.length_map _
theorem iN_at {l : List Nat} {i : Nat} (h : i < l.length) : (iN l)[i]? = some (.int (l.getD i 0 : Nat)) := by
  unfold iN
  rw [List.getElem?_map, List.getElem?_eq_getElem h, List.getD_eq_getElem?_getD, List.getElem?_eq_getElem h]
  rfl
theorem iN_app (a b : List Nat) : iN (a ++ b) = iN a ++ iN b := List.map_append
theorem gn {i : Nat} {v : V} {σ : L2.St} {H : Hp} {Q : L2.St → Hp → Prop} (h : Q (σ.set i (some v)) H) : gName i v σ H Q := h
theorem Same.refl {H : Hp} : Same H H := fun _ _ e => e
section
variable {P : Program} {w : World} {K : PySem.W.Frag} {mg : Str → Option Value} {base : Heap} {C : Addr}
/-! ### ones -/
def spOnes : Sp := fun vs H Q _ => ∃ n : Nat, vs = [.int n] ∧ n < 2 ^ 1000000 ∧ ∀ p H', H p = none → Same H H' → H' p = some (.lst (iN (onesL n))) → Q (.ref p) H'
def NOn : List Str := ["bits", "k", "sign"]
theorem scOn : FnScope NOn ["bits"] (defScope (top 17)) := ⟨rfl, rfl, rfl, by decide +kernel, rfl, by decide +kernel, by decide +kernel⟩
theorem bitT_cps (n : Nat) : (revS (bitT n)).cps = (revL n).toArray := by
  show ((bitL n).toArray.toList.reverse).toArray = _
  rfl
theorem rev_at {n i c : Nat} (h : (revS (bitT n)).cps[i]? = some c) : c = bitC (n.testBit i) := by
  rw [bitT_cps, List.getElem?_toArray] at h
  exact (revL_at n i).1 c h
theorem bitC_one (b : Bool) : decide (V.str ⟨#[bitC b]⟩ = V.str ("1" : Str)) = b := by
  cases b
  · exact decide_eq_false (fun z => by
      have := congrArg (fun v => match v with | V.str s => s.cps.toList | _ => []) z
      exact absurd this (by decide +kernel))
  · exact decide_eq_true (by decide +kernel)
theorem ok_ones {f : Addr} {fd : FuncData} (F : Fun K "ones" "ones" (top 17) f fd) (n : Nm mg) : FnOk P w K mg base CX0 1 f fd ["bits"] spOnes := by
  refine F.ok scOn (fun vs H Q E h => ?_) (fun cdv A outer s H vs Q E hr h => ?_)
  · obtain ⟨m, rfl, _⟩ := h
    rfl
  · obtain ⟨m, rfl, hm, q⟩ := h
    have N := scOn.nd
    have len : (revL m).length ≤ 1000000 := revL_len_le hm (by decide)
    have sz : (bitT m).length ≤ sizeLine := by
      rw [← revL_length, sizeLine_eq]
      omega
    refine ⟨_, pss_one (ps_ret (pe_lc (own := [("k", 1), ("sign", 2)]) (g := gTup K 2 (gCons (gName 1) (gCons (gName 2) gNil))) rfl N (pi_enumS (by rfl) n.enumerate (pa_cons (pe_revS (pe_joined1 (pe_fmtB (pv 0)))) pa_nil))
        (blkOk_by (N := NOn) (sc := defScope (top 17)) (by decide +kernel))
        (fun _ _ _ _ _ => pg_tup rfl (pgs_cons (pg_name (i := 1) N rfl (.inl rfl)) (pgs_cons (pg_name (i := 2) N rfl (.inl rfl)) pgs_nil)))
        (fun _ _ _ _ _ => pts_one (pt_cmpR op_eq (pv 2) pe_str (nomark _))) (fun _ _ _ _ _ => pv 1))), ?_⟩
    refine ⟨_, rfl, m, rfl, (by rw [sizeLine_eq]; omega), bitT m, rfl, sz, revS (bitT m), rfl, fun D hD => ?_⟩
    have cz : (revS (bitT m)).cps.size = (revL m).length := by rw [bitT_cps, List.size_toArray]
    refine lc_gen (n := (revL m).length) (fun i H3 => ButD D H H3 ∧ H3 D = some (.lst (iN ((List.range i).filter m.testBit)))) ⟨.start, upd_same⟩ ?_ ?_
    · rintro H3 ⟨b3, h3⟩
      exact ⟨(by show (revS (bitT m)).cps.size ≤ _; omega), q D H3 hD (b3.new hD) h3⟩
    · rintro i H3 hi ⟨b3, h3⟩
      refine ⟨(by show i < (revS (bitT m)).cps.size; omega), ?_⟩
      rintro x H' ⟨T, c, rfl, hT, rfl, hc⟩
      have s4 : Same H3 (upd H3 T (.tup [.int (i : Nat), .str ⟨#[c]⟩])) := same_upd hT
      obtain rfl := rev_at hc
      refine ⟨T, _, rfl, .inl (.inl upd_same), rfl, _, _, rfl, _, _, rfl, rfl, rfl, _, rfl, rfl, _, congrArg V.bl (bitC_one (m.testBit i)), ?_⟩
      have b4 : ButD D H (upd H3 T (.tup [.int (i : Nat), .str ⟨#[bitC (m.testBit i)]⟩])) := b3.more s4
      have rs : (List.range (i + 1)).filter m.testBit = (List.range i).filter m.testBit ++ (if m.testBit i = true then [i] else []) := by
        rw [List.range_succ, List.filter_append]
        congr 1
        cases hb : m.testBit i <;> simp [hb]
      cases hb : m.testBit i with
      | true =>
        rw [hb, if_pos rfl] at rs
        rw [hb] at s4 b4
        refine iteT ⟨_, rfl, _, s4 _ _ h3, ?_, b4.put, ?_⟩
        · rw [iN_len, sizeLine_eq]
          have := List.length_filter_le m.testBit (List.range i)
          rw [List.length_range] at this
          omega
        · rw [upd_same, rs, iN_app]
          rfl
      | false =>
        rw [hb, if_neg (by decide), List.append_nil] at rs
        rw [hb] at s4 b4
        exact iteF ⟨b4, by rw [rs]; exact s4 _ _ h3⟩
end
end L2.K73
end

section
set_option Elab.async false
set_option linter.all false
set_option maxRecDepth 100000
set_option maxHeartbeats 4000000
namespace L2.K73
open PySem PySem.Spec PyProof.Rows L2.Gd L2.Lv
theorem or_nat (a b : Nat) : Builtin.bitOr (a : Int) (b : Int) = ((a ||| b : Nat) : Int) := by
  rw [Bits.bitOr_pp (Int.natCast_nonneg a) (Int.natCast_nonneg b), Int.toNat_natCast, Int.toNat_natCast]
theorem and_nat (a b : Nat) : Builtin.bitAnd (a : Int) (b : Int) = ((a &&& b : Nat) : Int) := by
  rw [PyProof.Rows.bitAnd_pp (Int.natCast_nonneg a) (Int.natCast_nonneg b), Int.toNat_natCast, Int.toNat_natCast]
theorem zeros_flat (m : Nat) : (List.replicate ((m : Int)).toNat [V.int 0]).flatten = iN (List.replicate m 0) := by
  rw [Int.toNat_natCast]
  induction m with
  | zero => rfl
  | succ m ih =>
    rw [List.replicate_succ, List.flatten_cons, ih]
    rfl
theorem shl_nat (g : Nat) : (1 : Int) * 2 ^ ((g : Int)).toNat = ((2 ^ g : Nat) : Int) := by
  rw [Int.toNat_natCast, Int.one_mul]
  simp
theorem shr_nat (m g : Nat) : (m : Int) / 2 ^ ((g : Int)).toNat = ((m / 2 ^ g : Nat) : Int) := by
  rw [Int.toNat_natCast]
  simp
/-- a mask with one more -/
def more (m g : Nat) : Nat := m ||| 2 ^ g
theorem more_bit (m g b : Nat) : (more m g).testBit b = true ↔ m.testBit b = true ∨ b = g := by
  unfold more
  rw [Nat.testBit_or, Nat.testBit_two_pow, Bool.or_eq_true, decide_eq_true_eq]
  exact ⟨fun h => h.imp id Eq.symm, fun h => h.imp id Eq.symm⟩
theorem getD_set {l : List Nat} {i j v : Nat} (h : i < l.length) : (l.set i v).getD j 0 = if j = i then v else l.getD j 0 := by
  rw [List.getD_eq_getElem?_getD, List.getD_eq_getElem?_getD, List.getElem?_set]
  by_cases e : i = j
  · subst e
    rw [if_pos rfl, if_pos rfl, if_pos h]
    rfl
  · rw [if_neg e, if_neg (fun z => e z.symm)]
theorem iN_set (l : List Nat) (i v : Nat) : (iN l).set i (.int (v : Nat)) = iN (l.set i v) := by
  unfold iN
  rw [List.map_set]
theorem rep_zero (n : Nat) : Rep n (List.replicate n 0) (fun _ _ => False) := by
  refine ⟨List.length_replicate, fun a b => ⟨fun h => ?_, False.elim⟩⟩
  have : (List.replicate n 0).getD a 0 = 0 := by
    rw [List.getD_eq_getElem?_getD, List.getElem?_replicate]
    split <;> rfl
  rw [this] at h
  simp at h
theorem rep_set {n : Nat} {l : List Nat} {r : Rl} (h : Rep n l r) {p g : Nat} (hp : p < n) : Rep n (l.set p (more (l.getD p 0) g)) (fun a b => r a b ∨ (a = p ∧ b = g)) := by
  refine ⟨by rw [List.length_set, h.len], fun a b => ?_⟩
  rw [getD_set (by rw [h.len]; exact hp)]
  by_cases e : a = p
  · subst e
    rw [if_pos rfl, more_bit, h.bit]
    exact ⟨fun z => z.imp id fun z => ⟨rfl, z⟩, fun z => z.imp id fun z => z.2⟩
  · rw [if_neg e, h.bit]
    exact ⟨.inl, fun z => z.elim id fun z => absurd z.1 e⟩
/-- pairs as tuples -/
def PrAt (H : Hp) (v : V) (p : Nat × Nat) : Prop := ∃ t, v = .ref t ∧ H t = some (.tup [.int (p.1 : Nat), .int (p.2 : Nat)])
def PrAll (H : Hp) (vs : List V) (ps : List (Nat × Nat)) : Prop := Paired (PrAt H) vs ps
theorem PrAll.same {H H' : Hp} {vs : List V} {ps : List (Nat × Nat)} (s : Same H H') (h : PrAll H vs ps) : PrAll H' vs ps := Paired.mapP h fun _ _ ⟨t, e, q⟩ => ⟨t, e, s _ _ q⟩
theorem PrAll.but {D : Addr} {H H' : Hp} {vs : List V} {ps : List (Nat × Nat)} (b : ButD D H H') (hD : ∃ zs, H D = some (.lst zs)) (h : PrAll H vs ps) : PrAll H' vs ps := Paired.mapP h fun _ _ ⟨t, e, q⟩ => ⟨t, e, b _ _ (fun z => by
  subst z
  obtain ⟨zs, hz⟩ := hD
  rw [q] at hz
  exact nomatch hz) q⟩
section
variable {P : Program} {w : World} {K : PySem.W.Frag} {mg : Str → Option Value} {base : Heap} {C : Addr}
/-! ### relation_of -/
def spRel : Sp := fun vs H Q _ => ∃ (n : Nat) (a : Addr) (xs : List V) (ps : List (Nat × Nat)), vs = [.int n, .ref a] ∧ n ≤ 100 ∧ H a = some (.lst xs) ∧ PrAll H xs ps ∧ (∀ p ∈ ps, p.1 < n ∧ p.2 < n) ∧
  ∀ p H' l, H p = none → Same H H' → H' p = some (.lst (iN l)) → Rep n l (fun a b => (a, b) ∈ ps) → Q (.ref p) H'
def NRe : List Str := ["many", "pairs", "out", "place", "goal"]
theorem scRel : FnScope NRe ["many", "pairs"] (defScope (top 19)) := ⟨rfl, rfl, rfl, by decide +kernel, rfl, by decide +kernel, by decide +kernel⟩
theorem ok_rel {f : Addr} {fd : FuncData} (F : Fun K "relation_of" "relation_of" (top 19) f fd) (n : Nm mg) : FnOk P w K mg base CX0 1 f fd ["many", "pairs"] spRel := by
  refine F.ok scRel (fun vs H Q E h => ?_) (fun cdv A outer s H vs Q E hr h => ?_)
  · obtain ⟨m, a, xs, ps, rfl, _⟩ := h
    rfl
  · obtain ⟨m, a, xs, ps, rfl, m100, ha, pa, lt, q⟩ := h
    have N := scRel.nd
    refine ⟨_, pss_cons (ps_set (i := 2) N rfl (.inl rfl) (pe_op op_rep (pe_lst (pa_cons pe_int pa_nil)) (pv 0)))
      (pss_cons (ps_for PassesOwn.never rfl (pi_list (pv 1)) (pg_tup rfl (pgs_cons (pg_name (i := 3) N rfl (.inl rfl)) (pgs_cons (pg_name (i := 4) N rfl (.inl rfl)) pgs_nil)))
        (pss_one (ps_asg (pe_op op_or (pe_ix ix_list (pv 2) (pv 3) (fun _ _ => rfl)) (pe_op op_shl pe_int (pv 4))) (pg_sub (pv 2) (pv 3) set_list))))
      (pss_one (ps_ret (pv 2)))), ?_⟩
    refine ⟨(by show 1 ≤ sizeLine; decide), fun z hz => ?_⟩
    have s0 := same_upd (o := .lst [V.int 0]) hz
    refine ⟨_, rfl, z, m, _, rfl, rfl, upd_same, by omega, by omega, (by rw [sizeLine_eq]; show 1 * ((m : Int)).toNat ≤ _; omega), fun o ho => ?_⟩
    have s1 := same_upd (o := .lst (List.replicate ((m : Int)).toNat [V.int 0]).flatten) ho
    have ez := zeros_flat m
    show gName _ _ _ _ _
    rw [ez] at s1 ⊢
    have s01 := s0.trans s1
    have hno : H o = none := s0.free ho
    refine ⟨_, rfl, a, rfl, ⟨_, .inl (.inl (s01 _ _ ha))⟩, ?_⟩
    refine loop_of (n := xs.length) (fun i σ H2 => ∃ (v3 v4 : Option V) (l : List Nat), σ = [some (.int m), some (.ref a), some (.ref o), v3, v4] ∧ H2 o = some (.lst (iN l)) ∧ ButD o H H2 ∧ Rep m l (fun a b => (a, b) ∈ ps.take i))
      ⟨none, none, _, rfl, upd_same, Same.but s01, (rep_zero m).iff (by simp)⟩ ?_ ?_
    · rintro σ H2 ⟨v3, v4, l, rfl, hl, b2, rp⟩
      refine ⟨⟨_, .inl (.inl (b2.new hno _ _ ha)), Nat.le_refl _⟩, ?_⟩
      rw [show xs.length = ps.length from Paired.length pa, List.take_length] at rp
      exact ⟨_, rfl, q o H2 l hno (b2.new hno) hl rp⟩
    · rintro i σ H2 hi ⟨v3, v4, l, rfl, hl, b2, rp⟩
      have s2 := b2.new hno
      refine ⟨⟨_, _, .inl (.inl (s2 _ _ ha)), List.getElem?_eq_getElem hi⟩, ?_⟩
      rintro v H3 ⟨rfl, hy⟩
      have hvi := hy _ (.inl (.inl (s2 _ _ ha)))
      obtain ⟨⟨p, g⟩, hp, t, rfl, ht⟩ := Paired.at pa hvi
      obtain ⟨pm, gm⟩ := lt _ (List.mem_of_getElem? hp)
      have pm : p < m := pm
      have gm : g < m := gm
      have pl : p < l.length := by rw [rp.len]; exact pm
      refine ⟨t, _, rfl, .inl (.inl (s2 _ _ ht)), rfl, _, _, rfl, _, _, rfl, rfl, ?_⟩
      refine ⟨_, rfl, _, rfl, o, iN l, _, _, rfl, rfl, .inl (.inl hl), atI_nat (iN_at pl), _, rfl, _, _, rfl, rfl, ⟨by omega, by omega, by decide⟩, _, _, rfl, rfl, ?_⟩
      have hix : ixN (iN l).length (p : Int) = some p := by
        unfold ixN
        rw [iN_len]
        rw [if_pos (by omega), if_pos (by omega), Int.toNat_natCast]
      refine ⟨_, rfl, _, rfl, o, _, _, p, rfl, rfl, hl, hix, ?_⟩
      have ev : V.int (Builtin.bitOr ((l.getD p 0 : Nat) : Int) ((1 : Int) * 2 ^ ((g : Int)).toNat)) = V.int ((more (l.getD p 0) g : Nat) : Int) := by
        rw [shl_nat, or_nat]
        rfl
      refine ⟨_, _, l.set p (more (l.getD p 0) g), rfl, ?_, b2.put, ?_⟩
      · rw [upd_same]
        show some (HO.lst ((iN l).set p (V.int (Builtin.bitOr _ _)))) = _
        rw [ev, iN_set]
      · refine (rep_set rp pm).iff fun x y => ?_
        rw [List.take_succ, hp]
        simp
end
end L2.K73
end

section
set_option Elab.async false
set_option linter.all false
set_option maxRecDepth 100000
set_option maxHeartbeats 4000000
namespace L2.K73
open PySem PySem.Spec PyProof.Rows L2.Gd L2.Lv
/-- the second clause's loop, by an invariant -/
theorem lc_in {J : It} {n : Nat} {g : TG} {tt : TT} {te : TE} {vs : List Nat} {σ : L2.St} {H0 : Hp} {D : Addr} {Nx : Hp → Prop} (Iv : Nat → Hp → Prop) (h0 : Iv 0 H0) (hd : ∀ H, Iv n H → J.stop n H ∧ Nx H)
    (hs : ∀ i H, i < n → Iv i H → J.go i H ∧ ∀ x H', J.yld i H x H' → g x (wipe σ vs) H' fun σ2 H2 => wipe σ2 vs = wipe σ vs ∧ tt σ2 H2 fun b H3 =>
      if b = true then te σ2 H3 fun y H4 => ∃ acc, H4 D = some (.lst acc) ∧ acc.length < sizeLine ∧ Iv (i + 1) (L2.upd H4 D (.lst (acc ++ [y]))) else Iv (i + 1) H3) :
    ∃ W : Nat → Nat → Hp → Prop, (∃ m, W 0 m H0) ∧ ∀ i m H, W i m H →
      (J.stop i H ∧ Nx H) ∨ (J.go i H ∧ ∃ Nx1 : Hp → Prop, (∀ H', Nx1 H' → ∃ m', m' < m ∧ W (i + 1) m' H') ∧ ∀ x H', J.yld i H x H' → g x (wipe σ vs) H' fun σ2 H2 => wipe σ2 vs = wipe σ vs ∧ tt σ2 H2 fun b H3 =>
        if b = true then te σ2 H3 fun y H4 => ∃ acc, H4 D = some (.lst acc) ∧ acc.length < sizeLine ∧ Nx1 (L2.upd H4 D (.lst (acc ++ [y]))) else Nx1 H3) := by
  refine ⟨fun i m H => m = n - i ∧ i ≤ n ∧ Iv i H, ⟨n, by simp, Nat.zero_le _, h0⟩, ?_⟩
  rintro i m H ⟨rfl, hi, hp⟩
  by_cases e : i < n
  · obtain ⟨go, k⟩ := hs i H e hp
    exact .inr ⟨go, Iv (i + 1), fun H' q => ⟨n - (i + 1), by omega, rfl, e, q⟩, k⟩
  · obtain rfl : i = n := by omega
    exact .inl (hd H hp)
theorem lc_out {J : It} {n : Nat} {g : TG} {tt : TT} {vs : List Nat} {σ : L2.St} {H1 : Hp} {D : Addr} {Qd : Hp → Prop} {B : (Hp → Prop) → L2.St → Hp → Prop} (Iv : Nat → Hp → Prop) (h0 : Iv 0 (L2.upd H1 D (.lst []))) (hd : ∀ H, Iv n H → J.stop n H ∧ Qd H)
    (hs : ∀ i H, i < n → Iv i H → J.go i H ∧ ∀ x H', J.yld i H x H' → g x (wipe σ vs) H' fun σ2 H2 => wipe σ2 vs = wipe σ vs ∧ tt σ2 H2 fun b H3 => if b = true then B (Iv (i + 1)) σ2 H3 else Iv (i + 1) H3) :
    ∃ W : Nat → Nat → Hp → Prop, (∃ m, W 0 m (L2.upd H1 D (.lst []))) ∧ ∀ i m H, W i m H →
      (J.stop i H ∧ Qd H) ∨ (J.go i H ∧ ∃ Nx : Hp → Prop, (∀ H', Nx H' → ∃ m', m' < m ∧ W (i + 1) m' H') ∧ ∀ x H', J.yld i H x H' → g x (wipe σ vs) H' fun σ2 H2 => wipe σ2 vs = wipe σ vs ∧ tt σ2 H2 fun b H3 =>
        if b = true then B Nx σ2 H3 else Nx H3) := by
  refine ⟨fun i m H => m = n - i ∧ i ≤ n ∧ Iv i H, ⟨n, by simp, Nat.zero_le _, h0⟩, ?_⟩
  rintro i m H ⟨rfl, hi, hp⟩
  by_cases e : i < n
  · obtain ⟨go, k⟩ := hs i H e hp
    exact .inr ⟨go, Iv (i + 1), fun H' q => ⟨n - (i + 1), by omega, rfl, e, q⟩, k⟩
  · obtain rfl : i = n := by omega
    exact .inl (hd H hp)
/-! ### masks, pure -/
theorem lt_pow {x n : Nat} (h : ∀ b, x.testBit b = true → b < n) : x < 2 ^ n :=
  Nat.lt_pow_two_of_testBit x fun i hi => by
    cases e : x.testBit i with
    | false => rfl
    | true => exact absurd (h i e) (by omega)
theorem Rep.inn {n : Nat} {l : List Nat} {r : Rl} (h : Rep n l r) (i : In n r) {m : Nat} (hm : m ∈ l) : ∀ k, m.testBit k = true → k < n := by
  intro k hk
  obtain ⟨a, ha, e⟩ := List.getElem_of_mem hm
  have : (l.getD a 0).testBit k = true := by
    rw [List.getD_eq_getElem?_getD, List.getElem?_eq_getElem ha]
    show l[a].testBit k = true
    rw [e]
    exact hk
  exact (i a k ((h.bit a k).mp this)).2
theorem ones_len {m n : Nat} (h : ∀ k, m.testBit k = true → k < n) : (onesL m).length ≤ n := by
  rw [onesL_range (lt_pow h)]
  exact Nat.le_trans (List.length_filter_le _ _) (Nat.le_of_eq List.length_range)
def rowP (l : List Nat) (a : Nat) : List (Nat × Nat) := (onesL (l.getD a 0)).map fun b => (a, b)
theorem take_row (i : Nat) (z : List Nat) {j : Nat} (hj : j < z.length) : (z.map fun b => (i, b)).take (j + 1) = (z.map fun b => (i, b)).take j ++ [(i, z.getD j 0)] := by
  rw [List.take_succ, List.getElem?_map, List.getElem?_eq_getElem hj, List.getD_eq_getElem?_getD, List.getElem?_eq_getElem hj]
  rfl
def prsL (l : List Nat) : List (Nat × Nat) := (List.range l.length).flatMap (rowP l)
theorem mem_prsL {n : Nat} {l : List Nat} {r : Rl} (h : Rep n l r) {a b : Nat} : (a, b) ∈ prsL l ↔ r a b := by
  unfold prsL rowP
  rw [List.mem_flatMap]
  constructor
  · rintro ⟨c, _, h2⟩
    obtain ⟨d, hd, e⟩ := List.mem_map.mp h2
    obtain ⟨rfl, rfl⟩ := Prod.mk.inj e
    exact (h.bit _ _).mp (mem_onesL.mp hd)
  · intro z
    exact ⟨a, by rw [List.mem_range, h.len]; exact h.fst z, List.mem_map.mpr ⟨b, mem_onesL.mpr ((h.bit _ _).mpr z), rfl⟩⟩
section
variable {P : Program} {w : World} {K : PySem.W.Frag} {mg : Str → Option Value} {base : Heap} {C : Addr}
/-! ### pairs_of -/
def spPrs : Sp := fun vs H Q _ => ∃ (a : Addr) (l : List Nat), vs = [.ref a] ∧ H a = some (.lst (iN l)) ∧ l.length ≤ 100 ∧ (∀ m ∈ l, ∀ k, m.testBit k = true → k < 100) ∧
  ∀ p H' xs, H p = none → Same H H' → H' p = some (.lst xs) → PrAll H' xs (prsL l) → Q (.ref p) H'
def NPr : List Str := ["relation", "place", "mask", "goal"]
theorem scPrs : FnScope NPr ["relation"] (defScope (top 20)) := ⟨rfl, rfl, rfl, by decide +kernel, rfl, by decide +kernel, by decide +kernel⟩
theorem flat_len (l : List Nat) (h : ∀ m ∈ l, ∀ k, m.testBit k = true → k < 100) (n : Nat) : ((List.range n).flatMap (rowP l)).length ≤ n * 100 := by
  induction n with
  | zero => exact Nat.le_refl _
  | succ n ih =>
    rw [List.range_succ, List.flatMap_append, List.length_append]
    have : ([n].flatMap (rowP l)).length ≤ 100 := by
      rw [List.flatMap_cons, List.flatMap_nil, List.append_nil]
      unfold rowP
      rw [List.length_map]
      by_cases hn : n < l.length
      · rw [List.getD_eq_getElem?_getD, List.getElem?_eq_getElem hn]
        exact ones_len (h _ (List.getElem_mem hn))
      · rw [List.getD_eq_getElem?_getD, List.getElem?_eq_none (by omega)]
        exact ones_len (fun k hk => by simp at hk)
    omega
theorem ok_prs {f : Addr} {fd : FuncData} (F : Fun K "pairs_of" "pairs_of" (top 20) f fd) (n : Nm mg) (GO : Fn P w K mg base 1 "ones" ["bits"] spOnes) : FnOk P w K mg base CX0 2 f fd ["relation"] spPrs := by
  refine F.ok scPrs (fun vs H Q E h => ?_) (fun cdv A outer s H vs Q E hr h => ?_)
  · obtain ⟨a, l, rfl, _⟩ := h
    rfl
  · obtain ⟨a, l, rfl, ha, l100, bd, q⟩ := h
    have N := scPrs.nd
    refine ⟨_, pss_one (ps_ret (pe_lc2 (own := [("place", 1), ("mask", 2), ("goal", 3)]) (vs1 := [3]) (wi1 := iList K (tCall spOnes [] E0 (tCons (tVar 2) tNil))) (g := gTup K 2 (gCons (gName 1) (gCons (gName 2) gNil))) (g1 := gName 3) (tt := tYes) (tt1 := tYes) rfl N (pi_enumA (by rfl) n.enumerate (pa_cons (pv 0) pa_nil))
        (blkOk_by (N := NPr) (sc := defScope (top 20)) (by decide +kernel)) (by decide)
        (fun _ _ _ _ _ => pg_tup rfl (pgs_cons (pg_name (i := 1) N rfl (.inl rfl)) (pgs_cons (pg_name (i := 2) N rfl (.inl rfl)) pgs_nil)))
        (fun _ _ _ _ _ => pts_nil) (fun _ _ _ _ _ => pi_list (pe_fn GO hr (pa_cons (pv 2) pa_nil))) (fun _ _ _ _ _ => pg_name (i := 3) N rfl (.inl rfl)) (fun _ _ _ _ _ => pts_nil)
        (fun _ _ _ _ _ => pe_tup (pa_cons (pv 1) (pa_cons (pv 3) pa_nil))))), ?_⟩
    refine ⟨_, rfl, a, iN l, rfl, .inl ⟨.inl (.inl ha), fun D hD => ?_⟩⟩
    refine lc_out (n := l.length) (fun i H3 => ButD D H H3 ∧ ∃ xs, H3 D = some (.lst xs) ∧ PrAll H3 xs ((List.range i).flatMap (rowP l))) ⟨.start, [], upd_same, .nil⟩ ?_ ?_
    · rintro H3 ⟨b3, xs, h3, p3⟩
      have s3 := b3.new hD
      exact ⟨⟨_, .inl (.inl (s3 _ _ ha)), by rw [iN_len]; exact Nat.le_refl _⟩, q D H3 xs hD s3 h3 p3⟩
    · rintro i H3 hi ⟨b3, xs, h3, p3⟩
      have s3 := b3.new hD
      have hi2 : i < (iN l).length := by rw [iN_len]; exact hi
      refine ⟨⟨_, _, .inl (.inl (s3 _ _ ha)), List.getElem?_eq_getElem hi2⟩, ?_⟩
      rintro x H' ⟨T, y, rfl, hT, rfl, hy⟩
      have hyi := hy _ (.inl (.inl (s3 _ _ ha)))
      rw [iN_at hi] at hyi
      obtain rfl := Option.some.inj hyi
      have s4 : Same H3 (upd H3 T (.tup [.int (i : Nat), .int (l.getD i 0 : Nat)])) := same_upd hT
      have mem : l.getD i 0 ∈ l := by
        rw [List.getD_eq_getElem?_getD, List.getElem?_eq_getElem hi]
        exact List.getElem_mem hi
      have mb := bd _ mem
      refine ⟨T, _, rfl, .inl (.inl upd_same), rfl, _, _, rfl, _, _, rfl, rfl, rfl, yes_ite ?_⟩
      refine ⟨_, rfl, l.getD i 0, rfl, Nat.lt_of_lt_of_le (lt_pow mb) (Nat.pow_le_pow_right (by decide) (by decide)), fun o H5 no s5 ho => ?_⟩
      have s35 := s4.trans s5
      refine ⟨o, rfl, ⟨_, .inl (.inl ho)⟩, ?_⟩
      have b5 : ButD D H H5 := b3.more s35
      have oD : o ≠ D := fun z => by
        subst z
        rw [s4 _ _ h3] at no
        exact nomatch no
      refine lc_in (n := (onesL (l.getD i 0)).length) (fun j H6 => ButD D H5 H6 ∧ ∃ ys, H6 D = some (.lst ys) ∧ PrAll H6 ys ((List.range i).flatMap (rowP l) ++ (rowP l i).take j)) ⟨fun _ _ _ e => e, xs, s35 _ _ h3, by rw [List.take_zero, List.append_nil]; exact p3.same s35⟩ ?_ ?_
      · rintro H6 ⟨b6, ys, h6, p6⟩
        refine ⟨⟨_, .inl (.inl (b6 _ _ oD ho)), by rw [iN_len]; exact Nat.le_refl _⟩, ⟨fun c u ne e => b6 c u ne (b5 c u ne e), ys, h6, ?_⟩⟩
        have e1 : (rowP l i).take (onesL (l.getD i 0)).length = rowP l i := List.take_of_length_le (by unfold rowP; rw [List.length_map]; exact Nat.le_refl _)
        rw [e1] at p6
        rw [List.range_succ, List.flatMap_append, List.flatMap_cons, List.flatMap_nil, List.append_nil]
        exact p6
      · rintro j H6 hj ⟨b6, ys, h6, p6⟩
        have hj2 : j < (iN (onesL (l.getD i 0))).length := by rw [iN_len]; exact hj
        refine ⟨⟨_, _, .inl (.inl (b6 _ _ oD ho)), List.getElem?_eq_getElem hj2⟩, ?_⟩
        rintro x H7 ⟨rfl, hx⟩
        have hxj := hx _ (.inl (.inl (b6 _ _ oD ho)))
        rw [iN_at hj] at hxj
        obtain rfl := Option.some.inj hxj
        refine ⟨rfl, yes_ite ?_⟩
        refine ⟨_, rfl, _, rfl, (by show 2 ≤ sizeLine; decide), fun u hu => ?_⟩
        have s7 := same_upd (o := .tup [V.int (i : Nat), V.int ((onesL (l.getD i 0)).getD j 0 : Nat)]) hu
        have yl := Paired.length p6
        refine ⟨ys, s7 _ _ h6, ?_, (b6.more s7).put, _, upd_same, ?_⟩
        · rw [yl, List.length_append, sizeLine_eq]
          have f1 := flat_len l bd i
          have f2 : ((rowP l i).take j).length ≤ j := List.length_take_le _ _
          have f3 := ones_len mb
          omega
        · have e2 : (rowP l i).take (j + 1) = (rowP l i).take j ++ [(i, (onesL (l.getD i 0)).getD j 0)] := take_row i _ hj
          rw [e2, ← List.append_assoc]
          have bt : ButD D (upd H7 u (.tup [V.int (i : Nat), V.int ((onesL (l.getD i 0)).getD j 0 : Nat)])) (L2.upd (upd H7 u (.tup [V.int (i : Nat), V.int ((onesL (l.getD i 0)).getD j 0 : Nat)])) D (.lst (ys ++ [V.ref u]))) := ButD.start
          have dl : ∃ zs, upd H7 u (.tup [V.int (i : Nat), V.int ((onesL (l.getD i 0)).getD j 0 : Nat)]) D = some (.lst zs) := ⟨ys, s7 _ _ h6⟩
          refine PySem.Paired.snoc ((p6.same s7).but bt dl) ⟨u, rfl, bt _ _ (fun z => ?_) upd_same⟩
          subst z
          rw [hu] at h6
          exact nomatch h6
end
end L2.K73
end

section
set_option Elab.async false
set_option linter.all false
set_option maxRecDepth 100000
set_option maxHeartbeats 4000000
namespace L2.K73
open PySem PySem.Spec PyProof.Rows L2.Gd L2.Lv
theorem p100 {x : Nat} (h : x < 2 ^ 100) : x < 2 ^ 1000000 := Nat.lt_of_lt_of_le h (Nat.pow_le_pow_right (by decide) (by decide))
theorem lt100 {n m : Nat} (hn : n ≤ 100) (h : ∀ k, m.testBit k = true → k < n) : ∀ k, m.testBit k = true → k < 100 := fun k hk => Nat.lt_of_lt_of_le (h k hk) hn
section
variable {P : Program} {w : World} {K : PySem.W.Frag} {mg : Str → Option Value} {base : Heap} {C : Addr}
/-! ### image -/
def spImg : Sp := fun vs H Q _ => ∃ (a : Addr) (l : List Nat) (m n : Nat) (r : Rl), vs = [.ref a, .int m] ∧ H a = some (.lst (iN l)) ∧ Rep n l r ∧ n ≤ 100 ∧ (∀ k, m.testBit k = true → k < n) ∧
  ∀ (x : Nat) H', Same H H' → (∀ b, x.testBit b = true ↔ ∃ k, m.testBit k = true ∧ r k b) → Q (.int x) H'
def NIm : List Str := ["relation", "mask", "out", "place"]
theorem scImg : FnScope NIm ["relation", "mask"] (defScope (top 21)) := ⟨rfl, rfl, rfl, by decide +kernel, rfl, by decide +kernel, by decide +kernel⟩
theorem ok_img {f : Addr} {fd : FuncData} (F : Fun K "image" "image" (top 21) f fd) (n : Nm mg) (GO : Fn P w K mg base 1 "ones" ["bits"] spOnes) : FnOk P w K mg base CX0 2 f fd ["relation", "mask"] spImg := by
  refine F.ok scImg (fun vs H Q E h => ?_) (fun cdv A outer s H vs Q E hr h => ?_)
  · obtain ⟨a, l, m, k, r, rfl, _⟩ := h
    rfl
  · obtain ⟨a, l, m, k, r, rfl, ha, rp, k100, mb, q⟩ := h
    have N := scImg.nd
    refine ⟨_, pss_cons (ps_set (i := 2) N rfl (.inl rfl) pe_int)
      (pss_cons (ps_for PassesOwn.never rfl (pi_list (pe_fn GO hr (pa_cons (pv 1) pa_nil))) (pg_name (i := 3) N rfl (.inl rfl))
        (pss_one (ps_set (i := 2) N rfl (.inl rfl) (pe_op op_or (pv 2) (pe_ix ix_list (pv 0) (pv 3) (fun _ _ => rfl))))))
      (pss_one (ps_ret (pv 2)))), ?_⟩
    refine ⟨_, rfl, m, rfl, p100 (lt_pow (lt100 k100 mb)), fun o H1 no s1 ho => ?_⟩
    refine ⟨o, rfl, ⟨_, .inl (.inl ho)⟩, ?_⟩
    refine loop_of (n := (onesL m).length) (fun i σ H2 => ∃ (v3 : Option V) (x : Nat), σ = [some (.ref a), some (.int m), some (.int x), v3] ∧ Same H1 H2 ∧ ∀ b, x.testBit b = true ↔ ∃ k ∈ (onesL m).take i, r k b)
      ⟨none, 0, rfl, Same.refl, fun b => by simp⟩ ?_ ?_
    · rintro σ H2 ⟨v3, x, rfl, s2, hx⟩
      refine ⟨⟨_, .inl (.inl (s2 _ _ ho)), by rw [iN_len]; exact Nat.le_refl _⟩, ?_⟩
      rw [List.take_length] at hx
      exact ⟨_, rfl, q x H2 (s1.trans s2) fun b => by rw [hx]; exact ⟨fun ⟨k, h1, h2⟩ => ⟨k, mem_onesL.mp h1, h2⟩, fun ⟨k, h1, h2⟩ => ⟨k, mem_onesL.mpr h1, h2⟩⟩⟩
    · rintro i σ H2 hi ⟨v3, x, rfl, s2, hx⟩
      have hi2 : i < (iN (onesL m)).length := by rw [iN_len]; exact hi
      refine ⟨⟨_, _, .inl (.inl (s2 _ _ ho)), List.getElem?_eq_getElem hi2⟩, ?_⟩
      rintro v H3 ⟨rfl, hy⟩
      have hvi := hy _ (.inl (.inl (s2 _ _ ho)))
      rw [iN_at hi] at hvi
      obtain rfl := Option.some.inj hvi
      have hg : (onesL m).getD i 0 = (onesL m)[i] := by rw [List.getD_eq_getElem?_getD, List.getElem?_eq_getElem hi]; rfl
      have hp : (onesL m).getD i 0 < l.length := by
        rw [rp.len, hg]
        exact mb _ (mem_onesL.mp (List.getElem_mem hi))
      refine gn ?_
      refine ⟨_, rfl, _, rfl, _, rfl, a, iN l, _, _, rfl, rfl, .inl (.inl ((s1.trans s2) _ _ ha)), atI_nat (iN_at hp), _, _, rfl, rfl, ?_⟩
      refine ⟨some (.int ((onesL m).getD i 0 : Nat)), x ||| l.getD ((onesL m).getD i 0) 0, ?_, s2, fun b => ?_⟩
      · show [some (V.ref a), some (V.int m), some (V.int (Builtin.bitOr (x : Int) ((l.getD ((onesL m).getD i 0) 0 : Nat) : Int))), some (V.int ((onesL m).getD i 0 : Nat))] = _
        rw [or_nat]
      · rw [Nat.testBit_or, Bool.or_eq_true, hx, rp.bit, List.take_succ, List.getElem?_eq_getElem hi, hg]
        constructor
        · rintro (⟨k, h1, h2⟩ | h)
          · exact ⟨k, List.mem_append_left _ h1, h2⟩
          · exact ⟨_, List.mem_append_right _ (by simp), h⟩
        · rintro ⟨k, h1, h2⟩
          rcases List.mem_append.mp h1 with h1 | h1
          · exact .inl ⟨k, h1, h2⟩
          · have : k = (onesL m)[i] := by simpa using h1
            subst this
            exact .inr h2
/-! ### followed -/
def spFol : Sp := fun vs H Q _ => ∃ (a c : Addr) (l z : List Nat) (n : Nat) (r s : Rl), vs = [.ref a, .ref c] ∧ H a = some (.lst (iN l)) ∧ H c = some (.lst (iN z)) ∧ Rep n l r ∧ Rep n z s ∧ n ≤ 100 ∧ In n r ∧
  ∀ p H' y, H p = none → Same H H' → H' p = some (.lst (iN y)) → Rep n y (Cp r s) → Q (.ref p) H'
def NFo : List Str := ["one", "two", "mask"]
theorem scFol : FnScope NFo ["one", "two"] (defScope (top 22)) := ⟨rfl, rfl, rfl, by decide +kernel, rfl, by decide +kernel, by decide +kernel⟩
/-- masks of the first rows -/
structure RepT (n i : Nat) (l : List Nat) (r : Rl) : Prop where
  len : l.length = i
  bit : ∀ a b, (l.getD a 0).testBit b = true ↔ (a < i ∧ r a b)
theorem RepT.nil {n : Nat} {r : Rl} : RepT n 0 [] r := ⟨rfl, fun a b => by simp⟩
theorem RepT.snoc {n i : Nat} {l : List Nat} {r : Rl} (h : RepT n i l r) {x : Nat} (hx : ∀ b, x.testBit b = true ↔ r i b) : RepT n (i + 1) (l ++ [x]) r := by
  refine ⟨by rw [List.length_append, h.len]; rfl, fun a b => ?_⟩
  rw [List.getD_eq_getElem?_getD, List.getElem?_append, h.len]
  by_cases e : a < i
  · rw [if_pos e, ← List.getD_eq_getElem?_getD, h.bit]
    exact ⟨fun z => ⟨by omega, z.2⟩, fun z => ⟨e, z.2⟩⟩
  · rw [if_neg e]
    by_cases e2 : a = i
    · subst e2
      rw [Nat.sub_self]
      show x.testBit b = true ↔ _
      rw [hx]
      exact ⟨fun z => ⟨by omega, z⟩, fun z => z.2⟩
    · have : ([x] : List Nat)[a - i]? = none := by
        rw [List.getElem?_eq_none]
        simp
        omega
      rw [this]
      simp
      omega
theorem RepT.whole {n : Nat} {l : List Nat} {r : Rl} (h : RepT n n l r) (i : ∀ a b, r a b → a < n) : Rep n l r := ⟨h.len, fun a b => (h.bit a b).trans ⟨fun z => z.2, fun z => ⟨i a b z, z⟩⟩⟩
theorem ok_fol {f : Addr} {fd : FuncData} (F : Fun K "followed" "followed" (top 22) f fd) (n : Nm mg) (GI : Fn P w K mg base 2 "image" ["relation", "mask"] spImg) : FnOk P w K mg base CX0 3 f fd ["one", "two"] spFol := by
  refine F.ok scFol (fun vs H Q E h => ?_) (fun cdv A outer s H vs Q E hr h => ?_)
  · obtain ⟨a, c, l, z, k, r, t, rfl, _⟩ := h
    rfl
  · obtain ⟨a, c, l, z, k, r, t, rfl, ha, hc, rp, rz, k100, ir, q⟩ := h
    have N := scFol.nd
    refine ⟨_, pss_one (ps_ret (pe_lc (own := [("mask", 2)]) (g := gName 2) (tt := tYes) rfl N (pi_list (pv 0)) (blkOk_by (N := NFo) (sc := defScope (top 22)) (by decide +kernel)) (fun _ _ _ _ _ => pg_name (i := 2) N rfl (.inl rfl))
      (fun _ _ _ _ _ => pts_nil) (fun _ _ _ _ _ => pe_fn GI hr (pa_cons (pv 1) (pa_cons (pv 2) pa_nil))))), ?_⟩
    refine ⟨_, rfl, a, rfl, ⟨_, .inl (.inl ha)⟩, fun D hD => ?_⟩
    refine lc_gen (n := l.length) (fun i H3 => ButD D H H3 ∧ ∃ y, H3 D = some (.lst (iN y)) ∧ RepT k i y (Cp r t)) ⟨.start, [], upd_same, .nil⟩ ?_ ?_
    · rintro H3 ⟨b3, y, h3, ry⟩
      have s3 := b3.new hD
      rw [rp.len] at ry
      exact ⟨⟨_, .inl (.inl (s3 _ _ ha)), by rw [iN_len]; exact Nat.le_refl _⟩, q D H3 y hD s3 h3 (ry.whole fun a b ⟨x, h1, _⟩ => rp.fst h1)⟩
    · rintro i H3 hi ⟨b3, y, h3, ry⟩
      have s3 := b3.new hD
      have hi2 : i < (iN l).length := by rw [iN_len]; exact hi
      refine ⟨⟨_, _, .inl (.inl (s3 _ _ ha)), List.getElem?_eq_getElem hi2⟩, ?_⟩
      rintro x H4 ⟨rfl, hy⟩
      have hvi := hy _ (.inl (.inl (s3 _ _ ha)))
      rw [iN_at hi] at hvi
      obtain rfl := Option.some.inj hvi
      refine ⟨rfl, yes_ite ?_⟩
      refine ⟨_, rfl, _, rfl, c, z, l.getD i 0, k, t, rfl, s3 _ _ hc, rz, k100, ?_, fun x H5 s5 hx => ?_⟩
      · intro j hj
        exact (ir i j ((rp.bit i j).mp hj)).2
      · refine ⟨_, s5 _ _ h3, by rw [iN_len, ry.len, sizeLine_eq]; have := rp.len; omega, (b3.more s5).put, y ++ [x], by rw [upd_same, iN_app]; rfl, ry.snoc fun b => ?_⟩
        rw [hx]
        exact ⟨fun ⟨j, h1, h2⟩ => ⟨j, (rp.bit i j).mp h1, h2⟩, fun ⟨j, h1, h2⟩ => ⟨j, (rp.bit i j).mpr h1, h2⟩⟩
/-! ### joined -/
def spJoi : Sp := fun vs H Q _ => ∃ (a c : Addr) (l z : List Nat) (n : Nat) (r s : Rl), vs = [.ref a, .ref c] ∧ H a = some (.lst (iN l)) ∧ H c = some (.lst (iN z)) ∧ Rep n l r ∧ Rep n z s ∧ n ≤ 100 ∧
  ∀ p H' y, H p = none → Same H H' → H' p = some (.lst (iN y)) → Rep n y (Or2 r s) → Q (.ref p) H'
def NJo : List Str := ["one", "two", "place"]
theorem scJoi : FnScope NJo ["one", "two"] (defScope (top 23)) := ⟨rfl, rfl, rfl, by decide +kernel, rfl, by decide +kernel, by decide +kernel⟩
theorem ok_joi {f : Addr} {fd : FuncData} (F : Fun K "joined" "joined" (top 23) f fd) (n : Nm mg) : FnOk P w K mg base CX0 1 f fd ["one", "two"] spJoi := by
  refine F.ok scJoi (fun vs H Q E h => ?_) (fun cdv A outer s H vs Q E hr h => ?_)
  · obtain ⟨a, c, l, z, k, r, t, rfl, _⟩ := h
    rfl
  · obtain ⟨a, c, l, z, k, r, t, rfl, ha, hc, rp, rz, k100, q⟩ := h
    have N := scJoi.nd
    refine ⟨_, pss_one (ps_ret (pe_lc (own := [("place", 2)]) (g := gName 2) (tt := tYes) rfl N (pi_range1 (by rfl) n.range (pa_cons (pe_callB call_len_seq (by rfl) n.len PySem.boot_len (pa_cons (pv 0) pa_nil)) pa_nil)) (blkOk_by (N := NJo) (sc := defScope (top 23)) (by decide +kernel)) (fun _ _ _ _ _ => pg_name (i := 2) N rfl (.inl rfl))
      (fun _ _ _ _ _ => pts_nil) (fun _ _ _ _ _ => pe_op op_or (pe_ix (r := rIxL K) ix_list (pv 0) (pv 2) (fun _ _ => rfl)) (pe_ix (r := rIxL K) ix_list (pv 1) (pv 2) (fun _ _ => rfl))))), ?_⟩
    have ll : (iN l).length = k := by rw [iN_len, rp.len]
    refine ⟨_, rfl, a, _, rfl, .inl (.inl (.inl ha)), _, rfl, by rw [ll]; omega, by rw [ll]; omega, fun D hD => ?_⟩
    rw [ll]
    refine lc_range (lo := 0) (n := ((k : Int)).toNat) (fun i H3 => ButD D H H3 ∧ ∃ y, H3 D = some (.lst (iN y)) ∧ RepT k i y (Or2 r t)) ⟨.start, [], upd_same, .nil⟩ ?_ ?_
    · rintro i H3 hi ⟨b3, y, h3, ry⟩
      have s3 := b3.new hD
      have hik : i < k := by omega
      refine ⟨rfl, yes_ite ?_⟩
      have e0 : (0 : Int) + (i : Int) = (i : Int) := Int.zero_add _
      refine ⟨_, rfl, _, rfl, a, iN l, (0 : Int) + (i : Int), _, rfl, rfl, .inl (.inl (s3 _ _ ha)), by rw [e0]; exact atI_nat (iN_at (by rw [rp.len]; exact hik)), _, rfl, _, rfl, c, iN z, (0 : Int) + (i : Int), _, rfl, rfl, .inl (.inl (s3 _ _ hc)), by rw [e0]; exact atI_nat (iN_at (by rw [rz.len]; exact hik)), _, _, rfl, rfl, ?_⟩
      refine ⟨_, h3, by rw [iN_len, ry.len, sizeLine_eq]; omega, b3.put, y ++ [l.getD i 0 ||| z.getD i 0], ?_, ry.snoc fun b => ?_⟩
      · rw [upd_same, iN_app]
        show some (HO.lst (iN y ++ [V.int (Builtin.bitOr ((l.getD i 0 : Nat) : Int) ((z.getD i 0 : Nat) : Int))])) = _
        rw [or_nat]
        rfl
      · rw [Nat.testBit_or, Bool.or_eq_true, rp.bit, rz.bit]
        rfl
    · rintro H3 ⟨b3, y, h3, ry⟩
      rw [Int.toNat_natCast] at ry
      exact q D H3 y hD (b3.new hD) h3 (ry.whole fun a b h => h.elim (fun h => rp.fst h) fun h => rz.fst h)
end
end L2.K73
end

section
set_option Elab.async false
set_option linter.all false
set_option maxRecDepth 100000
set_option maxHeartbeats 4000000
namespace L2.K73
open PySem PySem.Spec PyProof.Rows L2.Gd L2.Lv
theorem bit_test (m i : Nat) : decide (V.int (Builtin.bitAnd ((m : Int) / 2 ^ ((i : Int)).toNat) 1) = V.int 1) = m.testBit i := by
  rw [shr_nat, show (1 : Int) = ((1 : Nat) : Int) from rfl, and_nat, Nat.and_one_is_mod, Nat.testBit_eq_decide_div_mod_eq]
  have e : ∀ k : Nat, (V.int ((k : Nat) : Int) = V.int ((1 : Nat) : Int)) = (k = 1) := fun k => by
    simp
    omega
  simp only [e]
theorem Wa.repl {r : Rl} {n i : Nat} {y z : List Nat} (hy : Rep n y (Wa r n i)) (hz : ∀ a b, (z.getD a 0).testBit b = true ↔ ((y.getD a 0).testBit b = true ∨ ((y.getD a 0).testBit i = true ∧ (y.getD i 0).testBit b = true))) (hl : z.length = n) : Rep n z (Wa r n (i + 1)) := by
  refine ⟨hl, fun a b => ?_⟩
  rw [hz, hy.bit, hy.bit, hy.bit]
  exact Iff.rfl
theorem wa_in {r : Rl} {n : Nat} (i : In n r) (m : Nat) (h : m ≤ n) : In n (Wa r n m) := fun a b z => Cl.inn a b (Wa.star i m a b h z)
/-! ### lists of ints as data -/
theorem ints_eqv : ∀ ns ms : List Int, PyData.eqvAll (ns.map PyData.int) (ms.map PyData.int) = decide (ns = ms)
  | [], [] => by simp [PyData.eqvAll]
  | [], _ :: _ => by simp [PyData.eqvAll]
  | _ :: _, [] => by simp [PyData.eqvAll]
  | x :: r, y :: t => by
    rw [List.map_cons, List.map_cons, PyData.eqvAll, ints_eqv r t]
    simp [PyData.eqv]
    rfl
theorem ints_lay : ∀ ns : List Int, PyData.canLayAll0 (ns.map PyData.int) = true
  | [] => by simp [PyData.canLayAll0]
  | x :: r => by simp [PyData.canLayAll0, PyData.canLay0, ints_lay r]
theorem ints_dep : ∀ ns : List Int, PyData.depthAll (ns.map PyData.int) = 0
  | [] => by simp [PyData.depthAll]
  | x :: r => by simp [PyData.depthAll, PyData.depth, ints_dep r]
theorem ints_shaped (ns : List Int) : SeqAt.shaped (.list (ns.map PyData.int)) = true := by
  show (PyData.canLay0 (.list (ns.map PyData.int)) && decide (PyData.depth (.list (ns.map PyData.int)) ≤ 64)) = true
  rw [Bool.and_eq_true]
  refine ⟨by simp only [PyData.canLay0]; exact ints_lay ns, decide_eq_true ?_⟩
  simp only [PyData.depth, ints_dep]
  decide
def intsD (l : List Nat) : PyData := .list ((l.map fun n : Nat => (n : Int)).map PyData.int)
theorem iN_ints (l : List Nat) : iN l = (l.map fun n : Nat => (n : Int)).map V.int := by
  unfold iN
  rw [List.map_map]
  rfl
theorem eqv_ints (l z : List Nat) : PyData.eqv (intsD l) (intsD z) = decide (l = z) := by
  unfold intsD
  rw [PyData.eqv, ints_eqv, Bool.eq_iff_iff, decide_eq_true_eq, decide_eq_true_eq]
  exact ⟨fun h => (List.map_inj_right fun a b h => Int.ofNat.inj h).mp h, fun h => by rw [h]⟩
section
variable {P : Program} {w : World} {K : PySem.W.Frag} {mg : Str → Option Value} {base : Heap} {C : Addr}
theorem dps_ints {H : Hp} : ∀ ns : List Int, DpAll K H (ns.map V.int) (ns.map PyData.int)
  | [] => .nil
  | n :: r => .cons (.int n) (dps_ints r)
theorem dp_ints {H : Hp} {a : Addr} {l : List Nat} (h : H a = some (.lst (iN l))) : Dp K H (.ref a) (intsD l) := by
  rw [iN_ints] at h
  exact .lst (.inl (.inl h)) (dps_ints _)
/-! ### closed -/
def spCl : Sp := fun vs H Q _ => ∃ (a : Addr) (l : List Nat) (n : Nat) (r : Rl), vs = [.ref a] ∧ H a = some (.lst (iN l)) ∧ Rep n l r ∧ n ≤ 100 ∧ In n r ∧
  ∀ p H' y, H p = none → Same H H' → H' p = some (.lst (iN y)) → Rep n y (Cl n r) → Q (.ref p) H'
def NCl : List Str := ["relation", "out", "middle", "more", "place", "mask"]
theorem scCl : FnScope NCl ["relation"] (defScope (top 24)) := ⟨rfl, rfl, rfl, by decide +kernel, rfl, by decide +kernel, by decide +kernel⟩
theorem rep_self {n i : Nat} {y l : List Nat} {r : Rl} (h : RepT n i y (fun a b => r a b ∨ (a = b ∧ a < n))) (hl : Rep n l r) : RepT n (i + 1) (y ++ [more (l.getD i 0) i]) (fun a b => r a b ∨ (a = b ∧ a < n)) ∨ ¬ i < n := by
  by_cases hi : i < n
  · refine .inl (h.snoc fun b => ?_)
    rw [more_bit, hl.bit]
    exact ⟨fun z => z.imp id fun z => ⟨z.symm, hi⟩, fun z => z.imp id fun z => z.1.symm⟩
  · exact .inr hi
theorem ok_cl {f : Addr} {fd : FuncData} (F : Fun K "closed" "closed" (top 24) f fd) (n : Nm mg) : FnOk P w K mg base CX0 1 f fd ["relation"] spCl := by
  refine F.ok scCl (fun vs H Q E h => ?_) (fun cdv A outer s H vs Q E hr h => ?_)
  · obtain ⟨a, l, k, r, rfl, _⟩ := h
    rfl
  · obtain ⟨a, l, k, r, rfl, ha, rp, k100, ir, q⟩ := h
    have N := scCl.nd
    refine ⟨_, pss_cons (ps_setLc (i := 1) (own := [("place", 4), ("mask", 5)]) (g := gTup K 2 (gCons (gName 4) (gCons (gName 5) gNil))) (tt := tYes) (by rfl) N rfl rfl (sw_true rfl rfl rfl (by decide +kernel)) (pi_enumA (by rfl) n.enumerate (pa_cons (pv 0) pa_nil)) (blkOk_by (N := NCl) (sc := defScope (top 24)) (by decide +kernel))
        (fun _ _ _ _ _ => pg_tup rfl (pgs_cons (pg_name (i := 4) N rfl (.inl rfl)) (pgs_cons (pg_name (i := 5) N rfl (.inl rfl)) pgs_nil)))
        (fun _ _ _ _ _ => pts_nil) (fun _ _ _ _ _ => pe_op op_or (pv 5) (pe_op op_shl pe_int (pv 4))))
      (pss_cons (ps_for PassesOwn.never rfl (pi_range1 (by rfl) n.range (pa_cons (pe_callB call_len_seq (by rfl) n.len PySem.boot_len (pa_cons (pv 1) pa_nil)) pa_nil)) (pg_name (i := 2) N rfl (.inr rfl))
        (pss_cons (ps_set (i := 3) N rfl (.inr rfl) (pe_ix ix_list (pv 1) (pv 2) (fun _ _ => rfl)))
        (pss_one (ps_setLc (i := 1) (own := [("mask", 5)]) (g := gName 5) (tt := tYes) (by rfl) N rfl rfl (sw_true rfl rfl rfl (by decide +kernel)) (pi_list (pv 1)) (blkOk_by (N := NCl) (sc := defScope (top 24)) (by decide +kernel))
          (fun _ _ _ _ _ => pg_name (i := 5) N rfl (.inl rfl)) (fun _ _ _ _ _ => pts_nil)
          (fun _ _ _ _ _ => pe_ifExp (pt_cmpR op_eq (pe_op op_and (pe_op op_shr (pv 5) (pv 2)) pe_int) pe_int (nomark _)) (pe_op op_or (pv 5) (pv 3)) (pv 5))))))
      (pss_one (ps_ret (pv 1)))), ?_⟩
    refine seqV (Good := fun σ2 H2 => ∃ (o : Addr) (y : List Nat), H o = none ∧ Same H H2 ∧ H2 o = some (.lst (iN y)) ∧ Rep k y (Wa r k 0) ∧ σ2 = [some (.ref a), some (.ref o), none, none, none, none]) ?_ ?_
    · intro nx hnx
      refine ⟨_, rfl, a, iN l, rfl, .inl ⟨.inl (.inl ha), fun D hD => ?_⟩⟩
      refine lc_gen (n := l.length) (fun i H3 => ButD D H H3 ∧ ∃ y, H3 D = some (.lst (iN y)) ∧ RepT k i y (fun a b => r a b ∨ (a = b ∧ a < k))) ⟨.start, [], upd_same, .nil⟩ ?_ ?_
      · rintro H3 ⟨b3, y, h3, ry⟩
        have s3 := b3.new hD
        rw [rp.len] at ry
        exact ⟨⟨_, .inl (.inl (s3 _ _ ha)), by rw [iN_len]; exact Nat.le_refl _⟩, hnx _ _ ⟨D, y, hD, s3, h3, ry.whole fun a b h => h.elim (fun h => rp.fst h) fun h => h.2, rfl⟩⟩
      · rintro i H3 hi ⟨b3, y, h3, ry⟩
        have s3 := b3.new hD
        have hi2 : i < (iN l).length := by rw [iN_len]; exact hi
        have hik : i < k := by rw [← rp.len]; exact hi
        refine ⟨⟨_, _, .inl (.inl (s3 _ _ ha)), List.getElem?_eq_getElem hi2⟩, ?_⟩
        rintro x H' ⟨T, v, rfl, hT, rfl, hy⟩
        have hyi := hy _ (.inl (.inl (s3 _ _ ha)))
        rw [iN_at hi] at hyi
        obtain rfl := Option.some.inj hyi
        have s4 : Same H3 (upd H3 T (.tup [.int (i : Nat), .int (l.getD i 0 : Nat)])) := same_upd hT
        refine ⟨T, _, rfl, .inl (.inl upd_same), rfl, _, _, rfl, _, _, rfl, rfl, rfl, yes_ite ?_⟩
        refine ⟨_, rfl, _, rfl, _, _, rfl, rfl, ⟨by omega, by omega, by decide⟩, _, _, rfl, rfl, ?_⟩
        refine ⟨_, s4 _ _ h3, by rw [iN_len, ry.len, sizeLine_eq]; omega, (b3.more s4).put, y ++ [more (l.getD i 0) i], ?_, (rep_self ry rp).resolve_right (fun z => z hik)⟩
        rw [upd_same, iN_app]
        show some (HO.lst (iN y ++ [V.int (Builtin.bitOr ((l.getD i 0 : Nat) : Int) ((1 : Int) * 2 ^ ((i : Int)).toNat))])) = _
        rw [shl_nat, or_nat]
        rfl
    rintro _ H1 ⟨o1, y1, no1, s1, ho1, ry1, rfl⟩
    have ll : (iN y1).length = k := by rw [iN_len, ry1.len]
    refine ⟨_, rfl, o1, _, rfl, .inl (.inl (.inl ho1)), ?_⟩
    rw [ll]
    refine ⟨_, rfl, by omega, by omega, for_range (lo := 0) (n := ((k : Int)).toNat) (fun i σ H2 => ∃ (o : Addr) (y : List Nat) (v2 v3 : Option V), H o = none ∧ Same H H2 ∧ H2 o = some (.lst (iN y)) ∧ Rep k y (Wa r k i) ∧ σ = [some (.ref a), some (.ref o), v2, v3, none, none])
      ⟨o1, y1, none, none, no1, s1, ho1, ry1, rfl⟩ ?_ ?_⟩
    · rintro i σ H2 hi ⟨o, y, v2, v3, no, s2, ho, ry, rfl⟩
      have hik : i < k := by omega
      have e0 : (0 : Int) + (i : Int) = (i : Int) := Int.zero_add _
      refine gn ?_
      rw [e0]
      have hyl : i < y.length := by rw [ry.len]; exact hik
      refine ⟨_, rfl, _, rfl, o, iN y, _, _, rfl, rfl, .inl (.inl ho), atI_nat (iN_at hyl), ?_⟩
      refine ⟨_, rfl, o, rfl, ⟨_, .inl (.inl ho)⟩, fun D hD => ?_⟩
      refine lc_gen (n := y.length) (fun j H3 => ButD D H2 H3 ∧ ∃ z, H3 D = some (.lst (iN z)) ∧ RepT k j z (Wa r k (i + 1))) ⟨.start, [], upd_same, .nil⟩ ?_ ?_
      · rintro H3 ⟨b3, z, h3, rz⟩
        have s3 := b3.new hD
        rw [ry.len] at rz
        refine ⟨⟨_, .inl (.inl (s3 _ _ ho)), by rw [iN_len]; exact Nat.le_refl _⟩, ⟨D, z, _, _, s2.free hD, s2.trans s3, h3, rz.whole fun a b h => ?_, rfl⟩⟩
        exact ((wa_in ir (i + 1) (by omega) a b h)).1
      · rintro j H3 hj ⟨b3, z, h3, rz⟩
        have s3 := b3.new hD
        have hj2 : j < (iN y).length := by rw [iN_len]; exact hj
        refine ⟨⟨_, _, .inl (.inl (s3 _ _ ho)), List.getElem?_eq_getElem hj2⟩, ?_⟩
        rintro x H4 ⟨rfl, hx⟩
        have hxj := hx _ (.inl (.inl (s3 _ _ ho)))
        rw [iN_at hj] at hxj
        obtain rfl := Option.some.inj hxj
        refine ⟨rfl, yes_ite ?_⟩
        refine ⟨_, rfl, _, rfl, _, _, rfl, rfl, (by omega), _, _, rfl, rfl, rfl, _, congrArg V.bl (bit_test (y.getD j 0) i), ?_⟩
        have hb := ry.bit j i
        have wn : ∀ b, (Wa r k (i + 1)) j b ↔ (Wa r k i j b ∨ (Wa r k i j i ∧ Wa r k i i b)) := fun b => Iff.rfl
        cases ht : (y.getD j 0).testBit i with
        | true =>
          refine iteT ⟨_, rfl, _, rfl, _, _, rfl, rfl, ?_⟩
          refine ⟨_, h3, by rw [iN_len, rz.len, sizeLine_eq]; have := ry.len; omega, b3.put, z ++ [y.getD j 0 ||| y.getD i 0], ?_, rz.snoc fun b => ?_⟩
          · rw [upd_same, iN_app]
            show some (HO.lst (iN z ++ [V.int (Builtin.bitOr ((y.getD j 0 : Nat) : Int) ((y.getD i 0 : Nat) : Int))])) = _
            rw [or_nat]
            rfl
          · rw [Nat.testBit_or, Bool.or_eq_true, ry.bit, ry.bit, wn]
            exact ⟨fun q => q.imp id fun q => ⟨hb.mp ht, q⟩, fun q => q.imp id fun q => q.2⟩
        | false =>
          refine iteF ⟨_, rfl, _, h3, by rw [iN_len, rz.len, sizeLine_eq]; have := ry.len; omega, b3.put, z ++ [y.getD j 0], ?_, rz.snoc fun b => ?_⟩
          · rw [upd_same, iN_app]
            rfl
          · rw [ry.bit, wn]
            refine ⟨.inl, fun q => q.elim id fun q => ?_⟩
            rw [hb.mpr q.1] at ht
            exact nomatch ht
    · rintro σ H2 ⟨o, y, v2, v3, no, s2, ho, ry, rfl⟩
      rw [Int.toNat_natCast] at ry
      exact ⟨_, rfl, q o H2 y no s2 ho (ry.iff (wa_cl ir))⟩
end
end L2.K73
end

section
set_option Elab.async false
set_option linter.all false
set_option maxRecDepth 100000
set_option maxHeartbeats 4000000
namespace L2.K73
open PySem PySem.Spec PyProof.Rows L2.Gd L2.Lv
/-- a method -/
structure MeH (P : Program) (w : World) (K : PySem.W.Frag) (mg : Str → Option Value) (base : Heap) (C : Addr) (x : Str) (k : Nat) (ps : List Str) (sp : Sp) : Prop where
  ex : ∃ f fd, Meth K C x f ∧ Binds K fd ps [] ∧ FnOk P w K mg base CX0 k f fd ps sp
section
variable {X : Cx} {C : Addr} {x : Str} {k : Nat} {ps : List Str} {sp : Sp} {o : Expr} {ta : TE} {apos pos : Pos}
theorem pe_mH0 {pl : Sem Bool} (M : MeH X.prog X.w X.K X.mg X.base C x k ps sp) (T : ClsT X.K X.mg C) (hr : Room k X.A) (he : PE X o ta)
    (ht : eval (.Call (.Attribute o x apos) [] [] pos) X.env = (do
      let ov ← eval o X.env
      standAt apos.atName
      let (f, first) ← holding [ov] (getMethod ov x pl)
      callWith pos f first (backTo pos (starEach [] X.env)) (backToKw pos (keywordEach [] X.env))) := by rfl) :
    PE X (.Call (.Attribute o x apos) [] [] pos) (tMeth C x sp [] E0 ta tNil) := by
  obtain ⟨f, fd, hm, b, F⟩ := M.ex
  exact pe_meth0 he T.isc.cl hm F hr b .nil pass0 ht
end
section
variable {X : Cx} {C : Addr} {x : Str} {k : Nat} {ps : List Str} {sp : Sp} {o e : Expr} {es : List Expr} {ta : TE} {t : TA} {apos pos : Pos}
theorem pe_mH {pl : Sem Bool} (M : MeH X.prog X.w X.K X.mg X.base C x k ps sp) (T : ClsT X.K X.mg C) (hr : Room k X.A) (he : PE X o ta) (ha : PA X (e :: es) t)
    (hst : starEach (e :: es) X.env = (false, eval e X.env) :: starEach es X.env := by rfl) (hpl : (backTo pos (starEach es X.env)).any (·.1) = false := by rfl)
    (ht : eval (.Call (.Attribute o x apos) (e :: es) [] pos) X.env = (do
      let ov ← eval o X.env
      standAt apos.atName
      let (f, first) ← holding [ov] (getMethod ov x pl)
      callWith pos f first (backTo pos (starEach (e :: es) X.env)) (backToKw pos (keywordEach [] X.env))) := by rfl) :
    PE X (.Call (.Attribute o x apos) (e :: es) [] pos) (tMeth C x sp [] E0 ta t) := by
  obtain ⟨f, fd, hm, b, F⟩ := M.ex
  exact pe_meth he T.isc.cl hm F hr b .nil pass0 ha hst hpl ht
end
section
variable {P : Program} {w : World} {K : PySem.W.Frag} {mg : Str → Option Value} {base : Heap} {C : Addr}
/-- the deeds of one change that may be done at any number -/
def Dl (ds : List Dd) (c : Int) : Rl := fun a b => ∃ d ∈ ds, d.p = (a : Int) ∧ d.g = (b : Int) ∧ d.c = c ∧ d.w = "any"
def isC (c : Int) (d : Dd) : Bool := decide (d.c = c) && isAny d
def prD (c : Int) (d : Dd) : Option (Nat × Nat) := if isC c d = true then some (d.p.toNat, d.g.toNat) else none
theorem isAny_w (d : Dd) : isAny d = true ↔ d.w = "any" := decide_eq_true_iff
theorem Dl.inn {n : Nat} {ds : List Dd} (ok : ∀ d ∈ ds, d.Ok n) (c : Int) : In n (Dl ds c) := fun a b ⟨d, hd, e1, e2, _⟩ => by
  have o := ok d hd
  have := o.pn
  have := o.gn
  omega
theorem mem_pr {n : Int} {ds : List Dd} (ok : ∀ d ∈ ds, d.Ok n) (c : Int) (a b : Nat) : (a, b) ∈ ds.filterMap (prD c) ↔ Dl ds c a b := by
  rw [List.mem_filterMap]
  constructor
  · rintro ⟨d, hd, e⟩
    unfold prD at e
    split at e
    · rename_i q
      have o := ok d hd
      have := o.p0
      have := o.g0
      obtain ⟨q1, q2⟩ := Bool.and_eq_true_iff.mp q
      obtain ⟨e1, e2⟩ := Prod.mk.inj (Option.some.inj e)
      exact ⟨d, hd, by omega, by omega, of_decide_eq_true q1, (isAny_w d).mp q2⟩
    · exact nomatch e
  · rintro ⟨d, hd, e1, e2, e3, e4⟩
    refine ⟨d, hd, ?_⟩
    unfold prD
    rw [if_pos (show isC c d = true by unfold isC; rw [decide_eq_true e3, (isAny_w d).mpr e4]; rfl), e1, e2]
    rfl
def spDR (C : Addr) : Sp := fun vs H Q _ => ∃ (h l : Addr) (n : Nat) (c : Int) (xs : List V) (ds : List Dd), vs = [.ref h, .int c, .str "any"] ∧ HouseL C H h l n xs ds ∧ WF n ds ∧
  ∀ p H' y, H p = none → Same H H' → H' p = some (.lst (iN y)) → Rep n y (Dl ds c) → Q (.ref p) H'
def NDR : List Str := ["house", "change", "when", "deed"]
theorem scDR : FnScope NDR ["house", "change", "when"] (defScope (top 26)) := ⟨rfl, rfl, rfl, by decide +kernel, rfl, by decide +kernel, by decide +kernel⟩
theorem stabP (D : Addr) : Stab PrAt D := fun H H' y d b ⟨zs, hD⟩ ⟨t, e, ht⟩ => ⟨t, e, b _ _ (fun z => by subst z; rw [hD] at ht; exact nomatch ht) ht⟩
theorem ok_dr {f : Addr} {fd : FuncData} (F : Fun K "deed_relation" "deed_relation" (top 26) f fd) (T : ClsT K mg C) (PL : PrH P w K mg base C "places" (spPlaces C)) (DE : MeH P w K mg base C "deeds" 1 ["self"] (spDeeds C)) (GR : Fn P w K mg base 1 "relation_of" ["many", "pairs"] spRel) :
    FnOk P w K mg base CX0 3 f fd ["house", "change", "when"] (spDR C) := by
  refine F.ok scDR (fun vs H Q E h => ?_) (fun cdv A outer s H vs Q E hr h => ?_)
  · obtain ⟨h, l, n, c, xs, ds, rfl, _⟩ := h
    rfl
  · obtain ⟨h, l, n, c, xs, ds, rfl, hh, wf, q⟩ := h
    have N := scDR.nd
    have r1 := hr.mono (k := 2) (j := 1) (by decide)
    obtain ⟨dx, ob⟩ := hh.ob
    refine ⟨_, pss_one (ps_ret (pe_fn GR r1 (pa_cons (pe_prH PL T hr (pv 0)) (pa_cons
      (pe_lc (own := [("deed", 3)]) (g := gName 3) rfl N (pi_list (pe_mH0 DE T r1 (pv 0))) (blkOk_by (N := NDR) (sc := defScope (top 26)) (by decide +kernel)) (fun _ _ _ _ _ => pg_name (i := 3) N rfl (.inl rfl))
        (fun _ _ _ _ _ => pts_one (PW.pt (pw_and (pt_cmpR op_eq (pe_ix (r := rIxT K) ix_tup (pv 3) pe_int (fun _ _ => rfl)) (pv 1) (nomark _)) (pw_and1 (pt_cmpR op_eq (pe_ix (r := rIxT K) ix_tup (pv 3) pe_int (fun _ _ => rfl)) (pv 2) (nomark _))))))
        (fun _ _ _ _ _ => pe_tup (pa_cons (pe_ix (r := rIxT K) ix_tup (pv 3) pe_int (fun _ _ => rfl)) (pa_cons (pe_ix (r := rIxT K) ix_tup (pv 3) pe_int (fun _ _ => rfl)) pa_nil)))) pa_nil)))), ?_⟩
    refine ⟨_, rfl, h, dx, _, rfl, ob, h, dx, l, n, rfl, ob, ?_⟩
    refine ⟨_, rfl, h, dx, _, rfl, ob, flds_no _ _ (by decide +kernel) (by decide +kernel), h, l, n, xs, ds, rfl, hh, fun o ho => ?_⟩
    have s1 := same_upd (o := .lst xs) ho
    have hh1 := hh.same s1
    refine ⟨o, rfl, ⟨xs, .inl (.inl upd_same)⟩, fun D hD => ?_⟩
    refine lc_mapL (es := ds) (F := DdAt) (G := PrAt) (f := prD c) (stabP D) upd_same hD (Nat.le_trans (Nat.le_of_eq hh.lenE) (Nat.le_trans wf.len (by decide))) hh1.dd ?_ ?_
    · rintro x e H2 A B he ⟨t, rfl, ht⟩ b ⟨zs, hz⟩ hA hB
      have ht2 := b.new hD _ _ ht
      have ok := wf.ok e he
      obtain ⟨pp, hp⟩ : ∃ k : Nat, e.p = k := ⟨e.p.toNat, by have := ok.p0; omega⟩
      obtain ⟨gg, hg⟩ : ∃ k : Nat, e.g = k := ⟨e.g.toNat, by have := ok.g0; omega⟩
      refine ⟨rfl, ?_⟩
      have ec : decide (V.int e.c = V.int c) = decide (e.c = c) := by simp
      refine ⟨_, rfl, t, _, _, _, rfl, rfl, .inl (.inl ht2), rfl, _, rfl, rfl, decide (e.c = c), congrArg V.bl ec, ?_⟩
      by_cases h1 : e.c = c
      · rw [decide_eq_true h1]
        refine iteT ⟨_, rfl, t, _, _, _, rfl, rfl, .inl (.inl ht2), rfl, _, rfl, rfl, isAny e, congrArg V.bl (anyE e), ?_⟩
        cases h2 : isAny e with
        | true =>
          refine iteT ⟨_, rfl, t, _, _, _, rfl, rfl, .inl (.inl ht2), rfl, _, rfl, t, _, _, _, rfl, rfl, .inl (.inl ht2), rfl, (by show 2 ≤ sizeLine; decide), fun p np => ?_⟩
          refine hA (pp, gg) _ _ ?_ (same_upd np) ⟨p, rfl, by rw [upd_same, hp, hg]⟩
          unfold prD
          rw [if_pos (show isC c e = true by unfold isC; rw [decide_eq_true h1, h2]; rfl), hp, hg]
          rfl
        | false =>
          refine iteF (hB H2 ?_ fun _ _ z => z)
          unfold prD
          rw [if_neg (show ¬ isC c e = true by unfold isC; rw [h2, Bool.and_false]; decide)]
      · rw [decide_eq_false h1]
        refine iteF (hB H2 ?_ fun _ _ z => z)
        unfold prD
        rw [if_neg (show ¬ isC c e = true by unfold isC; rw [decide_eq_false h1, Bool.false_and]; decide)]
    · intro ys H2 h1 h2 h3
      have s2 := s1.trans (h3.new hD)
      refine ⟨n, D, ys, _, rfl, by have := wf.m16; omega, h1, h2, fun p hp => ?_, fun p H' y np s' hy rp => q p H' y (s2.free np) (s2.trans s') hy (rp.iff (mem_pr wf.ok c))⟩
      exact Dl.inn wf.ok c p.1 p.2 ((mem_pr wf.ok c p.1 p.2).mp hp)
end
end L2.K73
end

section
set_option Elab.async false
set_option linter.all false
set_option maxRecDepth 100000
set_option maxHeartbeats 4000000
namespace L2.K73
open PySem PySem.Spec PyProof.Rows L2.Gd L2.Lv
def PlAt (p : Addr) (H : Hp) (v : V) (ps : List (Nat × Nat)) : Prop := ∃ a zs, v = .ref a ∧ a ≠ p ∧ H a = some (.lst zs) ∧ PrAll H zs ps
def PlAll (p : Addr) (H : Hp) (vs : List V) (pss : List (List (Nat × Nat))) : Prop := Paired (PlAt p H) vs pss
theorem PlAt.but {p : Addr} {H H' : Hp} {v : V} {ps : List (Nat × Nat)} (b : ButD p H H') (hp : ∃ zs, H p = some (.lst zs)) (h : PlAt p H v ps) : PlAt p H' v ps :=
  let ⟨a, zs, e, ne, q, pa⟩ := h; ⟨a, zs, e, ne, b _ _ ne q, pa.but b hp⟩
theorem PlAll.but {p : Addr} {H H' : Hp} {vs : List V} {pss : List (List (Nat × Nat))} (b : ButD p H H') (hp : ∃ zs, H p = some (.lst zs)) (h : PlAll p H vs pss) : PlAll p H' vs pss := Paired.mapP h fun _ _ q => q.but b hp
end L2.K73
end

section
set_option Elab.async false
set_option linter.all false
set_option maxRecDepth 100000
set_option maxHeartbeats 2000000
/-! {k: v}, one pair, k a tuple -/
namespace L2.Gd
open PySem PySem.Spec PyProof.Rows
section
variable {prog : Program} {w : World} {K : Type} [DecidableEq K] {knd : HeapKind prog w K} {A : Around} {E : Value → Shared → Prop} {s : Shared} {env : Env}
theorem subDict_one {k v : Sem Value} {Q : Addr → Shared → Prop}
    (h : wpAny (model prog w) A (evalPairs [(k, v)]) (fun vs s₁ => ∃ a key u, vs = [(.ref a, u)] ∧ knd.room A ∧ knd.is s₁.heap key a ∧ s₁.heap.DictOfH knd s.heap.objs.size [] ∧
      ∀ h', h'.DictOfH knd s.heap.objs.size (storedH [] key a u) → Heap.SameBut s.heap.objs.size s₁.heap h' → Q s.heap.objs.size { s₁ with heap := h', toks := s₁.toks + knd.draws key }) E
      { s with heap := s.heap.push { cls := .type "dict", data := .dict #[] } }) :
    wpAny (model prog w) A (subDict [(k, v)]) Q E s := by
  unfold subDict
  refine wpAny_bind (wpAny_alloc ?_)
  refine wpAny_bind (wpAny_holding ?_)
  rw [if_pos (show [(k, v)].length ≤ 15 by show 1 ≤ 15; decide)]
  refine wpAny_bind (wpAny_mono h (fun vs s₁ h₁ => ?_) fun _ _ e => e)
  obtain ⟨a, key, u, rfl, hu, hk, hm, hQ⟩ := h₁
  refine wpAny_holding ?_
  refine wpAny_bind ?_
  rw [List.forIn_cons]
  refine wpAny_bind (wpAny_bind (wpAny_dictSet_heap (hsz := by rw [sizeLine_eq]; exact Nat.zero_le _) hu hk hm fun h' hm' hs' => wpAny_pure ?_))
  show wpAny _ _ (forIn [] _ _) _ _ _
  rw [List.forIn_nil]
  exact wpAny_pure (wpAny_pure (wpAny_pure (hQ h' hm' hs')))
end
def tDisp1 (tk tv : TE) : TE := fun σ H Q => ∀ p, H p = none → tk σ (upd H p (.dT [])) fun x H1 => tv σ H1 fun y H2 => ∃ (b : Addr) (k : List Key), x = .ref b ∧ H2 b = some (.tup (k.map kV)) ∧ H2 p = some (.dT []) ∧ Q (.ref p) (upd H2 p (.dT [(k, y)]))
theorem pe_disp1 {X : Cx} {ke ve : Expr} {tk tv : TE} {pos : Pos} (hu : X.A.units + 1 < cLine) (hk : PE X ke tk) (hv : PE X ve tv) : PE X (.Dict [some ke] [ve] pos) (tDisp1 tk tv) := by
  refine ⟨fun pins s σ H Q I q => ?_⟩
  have hn := I.hok.fresh (Nat.le_refl s.heap.objs.size)
  have I1 := I.laid (a := s.heap.objs.size) (o := .dT []) (h' := s.heap.push { cls := .type "dict", data := .dict #[] }) (t' := s.toks) (fun _ _ q => Heap.get?_push_of_some _ q) (Nat.le_refl _) (dt_empty s.heap I.big)
  rw [arm_eval_Dict, zip_pairTrees [some ke] [ve] X.env pos (by rfl) (by rfl), dictDisplay_pairs (pairTrees [some ke] [ve] X.env pos) (by simp [pairTrees]) (by simp [pairTrees])]
  refine wpAny_bind (wpAny_standAt (wpAny_bind (subDict_one (knd := tupleKind (mixKind X.prog X.w)) ?_)))
  have P : PPs X pos [some ke] [ve] [(tk, tv)] := pps_cons hk hv pps_nil
  refine thn (P.run pins _ σ _ (fun ps H2 => match ps with
    | [(x, y)] => ∃ (b : Addr) (k : List Key), x = .ref b ∧ H2 b = some (.tup (k.map kV)) ∧ H2 s.heap.objs.size = some (.dT []) ∧ Q (.ref s.heap.objs.size) (upd H2 s.heap.objs.size (.dT [(k, y)]))
    | _ => False) I1 (q _ hn)) ?_
  rintro vs s2 ⟨ps, H2, I2, rel, q2⟩
  match ps, rel, q2 with
  | [(x, y)], .cons (b := (kv, u)) r .nil, ⟨b, k, ex, hb, hp, q3⟩ =>
    have ex : x = V.ref b := ex
    subst ex
    obtain ⟨r1, r2⟩ := r
    obtain rfl : kv = Value.ref b := r1
    obtain ⟨z, hd, xs, rel, dd⟩ := dt_of I2.hok hp
    cases rel
    refine ⟨b, k, u, rfl, (by show X.A.units < cLine; omega), key_of I2.hok hb, dd, fun h' dd' hs => ?_⟩
    refine wpAny_pure ⟨.ref s.heap.objs.size, upd H2 s.heap.objs.size (.dT [(k, y)]), ?_, rfl, q3⟩
    obtain ⟨o, es, ep, hq, h2, h3, h4, _, h5⟩ := dd'
    have rel0 : KT H2 [(k, y)] (storedH [] k b u) := .cons ⟨rfl, hb, r2⟩ .nil
    refine d_write I2 (by rw [hp]; exact True.intro) hs ⟨o, hq⟩ ⟨by rw [sizeLine_eq]; show 1 ≤ _; decide, hd, _, rel0.keeps fun c ys ec => ?_, o, es, ep, hq, h2, h3, h4, h5⟩
    rw [upd_ne (ne_of ec hp (fun z => nomatch z))]
    exact ec
end L2.Gd
end

section
set_option Elab.async false
set_option linter.all false
set_option maxRecDepth 100000
set_option maxHeartbeats 4000000
namespace L2.K73
open PySem PySem.Spec PyProof.Rows L2.Gd L2.Lv
theorem few_nat : ∀ (N : Nat) (l : List Nat), l.Nodup → (∀ x ∈ l, x < N) → l.length ≤ N
  | 0, l, _, h => by
    cases l with
    | nil => exact Nat.le_refl _
    | cons x r => exact absurd (h x List.mem_cons_self) (Nat.not_lt_zero _)
  | N + 1, l, nd, h => by
    by_cases c : N ∈ l
    · have e := few_nat N (l.erase N) (nd.erase N) (fun x hx => by
        have := (nd.mem_erase_iff.mp hx)
        have := h x this.2
        omega)
      rw [List.length_erase_of_mem c] at e
      omega
    · have := few_nat N l nd (fun x hx => by
        have := h x hx
        have : x ≠ N := fun z => c (z ▸ hx)
        omega)
      omega
theorem few_pairs {n m : Nat} {l : List (Nat × Nat)} (nd : l.Nodup) (h : ∀ t ∈ l, t.1 < n ∧ t.2 < m) : l.length ≤ n * m := by
  have e := few_nat (n * m) (l.map fun t => t.1 * m + t.2) (by
    refine (List.pairwise_map).mpr ?_
    refine nd.imp_of_mem ?_
    intro a b ha hb ne z
    have h1 := h a ha
    have h2 := h b hb
    apply ne
    have e1 : a.1 = b.1 := by
      have x := congrArg (· / m) z
      have y1 : (a.1 * m + a.2) / m = a.1 := by rw [Nat.mul_comm, Nat.mul_add_div (by omega), Nat.div_eq_of_lt h1.2]; rfl
      have y2 : (b.1 * m + b.2) / m = b.1 := by rw [Nat.mul_comm, Nat.mul_add_div (by omega), Nat.div_eq_of_lt h2.2]; rfl
      rw [← y1, ← y2]
      exact x
    have e2 : a.2 = b.2 := by
      have z' : a.1 * m + a.2 = b.1 * m + b.2 := z
      rw [e1] at z'
      omega
    exact Prod.ext e1 e2) (by
    intro x hx
    obtain ⟨t, ht, rfl⟩ := List.mem_map.mp hx
    have := h t ht
    have : t.1 * m + m ≤ n * m := by rw [← Nat.succ_mul]; exact Nat.mul_le_mul_right m this.1
    omega)
  rwa [List.length_map] at e
/-- stands as keys -/
def kS (t : Nat × Nat) : List Key := [.inl (t.1 : Int), .inl (t.2 : Int)]
def kvS (fs : List (Nat × Nat)) : List (List Key × V) := fs.map fun t => (kS t, V.bl true)
theorem kS_inj {a b : Nat × Nat} (h : kS a = kS b) : a = b := by
  unfold kS at h
  have h1 := Sum.inl.inj (List.cons.inj h).1
  have h2 := Sum.inl.inj (List.cons.inj (List.cons.inj h).2).1
  exact Prod.ext (Int.ofNat.inj h1) (Int.ofNat.inj h2)
theorem valV_S (t : Nat × Nat) : ∀ fs : List (Nat × Nat), (valV (kvS fs) (kS t)).isSome = decide (t ∈ fs)
  | [] => by rw [decide_eq_false (by simp)]; rfl
  | f :: r => by
    unfold kvS
    rw [List.map_cons]
    by_cases e : f = t
    · subst e
      rw [valV_pos rfl, decide_eq_true List.mem_cons_self]
      rfl
    · rw [valV_neg (fun z => e (kS_inj z))]
      have := valV_S t r
      unfold kvS at this
      rw [this, Bool.eq_iff_iff, decide_eq_true_eq, decide_eq_true_eq, List.mem_cons]
      exact ⟨.inr, fun z => z.resolve_left fun z => e z.symm⟩
theorem valV_none {t : Nat × Nat} {fs : List (Nat × Nat)} (h : t ∉ fs) : valV (kvS fs) (kS t) = none := by
  have := valV_S t fs
  rw [decide_eq_false h] at this
  exact Option.isNone_iff_eq_none.mp (by cases hv : valV (kvS fs) (kS t) with | none => rfl | some _ => rw [hv] at this; exact nomatch this)
theorem kS_V (t : Nat × Nat) : (kS t).map kV = [V.int (t.1 : Nat), V.int (t.2 : Nat)] := rfl
theorem PrAt.same {H H' : Hp} {v : V} {p : Nat × Nat} (s : Same H H') (h : PrAt H v p) : PrAt H' v p := let ⟨t, e, q⟩ := h; ⟨t, e, s _ _ q⟩
section
variable {P : Program} {w : World} {K : PySem.W.Frag} {mg : Str → Option Value} {base : Heap} {C : Addr}
def pD (p : Nat × Nat) : PyData := .tuple [.int (p.1 : Nat), .int (p.2 : Nat)]
theorem PrAll.dps {H : Hp} : ∀ {vs : List V} {ps : List (Nat × Nat)}, PrAll H vs ps → DpAll K H vs (ps.map pD)
  | _, _, .nil => .nil
  | _, _, .cons ⟨t, e, q⟩ r => by
    subst e
    exact .cons (.tup (.inl (.inl q)) (.cons (.int _) (.cons (.int _) .nil))) (PrAll.dps r)
theorem pD_lay : ∀ ps : List (Nat × Nat), PyData.canLayAll0 (ps.map pD) = true
  | [] => by simp [PyData.canLayAll0]
  | x :: r => by simp [PyData.canLayAll0, PyData.canLay0, pD, pD_lay r]
theorem pD_dep : ∀ ps : List (Nat × Nat), PyData.depthAll (ps.map pD) ≤ 1
  | [] => by simp [PyData.depthAll]
  | x :: r => by
    have := pD_dep r
    simp [PyData.depthAll, PyData.depth, pD]
    omega
theorem pD_shaped (ps : List (Nat × Nat)) : SeqAt.shaped (.list (ps.map pD)) = true := by
  show (PyData.canLay0 (.list (ps.map pD)) && decide (PyData.depth (.list (ps.map pD)) ≤ 64)) = true
  rw [Bool.and_eq_true]
  refine ⟨by simp only [PyData.canLay0]; exact pD_lay ps, decide_eq_true ?_⟩
  have := pD_dep ps
  simp only [PyData.depth]
  omega
theorem pD_nil (ps : List (Nat × Nat)) : PyData.eqv (.list (ps.map pD)) (.list []) = decide (ps = []) := by
  cases ps with
  | nil => simp [PyData.eqv, PyData.eqvAll]
  | cons x r => simp [PyData.eqv, PyData.eqvAll]
theorem paired_snoc {α β : Type} {R : α → β → Prop} {y : β} : ∀ {ys : List β} {xs : List α}, Paired R xs (ys ++ [y]) → ∃ xs0 x, xs = xs0 ++ [x] ∧ Paired R xs0 ys ∧ R x y
  | [], _, .cons h .nil => ⟨[], _, rfl, .nil, h⟩
  | z :: ys, _, .cons h t => by
    obtain ⟨xs0, x, rfl, h1, h2⟩ := paired_snoc (ys := ys) t
    exact ⟨_ :: xs0, x, rfl, .cons h h1, h2⟩
end
end L2.K73
end

section
set_option Elab.async false
set_option linter.all false
set_option maxRecDepth 100000
set_option maxHeartbeats 4000000
namespace L2.K73
open PySem PySem.Spec PyProof.Rows L2.Gd L2.Lv
/-! ### a relation's pairs, in order -/
open Classical in
noncomputable def rowC (n : Nat) (r : Rl) (a : Nat) : List (Nat × Nat) := ((List.range n).filter fun b => decide (r a b)).map fun b => (a, b)
noncomputable def canon (n : Nat) (r : Rl) : List (Nat × Nat) := (List.range n).flatMap (rowC n r)
theorem rowC_congr {n : Nat} {r s : Rl} {a : Nat} (h : ∀ b, r a b ↔ s a b) : rowC n r a = rowC n s a := by
  unfold rowC
  congr 2
  funext b
  rw [decide_eq_decide]
  exact h b
theorem canon_congr {n : Nat} {r s : Rl} (h : ∀ a, a < n → ∀ b, r a b ↔ s a b) : canon n r = canon n s := by
  unfold canon
  have : ∀ k, k ≤ n → (List.range k).flatMap (rowC n r) = (List.range k).flatMap (rowC n s) := by
    intro k
    induction k with
    | zero => intro _; rfl
    | succ k ih =>
      intro hk
      rw [List.range_succ, List.flatMap_append, List.flatMap_append, ih (by omega), List.flatMap_cons, List.flatMap_cons, rowC_congr (h k (by omega))]
      rfl
  exact this n (Nat.le_refl n)
open Classical in
theorem mem_canon {n : Nat} {r : Rl} {a b : Nat} : (a, b) ∈ canon n r ↔ a < n ∧ b < n ∧ r a b := by
  unfold canon rowC
  rw [List.mem_flatMap]
  constructor
  · rintro ⟨c, hc, h⟩
    obtain ⟨d, hd, e⟩ := List.mem_map.mp h
    obtain ⟨rfl, rfl⟩ := Prod.mk.inj e
    obtain ⟨h1, h2⟩ := List.mem_filter.mp hd
    exact ⟨List.mem_range.mp hc, List.mem_range.mp h1, of_decide_eq_true h2⟩
  · rintro ⟨h1, h2, h3⟩
    exact ⟨a, List.mem_range.mpr h1, List.mem_map.mpr ⟨b, List.mem_filter.mpr ⟨List.mem_range.mpr h2, decide_eq_true h3⟩, rfl⟩⟩
theorem canon_inj {n : Nat} {r s : Rl} (hr : In n r) (hs : In n s) (h : canon n r = canon n s) (a b : Nat) : r a b ↔ s a b := by
  have e : (a, b) ∈ canon n r ↔ (a, b) ∈ canon n s := by rw [h]
  rw [mem_canon, mem_canon] at e
  exact ⟨fun x => (e.mp ⟨(hr a b x).1, (hr a b x).2, x⟩).2.2, fun x => (e.mpr ⟨(hs a b x).1, (hs a b x).2, x⟩).2.2⟩
open Classical in
theorem prs_canon {n : Nat} {l : List Nat} {r : Rl} (h : Rep n l r) (i : In n r) : prsL l = canon n r := by
  unfold prsL canon
  rw [h.len]
  have : ∀ a, rowP l a = rowC n r a := fun a => by
    unfold rowP rowC
    congr 1
    rw [onesL_range (n := l.getD a 0) (m := n) (lt_pow fun b hb => (i a b ((h.bit a b).mp hb)).2)]
    congr 1
    funext b
    rw [Bool.eq_iff_iff, decide_eq_true_eq]
    exact h.bit a b
  rw [show rowP l = rowC n r from funext this]
theorem rowC_len (n : Nat) (r : Rl) (a : Nat) : (rowC n r a).length ≤ n := by
  unfold rowC
  rw [List.length_map]
  exact Nat.le_trans (List.length_filter_le _ _) (Nat.le_of_eq List.length_range)
theorem canon_len (n : Nat) (r : Rl) : ∀ k, ((List.range k).flatMap (rowC n r)).length ≤ k * n
  | 0 => Nat.zero_le _
  | k + 1 => by
    have := canon_len n r k
    have := rowC_len n r k
    rw [List.range_succ, List.flatMap_append, List.length_append, List.flatMap_cons, List.flatMap_nil, List.append_nil, Nat.succ_mul]
    omega
theorem pD_eqv : ∀ ps qs : List (Nat × Nat), PyData.eqvAll (ps.map pD) (qs.map pD) = decide (ps = qs)
  | [], [] => by simp [PyData.eqvAll]
  | [], _ :: _ => by simp [PyData.eqvAll]
  | _ :: _, [] => by simp [PyData.eqvAll]
  | (a, b) :: r, (c, d) :: t => by
    rw [List.map_cons, List.map_cons, PyData.eqvAll, pD_eqv r t]
    simp [PyData.eqv, PyData.eqvAll, pD]
    rw [Bool.eq_iff_iff]
    simp
    omega
theorem pL_eqv (ps qs : List (Nat × Nat)) : PyData.eqv (.list (ps.map pD)) (.list (qs.map pD)) = decide (ps = qs) := by
  rw [PyData.eqv, pD_eqv]
theorem PrAll.app {H : Hp} {xs ys : List V} {ps qs : List (Nat × Nat)} (h : PrAll H xs ps) (k : PrAll H ys qs) : PrAll H (xs ++ ys) (ps ++ qs) := Paired.app h k
section
variable {P : Program} {w : World} {K : PySem.W.Frag} {mg : Str → Option Value} {base : Heap} {C : Addr}
end
end L2.K73
end

section
set_option Elab.async false
set_option linter.all false
set_option maxRecDepth 100000
set_option maxHeartbeats 4000000
namespace L2.K73
open PySem PySem.Spec PyProof.Rows L2.Gd L2.Lv
/-! ### strictly ascending lists of pairs -/
def cN (p : Nat × Nat) : Nat := p.1 * 64 + p.2
theorem asc_eq : ∀ xs ys : List (Nat × Nat), xs.Pairwise (fun a b => cN a < cN b) → ys.Pairwise (fun a b => cN a < cN b) → (∀ a, a ∈ xs ↔ a ∈ ys) → xs = ys
  | [], [], _, _, _ => rfl
  | [], y :: ys, _, _, h => nomatch (h y).mpr List.mem_cons_self
  | x :: xs, [], _, _, h => nomatch (h x).mp List.mem_cons_self
  | x :: xs, y :: ys, hx, hy, h => by
    obtain ⟨hx1, hx2⟩ := List.pairwise_cons.mp hx
    obtain ⟨hy1, hy2⟩ := List.pairwise_cons.mp hy
    have e : x = y := by
      rcases List.mem_cons.mp ((h x).mp List.mem_cons_self) with e | e
      · exact e
      rcases List.mem_cons.mp ((h y).mpr List.mem_cons_self) with f | f
      · exact f.symm
      have := hy1 x e
      have := hx1 y f
      omega
    subst e
    rw [asc_eq xs ys hx2 hy2 fun a => ?_]
    constructor
    · intro ha
      rcases List.mem_cons.mp ((h a).mp (List.mem_cons_of_mem _ ha)) with e | e
      · subst e
        have := hx1 a ha
        omega
      · exact e
    · intro ha
      rcases List.mem_cons.mp ((h a).mpr (List.mem_cons_of_mem _ ha)) with e | e
      · subst e
        have := hy1 a ha
        omega
      · exact e
theorem rowC_fst {n : Nat} {r : Rl} {a : Nat} {p : Nat × Nat} (h : p ∈ rowC n r a) : p.1 = a ∧ p.2 < n := by
  unfold rowC at h
  obtain ⟨d, hd, rfl⟩ := List.mem_map.mp h
  exact ⟨rfl, List.mem_range.mp (List.mem_filter.mp hd).1⟩
theorem rowC_asc (n : Nat) (r : Rl) (a : Nat) : (rowC n r a).Pairwise (fun a b => cN a < cN b) := by
  unfold rowC
  rw [List.pairwise_map]
  refine List.Pairwise.filter _ (List.Pairwise.imp ?_ List.pairwise_lt_range)
  intro x y h
  unfold cN
  omega
theorem canon_asc {n : Nat} (n64 : n ≤ 64) (r : Rl) : (canon n r).Pairwise (fun a b => cN a < cN b) := by
  unfold canon
  have : ∀ k, ((List.range k).flatMap (rowC n r)).Pairwise (fun a b => cN a < cN b) ∧ ∀ p ∈ (List.range k).flatMap (rowC n r), p.1 < k := by
    intro k
    induction k with
    | zero => exact ⟨.nil, fun p h => nomatch h⟩
    | succ k ih =>
      rw [List.range_succ, List.flatMap_append, List.flatMap_cons, List.flatMap_nil, List.append_nil]
      refine ⟨List.pairwise_append.mpr ⟨ih.1, rowC_asc n r k, fun x hx y hy => ?_⟩, fun p hp => ?_⟩
      · have h1 := ih.2 x hx
        have h3 := rowC_fst hy
        have h4 : x.2 < n := by
          obtain ⟨c, _, hc⟩ := List.mem_flatMap.mp hx
          exact (rowC_fst hc).2
        unfold cN
        omega
      · rcases List.mem_append.mp hp with h | h
        · have := ih.2 p h
          omega
        · have := (rowC_fst h).1
          omega
  exact (this n).1
/-- a strictly ascending list with the relation's pairs -/
theorem canon_of {n : Nat} (n64 : n ≤ 64) {r : Rl} {ps : List (Nat × Nat)} (h : ps.Pairwise (fun a b => cN a < cN b)) (m : ∀ a b, (a, b) ∈ ps ↔ a < n ∧ b < n ∧ r a b) : ps = canon n r :=
  asc_eq _ _ h (canon_asc n64 r) fun ⟨a, b⟩ => (m a b).trans mem_canon.symm
theorem canon_nodup {n : Nat} (n64 : n ≤ 64) (r : Rl) : (canon n r).Nodup := (canon_asc n64 r).imp fun {a b} h e => by
  subst e
  omega
/-! ### pairs and their addresses -/
def prI (p : Nat × Nat) : List Int := [(p.1 : Int), (p.2 : Int)]
def natP (l : List Int) : Nat × Nat := ((l.getD 0 0).toNat, (l.getD 1 0).toNat)
theorem natP_prI (p : Nat × Nat) : natP (prI p) = p := by
  unfold natP prI
  simp
theorem prI_inj {p q : Nat × Nat} (h : prI p = prI q) : p = q := by rw [← natP_prI p, ← natP_prI q, h]
theorem prI_code (p : Nat × Nat) : TS.code 64 (prI p) = (cN p : Nat) := by
  unfold prI cN
  rw [code_pair]
  simp
theorem prs_ks {H : Hp} : ∀ {xs : List V} {ps : List (Nat × Nat)}, PrAll H xs ps → ∃ ks : List (Addr × List Int), xs = ks.map (fun q => V.ref q.1) ∧ (∀ q ∈ ks, H q.1 = some (.tup (q.2.map V.int))) ∧ ks.map (·.2) = ps.map prI
  | _, _, .nil => ⟨[], rfl, (fun q h => nomatch h), rfl⟩
  | _, p :: _, .cons ⟨t, e, ht⟩ r => by
    obtain ⟨ks, e1, e2, e3⟩ := prs_ks r
    refine ⟨(t, prI p) :: ks, by rw [e, e1]; rfl, fun q hq => ?_, by rw [List.map_cons, List.map_cons, e3]⟩
    rcases List.mem_cons.mp hq with rfl | hq
    · exact ht
    · exact e2 q hq
theorem ks_prs {H : Hp} : ∀ {ks : List (Addr × List Int)}, (∀ q ∈ ks, H q.1 = some (.tup (q.2.map V.int)) ∧ ∃ p, q.2 = prI p) → PrAll H (ks.map fun q => V.ref q.1) (ks.map fun q => natP q.2)
  | [], _ => .nil
  | q :: ks, h => by
    obtain ⟨h1, p, h2⟩ := h q List.mem_cons_self
    refine .cons ⟨q.1, rfl, ?_⟩ (ks_prs fun x hx => h x (List.mem_cons_of_mem _ hx))
    show _ = some (HO.tup [V.int ((natP q.2).1 : Nat), V.int ((natP q.2).2 : Nat)])
    rw [h1, h2, natP_prI]
    rfl
theorem bd_pair {p : Nat × Nat} (h1 : p.1 < 64) (h2 : p.2 < 64) : TS.Bd 64 (prI p) := by
  intro x hx
  unfold prI at hx
  simp only [List.mem_cons, List.not_mem_nil, or_false] at hx
  omega
section
variable {P : Program} {w : World} {K : PySem.W.Frag} {mg : Str → Option Value} {base : Heap} {C : Addr}
/-- sorted(set(xs)) -/
theorem sorted_set {H : Hp} {t : Addr} {xs : List V} {ps : List (Nat × Nat)} {n : Nat} {r : Rl} {Q : VK} (ht : H t = some (.lst xs)) (pa : PrAll H xs ps) (h64 : ps.length < 64) (n64 : n ≤ 64)
    (mem : ∀ a b, (a, b) ∈ ps ↔ a < n ∧ b < n ∧ r a b) (q : ∀ p H' ys, H p = none → Same H H' → H' p = some (.lst ys) → PrAll H' ys (canon n r) → Q (.ref p) H') :
    rSetOfT K P w [.ref t] H (fun v H1 => rSortedT K P w [v] H1 Q) := by
  obtain ⟨ks, e1, e2, e3⟩ := prs_ks pa
  have hk : ∀ q ∈ ks, ∃ p ∈ ps, q.2 = prI p := fun q hq => by
    have : q.2 ∈ ps.map prI := by
      rw [← e3]
      exact List.mem_map.mpr ⟨q, hq, rfl⟩
    obtain ⟨p, hp, e⟩ := List.mem_map.mp this
    exact ⟨p, hp, e.symm⟩
  have bd : ∀ p ∈ ps, p.1 < 64 ∧ p.2 < 64 := fun p hp => by
    have := (mem p.1 p.2).mp hp
    omega
  have kl : ks.length = ps.length := by
    have := congrArg List.length e3
    simpa using this
  subst e1
  refine ⟨t, ks, rfl, .inl (.inl ht), fun p hp => .inl (.inl (e2 p hp)), by omega, fun a L ha sub all => ?_⟩
  have sa := same_upd (o := SetTO P w a L) ha
  refine ⟨a, L, 2, 64, rfl, upd_same, fun p hp => .inl (.inl (sa _ _ (e2 p (sub p hp)))), by decide, fun q hq => ?_, fun L' p pm nd l64 pw hp => ?_⟩
  · obtain ⟨p, hp, e⟩ := hk q (sub q hq)
    rw [e]
    exact ⟨rfl, bd_pair (bd p hp).1 (bd p hp).2⟩
  · have sp := same_upd (o := .lst (L'.map fun q => V.ref q.1)) hp
    have inL : ∀ q ∈ L', ∃ p ∈ ps, q.2 = prI p := fun q hq => hk q (sub q (pm.mem_iff.mp hq))
    have pa' : PrAll (upd (upd H a (SetTO P w a L)) p (.lst (L'.map fun q => V.ref q.1))) (L'.map fun q => V.ref q.1) (L'.map fun q => natP q.2) :=
      ks_prs fun q hq => ⟨sp _ _ (sa _ _ (e2 q (sub q (pm.mem_iff.mp hq)))), let ⟨p, _, e⟩ := inL q hq; ⟨p, e⟩⟩
    have ec : L'.map (fun q => natP q.2) = canon n r := by
      refine canon_of n64 ?_ fun a b => ?_
      · rw [List.pairwise_map]
        have nd' := List.pairwise_map.mp nd
        refine List.Pairwise.imp_of_mem (fun {x y} hx hy hh => ?_) (pw.and nd')
        obtain ⟨p1, _, f1⟩ := inL x hx
        obtain ⟨p2, _, f2⟩ := inL y hy
        obtain ⟨h1, h2⟩ := hh
        rw [f1, f2] at h1 h2
        rw [prI_code, prI_code] at h1
        rw [f1, f2, natP_prI, natP_prI]
        have b1 := bd p1 ‹_›
        have b2 := bd p2 ‹_›
        have ne : cN p1 ≠ cN p2 := fun e => h2 (by
          unfold cN at e
          have : p1 = p2 := Prod.ext (by omega) (by omega)
          rw [this])
        omega
      · rw [← mem a b, List.mem_map]
        constructor
        · rintro ⟨q, hq, e⟩
          obtain ⟨p, hp, f⟩ := inL q hq
          rw [f, natP_prI] at e
          rw [← e]
          exact hp
        · intro hab
          have : prI (a, b) ∈ ks.map (·.2) := by
            rw [e3]
            exact List.mem_map.mpr ⟨_, hab, rfl⟩
          obtain ⟨q, hq, e⟩ := List.mem_map.mp this
          obtain ⟨q', hq', e'⟩ := List.mem_map.mp (all q hq)
          refine ⟨q', pm.mem_iff.mpr hq', ?_⟩
          have : q'.2 = prI (a, b) := e'.trans e
          rw [this, natP_prI]
    rw [ec] at pa'
    exact q p _ _ (sa.free hp) (sa.trans sp) upd_same pa'
theorem perm_of {α β : Type} {R : α → β → Prop} {ys xs : List α} (h : ys.Perm xs) : ∀ {ps : List β}, Paired R xs ps → ∃ qs, Paired R ys qs ∧ qs.Perm ps := by
  induction h with
  | nil => exact fun {ps} h => ⟨ps, h, .refl _⟩
  | cons x _ ih =>
    rintro _ (_ | ⟨r, t⟩)
    obtain ⟨qs, h1, h2⟩ := ih t
    exact ⟨_ :: qs, .cons r h1, h2.cons _⟩
  | swap x y l =>
    rintro _ (_ | ⟨r, _ | ⟨s, t⟩⟩)
    exact ⟨_, .cons s (.cons r t), .swap _ _ _⟩
  | trans _ _ i1 i2 =>
    intro ps h
    obtain ⟨qs, h1, h2⟩ := i2 h
    obtain ⟨rs, h3, h4⟩ := i1 h1
    exact ⟨rs, h3, h4.trans h2⟩
theorem paired_mem {α β : Type} {R : α → β → Prop} : ∀ {xs : List α} {ys : List β}, Paired R xs ys → ∀ y ∈ ys, ∃ x ∈ xs, R x y
  | _, _, .cons r t, y, hy => by
    rcases List.mem_cons.mp hy with rfl | hy
    · exact ⟨_, List.mem_cons_self, r⟩
    · obtain ⟨x, hx, h⟩ := paired_mem t y hy
      exact ⟨x, List.mem_cons_of_mem _ hx, h⟩
theorem paired_memL {α β : Type} {R : α → β → Prop} : ∀ {xs : List α} {ys : List β}, Paired R xs ys → ∀ x ∈ xs, ∃ y ∈ ys, R x y
  | _, _, .cons r t, y, hy => by
    rcases List.mem_cons.mp hy with rfl | hy
    · exact ⟨_, List.mem_cons_self, r⟩
    · obtain ⟨x, hx, h⟩ := paired_memL t y hy
      exact ⟨x, List.mem_cons_of_mem _ hx, h⟩
theorem pw_of {α β : Type} {R : α → β → Prop} {S : α → α → Prop} {T : β → β → Prop} (st : ∀ x y a b, S x y → R x a → R y b → T a b) : ∀ {xs : List α} {ys : List β}, Paired R xs ys → xs.Pairwise S → ys.Pairwise T
  | _, _, .nil, _ => .nil
  | _, _, .cons r t, h => by
    obtain ⟨h1, h2⟩ := List.pairwise_cons.mp h
    refine List.pairwise_cons.mpr ⟨fun b hb => ?_, pw_of st t h2⟩
    obtain ⟨y, hy, ry⟩ := paired_mem t b hb
    exact st _ _ _ _ (h1 y hy) r ry
theorem PrAt.tupI {H : Hp} {v : V} {p : Nat × Nat} (h : PrAt H v p) : TupI K H v (prI p) := let ⟨t, e, q⟩ := h; ⟨t, e, .inl (.inl q)⟩
/-- sorted(xs) -/
theorem sorted_prs {H : Hp} {t : Addr} {xs : List V} {ps : List (Nat × Nat)} {n : Nat} {r : Rl} {Q : VK} (ht : H t = some (.lst xs)) (pa : PrAll H xs ps) (h64 : ps.length < 64) (n64 : n ≤ 64) (nd : ps.Nodup)
    (mem : ∀ a b, (a, b) ∈ ps ↔ a < n ∧ b < n ∧ r a b) (q : ∀ p H' ys, H p = none → Same H H' → H' p = some (.lst ys) → PrAll H' ys (canon n r) → Q (.ref p) H') :
    rSortU K 2 64 [.ref t] H Q := by
  have bd : ∀ p ∈ ps, p.1 < 64 ∧ p.2 < 64 := fun p hp => by
    have := (mem p.1 p.2).mp hp
    omega
  refine ⟨t, xs, rfl, .inl (.inl ht), by rw [Paired.length pa]; exact h64, fun x hx => ?_, fun ys p pm pw hp => ?_⟩
  · obtain ⟨y, hy, h⟩ := paired_memL pa x hx
    exact ⟨prI y, h.tupI, rfl, bd_pair (bd y hy).1 (bd y hy).2⟩
  · obtain ⟨qs, h1, h2⟩ := perm_of pm pa
    have le : qs.Pairwise (fun a b => cN a ≤ cN b) := pw_of (R := PrAt H) (fun x y a b s ra rb => by
      have := s _ _ ra.tupI rb.tupI
      rw [prI_code, prI_code] at this
      omega) h1 pw
    have ec : qs = canon n r := by
      refine canon_of n64 ?_ fun a b => (h2.mem_iff).trans (mem a b)
      refine List.Pairwise.imp_of_mem (fun {x y} hx hy hh => ?_) (le.and (h2.nodup_iff.mpr nd))
      have b1 := bd x (h2.mem_iff.mp hx)
      have b2 := bd y (h2.mem_iff.mp hy)
      have ne : cN x ≠ cN y := fun e => hh.2 (by
        unfold cN at e
        exact Prod.ext (by omega) (by omega))
      have := hh.1
      omega
    have s := same_upd (o := .lst ys) hp
    rw [ec] at h1
    exact q p _ ys hp s upd_same (PrAll.same s h1)
end
end L2.K73
end

section
set_option Elab.async false
set_option linter.all false
set_option maxRecDepth 100000
set_option maxHeartbeats 4000000
namespace L2.K73
open PySem PySem.Spec PyProof.Rows L2.Gd L2.Lv
theorem pD_in (p : Nat × Nat) (ps : List (Nat × Nat)) : (ps.map pD).any (fun z => PyData.eqv z (pD p)) = decide (p ∈ ps) := by
  rw [List.any_map, Bool.eq_iff_iff, List.any_eq_true, decide_eq_true_eq]
  have e : ∀ q : Nat × Nat, PyData.eqv (pD q) (pD p) = decide (q = p) := fun q => by
    have := pD_eqv [q] [p]
    simp only [List.map_cons, List.map_nil, PyData.eqvAll, Bool.and_true] at this
    rw [this]
    simp
  constructor
  · rintro ⟨q, hq, h⟩
    have h : PyData.eqv (pD q) (pD p) = true := h
    rw [e, decide_eq_true_eq] at h
    exact h ▸ hq
  · intro h
    exact ⟨p, h, by show PyData.eqv (pD p) (pD p) = true; rw [e]; exact decide_eq_true rfl⟩
theorem pD_shaped1 (p : Nat × Nat) : SeqAt.shaped (pD p) = true := by
  show (PyData.canLay0 (pD p) && decide (PyData.depth (pD p) ≤ 64)) = true
  simp [pD, PyData.canLay0, PyData.canLayAll0, PyData.depth, PyData.depthAll]
section
variable {P : Program} {w : World} {K : PySem.W.Frag} {mg : Str → Option Value} {base : Heap} {C : Addr}
theorem in_prs {H : Hp} {t e : Addr} {xs : List V} {ps : List (Nat × Nat)} {a b : Nat} {Q : VK} (ht : H t = some (.tup [.int (a : Nat), .int (b : Nat)])) (he : H e = some (.lst xs)) (pa : PrAll H xs ps) (q : Q (.bl (decide ((a, b) ∈ ps))) H) :
    rInD K (.ref t) (.ref e) H Q :=
  ⟨pD (a, b), ps.map pD, .tup (.inl (.inl ht)) (.cons (.int _) (.cons (.int _) .nil)), .lst (.inl (.inl he)) pa.dps, pD_shaped1 _, pD_shaped _, by rw [pD_in]; exact q⟩
theorem notin_prs {H : Hp} {t e : Addr} {xs : List V} {ps : List (Nat × Nat)} {a b : Nat} {Q : VK} (ht : H t = some (.tup [.int (a : Nat), .int (b : Nat)])) (he : H e = some (.lst xs)) (pa : PrAll H xs ps) (q : Q (.bl (!decide ((a, b) ∈ ps))) H) :
    rNotInD K (.ref t) (.ref e) H Q :=
  ⟨pD (a, b), ps.map pD, .tup (.inl (.inl ht)) (.cons (.int _) (.cons (.int _) .nil)), .lst (.inl (.inl he)) pa.dps, pD_shaped1 _, pD_shaped _, by rw [pD_in]; exact q⟩
/-! ### climbs and drops of the walked level -/
theorem getElem_mapR {α : Type} (f : Nat → α) {n i : Nat} (h : i < n) : ((List.range n).map f)[i]? = some (f i) := by
  rw [List.getElem?_map, List.getElem?_range h]
  rfl
theorem atI_take1 {α : Type} {xs : List α} {j : Nat} {v : α} (h : xs[j]? = some v) : atI (xs.take (j + 1)) (-1) = some v := by
  rw [List.take_succ, h]
  exact atI_last _ _
theorem atI_last2 {α : Type} (xs : List α) (v u : α) : atI (xs ++ [v, u]) (-2) = some v := by
  unfold atI
  have e : ixN (xs ++ [v, u]).length (-2) = some xs.length := by
    unfold ixN
    rw [List.length_append]
    rw [if_neg (by decide), if_pos (by show -((xs.length + 2 : Nat) : Int) ≤ -2; omega)]
    congr 1
    show (-2 + ((xs.length + 2 : Nat) : Int)).toNat = _
    omega
  rw [e]
  simp
theorem atI_take2 {α : Type} {xs : List α} {j : Nat} {v u : α} (h : xs[j]? = some v) (k : xs[j + 1]? = some u) : atI (xs.take (j + 2)) (-2) = some v := by
  rw [List.take_succ, k, List.take_succ, h, List.append_assoc]
  exact atI_last2 _ _ _
theorem dropLast_take {α : Type} {xs : List α} {j : Nat} {v : α} (h : xs[j]? = some v) : (xs.take (j + 1)).dropLast = xs.take j := by
  rw [List.take_succ, h]
  exact List.dropLast_concat
end
end L2.K73
end

section
set_option linter.all false
namespace L2.Lv
/-! Counting: a chain of relations that grows strictly is short. -/
def sq (n : Nat) : List (Nat × Nat) := (List.range n).flatMap fun a => (List.range n).map fun b => (a, b)
theorem sq_len (n : Nat) : (sq n).length = n * n := by
  unfold sq
  have : ∀ k, ((List.range k).flatMap fun a => (List.range n).map fun b => (a, b)).length = k * n := by
    intro k
    induction k with
    | zero => simp
    | succ k ih => rw [List.range_succ, List.flatMap_append, List.length_append, ih]; simp [Nat.succ_mul]
  exact this n
theorem mem_sq {n a b : Nat} : (a, b) ∈ sq n ↔ a < n ∧ b < n := by
  unfold sq
  simp only [List.mem_flatMap, List.mem_map, List.mem_range, Prod.mk.injEq]
  constructor
  · rintro ⟨x, hx, y, hy, rfl, rfl⟩
    exact ⟨hx, hy⟩
  · rintro ⟨h1, h2⟩
    exact ⟨a, h1, b, h2, rfl, rfl⟩
def has (l : List Nat) (p : Nat × Nat) : Bool := (l.getD p.1 0).testBit p.2
def cnt (n : Nat) (l : List Nat) : Nat := (sq n).countP (has l)
theorem cnt_le (n : Nat) (l : List Nat) : cnt n l ≤ n * n := by
  rw [← sq_len n]
  exact List.countP_le_length
theorem countP_lt {α : Type} {p q : α → Bool} {x : α} : ∀ {l : List α}, (∀ a ∈ l, p a = true → q a = true) → x ∈ l → p x = false → q x = true → l.countP p < l.countP q
  | [], _, h, _, _ => nomatch h
  | y :: r, i, h, px, qx => by
    have mono : r.countP p ≤ r.countP q := List.countP_mono_left fun a ha => i a (List.mem_cons_of_mem _ ha)
    rcases List.mem_cons.mp h with rfl | h
    · rw [List.countP_cons_of_neg (by rw [px]; decide), List.countP_cons_of_pos qx]
      omega
    · have ih := countP_lt (fun a ha => i a (List.mem_cons_of_mem _ ha)) h px qx
      by_cases py : p y = true
      · rw [List.countP_cons_of_pos py, List.countP_cons_of_pos (i y List.mem_cons_self py)]
        omega
      · rw [List.countP_cons_of_neg py]
        have := List.countP_le_length (p := q) (l := r)
        by_cases qy : q y = true
        · rw [List.countP_cons_of_pos qy]
          omega
        · rw [List.countP_cons_of_neg qy]
          exact ih
theorem cnt_lt {n : Nat} {l z : List Nat} {r s : Rl} (hl : Rep n l r) (hz : Rep n z s) (i : In n s) (h : Sub r s) (ne : l ≠ z) : cnt n l < cnt n z := by
  have : ∃ a b, s a b ∧ ¬ r a b := Classical.byContradiction fun c => ne ((hl.ext hz).mpr fun a b => ⟨h a b, fun x => Classical.byContradiction fun y => c ⟨a, b, x, y⟩⟩)
  obtain ⟨a, b, x, y⟩ := this
  refine countP_lt (x := (a, b)) (fun p _ hp => (hz.bit _ _).mpr (h _ _ ((hl.bit _ _).mp hp))) (mem_sq.mpr (i a b x)) ?_ ((hz.bit _ _).mpr x)
  cases e : has l (a, b) with
  | false => rfl
  | true => exact absurd ((hl.bit _ _).mp e) y
end L2.Lv
namespace L2.Lv
/-! every relation has masks -/
def bitsOf (l : List Nat) : Nat := l.foldr (fun b x => x ||| 2 ^ b) 0
theorem bitsOf_bit (b : Nat) : ∀ l : List Nat, (bitsOf l).testBit b = true ↔ b ∈ l
  | [] => by simp [bitsOf]
  | c :: r => by
    show (bitsOf r ||| 2 ^ c).testBit b = true ↔ _
    rw [Nat.testBit_or, Nat.testBit_two_pow, Bool.or_eq_true, decide_eq_true_eq, bitsOf_bit b r, List.mem_cons]
    exact ⟨fun h => h.elim .inr fun e => .inl e.symm, fun h => h.elim (fun e => .inr e.symm) .inl⟩
open Classical in
noncomputable def repOf (n : Nat) (r : Rl) : List Nat := (List.range n).map fun a => bitsOf ((List.range n).filter fun b => decide (r a b))
open Classical in
theorem repOf_ok {n : Nat} {r : Rl} (i : In n r) : Rep n (repOf n r) r := by
  refine ⟨by simp [repOf], fun a b => ?_⟩
  unfold repOf
  rw [List.getD_eq_getElem?_getD, List.getElem?_map]
  by_cases h : a < n
  · rw [List.getElem?_range h]
    show (bitsOf _).testBit b = true ↔ _
    rw [bitsOf_bit, List.mem_filter, List.mem_range, decide_eq_true_eq]
    exact ⟨fun z => z.2, fun z => ⟨(i a b z).2, z⟩⟩
  · rw [List.getElem?_eq_none (by rw [List.length_range]; omega)]
    exact ⟨fun z => by simp at z, fun z => absurd (i a b z).1 h⟩
theorem least_of {p : Nat → Prop} : ∀ (m : Nat), p m → ∃ k, k ≤ m ∧ p k ∧ ∀ j, j < k → ¬ p j := by
  intro m
  induction m using Nat.strongRecOn with
  | _ m ih =>
    intro h
    by_cases c : ∃ j, j < m ∧ p j
    · obtain ⟨j, hj, pj⟩ := c
      obtain ⟨k, h1, h2, h3⟩ := ih j hj pj
      exact ⟨k, by omega, h2, h3⟩
    · exact ⟨m, Nat.le_refl m, h, fun j hj pj => c ⟨j, hj, pj⟩⟩
def Stops (f : Nat → Rl) (k : Nat) : Prop := ∀ a b, f (k + 1) a b ↔ f k a b
theorem chain {n : Nat} {f : Nat → Rl} (i : ∀ k, In n (f k)) (h : ∀ k, Sub (f k) (f (k + 1))) : ∃ m, m ≤ n * n ∧ Stops f m ∧ ∀ j, j < m → ¬ Stops f j := by
  have key : ∀ k, (∃ m, m < k ∧ Stops f m) ∨ k ≤ cnt n (repOf n (f k)) := by
    intro k
    induction k with
    | zero => exact .inr (Nat.zero_le _)
    | succ k ih =>
      rcases ih with ⟨m, h1, h2⟩ | ih
      · exact .inl ⟨m, by omega, h2⟩
      · by_cases c : Stops f k
        · exact .inl ⟨k, by omega, c⟩
        · refine .inr ?_
          have := cnt_lt (repOf_ok (i k)) (repOf_ok (i (k + 1))) (i (k + 1)) (h k) (fun e => c fun a b => (((repOf_ok (i k)).ext (repOf_ok (i (k + 1)))).mp e a b).symm)
          omega
  have : ∃ m, m < n * n + 1 ∧ Stops f m := (key (n * n + 1)).resolve_right fun z => by
    have := cnt_le n (repOf n (f (n * n + 1)))
    omega
  obtain ⟨m, h1, h2⟩ := this
  obtain ⟨k, k1, k2, k3⟩ := least_of m h2
  exact ⟨k, by omega, k2, k3⟩
section
variable {n : Nat} {U F D : Rl}
theorem ov_in (iu : In n U) (i : In n F) (id : In n D) : In n (Ov n U F D) := i.or ((iu.cp gr_in).cp id)
theorem gr_bound : ∃ M, M ≤ n * n ∧ Sub (Gr n U F D) (Hk n U F D M) := by
  obtain ⟨m, h1, h2, _⟩ := chain (f := Hk n U F D) hk_in hk_succ
  exact ⟨m, h1, hk_stop fun a b => (h2 a b).mp⟩
/-- the levels, by walking under the roof -/
theorem level_walk (iu : In n U) (i : In n F) (id : In n D) {k cap a b : Nat} (hc : k + n * n ≤ cap) (ha : a < n) : Le n U F D k a b ↔ Re cap U F D (a, k) (b, k) := by
  obtain ⟨M, h1, h2⟩ := gr_bound (n := n) (U := U) (F := F) (D := D)
  exact ⟨fun h => re_mono (by omega) (re_le iu i id h2 k h), fun h => re_level iu i id ha h⟩
theorem le_chain (i : In n F) : ∃ m, m ≤ n * n ∧ Stops (Le n U F D) m ∧ ∀ j, j < m → ¬ Stops (Le n U F D) j := chain le_in (le_succ i)
/-! turned -/
theorem star_tr {r s : Rl} (h : ∀ a b, r a b → s b a) {a b : Nat} (k : Star r a b) : Star s b a := by
  induction k with
  | refl a => exact .refl a
  | step x _ ih => exact ih.trans (.one (h _ _ x))
theorem cl_tr {r s : Rl} (h : ∀ a b, r a b → s b a) {a b : Nat} (k : Cl n r a b) : Cl n s b a := ⟨k.2.1, k.1, star_tr h k.2.2⟩
theorem cp_tr {r s r' s' : Rl} (h : ∀ a b, r a b → r' b a) (i : ∀ a b, s a b → s' b a) {a b : Nat} (k : Cp r s a b) : Cp s' r' b a := let ⟨x, p, q⟩ := k; ⟨x, i _ _ q, h _ _ p⟩
theorem cp3_tr {r s t r' s' t' : Rl} (h : ∀ a b, r a b → r' b a) (i : ∀ a b, s a b → s' b a) (j : ∀ a b, t a b → t' b a) {a b : Nat} (k : Cp (Cp r s) t a b) : Cp (Cp t' s') r' b a :=
  let ⟨y, ⟨x, p, q⟩, z⟩ := k; ⟨x, ⟨y, j _ _ z, i _ _ q⟩, h _ _ p⟩
theorem hk_tr : ∀ (k : Nat) {a b : Nat}, Hk n U F D k a b → Hk n (Tr D) (Tr F) (Tr U) k b a
  | 0, _, _, h => cl_tr (fun _ _ z => z) h
  | k + 1, _, _, h => cl_tr (fun a b z => z.imp (fun z => hk_tr k z) fun z => cp3_tr (fun _ _ z => z) (fun a b z => hk_tr k z) (fun _ _ z => z) z) h
theorem gr_tr {a b : Nat} (h : Gr n U F D a b) : Gr n (Tr D) (Tr F) (Tr U) b a := let ⟨k, h⟩ := h; ⟨k, hk_tr k h⟩
theorem ov_tr {a b : Nat} (h : Ov n U F D a b) : Ov n (Tr D) (Tr F) (Tr U) b a := h.imp id fun z => cp3_tr (fun _ _ z => z) (fun a b z => gr_tr z) (fun _ _ z => z) z
theorem le_tr : ∀ (k : Nat) {a b : Nat}, Le n U F D k a b → Le n (Tr D) (Tr F) (Tr U) k b a
  | 0, _, _, h => gr_tr h
  | k + 1, _, _, h => cl_tr (fun a b z => z.imp (fun z => ov_tr z) fun z => cp3_tr (fun _ _ z => z) (fun a b z => le_tr k z) (fun _ _ z => z) z) h
theorem le_tr_iff (k a b : Nat) : Le n (Tr D) (Tr F) (Tr U) k b a ↔ Le n U F D k a b := ⟨fun h => le_tr k h, fun h => le_tr k h⟩
theorem gr_tr_iff (a b : Nat) : Gr n (Tr D) (Tr F) (Tr U) b a ↔ Gr n U F D a b := ⟨fun h => gr_tr h, fun h => gr_tr h⟩
end
end L2.Lv
end

section
set_option Elab.async false
set_option linter.all false
set_option maxRecDepth 100000
set_option maxHeartbeats 4000000
namespace L2.K73
open PySem PySem.Spec PyProof.Rows L2.Gd L2.Lv
/-! ### what is told of deeds fits -/
theorem small_tab : ∀ k : Fin 70, (PyData.int ((k.val : Int) - 1)).intsShort 13 = true ∧ (PyData.int ((k.val : Int) - 1)).showable = true ∧ (PyData.int ((k.val : Int) - 1)).weight ≤ 8 := by
  decide +kernel
theorem small_int {i : Int} (h1 : -1 ≤ i) (h2 : i ≤ 68) : (PyData.int i).intsShort 13 = true ∧ (PyData.int i).showable = true ∧ (PyData.int i).weight ≤ 8 := by
  have e : (((i + 1).toNat : Nat) : Int) - 1 = i := by omega
  have := small_tab ⟨(i + 1).toNat, by omega⟩
  rw [show (((⟨(i + 1).toNat, by omega⟩ : Fin 70)).val : Int) - 1 = i from e] at this
  exact this
/-- plain data that is small: at most n in weight -/
structure Sml (d : PyData) (n : Nat) : Prop where
  lay : d.canLay0 = true
  sh : d.showable = true
  hd : d.hasDict = false
  is : d.intsShort 13 = true
  we : d.weight ≤ n
structure SmlAll (ds : List PyData) (n : Nat) : Prop where
  lay : PyData.canLayAll0 ds = true
  sh : PyData.showableAll ds = true
  hd : PyData.hasDictAll ds = false
  is : PyData.intsShortAll 13 ds = true
  we : PyData.weightAll ds ≤ n
theorem SmlAll.nil : SmlAll [] 0 := ⟨by simp [PyData.canLayAll0], by simp [PyData.showableAll], by simp [PyData.hasDictAll], by simp [PyData.intsShortAll], by simp [PyData.weightAll]⟩
theorem SmlAll.cons {d : PyData} {ds : List PyData} {n m : Nat} (a : Sml d n) (b : SmlAll ds m) : SmlAll (d :: ds) (n + 1 + m) :=
  ⟨by simp [PyData.canLayAll0, a.lay, b.lay], by simp [PyData.showableAll, a.sh, b.sh], by simp [PyData.hasDictAll, a.hd, b.hd], by simp [PyData.intsShortAll, a.is, b.is],
    by simp only [PyData.weightAll]; have := a.we; have := b.we; omega⟩
theorem SmlAll.tup {ds : List PyData} {n : Nat} (a : SmlAll ds n) : Sml (.tuple ds) n :=
  ⟨by simp only [PyData.canLay0, a.lay], by simp only [PyData.showable, a.sh], by simp only [PyData.hasDict, a.hd], by simp only [PyData.intsShort, a.is], by simp only [PyData.weight]; exact a.we⟩
theorem SmlAll.lst {ds : List PyData} {n : Nat} (a : SmlAll ds n) : Sml (.list ds) n :=
  ⟨by simp only [PyData.canLay0, a.lay], by simp only [PyData.showable, a.sh], by simp only [PyData.hasDict, a.hd], by simp only [PyData.intsShort, a.is], by simp only [PyData.weight]; exact a.we⟩
theorem Sml.int {i : Int} (h1 : -1 ≤ i) (h2 : i ≤ 68) : Sml (.int i) 8 :=
  let ⟨a, b, c⟩ := small_int h1 h2
  ⟨by simp [PyData.canLay0], b, by simp [PyData.hasDict], a, c⟩
theorem Sml.bool (b : Bool) : Sml (.bool b) 0 := ⟨by simp [PyData.canLay0], by simp [PyData.showable], by simp [PyData.hasDict], by simp [PyData.intsShort], by simp [PyData.weight]⟩
theorem Sml.short {d : PyData} {n : Nat} (a : Sml d n) (hn : n ≤ 100000) (hd : d.depth ≤ 20) : d.shown.length ≤ 15728653 := by
  have l : PyData.layable0 d = true := by
    show (PyData.canLay0 d && decide (PyData.depth d ≤ 64) && decide (PyData.weight d ≤ 2 ^ 20)) = true
    rw [a.lay, decide_eq_true (by omega : d.depth ≤ 64), decide_eq_true]
    · rfl
    · have := a.we
      have e : (2 : Nat) ^ 20 = 1048576 := by decide
      omega
  exact shown_le13 l a.is
theorem Sml.showy {d : PyData} {n : Nat} (a : Sml d n) (hn : n ≤ 100000) (hd : d.depth ≤ 20) : Showy d := by
  refine ⟨a.sh, a.hd, hd, ?_⟩
  have := a.short hn hd
  rw [sizeLine_eq]
  omega
/-! ### a def called by keywords alone -/
section
variable {X : Cx} {CX : CXT} {k n : Nat} {f : Addr} {fd : FuncData} {ps ks : List Str} {sp : Sp} {E : XK} {x : Str} {p pos : Pos} {kws : List Keyword} {tk : TA} {g : List Value → List Value → List Value} {gV : List V → List V → List V}
theorem pe_callN0 (F : FnOk X.prog X.w X.K X.mg X.base CX k f fd ps sp) (hr : Room k X.A) (hg : Gl X x) (hm : X.mg x = some (.ref f)) (hk : PySem.W.keepIn X.K (.ref f) = true) (hb : KBn X.K fd ps 0 ks g gV) (hx : Passes CX X E)
    (hkw : PK X kws tk) (hall : (backToKw pos (keywordEach kws X.env)).all (·.1.isSome) = true := by rfl) (hks : (backToKw pos (keywordEach kws X.env)).filterMap (·.1) = ks := by rfl)
    (hdb : (x == ("__debug__" : Str)) = false := by decide)
    (hpl : ((backTo pos (starEach [] X.env)).any (·.1) || (backToKw pos (keywordEach kws X.env)).any (·.1.isNone)) = false := by rfl) :
    PE X (.Call (.Name x p) [] kws pos) (tCallN 0 ks.length sp gV E tNil tk) := by
  refine ⟨fun pins s σ H Q I h => ?_⟩
  refine wpAny_Call_Name_kw (ld_glob I hg hm ?_ hdb)
  refine PySem.W.callWith_KW0 (h₀ := X.base) I.ok.mod.kin hk hall ?_ hpl
  refine thn (hkw.run pos pins s σ H _ I h) fun ws s2 ⟨zs, H2, I2, rz, l1, l2, q2⟩ => ⟨I2.kIn, ?_⟩
  rw [hks]
  exact run_fnN (us := []) (vs := []) F hr hb hx I2 .nil rz l1 l2 q2
end
/-- a def called by its name, where nothing is being shown -/
structure FnGd (P : Program) (w : World) (K : PySem.W.Frag) (mg : Str → Option Value) (base : Heap) (k : Nat) (x : Str) (ps : List Str) (sp : Sp) : Prop where
  ex : ∃ f fd, mg x = some (.ref f) ∧ PySem.W.keepIn K (.ref f) = true ∧ Binds K fd ps [] ∧ FnG P w K mg base k f fd ps sp
theorem pe_fnG {X : Cx} {k : Nat} {x : Str} {ps : List Str} {sp : Sp} {e : Expr} {es : List Expr} {t : TA} {p pos : Pos}
    (F : FnGd X.prog X.w X.K X.mg X.base k x ps sp) (hg : X.A.guards = some []) (hr : Room k X.A) (ha : PA X (e :: es) t) (gl : Gl X x := by rfl) (hdb : (x == ("__debug__" : Str)) = false := by decide)
    (he : starEach (e :: es) X.env = (false, eval e X.env) :: starEach es X.env := by rfl)
    (hpl : (backTo pos (starEach es X.env)).any (·.1) = false := by rfl) :
    PE X (.Call (.Name x p) (e :: es) [] pos) (tCall sp [] E0 t) := by
  obtain ⟨f, fd, m, kp, b, G⟩ := F.ex
  exact pe_callG G hg hr gl m kp b ha hdb he hpl

/-- a def of one parameter, called by its keyword -/
structure KFn (P : Program) (w : World) (K : PySem.W.Frag) (mg : Str → Option Value) (base : Heap) (k : Nat) (x y : Str) (sp : Sp) : Prop where
  ex : ∃ f fd, mg x = some (.ref f) ∧ PySem.W.keepIn K (.ref f) = true ∧ KBn K fd [y] 0 [y] (fun _ ws => ws) (fun _ zs => zs) ∧ FnOk P w K mg base CX0 k f fd [y] sp
theorem pe_kfn {X : Cx} {k : Nat} {x y : Str} {sp : Sp} {kws : List Keyword} {tk : TA} {p pos : Pos} (G : KFn X.prog X.w X.K X.mg X.base k x y sp) (hr : Room k X.A) (hkw : PK X kws tk)
    (hg : Gl X x := by rfl) (hdb : (x == ("__debug__" : Str)) = false := by decide) (hall : (backToKw pos (keywordEach kws X.env)).all (·.1.isSome) = true := by rfl) (hks : (backToKw pos (keywordEach kws X.env)).filterMap (·.1) = [y] := by rfl)
    (hpl : ((backTo pos (starEach [] X.env)).any (·.1) || (backToKw pos (keywordEach kws X.env)).any (·.1.isNone)) = false := by rfl) :
    PE X (.Call (.Name x p) [] kws pos) (tCallN 0 1 sp (fun _ zs => zs) E0 tNil tk) := by
  obtain ⟨f, fd, m, kp, b, F⟩ := G.ex
  exact pe_callN0 F hr hg m kp b pass0 hkw hall hks hdb hpl
/-! ### what levels, climbs and drops tell, as data -/
def dL (ps : List (Nat × Nat)) : PyData := .list (ps.map pD)
def dT (ls : List (List (Nat × Nat))) (c d : List (Nat × Nat)) : PyData := .list [.list (ls.map dL), dL c, dL d]
theorem SmlAll.mono {ds : List PyData} {n m : Nat} (a : SmlAll ds n) (h : n ≤ m) : SmlAll ds m := ⟨a.lay, a.sh, a.hd, a.is, Nat.le_trans a.we h⟩
theorem sm_prs : ∀ {ps : List (Nat × Nat)}, (∀ p ∈ ps, p.1 ≤ 16 ∧ p.2 ≤ 16) → SmlAll (ps.map pD) (19 * ps.length)
  | [], _ => .nil
  | p :: r, h => by
    obtain ⟨h1, h2⟩ := h p List.mem_cons_self
    have a := SmlAll.cons (SmlAll.cons (Sml.int (i := (p.1 : Int)) (by omega) (by omega)) (.cons (Sml.int (i := (p.2 : Int)) (by omega) (by omega)) .nil)).tup (sm_prs (ps := r) fun q hq => h q (List.mem_cons_of_mem _ hq))
    exact a.mono (by rw [List.length_cons]; omega)
theorem sm_canon {n : Nat} (n4 : n ≤ 4) (r : Rl) : Sml (dL (canon n r)) 304 := by
  have cl : (canon n r).length ≤ n * n := canon_len n r n
  have mm : n * n ≤ 4 * 4 := Nat.mul_le_mul n4 n4
  refine ((sm_prs fun p hp => ?_).mono (m := 304) (by omega)).lst
  have := mem_canon.mp (show (p.1, p.2) ∈ canon n r from hp)
  omega
theorem sm_all {ls : List (List (Nat × Nat))} : (∀ ps ∈ ls, Sml (dL ps) 304) → SmlAll (ls.map dL) (305 * ls.length) := by
  induction ls with
  | nil => exact fun _ => .nil
  | cons ps r ih =>
    intro h
    have a := SmlAll.cons (h ps List.mem_cons_self) (ih fun q hq => h q (List.mem_cons_of_mem _ hq))
    exact a.mono (by rw [List.length_cons]; omega)
theorem dL_dep (ps : List (Nat × Nat)) : (dL ps).depth ≤ 2 := by
  have := pD_dep ps
  unfold dL
  simp only [PyData.depth]
  omega
theorem dLs_dep : ∀ ls : List (List (Nat × Nat)), PyData.depthAll (ls.map dL) ≤ 2
  | [] => by simp [PyData.depthAll]
  | ps :: r => by
    have := dL_dep ps
    have := dLs_dep r
    simp only [List.map_cons, PyData.depthAll]
    omega
theorem dT_dep (ls : List (List (Nat × Nat))) (c d : List (Nat × Nat)) : (dT ls c d).depth ≤ 4 := by
  have := dLs_dep ls
  have := dL_dep c
  have := dL_dep d
  unfold dT
  simp only [PyData.depth, PyData.depthAll]
  omega
theorem dLs_lay : ∀ ls : List (List (Nat × Nat)), PyData.canLayAll0 (ls.map dL) = true
  | [] => by simp [PyData.canLayAll0]
  | ps :: r => by
    have := pD_lay ps
    simp [PyData.canLayAll0, PyData.canLay0, dL, dLs_lay r, this]
theorem dLs_shaped (ls : List (List (Nat × Nat))) : SeqAt.shaped (.list (ls.map dL)) = true := by
  show (PyData.canLay0 (.list (ls.map dL)) && decide (PyData.depth (.list (ls.map dL)) ≤ 64)) = true
  rw [Bool.and_eq_true]
  refine ⟨by simp only [PyData.canLay0]; exact dLs_lay ls, decide_eq_true ?_⟩
  have := dLs_dep ls
  simp only [PyData.depth]
  omega
theorem dT_shaped (ls : List (List (Nat × Nat))) (c d : List (Nat × Nat)) : SeqAt.shaped (dT ls c d) = true := by
  show (PyData.canLay0 (dT ls c d) && decide (PyData.depth (dT ls c d) ≤ 64)) = true
  rw [Bool.and_eq_true]
  refine ⟨?_, decide_eq_true ?_⟩
  · have h1 := dLs_lay ls
    have h2 := pD_lay c
    have h3 := pD_lay d
    simp [dT, dL, PyData.canLay0, PyData.canLayAll0, h2, h3]
    exact h1
  · have := dT_dep ls c d
    omega
theorem dLs_eqv : ∀ ls : List (List (Nat × Nat)), PyData.eqvAll (ls.map dL) (ls.map dL) = true
  | [] => by simp [PyData.eqvAll]
  | ps :: r => by
    have h1 : PyData.eqv (dL ps) (dL ps) = true := by
      unfold dL
      rw [pL_eqv]
      exact decide_eq_true rfl
    rw [List.map_cons, PyData.eqvAll, h1, dLs_eqv r]
    rfl
theorem dLs_eqv' (ls : List (List (Nat × Nat))) : PyData.eqv (.list (ls.map dL)) (.list (ls.map dL)) = true := by rw [PyData.eqv, dLs_eqv]
theorem dL_eqv (ps : List (Nat × Nat)) : PyData.eqv (dL ps) (dL ps) = true := by
  unfold dL
  rw [pL_eqv]
  exact decide_eq_true rfl
theorem dT_eqv (ls : List (List (Nat × Nat))) (c d : List (Nat × Nat)) : PyData.eqv (dT ls c d) (dT ls c d) = true := by
  unfold dT
  rw [PyData.eqv, PyData.eqvAll, PyData.eqvAll, PyData.eqvAll, dLs_eqv', dL_eqv, dL_eqv]
  simp [PyData.eqvAll]
theorem d2_eqv (c d : List (Nat × Nat)) : PyData.eqv (.list [dL c, dL d]) (.list [dL c, dL d]) = true := by
  rw [PyData.eqv, PyData.eqvAll, PyData.eqvAll, dL_eqv, dL_eqv]
  simp [PyData.eqvAll]
theorem d2_shaped (c d : List (Nat × Nat)) : SeqAt.shaped (.list [dL c, dL d]) = true := dLs_shaped [c, d]
theorem dT_showy {ls : List (List (Nat × Nat))} {c d : List (Nat × Nat)} (h : ∀ ps ∈ ls, Sml (dL ps) 304) (hc : Sml (dL c) 304) (hd : Sml (dL d) 304) (l : ls.length ≤ 17) : Showy (dT ls c d) := by
  have a := (SmlAll.cons (sm_all h).lst (.cons hc (.cons hd .nil))).lst
  exact Sml.showy a (by omega) (Nat.le_trans (dT_dep ls c d) (by decide))
theorem PlAll.same {p : Addr} {H H' : Hp} {vs : List V} {pss : List (List (Nat × Nat))} (s : Same H H') (h : PlAll p H vs pss) : PlAll p H' vs pss := Paired.mapP h fun _ _ ⟨a, zs, e, ne, q, pa⟩ => ⟨a, zs, e, ne, s _ _ q, pa.same s⟩
section
variable {K : PySem.W.Frag}
theorem PlAll.dps {p : Addr} {H : Hp} : ∀ {vs : List V} {pss : List (List (Nat × Nat))}, PlAll p H vs pss → DpAll K H vs (pss.map dL)
  | _, _, .nil => .nil
  | _, _, .cons ⟨a, zs, e, _, q, pa⟩ t => by
    subst e
    exact .cons (.lst (.inl (.inl q)) pa.dps) (PlAll.dps t)
end
theorem Dl_plain (ds : List Dd) : Dl (ds.filter isAny) = Dl ds := by
  funext c a b
  refine propext ⟨fun ⟨d, hd, z⟩ => ⟨d, (List.mem_filter.mp hd).1, z⟩, fun ⟨d, hd, h1, h2, h3, h4⟩ => ⟨d, List.mem_filter.mpr ⟨hd, (isAny_w d).mpr h4⟩, h1, h2, h3, h4⟩⟩
theorem Dl_turn (ds : List Dd) (c : Int) : Dl (ds.map turnD) c = Tr (Dl ds (-c)) := by
  funext a b
  refine propext ⟨?_, ?_⟩
  · rintro ⟨d', hd, h1, h2, h3, h4⟩
    obtain ⟨d, hd2, rfl⟩ := List.mem_map.mp hd
    exact ⟨d, hd2, h2, h1, by have : 0 - d.c = c := h3; omega, h4⟩
  · rintro ⟨d, hd, h1, h2, h3, h4⟩
    exact ⟨turnD d, List.mem_map.mpr ⟨d, hd, rfl⟩, h2, h1, by show 0 - d.c = c; omega, h4⟩
theorem stops_one {f : Nat → Rl} {m m' : Nat} (h : Stops f m) (g : ∀ j, j < m → ¬ Stops f j) (h' : Stops f m') (g' : ∀ j, j < m' → ¬ Stops f j) : m = m' := by
  rcases Nat.lt_trichotomy m m' with l | l | l
  · exact absurd h (g' m l)
  · exact l
  · exact absurd h' (g m' l)
theorem turnD_inj {a b : Dd} (h : turnD a = turnD b) : a = b := by
  cases a
  cases b
  unfold turnD at h
  simp only [Dd.mk.injEq] at h ⊢
  obtain ⟨h1, h2, h3, h4⟩ := h
  exact ⟨h3, by omega, h1, h4⟩
theorem WF.turn {m : Int} {ds : List Dd} (w : WF m ds) (h : ds.all isAny = true) : WF m (ds.map turnD) := by
  refine ⟨w.m1, w.m16, fun d hd => ?_, List.pairwise_map.mpr (w.nd.imp fun {a b} ne e => ne (turnD_inj e)), by rw [List.length_map]; exact w.len⟩
  obtain ⟨d, hd2, rfl⟩ := List.mem_map.mp hd
  have o := w.ok d hd2
  have hw := (isAny_w d).mp (List.all_eq_true.mp h d hd2)
  refine ⟨o.g0, o.gn, o.p0, o.pn, .inl ⟨hw, ?_⟩⟩
  rcases o.w with ⟨_, a, b⟩ | ⟨e, _⟩
  · show -1 ≤ 0 - d.c ∧ 0 - d.c ≤ 1
    omega
  · rw [hw] at e
    exact absurd e (by decide)
end L2.K73
end

section
/-! Lids, floors, strips: the mathematics. -/
set_option linter.all false
namespace L2.Lv
section
variable (n : Nat) (U F D : Rl)
/-- gain 0, never below, at most so much above -/
def Lid : Nat → Rl
  | 0 => Cl n F
  | k + 1 => Cl n (Or2 F (Cp (Cp U (Lid k)) D))
/-- gain 0 between so much below and so much above -/
def Band (l h : Nat) : Rl := Cl n (Or2 F (Or2 (fun a b => ∃ k, h = k + 1 ∧ Cp (Cp U (Lid n U F D k)) D a b) (fun a b => ∃ k, l = k + 1 ∧ Cp (Cp D (Lid n D F U k)) U a b)))
end
/-- a walk between two numbers -/
inductive Zw (U F D : Rl) (l h : Int) (a : Nat) : Nat → Int → Prop
  | start : Zw U F D l h a a 0
  | up {b c : Nat} {x : Int} : Zw U F D l h a b x → U b c → x + 1 ≤ h → Zw U F D l h a c (x + 1)
  | flat {b c : Nat} {x : Int} : Zw U F D l h a b x → F b c → Zw U F D l h a c x
  | down {b c : Nat} {x : Int} : Zw U F D l h a b x → D b c → l ≤ x - 1 → Zw U F D l h a c (x - 1)
section
variable {n : Nat} {U F D : Rl}
theorem lid_in : ∀ k, In n (Lid n U F D k)
  | 0 => Cl.inn
  | _ + 1 => Cl.inn
theorem lid_trans : ∀ (k : Nat) {a b c : Nat}, Lid n U F D k a b → Lid n U F D k b c → Lid n U F D k a c
  | 0, _, _, _, h, i => Cl.trans h i
  | _ + 1, _, _, _, h, i => Cl.trans h i
theorem lid_refl : ∀ (k : Nat) {a : Nat}, a < n → Lid n U F D k a a
  | 0, _, h => Cl.refl h
  | _ + 1, _, h => Cl.refl h
theorem lid_flat (i : In n F) : ∀ (k : Nat), Sub F (Lid n U F D k)
  | 0 => Cl.sub i
  | _ + 1 => fun a b h => ⟨(i a b h).1, (i a b h).2, .one (.inl h)⟩
theorem lid_uld (iu : In n U) (id : In n D) (k : Nat) : Sub (Cp (Cp U (Lid n U F D k)) D) (Lid n U F D (k + 1)) := fun a b h =>
  have ⟨y, ⟨x, h1, _⟩, h3⟩ := h
  ⟨(iu _ _ h1).1, (id _ _ h3).2, .one (.inr h)⟩
theorem lid_succ : ∀ k, Sub (Lid n U F D k) (Lid n U F D (k + 1))
  | 0 => Cl.mono fun _ _ z => .inl z
  | k + 1 => Cl.mono (Or2.mono (fun _ _ z => z) (Cp.mono (Cp.mono (fun _ _ z => z) (lid_succ k)) fun _ _ z => z))
theorem lid_le {j k : Nat} (h : j ≤ k) : Sub (Lid n U F D j) (Lid n U F D k) := by
  induction h with
  | refl => exact fun _ _ z => z
  | step _ ih => exact fun a b z => lid_succ _ a b (ih a b z)
theorem cl_iff {r s : Rl} (h : ∀ a b, r a b ↔ s a b) (a b : Nat) : Cl n r a b ↔ Cl n s a b := ⟨Cl.mono (fun a b => (h a b).mp) a b, Cl.mono (fun a b => (h a b).mpr) a b⟩
theorem cp3_iff {r s s' t : Rl} (h : ∀ a b, s a b ↔ s' a b) (a b : Nat) : Cp (Cp r s) t a b ↔ Cp (Cp r s') t a b :=
  ⟨Cp.mono (Cp.mono (fun _ _ z => z) fun a b => (h a b).mp) (fun _ _ z => z) a b, Cp.mono (Cp.mono (fun _ _ z => z) fun a b => (h a b).mpr) (fun _ _ z => z) a b⟩
/-- where two neighbours are alike, all behind are -/
theorem lid_stop {k : Nat} (h : Stops (Lid n U F D) k) : ∀ (j a b : Nat), Lid n U F D (k + j) a b ↔ Lid n U F D k a b
  | 0, _, _ => Iff.rfl
  | j + 1, a, b => by
    have step : ∀ a b, Lid n U F D (k + j + 1) a b ↔ Lid n U F D (k + 1) a b := cl_iff fun a b => or_congr Iff.rfl (cp3_iff (lid_stop h j) a b)
    exact (step a b).trans (h a b)
theorem lid_far {m k : Nat} (h : Stops (Lid n U F D) m) (mk : m ≤ k) (a b : Nat) : Lid n U F D k a b ↔ Lid n U F D m a b := by
  obtain ⟨j, rfl⟩ := Nat.exists_eq_add_of_le mk
  exact lid_stop h j a b
/-! ### turned -/
theorem lid_tr : ∀ (k : Nat) {a b : Nat}, Lid n U F D k a b → Lid n (Tr D) (Tr F) (Tr U) k b a
  | 0, _, _, h => cl_tr (fun _ _ z => z) h
  | k + 1, _, _, h => cl_tr (fun a b z => z.imp id fun z => cp3_tr (fun _ _ z => z) (fun a b z => lid_tr k z) (fun _ _ z => z) z) h
theorem lid_tr_iff (k a b : Nat) : Lid n (Tr D) (Tr F) (Tr U) k b a ↔ Lid n U F D k a b := ⟨fun h => lid_tr k h, fun h => lid_tr k h⟩
/-! ### how many there are -/
theorem lid_chain (n1 : 1 ≤ n) : ∃ m, m + 1 ≤ n * n ∧ Stops (Lid n U F D) m ∧ ∀ j, j < m → ¬ Stops (Lid n U F D) j := by
  obtain ⟨m, hm, st, no⟩ := chain (n := n) (f := Lid n U F D) lid_in lid_succ
  refine ⟨m, ?_, st, no⟩
  have key : ∀ j, j ≤ m → j + 1 ≤ cnt n (repOf n (Lid n U F D j)) := by
    intro j
    induction j with
    | zero =>
      intro _
      have r0 := repOf_ok (n := n) (lid_in (n := n) (U := U) (F := F) (D := D) 0)
      unfold cnt
      rw [Nat.add_comm, Nat.add_zero]
      refine List.countP_pos_iff.mpr ⟨(0, 0), mem_sq.mpr ⟨n1, n1⟩, ?_⟩
      exact (r0.bit 0 0).mpr (lid_refl 0 n1)
    | succ j ih =>
      intro hj
      have h1 := ih (by omega)
      have := cnt_lt (repOf_ok (lid_in (n := n) (U := U) (F := F) (D := D) j)) (repOf_ok (lid_in (n := n) (U := U) (F := F) (D := D) (j + 1))) (lid_in _) (lid_succ j) (fun e => no j (by omega) fun a b => ((repOf_ok (lid_in j)).ext (repOf_ok (lid_in (j + 1))) |>.mp e a b).symm)
      omega
  exact Nat.le_trans (key m (Nat.le_refl m)) (cnt_le n _)
/-! ### walks -/
theorem zw_low {l h : Int} {a b : Nat} {x : Int} (l0 : l ≤ 0) (h0 : 0 ≤ h) (w : Zw U F D l h a b x) : l ≤ x ∧ x ≤ h := by
  induction w with
  | start => exact ⟨l0, h0⟩
  | up _ _ e ih => omega
  | flat _ _ ih => exact ih
  | down _ _ e ih => omega
theorem zw_mir {l h : Int} {a b : Nat} {x : Int} (w : Zw U F D l h a b x) : Zw D F U (-h) (-l) a b (-x) := by
  induction w with
  | start => exact .start
  | @up b c x _ u e ih =>
    have := Zw.down ih u (by omega)
    rw [show -(x + 1) = -x - 1 by omega]
    exact this
  | flat _ f ih => exact .flat ih f
  | @down b c x _ u e ih =>
    have := Zw.up ih u (by omega)
    rw [show -(x - 1) = -x + 1 by omega]
    exact this
theorem zw_star {r : Rl} {l h : Int} {a : Nat} {x : Int} (H : ∀ b c, r b c → Zw U F D l h a b x → Zw U F D l h a c x) {b c : Nat} (k : Star r b c) : Zw U F D l h a b x → Zw U F D l h a c x := by
  induction k with
  | refl a => exact id
  | step z _ ih => exact fun w => ih (H _ _ z w)
theorem lid_zw {l h : Int} {a : Nat} (l0 : l ≤ 0) (h0 : 0 ≤ h) : ∀ (k : Nat) {b c : Nat} {x : Int}, x + k ≤ h → Lid n U F D k b c → Zw U F D l h a b x → Zw U F D l h a c x
  | 0, _, _, _, _, t, w => zw_star (fun _ _ f w => .flat w f) t.2.2 w
  | k + 1, _, _, x, e, t, w => by
    have e : x + (k + 1 : Int) ≤ h := e
    refine zw_star (fun b c z w => ?_) t.2.2 w
    rcases z with f | ⟨q, ⟨p, u, t⟩, d⟩
    · exact .flat w f
    · have lo := (zw_low l0 h0 w).1
      have w2 := Zw.down (lid_zw l0 h0 k (by omega) t (Zw.up w u (by omega))) d (by omega)
      rw [show x + 1 - 1 = x by omega] at w2
      exact w2
/-- a band is walked -/
theorem band_zw {l h a b : Nat} (k : Band n U F D l h a b) : Zw U F D (-(l : Int)) h a b 0 := by
  refine zw_star (fun b c z w => ?_) k.2.2 .start
  rcases z with f | ⟨k, e, q, ⟨p, u, t⟩, d⟩ | ⟨k, e, q, ⟨p, u, t⟩, d⟩
  · exact .flat w f
  · have w2 := Zw.down (lid_zw (by omega) (by omega) k (by omega) t (Zw.up w u (by omega))) d (by omega)
    exact w2
  · have w1 := Zw.down w u (by omega)
    have w2 := zw_mir (lid_zw (by omega) (by omega) k (by omega) t (zw_mir w1))
    have w3 := Zw.up w2 d (by omega)
    have e1 : -(-(0 - 1) : Int) + 1 = 0 := by omega
    rw [e1] at w3
    have e2 : (-(-(-(l : Int)))) = -(l : Int) := by omega
    have e3 : (-(-(h : Int))) = (h : Int) := by omega
    rw [e2, e3] at w3
    exact w3
/-- how it goes above (and, the other way round, below) what it began with -/
def Upw (n : Nat) (U F D B : Rl) (h a : Nat) : Nat → Nat → Prop
  | 0, c => B a c
  | d + 1, c => ∃ e f, Upw n U F D B h a d e ∧ U e f ∧ d + 1 ≤ h ∧ Lid n U F D (h - (d + 1)) f c
variable {B : Rl} {h a : Nat}
theorem upw_flat (i : In n F) (bf : ∀ a b c, B a b → F b c → B a c) : ∀ (d : Nat) {c e : Nat}, Upw n U F D B h a d c → F c e → Upw n U F D B h a d e
  | 0, _, _, w, f => bf _ _ _ w f
  | _ + 1, _, _, ⟨e, f, w, u, l, t⟩, g => ⟨e, f, w, u, l, lid_trans _ t (lid_flat i _ _ _ g)⟩
theorem upw_up (iu : In n U) {d c e : Nat} (w : Upw n U F D B h a d c) (u : U c e) (l : d + 1 ≤ h) : Upw n U F D B h a (d + 1) e := ⟨c, e, w, u, l, lid_refl _ (iu _ _ u).2⟩
theorem upw_down (iu : In n U) (id : In n D) (bp : ∀ a b c k, h = k + 1 → B a b → Cp (Cp U (Lid n U F D k)) D b c → B a c) : ∀ (d : Nat) {c e : Nat}, Upw n U F D B h a (d + 1) c → D c e → Upw n U F D B h a d e
  | 0, _, _, ⟨e, f, w, u, l, t⟩, g => bp _ _ _ (h - 1) (by omega) w ⟨_, ⟨f, u, t⟩, g⟩
  | d + 1, _, _, ⟨e, f, ⟨e2, f2, w, u2, l2, t2⟩, u, l, t⟩, g => ⟨e2, f2, w, u2, l2, lid_trans _ t2 (by
    have := lid_uld (F := F) iu id (h - (d + 1 + 1)) _ _ ⟨_, ⟨f, u, t⟩, g⟩
    rw [show h - (d + 1 + 1) + 1 = h - (d + 1) by omega] at this
    exact this)⟩
theorem zw_told (iu : In n U) (i : In n F) (id : In n D) {l h a c : Nat} {x : Int} (ha : a < n) (w : Zw U F D (-(l : Int)) h a c x) :
    (∃ d : Nat, x = d ∧ Upw n U F D (Band n U F D l h) h a d c) ∨ (∃ d : Nat, x = -(d : Int) ∧ Upw n D F U (Band n U F D l h) l a d c) := by
  have bf : ∀ a b c, Band n U F D l h a b → F b c → Band n U F D l h a c := fun a b c p q => Cl.trans p ⟨(i _ _ q).1, (i _ _ q).2, .one (.inl q)⟩
  have bp : ∀ a b c k, h = k + 1 → Band n U F D l h a b → Cp (Cp U (Lid n U F D k)) D b c → Band n U F D l h a c := fun a b c k e p q =>
    have ⟨_, ⟨_, q1, _⟩, q3⟩ := q
    Cl.trans p ⟨(iu _ _ q1).1, (id _ _ q3).2, .one (.inr (.inl ⟨k, e, q⟩))⟩
  have bq : ∀ a b c k, l = k + 1 → Band n U F D l h a b → Cp (Cp D (Lid n D F U k)) U b c → Band n U F D l h a c := fun a b c k e p q =>
    have ⟨_, ⟨_, q1, _⟩, q3⟩ := q
    Cl.trans p ⟨(id _ _ q1).1, (iu _ _ q3).2, .one (.inr (.inr ⟨k, e, q⟩))⟩
  induction w with
  | start => exact .inl ⟨0, rfl, Cl.refl ha⟩
  | flat _ f ih =>
    rcases ih with ⟨d, e, w⟩ | ⟨d, e, w⟩
    · exact .inl ⟨d, e, upw_flat i bf d w f⟩
    · exact .inr ⟨d, e, upw_flat i bf d w f⟩
  | @up b c x _ u le ih =>
    rcases ih with ⟨d, e, w⟩ | ⟨d, e, w⟩
    · exact .inl ⟨d + 1, by omega, upw_up iu w u (by omega)⟩
    · match d, e, w with
      | 0, e, w => exact .inl ⟨1, by omega, upw_up (d := 0) iu w u (by omega)⟩
      | d + 1, e, w => exact .inr ⟨d, by omega, upw_down id iu bq d w u⟩
  | @down b c x _ u le ih =>
    rcases ih with ⟨d, e, w⟩ | ⟨d, e, w⟩
    · match d, e, w with
      | 0, e, w => exact .inr ⟨1, by omega, upw_up (d := 0) id w u (by omega)⟩
      | d + 1, e, w => exact .inl ⟨d, by omega, upw_down iu id bp d w u⟩
    · exact .inr ⟨d + 1, by omega, upw_up id w u (by omega)⟩
/-- a band is what is walked between the two numbers -/
theorem band_iff (iu : In n U) (i : In n F) (id : In n D) {l h a b : Nat} (ha : a < n) : Band n U F D l h a b ↔ Zw U F D (-(l : Int)) h a b 0 := by
  refine ⟨band_zw, fun w => ?_⟩
  rcases zw_told iu i id ha w with ⟨d, e, w⟩ | ⟨d, e, w⟩
  · obtain rfl : d = 0 := by omega
    exact w
  · obtain rfl : d = 0 := by omega
    exact w
/-- a lid is a band with nothing below -/
theorem lid_band (k a b : Nat) : Lid n U F D k a b ↔ Band n U F D 0 k a b := by
  cases k with
  | zero => exact cl_iff (fun a b => ⟨fun f => .inl f, fun z => by
      rcases z with f | ⟨k, e, _⟩ | ⟨k, e, _⟩
      · exact f
      · exact absurd e (by omega)
      · exact absurd e (by omega)⟩) a b
  | succ k => exact cl_iff (fun a b => ⟨fun z => z.imp id fun z => .inl ⟨k, rfl, z⟩, fun z => by
      rcases z with f | ⟨j, e, z⟩ | ⟨j, e, _⟩
      · exact .inl f
      · obtain rfl : j = k := by omega
        exact .inr z
      · exact absurd e (by omega)⟩) a b
theorem band_mir (l h a b : Nat) : Band n D F U h l a b ↔ Band n U F D l h a b := cl_iff (fun a b => or_congr Iff.rfl or_comm) a b
/-- great numbers tell no more -/
theorem band_far {m j l h l' h' : Nat} (s : Stops (Lid n U F D) m) (t : Stops (Lid n D F U) j) (hm : m + 1 ≤ h) (hm' : m + 1 ≤ h') (hj : j + 1 ≤ l) (hj' : j + 1 ≤ l') (a b : Nat) : Band n U F D l h a b ↔ Band n U F D l' h' a b := by
  have key : ∀ {V W : Rl} {m h h' : Nat}, Stops (Lid n V F W) m → m + 1 ≤ h → m + 1 ≤ h' → ∀ a b, (∃ k, h = k + 1 ∧ Cp (Cp V (Lid n V F W k)) W a b) → ∃ k, h' = k + 1 ∧ Cp (Cp V (Lid n V F W k)) W a b := by
    rintro V W m h h' s hm hm' a b ⟨k, rfl, z⟩
    exact ⟨h' - 1, by omega, (cp3_iff (fun a b => (lid_far s (by omega) a b).trans (lid_far s (by omega) a b).symm) a b).mp z⟩
  exact cl_iff (fun a b => or_congr Iff.rfl (or_congr ⟨key s hm hm' a b, key s hm' hm a b⟩ ⟨key t hj hj' a b, key t hj' hj a b⟩)) a b
end
end L2.Lv
end

section
set_option Elab.async false
set_option linter.all false
set_option maxRecDepth 100000
set_option maxHeartbeats 4000000
namespace L2.K73
open PySem PySem.Spec PyProof.Rows L2.Gd L2.Lv
/-! ### the walk between two numbers, by what is found and what waits -/
def nz (l h : Int) (d : Dd) (s : Nat × Int) : Option (Nat × Int) :=
  if d.p = (s.1 : Int) ∧ d.w = "any" ∧ l ≤ s.2 + d.c ∧ s.2 + d.c ≤ h then some (d.g.toNat, s.2 + d.c) else none
abbrev ZwD (l h : Int) (ds : List Dd) (a : Nat) (t : Nat × Int) : Prop := Zw (Dl ds 1) (Dl ds 0) (Dl ds (-1)) l h a t.1 t.2
theorem nz_zw {n : Int} {l h : Int} {ds : List Dd} (ok : ∀ d ∈ ds, d.Ok n) {d : Dd} (hd : d ∈ ds) {a : Nat} {s t : Nat × Int} (w : ZwD l h ds a s) (e : nz l h d s = some t) : ZwD l h ds a t := by
  unfold nz at e
  split at e
  · rename_i q
    obtain ⟨q1, q2, q3, q4⟩ := q
    obtain rfl := Option.some.inj e
    have o := ok d hd
    have g0 := o.g0
    have dl : ∀ c : Int, d.c = c → Dl ds c s.1 d.g.toNat := fun c e => ⟨d, hd, q1, by omega, e, q2⟩
    have c3 : d.c = 1 ∨ d.c = 0 ∨ d.c = -1 := by
      rcases o.w with ⟨_, c1, c2⟩ | ⟨_, c1, c2⟩ <;> omega
    show Zw _ _ _ _ _ _ d.g.toNat (s.2 + d.c)
    rcases c3 with e | e | e
    · have := dl 1 e
      rw [e] at q4 ⊢
      exact .up w this q4
    · have := dl 0 e
      rw [e, Int.add_zero]
      exact .flat w this
    · have := dl (-1) e
      rw [e] at q3 ⊢
      exact .down w this q3
  · exact nomatch e
theorem nz_of {l h : Int} {ds : List Dd} {b c : Nat} {x g : Int} (u : Dl ds g b c) (h1 : l ≤ x + g) (h2 : x + g ≤ h) : ∃ d ∈ ds, nz l h d (b, x) = some (c, x + g) := by
  obtain ⟨d, hd, e1, e2, e3, e4⟩ := u
  refine ⟨d, hd, ?_⟩
  unfold nz
  rw [if_pos ⟨e1, e4, by rw [e3]; exact h1, by rw [e3]; exact h2⟩, e2, e3]
  rfl
theorem zw_fst {n : Nat} {U F D : Rl} (iu : In n U) (i : In n F) (id : In n D) {l h : Int} {a b : Nat} {x : Int} (ha : a < n) (w : Zw U F D l h a b x) : b < n := by
  induction w with
  | start => exact ha
  | up _ u _ _ => exact (iu _ _ u).2
  | flat _ f _ => exact (i _ _ f).2
  | down _ u _ _ => exact (id _ _ u).2
structure Bz (l h : Int) (ds : List Dd) (a : Nat) (fs ws : List (Nat × Int)) : Prop where
  nd : fs.Nodup
  ok : ∀ t ∈ fs, ZwD l h ds a t
  wk : ∀ t ∈ ws, ZwD l h ds a t
  st : (a, 0) ∈ fs ∨ (a, 0) ∈ ws
def DoneZ (l h : Int) (ds : List Dd) (fs ws : List (Nat × Int)) (t : Nat × Int) : Prop := ∀ d ∈ ds, ∀ u, nz l h d t = some u → u ∈ fs ∨ u ∈ ws
theorem Bz.all {l h : Int} {ds : List Dd} {a : Nat} {fs : List (Nat × Int)} (l0 : l ≤ 0) (h0 : 0 ≤ h) (b : Bz l h ds a fs []) (dn : ∀ t ∈ fs, DoneZ l h ds fs [] t) (t : Nat × Int) : t ∈ fs ↔ ZwD l h ds a t := by
  refine ⟨b.ok t, fun w => ?_⟩
  have key : ∀ {c : Nat} {x : Int}, Zw (Dl ds 1) (Dl ds 0) (Dl ds (-1)) l h a c x → (c, x) ∈ fs := by
    intro c x w
    induction w with
    | start => exact b.st.elim id fun z => nomatch z
    | @up b' c x w u e ih =>
      have lo := zw_low l0 h0 w
      obtain ⟨d, hd, q⟩ := nz_of (l := l) (h := h) (x := x) u (by omega) e
      exact (dn _ ih d hd _ q).elim id fun z => nomatch z
    | @flat b' c x w u ih =>
      have lo := zw_low l0 h0 w
      obtain ⟨d, hd, q⟩ := nz_of (l := l) (h := h) (x := x) u (by omega) (by omega)
      rw [Int.add_zero] at q
      exact (dn _ ih d hd _ q).elim id fun z => nomatch z
    | @down b' c x w u e ih =>
      have lo := zw_low l0 h0 w
      obtain ⟨d, hd, q⟩ := nz_of (l := l) (h := h) (x := x) (g := -1) u (by omega) (by omega)
      exact (dn _ ih d hd _ q).elim id fun z => nomatch z
  exact key w
theorem few_z {n : Nat} {l h : Int} {fs : List (Nat × Int)} (nd : fs.Nodup) (k : ∀ t ∈ fs, t.1 < n ∧ l ≤ t.2 ∧ t.2 ≤ h) : fs.length ≤ n * (h - l + 1).toNat := by
  have e := few_pairs (n := n) (m := (h - l + 1).toNat) (l := fs.map fun t => (t.1, (t.2 - l).toNat)) (by
    refine (List.pairwise_map).mpr ?_
    refine nd.imp_of_mem ?_
    intro a b ha hb ne z
    have h1 := k a ha
    have h2 := k b hb
    obtain ⟨z1, z2⟩ := Prod.mk.inj z
    exact ne (Prod.ext z1 (by omega))) (by
    intro t ht
    obtain ⟨x, hx, rfl⟩ := List.mem_map.mp ht
    have := k x hx
    exact ⟨this.1, by show (x.2 - l).toNat < _; omega⟩)
  rwa [List.length_map] at e
theorem Bz.len {n : Nat} {l h : Int} {ds : List Dd} {a : Nat} {fs ws : List (Nat × Int)} (ok : ∀ d ∈ ds, d.Ok (n : Int)) (l0 : l ≤ 0) (h0 : 0 ≤ h) (an : a < n) (b : Bz l h ds a fs ws) : fs.length ≤ n * (h - l + 1).toNat :=
  few_z b.nd fun t ht => ⟨zw_fst (Dl.inn ok 1) (Dl.inn ok 0) (Dl.inn ok (-1)) an (b.ok t ht), zw_low l0 h0 (b.ok t ht)⟩
/-! stands as keys and as tuples -/
def kZ (t : Nat × Int) : List Key := [.inl (t.1 : Int), .inl t.2]
def kvZ (fs : List (Nat × Int)) : List (List Key × V) := fs.map fun t => (kZ t, V.bl true)
theorem kZ_inj {a b : Nat × Int} (h : kZ a = kZ b) : a = b := by
  unfold kZ at h
  have h1 := Sum.inl.inj (List.cons.inj h).1
  have h2 := Sum.inl.inj (List.cons.inj (List.cons.inj h).2).1
  exact Prod.ext (Int.ofNat.inj h1) h2
theorem valV_Z (t : Nat × Int) : ∀ fs : List (Nat × Int), (valV (kvZ fs) (kZ t)).isSome = decide (t ∈ fs)
  | [] => by rw [decide_eq_false (by simp)]; rfl
  | f :: r => by
    unfold kvZ
    rw [List.map_cons]
    by_cases e : f = t
    · subst e
      rw [valV_pos rfl, decide_eq_true List.mem_cons_self]
      rfl
    · rw [valV_neg (fun z => e (kZ_inj z))]
      have := valV_Z t r
      unfold kvZ at this
      rw [this, Bool.eq_iff_iff, decide_eq_true_eq, decide_eq_true_eq, List.mem_cons]
      exact ⟨.inr, fun z => z.resolve_left fun z => e z.symm⟩
theorem valV_Znone {t : Nat × Int} {fs : List (Nat × Int)} (h : t ∉ fs) : valV (kvZ fs) (kZ t) = none := by
  have := valV_Z t fs
  rw [decide_eq_false h] at this
  exact Option.isNone_iff_eq_none.mp (by cases hv : valV (kvZ fs) (kZ t) with | none => rfl | some _ => rw [hv] at this; exact nomatch this)
def PzAt (H : Hp) (v : V) (t : Nat × Int) : Prop := ∃ a, v = .ref a ∧ H a = some (.tup [.int (t.1 : Nat), .int t.2])
abbrev PzAll (H : Hp) (vs : List V) (ts : List (Nat × Int)) : Prop := Paired (PzAt H) vs ts
theorem PzAll.same {H H' : Hp} {vs : List V} {ts : List (Nat × Int)} (s : Same H H') (h : PzAll H vs ts) : PzAll H' vs ts := Paired.mapP h fun _ _ ⟨t, e, q⟩ => ⟨t, e, s _ _ q⟩
theorem PzAll.but {D : Addr} {H H' : Hp} {vs : List V} {ts : List (Nat × Int)} (b : ButD D H H') (hD : ∃ zs, H D = some (.lst zs)) (h : PzAll H vs ts) : PzAll H' vs ts :=
  Paired.mapP h fun _ _ ⟨t, e, q⟩ => ⟨t, e, b _ _ (fun z => by obtain ⟨zs, hD⟩ := hD; rw [z, hD] at q; exact nomatch q) q⟩
def zD (t : Nat × Int) : PyData := .tuple [.int (t.1 : Nat), .int t.2]
theorem PzAll.dps {K : PySem.W.Frag} {H : Hp} : ∀ {vs : List V} {ts : List (Nat × Int)}, PzAll H vs ts → DpAll K H vs (ts.map zD)
  | _, _, .nil => .nil
  | _, _, .cons ⟨t, e, q⟩ r => by
    subst e
    exact .cons (.tup (.inl (.inl q)) (.cons (.int _) (.cons (.int _) .nil))) (PzAll.dps r)
theorem zD_lay : ∀ ts : List (Nat × Int), PyData.canLayAll0 (ts.map zD) = true
  | [] => by simp [PyData.canLayAll0]
  | x :: r => by simp [PyData.canLayAll0, PyData.canLay0, zD, zD_lay r]
theorem zD_dep : ∀ ts : List (Nat × Int), PyData.depthAll (ts.map zD) ≤ 1
  | [] => by simp [PyData.depthAll]
  | x :: r => by
    have := zD_dep r
    simp [PyData.depthAll, PyData.depth, zD]
    omega
theorem zD_shaped (ts : List (Nat × Int)) : SeqAt.shaped (.list (ts.map zD)) = true := by
  show (PyData.canLay0 (.list (ts.map zD)) && decide (PyData.depth (.list (ts.map zD)) ≤ 64)) = true
  rw [Bool.and_eq_true]
  refine ⟨by simp only [PyData.canLay0]; exact zD_lay ts, decide_eq_true ?_⟩
  have := zD_dep ts
  simp only [PyData.depth]
  omega
theorem zD_nil (ts : List (Nat × Int)) : PyData.eqv (.list (ts.map zD)) (.list []) = decide (ts = []) := by
  cases ts with
  | nil => simp [PyData.eqv, PyData.eqvAll]
  | cons x r => simp [PyData.eqv, PyData.eqvAll]
end L2.K73
end

section
set_option Elab.async false
set_option linter.all false
set_option maxRecDepth 100000
set_option maxHeartbeats 4000000
namespace L2.K73
open PySem PySem.Spec PyProof.Rows L2.Gd L2.Lv
section
variable {P : Program} {w : World} {K : PySem.W.Frag} {mg : Str → Option Value} {base : Heap} {C : Addr}
/-- the deeds of one change that may be done at any number -/
def De (ds : List Dd) (c : Int) : Rl := fun a b => ∃ d ∈ ds, d.p = (a : Int) ∧ d.g = (b : Int) ∧ d.c = c ∧ d.w = "empty"
def isEm (d : Dd) : Bool := decide (d.w = "empty")
theorem emE (d : Dd) : decide (V.str d.w = V.str "empty") = isEm d := by
  unfold isEm
  rw [Bool.eq_iff_iff]
  simp
def isCe (c : Int) (d : Dd) : Bool := decide (d.c = c) && isEm d
def prE (c : Int) (d : Dd) : Option (Nat × Nat) := if isCe c d = true then some (d.p.toNat, d.g.toNat) else none
theorem isEm_w (d : Dd) : isEm d = true ↔ d.w = "empty" := decide_eq_true_iff
theorem De.inn {n : Nat} {ds : List Dd} (ok : ∀ d ∈ ds, d.Ok n) (c : Int) : In n (De ds c) := fun a b ⟨d, hd, e1, e2, _⟩ => by
  have o := ok d hd
  have := o.pn
  have := o.gn
  omega
theorem mem_pre {n : Int} {ds : List Dd} (ok : ∀ d ∈ ds, d.Ok n) (c : Int) (a b : Nat) : (a, b) ∈ ds.filterMap (prE c) ↔ De ds c a b := by
  rw [List.mem_filterMap]
  constructor
  · rintro ⟨d, hd, e⟩
    unfold prE at e
    split at e
    · rename_i q
      have o := ok d hd
      have := o.p0
      have := o.g0
      obtain ⟨q1, q2⟩ := Bool.and_eq_true_iff.mp q
      obtain ⟨e1, e2⟩ := Prod.mk.inj (Option.some.inj e)
      exact ⟨d, hd, by omega, by omega, of_decide_eq_true q1, (isEm_w d).mp q2⟩
    · exact nomatch e
  · rintro ⟨d, hd, e1, e2, e3, e4⟩
    refine ⟨d, hd, ?_⟩
    unfold prE
    rw [if_pos (show isCe c d = true by unfold isCe; rw [decide_eq_true e3, (isEm_w d).mpr e4]; rfl), e1, e2]
    rfl
def spDRe (C : Addr) : Sp := fun vs H Q _ => ∃ (h l : Addr) (n : Nat) (c : Int) (xs : List V) (ds : List Dd), vs = [.ref h, .int c, .str "empty"] ∧ HouseL C H h l n xs ds ∧ WF n ds ∧
  ∀ p H' y, H p = none → Same H H' → H' p = some (.lst (iN y)) → Rep n y (De ds c) → Q (.ref p) H'
def NDRe : List Str := ["house", "change", "when", "deed"]
theorem scDRe : FnScope NDRe ["house", "change", "when"] (defScope (top 26)) := ⟨rfl, rfl, rfl, by decide +kernel, rfl, by decide +kernel, by decide +kernel⟩
theorem ok_dre {f : Addr} {fd : FuncData} (F : Fun K "deed_relation" "deed_relation" (top 26) f fd) (T : ClsT K mg C) (PL : PrH P w K mg base C "places" (spPlaces C)) (DE : MeH P w K mg base C "deeds" 1 ["self"] (spDeeds C)) (GR : Fn P w K mg base 1 "relation_of" ["many", "pairs"] spRel) :
    FnOk P w K mg base CX0 3 f fd ["house", "change", "when"] (spDRe C) := by
  refine F.ok scDRe (fun vs H Q E h => ?_) (fun cdv A outer s H vs Q E hr h => ?_)
  · obtain ⟨h, l, n, c, xs, ds, rfl, _⟩ := h
    rfl
  · obtain ⟨h, l, n, c, xs, ds, rfl, hh, wf, q⟩ := h
    have N := scDRe.nd
    have r1 := hr.mono (k := 2) (j := 1) (by decide)
    obtain ⟨dx, ob⟩ := hh.ob
    refine ⟨_, pss_one (ps_ret (pe_fn GR r1 (pa_cons (pe_prH PL T hr (pv 0)) (pa_cons
      (pe_lc (own := [("deed", 3)]) (g := gName 3) rfl N (pi_list (pe_mH0 DE T r1 (pv 0))) (blkOk_by (N := NDRe) (sc := defScope (top 26)) (by decide +kernel)) (fun _ _ _ _ _ => pg_name (i := 3) N rfl (.inl rfl))
        (fun _ _ _ _ _ => pts_one (PW.pt (pw_and (pt_cmpR op_eq (pe_ix (r := rIxT K) ix_tup (pv 3) pe_int (fun _ _ => rfl)) (pv 1) (nomark _)) (pw_and1 (pt_cmpR op_eq (pe_ix (r := rIxT K) ix_tup (pv 3) pe_int (fun _ _ => rfl)) (pv 2) (nomark _))))))
        (fun _ _ _ _ _ => pe_tup (pa_cons (pe_ix (r := rIxT K) ix_tup (pv 3) pe_int (fun _ _ => rfl)) (pa_cons (pe_ix (r := rIxT K) ix_tup (pv 3) pe_int (fun _ _ => rfl)) pa_nil)))) pa_nil)))), ?_⟩
    refine ⟨_, rfl, h, dx, _, rfl, ob, h, dx, l, n, rfl, ob, ?_⟩
    refine ⟨_, rfl, h, dx, _, rfl, ob, flds_no _ _ (by decide +kernel) (by decide +kernel), h, l, n, xs, ds, rfl, hh, fun o ho => ?_⟩
    have s1 := same_upd (o := .lst xs) ho
    have hh1 := hh.same s1
    refine ⟨o, rfl, ⟨xs, .inl (.inl upd_same)⟩, fun D hD => ?_⟩
    refine lc_mapL (es := ds) (F := DdAt) (G := PrAt) (f := prE c) (stabP D) upd_same hD (Nat.le_trans (Nat.le_of_eq hh.lenE) (Nat.le_trans wf.len (by decide))) hh1.dd ?_ ?_
    · rintro x e H2 A B he ⟨t, rfl, ht⟩ b ⟨zs, hz⟩ hA hB
      have ht2 := b.new hD _ _ ht
      have ok := wf.ok e he
      obtain ⟨pp, hp⟩ : ∃ k : Nat, e.p = k := ⟨e.p.toNat, by have := ok.p0; omega⟩
      obtain ⟨gg, hg⟩ : ∃ k : Nat, e.g = k := ⟨e.g.toNat, by have := ok.g0; omega⟩
      refine ⟨rfl, ?_⟩
      have ec : decide (V.int e.c = V.int c) = decide (e.c = c) := by simp
      refine ⟨_, rfl, t, _, _, _, rfl, rfl, .inl (.inl ht2), rfl, _, rfl, rfl, decide (e.c = c), congrArg V.bl ec, ?_⟩
      by_cases h1 : e.c = c
      · rw [decide_eq_true h1]
        refine iteT ⟨_, rfl, t, _, _, _, rfl, rfl, .inl (.inl ht2), rfl, _, rfl, rfl, isEm e, congrArg V.bl (emE e), ?_⟩
        cases h2 : isEm e with
        | true =>
          refine iteT ⟨_, rfl, t, _, _, _, rfl, rfl, .inl (.inl ht2), rfl, _, rfl, t, _, _, _, rfl, rfl, .inl (.inl ht2), rfl, (by show 2 ≤ sizeLine; decide), fun p np => ?_⟩
          refine hA (pp, gg) _ _ ?_ (same_upd np) ⟨p, rfl, by rw [upd_same, hp, hg]⟩
          unfold prE
          rw [if_pos (show isCe c e = true by unfold isCe; rw [decide_eq_true h1, h2]; rfl), hp, hg]
          rfl
        | false =>
          refine iteF (hB H2 ?_ fun _ _ z => z)
          unfold prE
          rw [if_neg (show ¬ isCe c e = true by unfold isCe; rw [h2, Bool.and_false]; decide)]
      · rw [decide_eq_false h1]
        refine iteF (hB H2 ?_ fun _ _ z => z)
        unfold prE
        rw [if_neg (show ¬ isCe c e = true by unfold isCe; rw [decide_eq_false h1, Bool.false_and]; decide)]
    · intro ys H2 h1 h2 h3
      have s2 := s1.trans (h3.new hD)
      refine ⟨n, D, ys, _, rfl, by have := wf.m16; omega, h1, h2, fun p hp => ?_, fun p H' y np s' hy rp => q p H' y (s2.free np) (s2.trans s') hy (rp.iff (mem_pre wf.ok c))⟩
      exact De.inn wf.ok c p.1 p.2 ((mem_pre wf.ok c p.1 p.2).mp hp)
end
end L2.K73
end

section
set_option Elab.async false
set_option linter.all false
namespace L2.Gd
open PySem PySem.Spec PyProof.Rows
/-- an attribute as one of several targets: o.f, .. = .. -/
def gFld (K : PySem.W.Frag) (ta : TE) (f : Str) : TG := fun v σ H Q => ta σ H fun x H1 => ∃ a C dx fs, x = .ref a ∧ H1 a = some (.ins C dx fs) ∧ Cls K C ∧ NoAttr K C f ∧ fs.length < 1000 ∧ Q σ (upd H1 a (.ins C dx (putF f v fs)))
theorem pg_fld {X : Cx} {o : Expr} {f : Str} {ta : TE} {pos : Pos} (ha : PE X o ta) : PG X (.Attribute o f pos) (gFld X.K ta f) := by
  refine ⟨fun pins s σ H v u Q I r h => ?_⟩
  rw [PySem.assign_Attribute]
  refine wpAny_bind (wpAny_holding (thn (ha.run pins s σ H _ I h) fun ov s1 ⟨x, H1, I1, rx, a, C, dx, fs, ex, ea, c, n, l, q⟩ => ?_))
  subst ex
  obtain rfl : ov = Value.ref a := rx
  refine wpAny_bind (wpAny_standAt (wpAny_bind (wpAny_holding (setattr_ok I1 ea c n l r fun s3 I3 => ?_))))
  exact wpAny_release ⟨σ, _, I3, q⟩
end L2.Gd
end

section
set_option Elab.async false
set_option linter.all false
set_option maxRecDepth 100000
set_option maxHeartbeats 4000000
namespace L2.K73
open PySem PySem.Spec PyProof.Rows L2.Gd L2.Lv
/-! ### Shaft: names, what it holds, __init__ -/
theorem putF_le {f : Str} {v : V} {l : List (Str × V)} {n : Nat} (h : l.length ≤ n) : (putF f v l).length ≤ n + 1 := Nat.le_trans (length_putF f v l) (Nat.succ_le_succ h)
theorem lt_of20 {l : List (Str × V)} {n : Nat} (h : l.length ≤ n) (hn : n ≤ 20 := by decide) : l.length < 1000 := by omega
abbrev cSh (i : Nat) : Stmt := inClass (top 31) i
def fSh (u f d la fu ld li fl wh : Addr) : List (Str × V) := putF "_whole" (.ref wh) (putF "_floors" (.ref fl) (putF "_lids" (.ref li) (putF "last_downs" (.ref ld) (putF "first_ups" (.ref fu) (putF "lasting" (.ref la) (putF "downs" (.ref d) (putF "flats" (.ref f) (putF "ups" (.ref u) []))))))))
theorem fSh_u (u f d la fu ld li fl wh : Addr) : (fSh u f d la fu ld li fl wh).lookup ("ups" : Str) = some (.ref u) := by
  unfold fSh
  rw [lookup_putF, if_neg (by decide +kernel), lookup_putF, if_neg (by decide +kernel), lookup_putF, if_neg (by decide +kernel), lookup_putF, if_neg (by decide +kernel), lookup_putF, if_neg (by decide +kernel), lookup_putF, if_neg (by decide +kernel), lookup_putF, if_neg (by decide +kernel), lookup_putF, if_neg (by decide +kernel), lookup_putF, if_pos rfl]
theorem fSh_f (u f d la fu ld li fl wh : Addr) : (fSh u f d la fu ld li fl wh).lookup ("flats" : Str) = some (.ref f) := by
  unfold fSh
  rw [lookup_putF, if_neg (by decide +kernel), lookup_putF, if_neg (by decide +kernel), lookup_putF, if_neg (by decide +kernel), lookup_putF, if_neg (by decide +kernel), lookup_putF, if_neg (by decide +kernel), lookup_putF, if_neg (by decide +kernel), lookup_putF, if_neg (by decide +kernel), lookup_putF, if_pos rfl]
theorem fSh_d (u f d la fu ld li fl wh : Addr) : (fSh u f d la fu ld li fl wh).lookup ("downs" : Str) = some (.ref d) := by
  unfold fSh
  rw [lookup_putF, if_neg (by decide +kernel), lookup_putF, if_neg (by decide +kernel), lookup_putF, if_neg (by decide +kernel), lookup_putF, if_neg (by decide +kernel), lookup_putF, if_neg (by decide +kernel), lookup_putF, if_neg (by decide +kernel), lookup_putF, if_pos rfl]
theorem fSh_la (u f d la fu ld li fl wh : Addr) : (fSh u f d la fu ld li fl wh).lookup ("lasting" : Str) = some (.ref la) := by
  unfold fSh
  rw [lookup_putF, if_neg (by decide +kernel), lookup_putF, if_neg (by decide +kernel), lookup_putF, if_neg (by decide +kernel), lookup_putF, if_neg (by decide +kernel), lookup_putF, if_neg (by decide +kernel), lookup_putF, if_pos rfl]
theorem fSh_fu (u f d la fu ld li fl wh : Addr) : (fSh u f d la fu ld li fl wh).lookup ("first_ups" : Str) = some (.ref fu) := by
  unfold fSh
  rw [lookup_putF, if_neg (by decide +kernel), lookup_putF, if_neg (by decide +kernel), lookup_putF, if_neg (by decide +kernel), lookup_putF, if_neg (by decide +kernel), lookup_putF, if_pos rfl]
theorem fSh_ld (u f d la fu ld li fl wh : Addr) : (fSh u f d la fu ld li fl wh).lookup ("last_downs" : Str) = some (.ref ld) := by
  unfold fSh
  rw [lookup_putF, if_neg (by decide +kernel), lookup_putF, if_neg (by decide +kernel), lookup_putF, if_neg (by decide +kernel), lookup_putF, if_pos rfl]
theorem fSh_li (u f d la fu ld li fl wh : Addr) : (fSh u f d la fu ld li fl wh).lookup ("_lids" : Str) = some (.ref li) := by
  unfold fSh
  rw [lookup_putF, if_neg (by decide +kernel), lookup_putF, if_neg (by decide +kernel), lookup_putF, if_pos rfl]
theorem fSh_fl (u f d la fu ld li fl wh : Addr) : (fSh u f d la fu ld li fl wh).lookup ("_floors" : Str) = some (.ref fl) := by
  unfold fSh
  rw [lookup_putF, if_neg (by decide +kernel), lookup_putF, if_pos rfl]
theorem fSh_wh (u f d la fu ld li fl wh : Addr) : (fSh u f d la fu ld li fl wh).lookup ("_whole" : Str) = some (.ref wh) := by
  unfold fSh
  rw [lookup_putF, if_pos rfl]
theorem fSh_m_grown (u f d la fu ld li fl wh : Addr) : (fSh u f d la fu ld li fl wh).lookup ("_grown" : Str) = none := by
  unfold fSh
  rw [lookup_putF, if_neg (by decide +kernel), lookup_putF, if_neg (by decide +kernel), lookup_putF, if_neg (by decide +kernel), lookup_putF, if_neg (by decide +kernel), lookup_putF, if_neg (by decide +kernel), lookup_putF, if_neg (by decide +kernel), lookup_putF, if_neg (by decide +kernel), lookup_putF, if_neg (by decide +kernel), lookup_putF, if_neg (by decide +kernel)]
  rfl
theorem fSh_mlid (u f d la fu ld li fl wh : Addr) : (fSh u f d la fu ld li fl wh).lookup ("lid" : Str) = none := by
  unfold fSh
  rw [lookup_putF, if_neg (by decide +kernel), lookup_putF, if_neg (by decide +kernel), lookup_putF, if_neg (by decide +kernel), lookup_putF, if_neg (by decide +kernel), lookup_putF, if_neg (by decide +kernel), lookup_putF, if_neg (by decide +kernel), lookup_putF, if_neg (by decide +kernel), lookup_putF, if_neg (by decide +kernel), lookup_putF, if_neg (by decide +kernel)]
  rfl
theorem fSh_mfloor (u f d la fu ld li fl wh : Addr) : (fSh u f d la fu ld li fl wh).lookup ("floor" : Str) = none := by
  unfold fSh
  rw [lookup_putF, if_neg (by decide +kernel), lookup_putF, if_neg (by decide +kernel), lookup_putF, if_neg (by decide +kernel), lookup_putF, if_neg (by decide +kernel), lookup_putF, if_neg (by decide +kernel), lookup_putF, if_neg (by decide +kernel), lookup_putF, if_neg (by decide +kernel), lookup_putF, if_neg (by decide +kernel), lookup_putF, if_neg (by decide +kernel)]
  rfl
theorem fSh_mall_lids (u f d la fu ld li fl wh : Addr) : (fSh u f d la fu ld li fl wh).lookup ("all_lids" : Str) = none := by
  unfold fSh
  rw [lookup_putF, if_neg (by decide +kernel), lookup_putF, if_neg (by decide +kernel), lookup_putF, if_neg (by decide +kernel), lookup_putF, if_neg (by decide +kernel), lookup_putF, if_neg (by decide +kernel), lookup_putF, if_neg (by decide +kernel), lookup_putF, if_neg (by decide +kernel), lookup_putF, if_neg (by decide +kernel), lookup_putF, if_neg (by decide +kernel)]
  rfl
theorem fSh_mall_floors (u f d la fu ld li fl wh : Addr) : (fSh u f d la fu ld li fl wh).lookup ("all_floors" : Str) = none := by
  unfold fSh
  rw [lookup_putF, if_neg (by decide +kernel), lookup_putF, if_neg (by decide +kernel), lookup_putF, if_neg (by decide +kernel), lookup_putF, if_neg (by decide +kernel), lookup_putF, if_neg (by decide +kernel), lookup_putF, if_neg (by decide +kernel), lookup_putF, if_neg (by decide +kernel), lookup_putF, if_neg (by decide +kernel), lookup_putF, if_neg (by decide +kernel)]
  rfl
theorem fSh_mband (u f d la fu ld li fl wh : Addr) : (fSh u f d la fu ld li fl wh).lookup ("band" : Str) = none := by
  unfold fSh
  rw [lookup_putF, if_neg (by decide +kernel), lookup_putF, if_neg (by decide +kernel), lookup_putF, if_neg (by decide +kernel), lookup_putF, if_neg (by decide +kernel), lookup_putF, if_neg (by decide +kernel), lookup_putF, if_neg (by decide +kernel), lookup_putF, if_neg (by decide +kernel), lookup_putF, if_neg (by decide +kernel), lookup_putF, if_neg (by decide +kernel)]
  rfl
/-- what is known of the class -/
structure ClsS (K : PySem.W.Frag) (mg : Str → Option Value) (C : Addr) : Prop where
  cl : Cls K C
  n_u : NoAttr K C "ups"
  n_f : NoAttr K C "flats"
  n_d : NoAttr K C "downs"
  n_la : NoAttr K C "lasting"
  n_fu : NoAttr K C "first_ups"
  n_ld : NoAttr K C "last_downs"
  n_li : NoAttr K C "_lids"
  n_fl : NoAttr K C "_floors"
  n_wh : NoAttr K C "_whole"
  mgC : mg "Shaft" = some (.ref C)
/-- a Shaft's relations -/
structure ShRel (H : Hp) (n : Nat) (U F D : Rl) (u f d : Addr) (lu lf ld : List Nat) : Prop where
  hu : H u = some (.lst (iN lu))
  hf : H f = some (.lst (iN lf))
  hd : H d = some (.lst (iN ld))
  ru : Rep n lu U
  rf : Rep n lf F
  rd : Rep n ld D
  iu : In n U
  if_ : In n F
  id : In n D
  n100 : n ≤ 100
theorem ne_lst {H : Hp} {a x C dx : Addr} {fs : List (Str × V)} {xs : List V} (ha : H a = some (.lst xs)) (hx : H x = some (.ins C dx fs)) : a ≠ x := fun z => by
  rw [z, hx] at ha
  exact nomatch ha
theorem put_x {x : Addr} {H H1 : Hp} {o : HO} (s : Same H H1) : ButD x H (upd H1 x o) := fun b u ne e => by
  rw [upd_ne ne]
  exact s _ _ e
theorem ShRel.butX {H H' : Hp} {x : Addr} {n : Nat} {U F D : Rl} {u f d : Addr} {lu lf ld : List Nat} (hx : ∃ C dx fs, H x = some (.ins C dx fs)) (b : ButD x H H') (r : ShRel H n U F D u f d lu lf ld) : ShRel H' n U F D u f d lu lf ld := by
  obtain ⟨C, dx, fs, hx⟩ := hx
  exact ⟨b _ _ (ne_lst r.hu hx) r.hu, b _ _ (ne_lst r.hf hx) r.hf, b _ _ (ne_lst r.hd hx) r.hd, r.ru, r.rf, r.rd, r.iu, r.if_, r.id, r.n100⟩
/-- a new Shaft -/
structure Sh0 (C : Addr) (H : Hp) (x : Addr) (n : Nat) (U F D : Rl) (u f d la fu ldn li fl wh : Addr) (lu lf ld : List Nat) : Prop where
  ob : ∃ dx, H x = some (.ins C dx (fSh u f d la fu ldn li fl wh))
  rel : ShRel H n U F D u f d lu lf ld
  lids : ∃ c z, H li = some (.lst [.ref c]) ∧ H c = some (.lst (iN z)) ∧ Rep n z (Cl n F) ∧ c ≠ li ∧ c ≠ fl
  floors : ∃ c z, H fl = some (.lst [.ref c]) ∧ H c = some (.lst (iN z)) ∧ Rep n z (Cl n F) ∧ c ≠ li ∧ c ≠ fl
  whole : H wh = some (.dK [])
  ne : li ≠ fl
def spSi (C : Addr) : Sp := fun vs H Q _ => ∃ (x dx R u f d la fu ldn : Addr) (n : Nat) (U F D : Rl) (lu lf ld : List Nat), vs = [.ref x, .ref R, .ref fu, .ref ldn] ∧ H x = some (.ins C dx []) ∧ H R = some (.lst [.ref u, .ref f, .ref d, .ref la]) ∧ ShRel H n U F D u f d lu lf ld ∧
  ∀ H' li fl wh, ButD x H H' → Sh0 C H' x n U F D u f d la fu ldn li fl wh lu lf ld → H li = none → H fl = none → H wh = none → Q .non H'
theorem scSi : FnScope ["self", "relations", "first_ups", "last_downs"] ["self", "relations", "first_ups", "last_downs"] (defScope (cSh 0)) := ⟨rfl, rfl, rfl, by decide +kernel, rfl, by decide +kernel, by decide +kernel⟩
section
variable {P : Program} {w : World} {K : PySem.W.Frag} {mg : Str → Option Value} {base : Heap} {C : Addr}
theorem ok_si {f : Addr} {fd : FuncData} (F : Fun K "__init__" "Shaft.__init__" (cSh 0) f fd) (T : ClsS K mg C) (CL : Fn P w K mg base 1 "closed" ["relation"] spCl) : FnOk P w K mg base CX0 2 f fd ["self", "relations", "first_ups", "last_downs"] (spSi C) := by
  refine F.ok scSi (fun vs H Q E h => ?_) (fun cdv A outer s H vs Q E hr h => ?_)
  · obtain ⟨x, dx, R, u, f, d, la, fu, ldn, n, U, F, D, lu, lf, ld, rfl, _⟩ := h
    rfl
  · obtain ⟨x, dx, R, u, f, d, la, fu, ldn, n, U, Fl, D, lu, lf, ld, rfl, hx, hR, rel, q⟩ := h
    have N := scSi.nd
    refine ⟨_, pss_cons (ps_asg (pv 1) (pg_unl rfl (pgs_cons (pg_fld (pv 0)) (pgs_cons (pg_fld (pv 0)) (pgs_cons (pg_fld (pv 0)) (pgs_cons (pg_fld (pv 0)) pgs_nil))))))
      (pss_cons (ps_fld (pv 0) (pv 2) rfl)
      (pss_cons (ps_fld (pv 0) (pv 3) rfl)
      (pss_cons (ps_fld (pv 0) (pe_lst (pa_cons (pe_fn CL hr (pa_cons (pe_fld (pv 0) rfl) pa_nil)) pa_nil)) rfl)
      (pss_cons (ps_fld (pv 0) (pe_lst (pa_cons (pe_fn CL hr (pa_cons (pe_fld (pv 0) rfl) pa_nil)) pa_nil)) rfl)
      (pss_one (ps_fld (pv 0) pe_dnewK rfl)))))), ?_⟩
    have Rx : R ≠ x := ne_lst hR hx
    refine ⟨_, rfl, R, _, rfl, .inl (.inl hR), rfl, ?_⟩
    refine ⟨_, _, rfl, ⟨_, rfl, x, C, dx, _, rfl, hx, T.cl, T.n_u, lt_of20 (Nat.le_refl 0), ?_⟩⟩
    refine ⟨_, _, rfl, ⟨_, rfl, x, C, dx, _, rfl, upd_same, T.cl, T.n_f, lt_of20 (putF_le (Nat.le_refl 0)), ?_⟩⟩
    refine ⟨_, _, rfl, ⟨_, rfl, x, C, dx, _, rfl, upd_same, T.cl, T.n_d, lt_of20 (putF_le (putF_le (Nat.le_refl 0))), ?_⟩⟩
    refine ⟨_, _, rfl, ⟨_, rfl, x, C, dx, _, rfl, upd_same, T.cl, T.n_la, lt_of20 (putF_le (putF_le (putF_le (Nat.le_refl 0)))), rfl, ?_⟩⟩
    refine ⟨_, rfl, _, rfl, x, C, dx, _, rfl, upd_same, T.cl, T.n_fu, lt_of20 (putF_le (putF_le (putF_le (putF_le (Nat.le_refl 0))))), ?_⟩
    refine ⟨_, rfl, _, rfl, x, C, dx, _, rfl, upd_same, T.cl, T.n_ld, lt_of20 (putF_le (putF_le (putF_le (putF_le (putF_le (Nat.le_refl 0)))))), ?_⟩
    generalize hF6 : putF "last_downs" (V.ref ldn) _ = F6
    have l6 : F6.length ≤ 6 := by rw [← hF6]; exact putF_le (putF_le (putF_le (putF_le (putF_le (putF_le (Nat.le_refl 0))))))
    have e6 : F6.lookup ("flats" : Str) = some (.ref f) := by
      rw [← hF6, lookup_putF, if_neg (by decide +kernel), lookup_putF, if_neg (by decide +kernel), lookup_putF, if_neg (by decide +kernel), lookup_putF, if_neg (by decide +kernel), lookup_putF, if_pos rfl]
    generalize hG6 : upd _ x (.ins C dx F6) = G6
    have b6 : ButD x H G6 := fun b o ne e => by
      rw [← hG6]
      simp only [upd_ne ne]
      exact e
    have hx6 : G6 x = some (.ins C dx F6) := by rw [← hG6]; exact upd_same
    have rel6 := rel.butX ⟨_, _, _, hx⟩ b6
    clear hG6
    -- lids
    refine ⟨_, rfl, x, C, dx, _, _, rfl, hx6, T.cl, T.n_f, e6, f, lf, n, Fl, rfl, rel6.hf, rel6.rf, rel6.n100, rel6.if_, fun c1 H1 z1 n1 s1 h1 r1 => ?_⟩
    refine ⟨(by show 1 ≤ sizeLine; decide), fun li hli => ?_⟩
    have s7 := s1.trans (same_upd (o := .lst [.ref c1]) hli)
    refine ⟨_, rfl, x, C, dx, _, rfl, s7 _ _ hx6, T.cl, T.n_li, lt_of20 l6, ?_⟩
    generalize hF7 : putF "_lids" (V.ref li) F6 = F7
    have l7 : F7.length ≤ 7 := by rw [← hF7]; exact putF_le l6
    have e7 : F7.lookup ("flats" : Str) = some (.ref f) := by rw [← hF7, lookup_putF, if_neg (by decide +kernel)]; exact e6
    have b7 : ButD x G6 (upd (upd H1 li (.lst [.ref c1])) x (.ins C dx F7)) := put_x s7
    have lix : li ≠ x := (ne_of_none (s1 _ _ hx6) hli).symm
    have c1x : c1 ≠ x := ne_lst h1 (s1 _ _ hx6)
    have c1li : c1 ≠ li := ne_of_none h1 hli
    have hli7 : upd (upd H1 li (.lst [.ref c1])) x (.ins C dx F7) li = some (.lst [.ref c1]) := by rw [upd_ne lix, upd_same]
    have hc17 : upd (upd H1 li (.lst [.ref c1])) x (.ins C dx F7) c1 = some (.lst (iN z1)) := by rw [upd_ne c1x, upd_ne c1li]; exact h1
    have nli : H li = none := by
      cases e : H li with
      | none => rfl
      | some o => exact absurd (s1 _ _ (b6 _ _ lix e)) (by rw [hli]; exact fun z => nomatch z)
    have rel7 := rel6.butX ⟨_, _, _, hx6⟩ b7
    have B7 := ButD.trans b6 b7
    have hx7 : upd (upd H1 li (.lst [.ref c1])) x (.ins C dx F7) x = some (.ins C dx F7) := upd_same
    generalize upd (upd H1 li (.lst [.ref c1])) x (.ins C dx F7) = G7 at b7 hli7 hc17 rel7 B7 hx7 ⊢
    clear s7 s1 h1 n1 hli b7 rel6 b6 hx6 H1 G6
    -- floors
    refine ⟨_, rfl, x, C, dx, _, _, rfl, hx7, T.cl, T.n_f, e7, f, lf, n, Fl, rfl, rel7.hf, rel7.rf, rel7.n100, rel7.if_, fun c2 H1 z2 n1 s1 h1 r2 => ?_⟩
    refine ⟨(by show 1 ≤ sizeLine; decide), fun fl hfl => ?_⟩
    have s8 := s1.trans (same_upd (o := .lst [.ref c2]) hfl)
    refine ⟨_, rfl, x, C, dx, _, rfl, s8 _ _ hx7, T.cl, T.n_fl, lt_of20 l7, ?_⟩
    generalize hF8 : putF "_floors" (V.ref fl) F7 = F8
    have l8 : F8.length ≤ 8 := by rw [← hF8]; exact putF_le l7
    have b8 : ButD x G7 (upd (upd H1 fl (.lst [.ref c2])) x (.ins C dx F8)) := put_x s8
    have flx : fl ≠ x := (ne_of_none (s1 _ _ hx7) hfl).symm
    have c2x : c2 ≠ x := ne_lst h1 (s1 _ _ hx7)
    have c2fl : c2 ≠ fl := ne_of_none h1 hfl
    have c1fl : c1 ≠ fl := ne_of_none (s1 _ _ hc17) hfl
    have lifl : li ≠ fl := ne_of_none (s1 _ _ hli7) hfl
    have c2li : c2 ≠ li := (ne_of_none hli7 n1).symm
    have hfl8 : upd (upd H1 fl (.lst [.ref c2])) x (.ins C dx F8) fl = some (.lst [.ref c2]) := by rw [upd_ne flx, upd_same]
    have hc28 : upd (upd H1 fl (.lst [.ref c2])) x (.ins C dx F8) c2 = some (.lst (iN z2)) := by rw [upd_ne c2x, upd_ne c2fl]; exact h1
    have nfl : H fl = none := by
      cases e : H fl with
      | none => rfl
      | some o => exact absurd (s1 _ _ (B7 _ _ flx e)) (by rw [hfl]; exact fun z => nomatch z)
    have rel8 := rel7.butX ⟨_, _, _, hx7⟩ b8
    have hli8 := b8 _ _ lix hli7
    have hc18 := b8 _ _ c1x hc17
    have B8 := ButD.trans B7 b8
    have hx8 : upd (upd H1 fl (.lst [.ref c2])) x (.ins C dx F8) x = some (.ins C dx F8) := upd_same
    generalize upd (upd H1 fl (.lst [.ref c2])) x (.ins C dx F8) = G8 at b8 hli8 hc18 hfl8 hc28 rel8 B8 hx8 ⊢
    clear s8 s1 h1 n1 hfl b8 rel7 B7 hx7 hli7 hc17 H1 G7
    -- the dict
    intro wh hwh
    have s1 := same_upd (o := .dK []) hwh
    refine ⟨_, rfl, x, C, dx, _, rfl, s1 _ _ hx8, T.cl, T.n_wh, lt_of20 l8, ?_⟩
    have b9 : ButD x G8 (upd (upd G8 wh (.dK [])) x (.ins C dx (putF "_whole" (V.ref wh) F8))) := put_x s1
    have whx : wh ≠ x := (ne_of_none hx8 hwh).symm
    have nwh : H wh = none := by
      cases e : H wh with
      | none => rfl
      | some o => exact absurd (B8 _ _ whx e) (by rw [hwh]; exact fun z => nomatch z)
    refine q _ li fl wh (ButD.trans B8 b9) ⟨⟨dx, ?_⟩, rel8.butX ⟨_, _, _, hx8⟩ b9, ⟨c1, z1, b9 _ _ lix hli8, b9 _ _ c1x hc18, r1, c1li, c1fl⟩, ⟨c2, z2, b9 _ _ flx hfl8, b9 _ _ c2x hc28, r2, c2li, c2fl⟩, ?_, lifl⟩ nli nfl nwh
    · rw [upd_same, ← hF8, ← hF7, ← hF6]
      rfl
    · rw [upd_ne whx, upd_same]
end
end L2.K73
end

section
set_option Elab.async false
set_option linter.all false
set_option maxRecDepth 100000
set_option maxHeartbeats 4000000
namespace L2.K73
open PySem PySem.Spec PyProof.Rows L2.Gd L2.Lv
/-! ### _grown -/
/-- a list of masks, none of them one of two addresses -/
def MtAt (L O : Addr) (H : Hp) (v : V) (y : List Nat) : Prop := ∃ a, v = .ref a ∧ a ≠ L ∧ a ≠ O ∧ H a = some (.lst (iN y))
/-- all but two -/
def But2 (L O : Addr) (H H' : Hp) : Prop := ∀ b o, b ≠ L → b ≠ O → H b = some o → H' b = some o
/-- the relations that were told so far, from 0 to m -/
structure LotAt (H : Hp) (L O : Addr) (n : Nat) (f : Nat → Rl) (m : Nat) : Prop where
  ls : ∃ xs ys, H L = some (.lst xs) ∧ Paired (MtAt L O H) xs ys ∧ ys.length = m + 1 ∧ ∀ k y, ys[k]? = some y → Rep n y (f k)
  go : ∀ j, j < m → ¬ Stops f j
  oo : ∃ l, H O = some (.lst l)
theorem LotAt.mv {H H' : Hp} {L O : Addr} {n m : Nat} {f : Nat → Rl} (h : LotAt H L O n f m) (b : ∀ t l, H t = some (.lst l) → H' t = some (.lst l)) : LotAt H' L O n f m :=
  have ⟨⟨xs, ys, e, ms, yl, ry⟩, go, ⟨l, eo⟩⟩ := h
  ⟨⟨xs, ys, b _ _ e, Paired.mapP ms fun _ _ ⟨a, e, n1, n2, q⟩ => ⟨a, e, n1, n2, b _ _ q⟩, yl, ry⟩, go, ⟨l, b _ _ eo⟩⟩
/-- the words that are in the dict -/
def HasW (ks : List (Key × V)) (w : Str) : Prop := (valV ks (.inr w)).isSome = true
theorem hasW_app {w : Str} {x : V} : ∀ (l : List (Key × V)), HasW (l ++ [(.inr w, x)]) w
  | [] => by
    show (valV [((.inr w : Key), x)] (.inr w)).isSome = true
    rw [valV_pos rfl]
    rfl
  | q :: r => by
    show (valV (q :: (r ++ [(.inr w, x)])) (.inr w)).isSome = true
    by_cases e : q.1 = .inr w
    · rw [valV_pos e]
      rfl
    · rw [valV_neg e]
      exact hasW_app r
theorem hasW_ne {v w : Str} {x : V} (h : v ≠ w) : ∀ (l : List (Key × V)), HasW (l ++ [(.inr w, x)]) v ↔ HasW l v
  | [] => by
    show (valV [((.inr w : Key), x)] (.inr v)).isSome = true ↔ (valV ([] : List (Key × V)) (.inr v)).isSome = true
    rw [valV_neg (fun z => h (Sum.inr.inj z).symm)]
  | q :: r => by
    show (valV (q :: (r ++ [(.inr w, x)])) (.inr v)).isSome = true ↔ (valV (q :: r) (.inr v)).isSome = true
    by_cases e : q.1 = .inr v
    · rw [valV_pos e, valV_pos e]
    · rw [valV_neg e, valV_neg e]
      exact hasW_ne h r
def spGw (C : Addr) (K : PySem.W.Frag) : Sp := fun vs H Q _ => ∃ (x dx u f d la fu ldn li fl wh L O a b : Addr) (w : Str) (N n m : Nat) (U F D : Rl) (lf lu ld : List Nat) (ks : List (Key × V)), vs = [.ref x, .str w, .ref L, .ref a, .ref b, .int (N : Nat)] ∧
  H x = some (.ins C dx (fSh u f d la fu ldn li fl wh)) ∧ ShRel H n U F D a f b lu lf ld ∧ LotAt H L O n (Lid n U F D) m ∧ H wh = some (.dK ks) ∧ (HasW ks w → Stops (Lid n U F D) m) ∧ ks.length ≤ 2 ∧ 1 ≤ n ∧ n ≤ 16 ∧ a ≠ L ∧ f ≠ L ∧ b ≠ L ∧
  ∀ H' p y m' ks', But2 L wh H H' → LotAt H' L O n (Lid n U F D) m' → H' wh = some (.dK ks') → (∀ v, v ≠ w → (HasW ks' v ↔ HasW ks v)) → (HasW ks' w → Stops (Lid n U F D) m') → (N ≤ m' ∨ Stops (Lid n U F D) m') → ks'.length ≤ ks.length + 1 →
    H' p = some (.lst (iN y)) → Rep n y (Lid n U F D N) → p ≠ L → p ≠ O → Q (.ref p) H'
def NGw : List Str := ["self", "word", "lots", "ahead", "behind", "number", "more"]
theorem scGw : FnScope NGw ["self", "word", "lots", "ahead", "behind", "number"] (defScope (cSh 2)) := ⟨rfl, rfl, rfl, by decide +kernel, rfl, by decide +kernel, by decide +kernel⟩
section
variable {P : Program} {w : World} {K : PySem.W.Frag} {mg : Str → Option Value} {base : Heap} {C : Addr}
theorem ok_gw {f : Addr} {fd : FuncData} (F : Fun K "_grown" "Shaft._grown" (cSh 2) f fd) (n : Nm mg) (T : ClsS K mg C) (CL : Fn P w K mg base 1 "closed" ["relation"] spCl) (JO : Fn P w K mg base 1 "joined" ["one", "two"] spJoi) (FO : Fn P w K mg base 3 "followed" ["one", "two"] spFol) :
    FnOk P w K mg base CX0 4 f fd ["self", "word", "lots", "ahead", "behind", "number"] (spGw C K) := by
  refine F.ok scGw (fun vs H Q E h => ?_) (fun cdv A outer s H vs Q E hr h => ?_)
  · obtain ⟨x, dx, u, f, d, la, fu, ldn, li, fl, wh, L, O, a, b, wd, NN, n, m, U, Fl, D, lf, lu, ld, ks, rfl, _⟩ := h
    rfl
  · obtain ⟨x, dx, u, f, d, la, fu, ldn, li, fl, wh, L, O, a, b, wd, NN, nn, m, U, Fl, D, lf, lu, ld, ks, rfl, hx, rel, lot, hwh, wst, k2, n1, n16, aL, fL, bL, q⟩ := h
    have N := scGw.nd
    have hu := hu_of hr
    have r1 := hr.mono (k := 3) (j := 1) (by decide)
    refine ⟨_, pss_cons (ps_while PassesOwn.never (PW.pt (pw_and (pt_cmpR op_ge (pv 5) (pe_callB call_len_seq (by rfl) n.len PySem.boot_len (pa_cons (pv 2) pa_nil)) (nomark _)) (pw_and1 (pt_cmp (pc_dnotin hu (pv 1) (pe_fld (pv 0) rfl))))))
        (pss_cons (ps_set (i := 6) N rfl (.inl rfl) (pe_fn CL r1 (pa_cons (pe_fn JO r1 (pa_cons (pe_fld (pv 0) rfl) (pa_cons (pe_fn FO hr (pa_cons (pe_fn FO hr (pa_cons (pv 3) (pa_cons (pe_ix ix_list (pv 2) (pe_un un_neg pe_int) (fun _ _ => rfl)) pa_nil))) (pa_cons (pv 4) pa_nil))) pa_nil))) pa_nil)))
        (pss_one (ps_if (pt_cmpR (op_eqD hr.units) (pv 6) (pe_ix ix_list (pv 2) (pe_un un_neg pe_int) (fun _ _ => rfl)) (nomark _))
          (pss_one (ps_dput hu (pe_fld (pv 0) rfl) (pv 1) pe_bl rfl))
          (pss_one (ps_expr (pe_bm PySem.F.plainAttrs_list PySem.F.slot_list_append PySem.F.type_list_append mt_append (pv 2) (pa_cons (pv 6) pa_nil))))))))
      (pss_one (ps_ret (pe_ix ix_list (pv 2) (pe_callB (call_min2 rfl) (by rfl) n.min (by decide +kernel) (pa_cons (pv 5) (pa_cons (pe_op op_sub (pe_callB call_len_seq (by rfl) n.len PySem.boot_len (pa_cons (pv 2) pa_nil)) pe_int) pa_nil))) (fun _ _ => rfl)))), ?_⟩
    obtain ⟨m0, m0n, mst, mno⟩ := lid_chain (n := nn) (U := U) (F := Fl) (D := D) n1
    refine ⟨fun μ σ H2 => ∃ (m' : Nat) (ks' : List (Key × V)) (v6 : Option V), μ = 2 * (m0 - m') + (if (valV ks' (.inr wd)).isSome = true then 0 else 1) ∧ σ = [some (.ref x), some (.str wd), some (.ref L), some (.ref a), some (.ref b), some (.int (NN : Nat)), v6] ∧ But2 L wh H H2 ∧ LotAt H2 L O nn (Lid nn U Fl D) m' ∧ H2 wh = some (.dK ks') ∧ (∀ v, v ≠ wd → (HasW ks' v ↔ HasW ks v)) ∧ (HasW ks' wd → Stops (Lid nn U Fl D) m') ∧ ks'.length ≤ ks.length + 1 ∧ (¬ HasW ks' wd → ks'.length ≤ ks.length),
      ⟨_, m, ks, none, rfl, rfl, fun _ _ _ _ e => e, lot, hwh, fun _ _ => Iff.rfl, wst, Nat.le_succ _, fun _ => Nat.le_refl _⟩, ?_⟩
    have xL : x ≠ L := fun z => by
      obtain ⟨⟨xs, ys, e, _⟩, _, _⟩ := lot
      rw [z, e] at hx
      exact nomatch hx
    have xW : x ≠ wh := fun z => by
      rw [z, hwh] at hx
      exact nomatch hx
    have WL : wh ≠ L := fun z => by
      obtain ⟨⟨xs, ys, e, _⟩, _, _⟩ := lot
      rw [z, e] at hwh
      exact nomatch hwh
    have lW : ∀ {t : Addr} {l : List V}, H t = some (.lst l) → t ≠ wh := fun e z => by
      rw [z, hwh] at e
      exact nomatch e
    have aW := lW rel.hu
    have fW := lW rel.hf
    have bW := lW rel.hd
    clear lot hwh wst lW
    rintro μ σ H2 ⟨m', ks', v6, rfl, rfl, b2, lot, hwh, oth, wst, kl, kl2⟩
    have hx2 := b2 _ _ xL xW hx
    have rel2 : ShRel H2 nn U Fl D a f b lu lf ld := ⟨b2 _ _ aL aW rel.hu, b2 _ _ fL fW rel.hf, b2 _ _ bL bW rel.hd, rel.ru, rel.rf, rel.rd, rel.iu, rel.if_, rel.id, rel.n100⟩
    obtain ⟨⟨xs, ys, hL, ms, yl, ry⟩, go, ⟨ol, hO⟩⟩ := id lot
    have xl : xs.length = m' + 1 := (Paired.length ms).trans yl
    refine ⟨_, rfl, _, rfl, L, xs, rfl, .inl (.inl (.inl hL)), _, _, rfl, rfl, decide (((NN : Nat) : Int) ≥ (xs.length : Int)), rfl, ?_⟩
    obtain ⟨x0, hx0⟩ : ∃ x0, xs[min NN m']? = some x0 := ⟨_, List.getElem?_eq_getElem (by rw [xl]; omega)⟩
    obtain ⟨z, hz, p, rfl, pL, pO, hp⟩ := Paired.at ms hx0
    have em : (if ((xs.length : Nat) : Int) - 1 < ((NN : Nat) : Int) then ((xs.length : Nat) : Int) - 1 else ((NN : Nat) : Int)) = ((min NN m' : Nat) : Int) := by
      rw [xl]
      split <;> omega
    have rz : (NN ≤ m' ∨ Stops (Lid nn U Fl D) m') → Rep nn z (Lid nn U Fl D NN) := fun hf => by
      have r := ry _ _ hz
      by_cases h : NN ≤ m'
      · rw [Nat.min_eq_left h] at r
        exact r
      · rw [Nat.min_eq_right (by omega)] at r
        rcases hf with hf | hf
        · exact absurd hf h
        · exact r.iff fun a b => (lid_far hf (by omega) a b).symm
    by_cases hN : NN < m' + 1
    · rw [decide_eq_false (by omega)]
      refine iteF (iteF ?_)
      have hfin : NN ≤ m' ∨ Stops (Lid nn U Fl D) m' := .inl (by omega)
      refine ⟨_, rfl, _, rfl, _, rfl, L, xs, rfl, .inl (.inl (.inl hL)), _, _, rfl, rfl, _, _, rfl, L, xs, _, _, rfl, rfl, .inl (.inl hL), em ▸ atI_nat hx0, ?_⟩
      exact q H2 p z m' ks' b2 lot hwh oth wst hfin kl hp (rz hfin) pL pO
    · rw [decide_eq_true (by omega)]
      refine iteT ⟨_, rfl, _, rfl, x, C, dx, _, _, rfl, hx2, T.cl, T.n_wh, fSh_wh .., wh, _, rfl, .k (k := .inr wd) hwh, _, rfl, ?_⟩
      cases hv : (valV ks' (.inr wd)).isSome with
      | true =>
        refine iteF ?_
        have hfin : NN ≤ m' ∨ Stops (Lid nn U Fl D) m' := .inr (wst hv)
        refine ⟨_, rfl, _, rfl, _, rfl, L, xs, rfl, .inl (.inl (.inl hL)), _, _, rfl, rfl, _, _, rfl, L, xs, _, _, rfl, rfl, .inl (.inl hL), em ▸ atI_nat hx0, ?_⟩
        exact q H2 p z m' ks' b2 lot hwh oth wst hfin kl hp (rz hfin) pL pO
      | false =>
        refine iteT ⟨_, fun σ' H' h => h, ?_⟩
        have nw : ¬ HasW ks' wd := fun h => by
          have h : (valV ks' (.inr wd)).isSome = true := h
          rw [hv] at h
          exact nomatch h
        have hv0 : valV ks' (.inr wd) = none := by
          cases e : valV ks' (.inr wd) with
          | none => rfl
          | some t =>
            rw [e] at hv
            exact nomatch hv
        obtain ⟨xe, hxe⟩ : ∃ xe, xs[m']? = some xe := ⟨_, List.getElem?_eq_getElem (by rw [xl]; omega)⟩
        obtain ⟨y0, hy0, a0, rfl, a0L, a0O, ha0⟩ := Paired.at ms hxe
        obtain ⟨vs0, ex⟩ := List.getLast?_eq_some_iff.mp (show xs.getLast? = some (.ref a0) by rw [List.getLast?_eq_getElem?, xl]; exact hxe)
        have hlast : atI xs (-1) = some (.ref a0) := by
          rw [ex]
          exact atI_last _ _
        have ry0 := ry _ _ hy0
        refine seqV (Good := fun σ3 H6 => ∃ (o : Addr) (z' : List Nat), H2 o = none ∧ Same H2 H6 ∧ H6 o = some (.lst (iN z')) ∧ Rep nn z' (Lid nn U Fl D (m' + 1)) ∧ σ3 = [some (.ref x), some (.str wd), some (.ref L), some (.ref a), some (.ref b), some (.int (NN : Nat)), some (.ref o)]) ?_ ?_
        · intro nx hnx
          refine ⟨_, rfl, x, C, dx, _, _, rfl, hx2, T.cl, T.n_f, fSh_f .., _, rfl, _, rfl, 1, rfl, L, xs, _, _, rfl, rfl, .inl (.inl hL), hlast, a, a0, lu, y0, nn, U, _, rfl, rel2.hu, ha0, rel2.ru, ry0, rel2.n100, rel2.iu, fun q1 H6 z1 _ s6 h6 r6 => ?_⟩
          refine ⟨_, rfl, q1, b, z1, ld, nn, _, D, rfl, h6, s6 _ _ rel2.hd, r6, rel2.rd, rel2.n100, rel2.iu.cp (lid_in m'), fun q2 H7 z2 _ s7 h7 r7 => ?_⟩
          have s67 := s6.trans s7
          refine ⟨f, q2, lf, z2, nn, _, _, rfl, s67 _ _ rel2.hf, h7, rel2.rf, r7, rel2.n100, fun q3 H8 z3 _ s8 h8 r8 => ?_⟩
          have s68 := s67.trans s8
          refine ⟨q3, z3, nn, _, rfl, h8, r8, rel2.n100, rel2.if_.or ((rel2.iu.cp (lid_in m')).cp rel2.id), fun q4 H9 z4 n9 s9 h9 r9 => ?_⟩
          exact hnx _ _ ⟨q4, z4, s68.free n9, s68.trans s9, h9, r9, rfl⟩
        rintro _ H6 ⟨o, z', no, s6, ho, rz', rfl⟩
        have hL6 := s6 _ _ hL
        have ha6 := s6 _ _ ha0
        have hx6 := s6 _ _ hx2
        have hwh6 := s6 _ _ hwh
        have lot6 := lot.mv (H' := H6) fun t l e => s6 _ _ e
        refine ⟨_, rfl, _, rfl, 1, rfl, L, xs, _, _, rfl, rfl, .inl (.inl hL6), hlast, ?_⟩
        refine ⟨_, _, dp_ints ho, dp_ints ha6, ints_shaped _, ints_shaped _, _, congrArg V.bl (eqv_ints z' y0), ?_⟩
        have mm0 : m' ≤ m0 := Nat.le_of_not_lt fun h => go m0 h mst
        by_cases e : z' = y0
        · rw [decide_eq_true e]
          refine iteT ⟨_, rfl, x, C, dx, _, _, rfl, hx6, T.cl, T.n_wh, fSh_wh .., _, rfl, wh, _, rfl, .k (k := .inr wd) hwh6 (by rw [sizeLine_eq]; omega), ?_⟩
          rw [putK_new _ hv0]
          refine ⟨_, ?_, m', ks' ++ [(.inr wd, .bl true)], some (.ref o), rfl, rfl, fun t l n1 n2 e => ?_, lot6.mv fun t l e => ?_, upd_same, fun v hv => (hasW_ne hv ks').trans (oth v hv), fun _ => (rz'.ext ry0).mp e, ?_, fun h => absurd (hasW_app ks') h⟩
          · rw [if_pos (show (valV (ks' ++ [((.inr wd : Key), V.bl true)]) (.inr wd)).isSome = true from hasW_app ks'), if_neg (show ¬ false = true by decide)]
            omega
          · rw [upd_ne n2]
            exact s6 _ _ (b2 t l n1 n2 e)
          · rw [upd_ne (fun z => by
              rw [z, hwh6] at e
              exact nomatch e)]
            exact e
          · have := kl2 nw
            rw [List.length_append]
            show ks'.length + 1 ≤ _
            omega
        · rw [decide_eq_false e]
          refine iteF ⟨_, rfl, .inl ⟨rfl, _, .inl (.inl hL6)⟩, _, rfl, L, _, _, rfl, rfl, hL6, ?_, ?_⟩
          · have : nn * nn ≤ 16 * 16 := Nat.mul_le_mul n16 n16
            rw [sizeLine_eq]
            omega
          · have oL : o ≠ L := fun z => by
              rw [z, hL] at no
              exact nomatch no
            have oO : o ≠ O := fun z => by
              rw [z, hO] at no
              exact nomatch no
            have nst : ¬ Stops (Lid nn U Fl D) m' := fun h => e ((rz'.ext ry0).mpr h)
            have m1 : m' + 1 ≤ m0 := by
              by_cases h : m' = m0
              · exact absurd (h ▸ mst) nst
              · omega
            refine ⟨_, ?_, m' + 1, ks', some (.ref o), rfl, rfl, fun t l n1 n2 e => ?_, ⟨⟨xs ++ [.ref o], ys ++ [z'], upd_same, PySem.Paired.snoc (Paired.mapP ms fun _ _ ⟨a, e, n1, n2, q⟩ => ⟨a, e, n1, n2, ?_⟩) ⟨o, rfl, oL, oO, ?_⟩, ?_, fun k y ek => ?_⟩, fun j hj => ?_, ?_⟩, ?_, oth, fun h => absurd h nw, kl, kl2⟩
            · repeat' split
              all_goals omega
            · rw [upd_ne n1]
              exact s6 _ _ (b2 t l n1 n2 e)
            · rw [upd_ne n1]
              exact s6 _ _ q
            · rw [upd_ne oL]
              exact ho
            · rw [List.length_append, yl]
              rfl
            · rw [List.getElem?_append] at ek
              split at ek
              · exact ry k y ek
              · have : k = m' + 1 := by
                  have := (List.getElem?_eq_some_iff.mp ek).1
                  simp at this
                  omega
                subst this
                rw [yl, Nat.sub_self] at ek
                obtain rfl := Option.some.inj ek
                exact rz'
            · by_cases h : j = m'
              · rw [h]
                exact nst
              · exact go j (by omega)
            · by_cases h : O = L
              · rw [h]
                exact ⟨_, upd_same⟩
              · rw [upd_ne h]
                exact ⟨_, s6 _ _ hO⟩
            · rw [upd_ne WL]
              exact hwh6
end
end L2.K73
end

section
set_option Elab.async false
set_option linter.all false
set_option maxRecDepth 100000
set_option maxHeartbeats 4000000
namespace L2.K73
open PySem PySem.Spec PyProof.Rows L2.Gd L2.Lv
section
variable {X : Cx} {C : Addr} {x : Str} {k : Nat} {ps : List Str} {sp : Sp} {o e : Expr} {es : List Expr} {ta : TE} {t : TA} {apos pos : Pos}
theorem pe_mP {pl : Sem Bool} (M : MeH X.prog X.w X.K X.mg X.base C x k ps sp) (T : Cls X.K C) (hr : Room k X.A) (he : PE X o ta) (ha : PA X (e :: es) t)
    (hst : starEach (e :: es) X.env = (false, eval e X.env) :: starEach es X.env := by rfl) (hpl : (backTo pos (starEach es X.env)).any (·.1) = false := by rfl)
    (ht : eval (.Call (.Attribute o x apos) (e :: es) [] pos) X.env = (do
      let ov ← eval o X.env
      standAt apos.atName
      let (f, first) ← holding [ov] (getMethod ov x pl)
      callWith pos f first (backTo pos (starEach (e :: es) X.env)) (backToKw pos (keywordEach [] X.env))) := by rfl) :
    PE X (.Call (.Attribute o x apos) (e :: es) [] pos) (tMeth C x sp [] E0 ta t) := by
  obtain ⟨f, fd, hm, b, F⟩ := M.ex
  exact pe_meth he T hm F hr b .nil pass0 ha hst hpl ht
end
/-! ### lid, floor -/
/-- a Shaft, as far as it was asked -/
structure ShAt (C : Addr) (H : Hp) (x : Addr) (n : Nat) (U F D : Rl) (u f d la fu ldn li fl wh : Addr) (lu lf ld : List Nat) (ml mf : Nat) (ks : List (Key × V)) : Prop where
  ob : ∃ dx, H x = some (.ins C dx (fSh u f d la fu ldn li fl wh))
  rel : ShRel H n U F D u f d lu lf ld
  lids : LotAt H li fl n (Lid n U F D) ml
  floors : LotAt H fl li n (Lid n D F U) mf
  whole : H wh = some (.dK ks)
  wl : HasW ks "lid" → Stops (Lid n U F D) ml
  wf : HasW ks "floor" → Stops (Lid n D F U) mf
  ne : li ≠ fl
  nl : u ≠ li ∧ f ≠ li ∧ d ≠ li
  nf : u ≠ fl ∧ f ≠ fl ∧ d ≠ fl
/-- all but the two lists and the dict -/
def But3 (li fl wh : Addr) (H H' : Hp) : Prop := ∀ b o, b ≠ li → b ≠ fl → b ≠ wh → H b = some o → H' b = some o
theorem But3.trans {li fl wh : Addr} {H H1 H2 : Hp} (a : But3 li fl wh H H1) (b : But3 li fl wh H1 H2) : But3 li fl wh H H2 := fun t o n1 n2 n3 e => b t o n1 n2 n3 (a t o n1 n2 n3 e)
theorem ShRel.flip {H : Hp} {n : Nat} {U F D : Rl} {u f d : Addr} {lu lf ld : List Nat} (r : ShRel H n U F D u f d lu lf ld) : ShRel H n D F U d f u ld lf lu := ⟨r.hd, r.hf, r.hu, r.rd, r.rf, r.ru, r.id, r.if_, r.iu, r.n100⟩
theorem ne_dK {H : Hp} {t wh : Addr} {l : List V} {ks : List (Key × V)} (hw : H wh = some (.dK ks)) (h : H t = some (.lst l)) : t ≠ wh := fun z => by
  rw [z, hw] at h
  exact nomatch h
theorem LotAt.but {H H' : Hp} {L O wh : Addr} {n m : Nat} {f : Nat → Rl} {ks : List (Key × V)} (h : LotAt H L O n f m) (ne : L ≠ O) (ho : ∃ l, H' O = some (.lst l)) (hw : H wh = some (.dK ks)) (b : But2 O wh H H') : LotAt H' L O n f m :=
  have ⟨⟨xs, ys, e, ms, yl, ry⟩, go, _⟩ := h
  ⟨⟨xs, ys, b _ _ ne (ne_dK hw e) e, Paired.mapP ms fun _ _ ⟨a, e, n1, n2, q⟩ => ⟨a, e, n1, n2, b _ _ n2 (ne_dK hw q) q⟩, yl, ry⟩, go, ho⟩
theorem ShRel.but2 {H H' : Hp} {n : Nat} {U F D : Rl} {u f d L wh : Addr} {lu lf ld : List Nat} {ks : List (Key × V)} (r : ShRel H n U F D u f d lu lf ld) (hw : H wh = some (.dK ks)) (h : u ≠ L ∧ f ≠ L ∧ d ≠ L) (b : But2 L wh H H') : ShRel H' n U F D u f d lu lf ld :=
  ⟨b _ _ h.1 (ne_dK hw r.hu) r.hu, b _ _ h.2.1 (ne_dK hw r.hf) r.hf, b _ _ h.2.2 (ne_dK hw r.hd) r.hd, r.ru, r.rf, r.rd, r.iu, r.if_, r.id, r.n100⟩
theorem LotAt.lst {H : Hp} {L O : Addr} {n m : Nat} {f : Nat → Rl} (h : LotAt H L O n f m) : ∃ l, H L = some (.lst l) := have ⟨⟨xs, _, e, _⟩, _, _⟩ := h; ⟨xs, e⟩
theorem ne_ob {H : Hp} {x C dx t : Addr} {fs : List (Str × V)} {l : List V} (hx : H x = some (.ins C dx fs)) (h : H t = some (.lst l)) : x ≠ t := fun z => by
  rw [← z, hx] at h
  exact nomatch h
theorem ne_obK {H : Hp} {x C dx t : Addr} {fs : List (Str × V)} {ks : List (Key × V)} (hx : H x = some (.ins C dx fs)) (h : H t = some (.dK ks)) : x ≠ t := fun z => by
  rw [← z, hx] at h
  exact nomatch h
theorem ShAt.lidded {C : Addr} {H H1 : Hp} {x u f d la fu ldn li fl wh : Addr} {n : Nat} {U F D : Rl} {lu lf ld : List Nat} {ml mf ml' : Nat} {ks ks' : List (Key × V)} (sh : ShAt C H x n U F D u f d la fu ldn li fl wh lu lf ld ml mf ks) (b : But2 li wh H H1) (lot : LotAt H1 li fl n (Lid n U F D) ml') (hw : H1 wh = some (.dK ks')) (oth : ∀ v : Str, v ≠ "lid" → (HasW ks' v ↔ HasW ks v)) (wst : HasW ks' "lid" → Stops (Lid n U F D) ml') :
    ShAt C H1 x n U F D u f d la fu ldn li fl wh lu lf ld ml' mf ks' := by
  obtain ⟨dx, hx⟩ := sh.ob
  obtain ⟨l, el⟩ := sh.lids.lst
  exact ⟨⟨dx, b _ _ (ne_ob hx el) (ne_obK hx sh.whole) hx⟩, sh.rel.but2 sh.whole sh.nl b, lot, sh.floors.but (Ne.symm sh.ne) lot.lst sh.whole b, hw, wst, fun h => sh.wf ((oth "floor" (by decide +kernel)).mp h), sh.ne, sh.nl, sh.nf⟩
theorem ShAt.floored {C : Addr} {H H1 : Hp} {x u f d la fu ldn li fl wh : Addr} {n : Nat} {U F D : Rl} {lu lf ld : List Nat} {ml mf mf' : Nat} {ks ks' : List (Key × V)} (sh : ShAt C H x n U F D u f d la fu ldn li fl wh lu lf ld ml mf ks) (b : But2 fl wh H H1) (lot : LotAt H1 fl li n (Lid n D F U) mf') (hw : H1 wh = some (.dK ks')) (oth : ∀ v : Str, v ≠ "floor" → (HasW ks' v ↔ HasW ks v)) (wst : HasW ks' "floor" → Stops (Lid n D F U) mf') :
    ShAt C H1 x n U F D u f d la fu ldn li fl wh lu lf ld ml mf' ks' := by
  obtain ⟨dx, hx⟩ := sh.ob
  obtain ⟨l, el⟩ := sh.floors.lst
  exact ⟨⟨dx, b _ _ (ne_ob hx el) (ne_obK hx sh.whole) hx⟩, sh.rel.but2 sh.whole sh.nf b, sh.lids.but sh.ne lot.lst sh.whole b, lot, hw, fun h => sh.wl ((oth "lid" (by decide +kernel)).mp h), wst, sh.ne, sh.nl, sh.nf⟩
def spLi (C : Addr) : Sp := fun vs H Q _ => ∃ (x u f d la fu ldn li fl wh : Addr) (N n ml mf : Nat) (U F D : Rl) (lu lf ld : List Nat) (ks : List (Key × V)), vs = [.ref x, .int (N : Nat)] ∧ ShAt C H x n U F D u f d la fu ldn li fl wh lu lf ld ml mf ks ∧ ks.length ≤ 1 ∧ 1 ≤ n ∧ n ≤ 16 ∧
  ∀ H' p y ml' ks', But3 li fl wh H H' → ShAt C H' x n U F D u f d la fu ldn li fl wh lu lf ld ml' mf ks' → ks'.length ≤ ks.length + 1 → (N ≤ ml' ∨ Stops (Lid n U F D) ml') → H' p = some (.lst (iN y)) → Rep n y (Lid n U F D N) → p ≠ li → p ≠ fl → Q (.ref p) H'
def spFo2 (C : Addr) : Sp := fun vs H Q _ => ∃ (x u f d la fu ldn li fl wh : Addr) (N n ml mf : Nat) (U F D : Rl) (lu lf ld : List Nat) (ks : List (Key × V)), vs = [.ref x, .int (N : Nat)] ∧ ShAt C H x n U F D u f d la fu ldn li fl wh lu lf ld ml mf ks ∧ ks.length ≤ 1 ∧ 1 ≤ n ∧ n ≤ 16 ∧
  ∀ H' p y mf' ks', But3 li fl wh H H' → ShAt C H' x n U F D u f d la fu ldn li fl wh lu lf ld ml mf' ks' → ks'.length ≤ ks.length + 1 → (N ≤ mf' ∨ Stops (Lid n D F U) mf') → H' p = some (.lst (iN y)) → Rep n y (Lid n D F U N) → p ≠ li → p ≠ fl → Q (.ref p) H'
theorem scLi : FnScope ["self", "room"] ["self", "room"] (defScope (cSh 3)) := ⟨rfl, rfl, rfl, by decide +kernel, rfl, by decide +kernel, by decide +kernel⟩
theorem scFo2 : FnScope ["self", "room"] ["self", "room"] (defScope (cSh 4)) := ⟨rfl, rfl, rfl, by decide +kernel, rfl, by decide +kernel, by decide +kernel⟩
section
variable {P : Program} {w : World} {K : PySem.W.Frag} {mg : Str → Option Value} {base : Heap} {C : Addr}
theorem ok_li {f : Addr} {fd : FuncData} (F : Fun K "lid" "Shaft.lid" (cSh 3) f fd) (T : ClsS K mg C) (GW : MeH P w K mg base C "_grown" 4 ["self", "word", "lots", "ahead", "behind", "number"] (spGw C K)) :
    FnOk P w K mg base CX0 5 f fd ["self", "room"] (spLi C) := by
  refine F.ok scLi (fun vs H Q E h => ?_) (fun cdv A outer s H vs Q E hr h => ?_)
  · obtain ⟨x, u, f, d, la, fu, ldn, li, fl, wh, NN, n, ml, mf, U, F, D, lu, lf, ld, ks, rfl, _⟩ := h
    rfl
  · obtain ⟨x, u, f, d, la, fu, ldn, li, fl, wh, NN, n, ml, mf, U, Fl, D, lu, lf, ld, ks, rfl, sh, k1, n1, n16, q⟩ := h
    have N := scLi.nd
    refine ⟨_, pss_one (ps_ret (pe_mP GW T.cl hr (pv 0) (pa_cons pe_str (pa_cons (pe_fld (pv 0) rfl) (pa_cons (pe_fld (pv 0) rfl) (pa_cons (pe_fld (pv 0) rfl) (pa_cons (pv 1) pa_nil))))))), ?_⟩
    obtain ⟨dx, hx⟩ := sh.ob
    refine ⟨_, rfl, x, dx, _, rfl, hx, fSh_m_grown .., ?_⟩
    refine ⟨_, rfl, x, C, dx, _, _, rfl, hx, T.cl, T.n_li, fSh_li .., _, rfl, x, C, dx, _, _, rfl, hx, T.cl, T.n_u, fSh_u .., _, rfl, x, C, dx, _, _, rfl, hx, T.cl, T.n_d, fSh_d .., _, rfl, ?_⟩
    refine ⟨x, dx, u, f, d, la, fu, ldn, li, fl, wh, li, fl, u, d, "lid", NN, n, ml, U, Fl, D, lf, lu, ld, ks, rfl, hx, sh.rel, sh.lids, sh.whole, sh.wl, by omega, n1, n16, sh.nl.1, sh.nl.2.1, sh.nl.2.2, fun H1 p y ml' ks' b1 lot hw oth wst nfin kl hp rp pL pO => ?_⟩
    exact q H1 p y ml' ks' (fun t o n1 _ n3 e => b1 t o n1 n3 e) (sh.lidded b1 lot hw oth wst) kl nfin hp rp pL pO
theorem ok_fo2 {f : Addr} {fd : FuncData} (F : Fun K "floor" "Shaft.floor" (cSh 4) f fd) (T : ClsS K mg C) (GW : MeH P w K mg base C "_grown" 4 ["self", "word", "lots", "ahead", "behind", "number"] (spGw C K)) :
    FnOk P w K mg base CX0 5 f fd ["self", "room"] (spFo2 C) := by
  refine F.ok scFo2 (fun vs H Q E h => ?_) (fun cdv A outer s H vs Q E hr h => ?_)
  · obtain ⟨x, u, f, d, la, fu, ldn, li, fl, wh, NN, n, ml, mf, U, F, D, lu, lf, ld, ks, rfl, _⟩ := h
    rfl
  · obtain ⟨x, u, f, d, la, fu, ldn, li, fl, wh, NN, n, ml, mf, U, Fl, D, lu, lf, ld, ks, rfl, sh, k1, n1, n16, q⟩ := h
    have N := scFo2.nd
    refine ⟨_, pss_one (ps_ret (pe_mP GW T.cl hr (pv 0) (pa_cons pe_str (pa_cons (pe_fld (pv 0) rfl) (pa_cons (pe_fld (pv 0) rfl) (pa_cons (pe_fld (pv 0) rfl) (pa_cons (pv 1) pa_nil))))))), ?_⟩
    obtain ⟨dx, hx⟩ := sh.ob
    refine ⟨_, rfl, x, dx, _, rfl, hx, fSh_m_grown .., ?_⟩
    refine ⟨_, rfl, x, C, dx, _, _, rfl, hx, T.cl, T.n_fl, fSh_fl .., _, rfl, x, C, dx, _, _, rfl, hx, T.cl, T.n_d, fSh_d .., _, rfl, x, C, dx, _, _, rfl, hx, T.cl, T.n_u, fSh_u .., _, rfl, ?_⟩
    refine ⟨x, dx, u, f, d, la, fu, ldn, li, fl, wh, fl, li, d, u, "floor", NN, n, mf, D, Fl, U, lf, ld, lu, ks, rfl, hx, sh.rel.flip, sh.floors, sh.whole, sh.wf, by omega, n1, n16, sh.nf.2.2, sh.nf.2.1, sh.nf.1, fun H1 p y mf' ks' b1 lot hw oth wst nfin kl hp rp pL pO => ?_⟩
    exact q H1 p y mf' ks' (fun t o _ n2 n3 e => b1 t o n2 n3 e) (sh.floored b1 lot hw oth wst) kl nfin hp rp pO pL
end
end L2.K73
end

section
set_option Elab.async false
set_option linter.all false
set_option maxRecDepth 100000
set_option maxHeartbeats 4000000
namespace L2.K73
open PySem PySem.Spec PyProof.Rows L2.Gd L2.Lv
/-! ### band -/
theorem But3.refl {li fl wh : Addr} {H : Hp} : But3 li fl wh H H := fun _ _ _ _ _ e => e
theorem Same.but3 {li fl wh : Addr} {H H' : Hp} (s : Same H H') : But3 li fl wh H H' := fun _ _ _ _ _ e => s _ _ e
theorem ShAt.same {C : Addr} {H H1 : Hp} {x u f d la fu ldn li fl wh : Addr} {n : Nat} {U F D : Rl} {lu lf ld : List Nat} {ml mf : Nat} {ks : List (Key × V)} (sh : ShAt C H x n U F D u f d la fu ldn li fl wh lu lf ld ml mf ks) (s : Same H H1) : ShAt C H1 x n U F D u f d la fu ldn li fl wh lu lf ld ml mf ks := by
  obtain ⟨dx, hx⟩ := sh.ob
  have r := sh.rel
  exact ⟨⟨dx, s _ _ hx⟩, ⟨s _ _ r.hu, s _ _ r.hf, s _ _ r.hd, r.ru, r.rf, r.rd, r.iu, r.if_, r.id, r.n100⟩, sh.lids.mv fun _ _ e => s _ _ e, sh.floors.mv fun _ _ e => s _ _ e, s _ _ sh.whole, sh.wl, sh.wf, sh.ne, sh.nl, sh.nf⟩
def spBd (C : Addr) : Sp := fun vs H Q _ => ∃ (x u f d la fu ldn li fl wh : Addr) (l h n ml mf : Nat) (U F D : Rl) (lu lf ld : List Nat), vs = [.ref x, .int (l : Nat), .int (h : Nat)] ∧ ShAt C H x n U F D u f d la fu ldn li fl wh lu lf ld ml mf [] ∧ 1 ≤ n ∧ n ≤ 16 ∧
  ∀ H' p y, But3 li fl wh H H' → H' p = some (.lst (iN y)) → Rep n y (Band n U F D l h) → Q (.ref p) H'
theorem scBd : FnScope ["self", "low", "high", "out"] ["self", "low", "high"] (defScope (cSh 9)) := ⟨rfl, rfl, rfl, by decide +kernel, rfl, by decide +kernel, by decide +kernel⟩
section
variable {P : Program} {w : World} {K : PySem.W.Frag} {mg : Str → Option Value} {base : Heap} {C : Addr}
theorem ok_bd {f : Addr} {fd : FuncData} (F : Fun K "band" "Shaft.band" (cSh 9) f fd) (T : ClsS K mg C) (CL : Fn P w K mg base 1 "closed" ["relation"] spCl) (JO : Fn P w K mg base 1 "joined" ["one", "two"] spJoi) (FO : Fn P w K mg base 3 "followed" ["one", "two"] spFol)
    (LI : MeH P w K mg base C "lid" 5 ["self", "room"] (spLi C)) (FL : MeH P w K mg base C "floor" 5 ["self", "room"] (spFo2 C)) : FnOk P w K mg base CX0 6 f fd ["self", "low", "high"] (spBd C) := by
  refine F.ok scBd (fun vs H Q E h => ?_) (fun cdv A outer s H vs Q E hr h => ?_)
  · obtain ⟨x, u, f, d, la, fu, ldn, li, fl, wh, l, h, n, ml, mf, U, F, D, lu, lf, ld, rfl, _⟩ := h
    rfl
  · obtain ⟨x, u, f, d, la, fu, ldn, li, fl, wh, l, h, n, ml, mf, U, Fl, D, lu, lf, ld, rfl, sh, n1, n16, q⟩ := h
    have N := scBd.nd
    have r1 := hr.mono (k := 5) (j := 1) (by decide)
    have r3 := hr.mono (k := 5) (j := 3) (by decide)
    refine ⟨_, pss_cons (ps_set (i := 3) N rfl (.inl rfl) (pe_fld (pv 0) rfl))
      (pss_cons (ps_if (pt_cmpR op_gt (pv 2) pe_int (nomark _)) (pss_one (ps_set (i := 3) N rfl (.inl rfl) (pe_fn JO r1 (pa_cons (pv 3) (pa_cons (pe_fn FO r3 (pa_cons (pe_fn FO r3 (pa_cons (pe_fld (pv 0) rfl) (pa_cons (pe_mP LI T.cl hr (pv 0) (pa_cons (pe_op op_sub (pv 2) pe_int) pa_nil)) pa_nil))) (pa_cons (pe_fld (pv 0) rfl) pa_nil))) pa_nil))))) pss_nil)
      (pss_cons (ps_if (pt_cmpR op_gt (pv 1) pe_int (nomark _)) (pss_one (ps_set (i := 3) N rfl (.inl rfl) (pe_fn JO r1 (pa_cons (pv 3) (pa_cons (pe_fn FO r3 (pa_cons (pe_fn FO r3 (pa_cons (pe_fld (pv 0) rfl) (pa_cons (pe_mP FL T.cl hr (pv 0) (pa_cons (pe_op op_sub (pv 1) pe_int) pa_nil)) pa_nil))) (pa_cons (pe_fld (pv 0) rfl) pa_nil))) pa_nil))))) pss_nil)
      (pss_one (ps_ret (pe_fn CL r1 (pa_cons (pv 3) pa_nil)))))), ?_⟩
    obtain ⟨dx, hx⟩ := sh.ob
    refine seqV (Good := fun σ2 H1 => H = H1 ∧ σ2 = [some (.ref x), some (.int (l : Nat)), some (.int (h : Nat)), some (.ref f)]) (fun nx hnx => ⟨_, rfl, x, C, dx, _, _, rfl, hx, T.cl, T.n_f, fSh_f .., hnx _ _ ⟨rfl, rfl⟩⟩) ?_
    rintro _ _ ⟨rfl, rfl⟩
    refine seqV (Good := fun σ2 H1 => ∃ (o : Addr) (z : List Nat) (R : Rl) (ml' : Nat) (ks' : List (Key × V)), ks'.length ≤ 1 ∧ But3 li fl wh H H1 ∧ ShAt C H1 x n U Fl D u f d la fu ldn li fl wh lu lf ld ml' mf ks' ∧ H1 o = some (.lst (iN z)) ∧ o ≠ li ∧ o ≠ fl ∧ In n R ∧ Rep n z R ∧ (∀ a b, R a b ↔ (Fl a b ∨ ∃ k, h = k + 1 ∧ Cp (Cp U (Lid n U Fl D k)) D a b)) ∧ σ2 = [some (.ref x), some (.int (l : Nat)), some (.int (h : Nat)), some (.ref o)]) ?_ ?_
    · intro nx hnx
      refine ⟨_, rfl, _, _, rfl, rfl, decide (((h : Nat) : Int) > 0), rfl, ?_⟩
      by_cases h0 : h = 0
      · subst h0
        rw [decide_eq_false (by omega)]
        exact iteF (hnx _ _ ⟨f, lf, Fl, ml, [], by decide, But3.refl, sh, sh.rel.hf, sh.nl.2.1, sh.nf.2.1, sh.rel.if_, sh.rel.rf, fun a b => ⟨.inl, fun z => z.elim id fun ⟨k, e, _⟩ => absurd e (by omega)⟩, rfl⟩)
      · obtain ⟨j, rfl⟩ : ∃ j, h = j + 1 := ⟨h - 1, by omega⟩
        rw [decide_eq_true (by omega)]
        refine iteT ⟨_, rfl, _, rfl, x, C, dx, _, _, rfl, hx, T.cl, T.n_u, fSh_u .., _, rfl, x, dx, _, rfl, hx, fSh_mlid .., _, rfl, _, _, rfl, rfl, ?_⟩
        refine ⟨x, u, f, d, la, fu, ldn, li, fl, wh, j, n, ml, mf, U, Fl, D, lu, lf, ld, [], ?_, sh, by decide, n1, n16, fun H1 p y ml' ks' b1 sh1 kl nfin hp rp pli pfl => ?_⟩
        · show [V.ref x, V.int (((j + 1 : Nat) : Int) - 1)] ++ [] = _
          rw [show (((j + 1 : Nat) : Int) - 1) = (j : Nat) by omega]
          rfl
        obtain ⟨dx1, hx1⟩ := sh1.ob
        have rl := sh1.rel
        refine ⟨u, p, lu, y, n, U, _, rfl, rl.hu, hp, rl.ru, rp, rl.n100, rl.iu, fun q1 H2 z1 nq1 s1 h1 r1' => ⟨_, rfl, x, C, dx1, _, _, rfl, s1 _ _ hx1, T.cl, T.n_d, fSh_d .., q1, d, z1, ld, n, _, D, rfl, h1, s1 _ _ rl.hd, r1', rl.rd, rl.n100, rl.iu.cp (lid_in j), fun q2 H3 z2 nq2 s2 h2 r2 => ?_⟩⟩
        have s12 := s1.trans s2
        refine ⟨f, q2, lf, z2, n, _, _, rfl, s12 _ _ rl.hf, h2, rl.rf, r2, rl.n100, fun q3 H4 z3 nq3 s3 h3 r3 => ?_⟩
        have s13 := s12.trans s3
        obtain ⟨e1, e1'⟩ := sh1.lids.lst
        obtain ⟨e2, e2'⟩ := sh1.floors.lst
        exact hnx _ _ ⟨q3, z3, _, ml', ks', kl, b1.trans (Same.but3 s13), sh1.same s13, h3, (ne_of_none (s12 _ _ e1') nq3).symm, (ne_of_none (s12 _ _ e2') nq3).symm, rl.if_.or ((rl.iu.cp (lid_in j)).cp rl.id), r3, fun a b => or_congr Iff.rfl ⟨fun z => ⟨j, rfl, z⟩, fun ⟨k, e, z⟩ => by
          obtain rfl : j = k := by omega
          exact z⟩, rfl⟩
    rintro _ H1 ⟨o, z, R, ml', ks', k1, b1, sh1, ho, oli, ofl, iR, rR, eR, rfl⟩
    refine seqV (Good := fun σ2 H2 => ∃ (o : Addr) (z : List Nat) (S : Rl), But3 li fl wh H H2 ∧ H2 o = some (.lst (iN z)) ∧ In n S ∧ Rep n z S ∧ (∀ a b, S a b ↔ (R a b ∨ ∃ k, l = k + 1 ∧ Cp (Cp D (Lid n D Fl U k)) U a b)) ∧ σ2 = [some (.ref x), some (.int (l : Nat)), some (.int (h : Nat)), some (.ref o)]) ?_ ?_
    · intro nx hnx
      refine ⟨_, rfl, _, _, rfl, rfl, decide (((l : Nat) : Int) > 0), rfl, ?_⟩
      by_cases h0 : l = 0
      · subst h0
        rw [decide_eq_false (by omega)]
        exact iteF (hnx _ _ ⟨o, z, R, b1, ho, iR, rR, fun a b => ⟨.inl, fun z => z.elim id fun ⟨k, e, _⟩ => absurd e (by omega)⟩, rfl⟩)
      · obtain ⟨j, rfl⟩ : ∃ j, l = j + 1 := ⟨l - 1, by omega⟩
        rw [decide_eq_true (by omega)]
        obtain ⟨dx1, hx1⟩ := sh1.ob
        refine iteT ⟨_, rfl, _, rfl, x, C, dx1, _, _, rfl, hx1, T.cl, T.n_d, fSh_d .., _, rfl, x, dx1, _, rfl, hx1, fSh_mfloor .., _, rfl, _, _, rfl, rfl, ?_⟩
        refine ⟨x, u, f, d, la, fu, ldn, li, fl, wh, j, n, ml', mf, U, Fl, D, lu, lf, ld, ks', ?_, sh1, k1, n1, n16, fun H2 p y mf' ks2 b2 sh2 kl nfin hp rp pli pfl => ?_⟩
        · show [V.ref x, V.int (((j + 1 : Nat) : Int) - 1)] ++ [] = _
          rw [show (((j + 1 : Nat) : Int) - 1) = (j : Nat) by omega]
          rfl
        obtain ⟨dx2, hx2⟩ := sh2.ob
        have rl := sh2.rel
        have ho2 := b2 _ _ oli ofl (ne_dK sh1.whole ho) ho
        refine ⟨d, p, ld, y, n, D, _, rfl, rl.hd, hp, rl.rd, rp, rl.n100, rl.id, fun q1 H3 z1 nq1 s1 h1 r1' => ⟨_, rfl, x, C, dx2, _, _, rfl, s1 _ _ hx2, T.cl, T.n_u, fSh_u .., q1, u, z1, lu, n, _, U, rfl, h1, s1 _ _ rl.hu, r1', rl.ru, rl.n100, rl.id.cp (lid_in j), fun q2 H4 z2 nq2 s2 h2 r2 => ?_⟩⟩
        have s12 := s1.trans s2
        refine ⟨o, q2, z, z2, n, _, _, rfl, s12 _ _ ho2, h2, rR, r2, rl.n100, fun q3 H5 z3 nq3 s3 h3 r3 => ?_⟩
        have s13 := s12.trans s3
        exact hnx _ _ ⟨q3, z3, _, (b1.trans b2).trans (Same.but3 s13), h3, iR.or ((rl.id.cp (lid_in j)).cp rl.iu), r3, fun a b => or_congr Iff.rfl ⟨fun z => ⟨j, rfl, z⟩, fun ⟨k, e, z⟩ => by
          obtain rfl : j = k := by omega
          exact z⟩, rfl⟩
    clear ho oli ofl sh1 b1 rR z
    rintro _ H2 ⟨o2, z, S, b2, ho, iS, rS, eS, rfl⟩
    refine ⟨_, rfl, o2, z, n, S, rfl, ho, rS, sh.rel.n100, iS, fun p H3 y np s3 hp rp => ?_⟩
    exact q H3 p y (b2.trans (Same.but3 s3)) hp (rp.iff fun a b => cl_iff (fun a b => (eS a b).trans ((or_congr (eR a b) Iff.rfl).trans or_assoc)) a b)
end
end L2.K73
end

section
set_option Elab.async false
set_option linter.all false
set_option maxRecDepth 100000
set_option maxHeartbeats 4000000
namespace L2.K73
open PySem PySem.Spec PyProof.Rows L2.Gd L2.Lv
/-! ### all_lids, all_floors -/
def Mt1 (p : Addr) (H : Hp) (v : V) (y : List Nat) : Prop := ∃ a, v = .ref a ∧ a ≠ p ∧ H a = some (.lst (iN y))
def spAl (C : Addr) (pick : Nat → Rl → Rl → Rl → Nat → Rl) : Sp := fun vs H Q _ => ∃ (x u f d la fu ldn li fl wh : Addr) (n ml mf : Nat) (U F D : Rl) (lu lf ld : List Nat), vs = [.ref x] ∧ ShAt C H x n U F D u f d la fu ldn li fl wh lu lf ld ml mf [] ∧ 1 ≤ n ∧ n ≤ 16 ∧
  ∀ H' p xs ys m, But3 li fl wh H H' → H p = none → H' p = some (.lst xs) → Paired (Mt1 p H') xs ys → ys.length = m + 1 → (∀ k y, ys[k]? = some y → Rep n y (pick n U F D k)) → Stops (pick n U F D) m → (∀ j, j < m → ¬ Stops (pick n U F D) j) → Q (.ref p) H'
abbrev pkL (n : Nat) (U F D : Rl) (k : Nat) : Rl := Lid n U F D k
abbrev pkF (n : Nat) (U F D : Rl) (k : Nat) : Rl := Lid n D F U k
theorem scAl : FnScope ["self"] ["self"] (defScope (cSh 5)) := ⟨rfl, rfl, rfl, by decide +kernel, rfl, by decide +kernel, by decide +kernel⟩
theorem scAf : FnScope ["self"] ["self"] (defScope (cSh 6)) := ⟨rfl, rfl, rfl, by decide +kernel, rfl, by decide +kernel, by decide +kernel⟩
theorem sq_cast {n : Nat} {l : List V} (h : l.length = n) : ((l.length : Int) * (l.length : Int)) = ((n * n : Nat) : Int) := by
  rw [h]
  exact (Int.natCast_mul n n).symm
theorem np0 {li fl wh p : Addr} {H H1 : Hp} (b : But3 li fl wh H H1) (h1 : p ≠ li) (h2 : p ≠ fl) (h3 : p ≠ wh) (np : H1 p = none) : H p = none := by
  cases e : H p with
  | none => rfl
  | some o => exact absurd (b p o h1 h2 h3 e) (by rw [np]; exact fun z => nomatch z)
section
variable {P : Program} {w : World} {K : PySem.W.Frag} {mg : Str → Option Value} {base : Heap} {C : Addr}
theorem ok_al {f : Addr} {fd : FuncData} (F : Fun K "all_lids" "Shaft.all_lids" (cSh 5) f fd) (n : Nm mg) (T : ClsS K mg C) (LI : MeH P w K mg base C "lid" 5 ["self", "room"] (spLi C)) : FnOk P w K mg base CX0 6 f fd ["self"] (spAl C pkL) := by
  refine F.ok scAl (fun vs H Q E h => ?_) (fun cdv A outer s H vs Q E hr h => ?_)
  · obtain ⟨x, u, f, d, la, fu, ldn, li, fl, wh, nn, ml, mf, U, F, D, lu, lf, ld, rfl, _⟩ := h
    rfl
  · obtain ⟨x, u, f, d, la, fu, ldn, li, fl, wh, nn, ml, mf, U, Fl, D, lu, lf, ld, rfl, sh, n1, n16, q⟩ := h
    have N := scAl.nd
    refine ⟨_, pss_cons (ps_expr (pe_mP LI T.cl hr (pv 0) (pa_cons (pe_op op_mul (pe_callB call_len_seq (by rfl) n.len PySem.boot_len (pa_cons (pe_fld (pv 0) rfl) pa_nil)) (pe_callB call_len_seq (by rfl) n.len PySem.boot_len (pa_cons (pe_fld (pv 0) rfl) pa_nil))) pa_nil)))
      (pss_one (ps_ret (pe_callTy call_list_of (by rfl) n.list (by decide +kernel) (pa_cons (pe_fld (pv 0) rfl) pa_nil)))), ?_⟩
    obtain ⟨dx, hx⟩ := sh.ob
    have rl := sh.rel
    have ll : (iN lf).length = nn := by
      rw [← rl.rf.len]
      exact List.length_map _
    refine ⟨_, rfl, x, dx, _, rfl, hx, fSh_mlid .., _, rfl, x, C, dx, _, _, rfl, hx, T.cl, T.n_f, fSh_f .., f, _, rfl, .inl (.inl (.inl rl.hf)), _, rfl, x, C, dx, _, _, rfl, hx, T.cl, T.n_f, fSh_f .., f, _, rfl, .inl (.inl (.inl rl.hf)), _, _, rfl, rfl, ?_⟩
    refine ⟨.inl ⟨by rw [ll]; omega, by rw [ll]; omega⟩, x, u, f, d, la, fu, ldn, li, fl, wh, nn * nn, nn, ml, mf, U, Fl, D, lu, lf, ld, [], ?_, sh, by decide, n1, n16, fun H1 p y ml' ks' b1 sh1 kl nfin hp rp _ _ => ?_⟩
    · show [V.ref x, V.int (((iN lf).length : Int) * ((iN lf).length : Int))] ++ [] = _
      rw [sq_cast ll]
      rfl
    clear hp rp
    obtain ⟨dx1, hx1⟩ := sh1.ob
    obtain ⟨⟨xs, ys, hL, ms, yl, ry⟩, go, _⟩ := sh1.lids
    obtain ⟨m0, m0n, mst, _⟩ := lid_chain (n := nn) (U := U) (F := Fl) (D := D) n1
    have st : Stops (Lid nn U Fl D) ml' := nfin.elim (fun h => absurd mst (go m0 (by omega))) id
    refine ⟨_, rfl, x, C, dx1, _, _, rfl, hx1, T.cl, T.n_li, fSh_li .., li, xs, rfl, .inl (.inl (.inl hL)), fun p np => ?_⟩
    refine q _ p xs ys ml' (fun t o h1 h2 h3 e => same_upd np _ _ (b1 t o h1 h2 h3 e)) ?_ upd_same (Paired.mapP ms fun _ _ ⟨a, e, _, _, q⟩ => ⟨a, e, ne_of_none q np, same_upd np _ _ q⟩) yl ry st go
    obtain ⟨l2, e2⟩ := sh1.floors.lst
    exact np0 b1 (ne_of_none hL np).symm (ne_of_none e2 np).symm (ne_of_none sh1.whole np).symm np
theorem ok_af {f : Addr} {fd : FuncData} (F : Fun K "all_floors" "Shaft.all_floors" (cSh 6) f fd) (n : Nm mg) (T : ClsS K mg C) (LI : MeH P w K mg base C "floor" 5 ["self", "room"] (spFo2 C)) : FnOk P w K mg base CX0 6 f fd ["self"] (spAl C pkF) := by
  refine F.ok scAf (fun vs H Q E h => ?_) (fun cdv A outer s H vs Q E hr h => ?_)
  · obtain ⟨x, u, f, d, la, fu, ldn, li, fl, wh, nn, ml, mf, U, F, D, lu, lf, ld, rfl, _⟩ := h
    rfl
  · obtain ⟨x, u, f, d, la, fu, ldn, li, fl, wh, nn, ml, mf, U, Fl, D, lu, lf, ld, rfl, sh, n1, n16, q⟩ := h
    have N := scAf.nd
    refine ⟨_, pss_cons (ps_expr (pe_mP LI T.cl hr (pv 0) (pa_cons (pe_op op_mul (pe_callB call_len_seq (by rfl) n.len PySem.boot_len (pa_cons (pe_fld (pv 0) rfl) pa_nil)) (pe_callB call_len_seq (by rfl) n.len PySem.boot_len (pa_cons (pe_fld (pv 0) rfl) pa_nil))) pa_nil)))
      (pss_one (ps_ret (pe_callTy call_list_of (by rfl) n.list (by decide +kernel) (pa_cons (pe_fld (pv 0) rfl) pa_nil)))), ?_⟩
    obtain ⟨dx, hx⟩ := sh.ob
    have rl := sh.rel
    have ll : (iN lf).length = nn := by
      rw [← rl.rf.len]
      exact List.length_map _
    refine ⟨_, rfl, x, dx, _, rfl, hx, fSh_mfloor .., _, rfl, x, C, dx, _, _, rfl, hx, T.cl, T.n_f, fSh_f .., f, _, rfl, .inl (.inl (.inl rl.hf)), _, rfl, x, C, dx, _, _, rfl, hx, T.cl, T.n_f, fSh_f .., f, _, rfl, .inl (.inl (.inl rl.hf)), _, _, rfl, rfl, ?_⟩
    refine ⟨.inl ⟨by rw [ll]; omega, by rw [ll]; omega⟩, x, u, f, d, la, fu, ldn, li, fl, wh, nn * nn, nn, ml, mf, U, Fl, D, lu, lf, ld, [], ?_, sh, by decide, n1, n16, fun H1 p y mf' ks' b1 sh1 kl nfin hp rp _ _ => ?_⟩
    · show [V.ref x, V.int (((iN lf).length : Int) * ((iN lf).length : Int))] ++ [] = _
      rw [sq_cast ll]
      rfl
    clear hp rp
    obtain ⟨dx1, hx1⟩ := sh1.ob
    obtain ⟨⟨xs, ys, hL, ms, yl, ry⟩, go, _⟩ := sh1.floors
    obtain ⟨m0, m0n, mst, _⟩ := lid_chain (n := nn) (U := D) (F := Fl) (D := U) n1
    have st : Stops (Lid nn D Fl U) mf' := nfin.elim (fun h => absurd mst (go m0 (by omega))) id
    refine ⟨_, rfl, x, C, dx1, _, _, rfl, hx1, T.cl, T.n_fl, fSh_fl .., fl, xs, rfl, .inl (.inl (.inl hL)), fun p np => ?_⟩
    refine q _ p xs ys mf' (fun t o h1 h2 h3 e => same_upd np _ _ (b1 t o h1 h2 h3 e)) ?_ upd_same (Paired.mapP ms fun _ _ ⟨a, e, _, _, q⟩ => ⟨a, e, ne_of_none q np, same_upd np _ _ q⟩) yl ry st go
    obtain ⟨l2, e2⟩ := sh1.lids.lst
    exact np0 b1 (ne_of_none e2 np).symm (ne_of_none hL np).symm (ne_of_none sh1.whole np).symm np
end
end L2.K73
end

section
set_option Elab.async false
set_option linter.all false
set_option maxRecDepth 100000
set_option maxHeartbeats 4000000
namespace L2.K73
open PySem PySem.Spec PyProof.Rows L2.Gd L2.Lv
/-- Shaft(..) -/
structure MkS (P : Program) (w : World) (K : PySem.W.Frag) (mg : Str → Option Value) (base : Heap) (C : Addr) : Prop where
  ex : ∃ f fd, Mk K C f ∧ Binds K fd ["self", "relations", "first_ups", "last_downs"] [] ∧ FnOk P w K mg base CX0 2 f fd ["self", "relations", "first_ups", "last_downs"] (spSi C)
theorem pe_sh {X : Cx} {e : Expr} {es : List Expr} {t : TA} {p pos : Pos} {C : Addr} (M : MkS X.prog X.w X.K X.mg X.base C) (T : ClsS X.K X.mg C) (hr : Room 3 X.A) (ha : PA X (e :: es) t)
    (hg : Gl X "Shaft" := by rfl) (he : starEach (e :: es) X.env = (false, eval e X.env) :: starEach es X.env := by rfl)
    (hpl : (backTo pos (starEach es X.env)).any (·.1) = false := by rfl) :
    PE X (.Call (.Name "Shaft" p) (e :: es) [] pos) (tMake C (spSi C) [] E0 t) := by
  obtain ⟨f, fd, mk, b, F⟩ := M.ex
  exact pe_make mk F hr hg T.mgC b .nil pass0 ha (by decide) he hpl
/-- a new Shaft is one that was asked nothing -/
theorem Sh0.at {C : Addr} {H : Hp} {x u f d la fu ldn li fl wh : Addr} {n : Nat} {U F D : Rl} {lu lf ld : List Nat} (s : Sh0 C H x n U F D u f d la fu ldn li fl wh lu lf ld) (nl : u ≠ li ∧ f ≠ li ∧ d ≠ li) (nf : u ≠ fl ∧ f ≠ fl ∧ d ≠ fl) :
    ShAt C H x n U F D u f d la fu ldn li fl wh lu lf ld 0 0 [] := by
  obtain ⟨c1, z1, h1, k1, r1, n11, n12⟩ := s.lids
  obtain ⟨c2, z2, h2, k2, r2, n21, n22⟩ := s.floors
  exact ⟨s.ob, s.rel, ⟨⟨_, [z1], h1, .cons ⟨c1, rfl, n11, n12, k1⟩ .nil, rfl, fun k y e => by
      match k, e with
      | 0, e =>
        obtain rfl := Option.some.inj e
        exact r1
      | k + 1, e => exact nomatch e⟩, fun j h => absurd h (Nat.not_lt_zero _), ⟨_, h2⟩⟩,
    ⟨⟨_, [z2], h2, .cons ⟨c2, rfl, n22, n21, k2⟩ .nil, rfl, fun k y e => by
      match k, e with
      | 0, e =>
        obtain rfl := Option.some.inj e
        exact r2
      | k + 1, e => exact nomatch e⟩, fun j h => absurd h (Nat.not_lt_zero _), ⟨_, h1⟩⟩, s.whole, (fun h => nomatch h), (fun h => nomatch h), s.ne, nl, nf⟩
end L2.K73
end

section
set_option Elab.async false
set_option linter.all false
set_option maxRecDepth 100000
set_option maxHeartbeats 4000000
namespace L2.K73
open PySem PySem.Spec PyProof.Rows L2.Gd L2.Lv
/-! ### shaft_of -/
def spSf (C C2 : Addr) : Sp := fun vs H Q _ => ∃ (h l : Addr) (n : Nat) (xs : List V) (ds : List Dd), vs = [.ref h] ∧ HouseL C2 H h l n xs ds ∧ WF n ds ∧
  ∀ H' x u f d la fu ldn li fl wh lu lf ld, H x = none → Same H H' → ShAt C H' x n (Dl ds 1) (Dl ds 0) (Dl ds (-1)) u f d la fu ldn li fl wh lu lf ld 0 0 [] → H li = none → H fl = none → H wh = none → Q (.ref x) H'
def NSf : List Str := ["house", "ups", "flats", "downs", "lasting", "lifting", "change"]
theorem scSf : FnScope NSf ["house"] (defScope (top 32)) := ⟨rfl, rfl, rfl, by decide +kernel, rfl, by decide +kernel, by decide +kernel⟩
def RelAt (n : Nat) (ds : List Dd) (D : Addr) (H : Hp) (v : V) (c : Int) : Prop := ∃ p y, v = .ref p ∧ p ≠ D ∧ H p = some (.lst (iN y)) ∧ Rep n y (Dl ds c)
theorem stabR {n : Nat} {ds : List Dd} {D : Addr} : Stab (RelAt n ds D) D := fun _ _ _ _ b _ ⟨p, y, e, ne, hp, r⟩ => ⟨p, y, e, ne, b _ _ ne hp, r⟩
def ReeAt (n : Nat) (ds : List Dd) (D : Addr) (H : Hp) (v : V) (c : Int) : Prop := ∃ p y, v = .ref p ∧ p ≠ D ∧ H p = some (.lst (iN y)) ∧ Rep n y (De ds c)
theorem stabE {n : Nat} {ds : List Dd} {D : Addr} : Stab (ReeAt n ds D) D := fun _ _ _ _ b _ ⟨p, y, e, ne, hp, r⟩ => ⟨p, y, e, ne, b _ _ ne hp, r⟩
section
variable {P : Program} {w : World} {K : PySem.W.Frag} {mg : Str → Option Value} {base : Heap} {C C2 : Addr}
theorem ok_sf {f : Addr} {fd : FuncData} (F : Fun K "shaft_of" "shaft_of" (top 32) f fd) (T : ClsS K mg C) (M : MkS P w K mg base C) (JO : Fn P w K mg base 1 "joined" ["one", "two"] spJoi)
    (DR : Fn P w K mg base 3 "deed_relation" ["house", "change", "when"] (spDR C2)) (DX : Fn P w K mg base 3 "deed_relation" ["house", "change", "when"] (spDRe C2)) : FnOk P w K mg base CX0 4 f fd ["house"] (spSf C C2) := by
  refine F.ok scSf (fun vs H Q E h => ?_) (fun cdv A outer s H vs Q E hr h => ?_)
  · obtain ⟨h, l, n, xs, ds, rfl, _⟩ := h
    rfl
  · obtain ⟨h, l, n, xs, ds, rfl, hh, wf, q⟩ := h
    have N := scSf.nd
    have r1 := hr.mono (k := 3) (j := 1) (by decide)
    refine ⟨_, pss_cons (ps_asg (pe_lc (own := [("change", 6)]) (g := gName 6) (tt := tYes) rfl N (pi_tup (pe_tup (pa_cons pe_int (pa_cons pe_int (pa_cons (pe_un un_neg pe_int) pa_nil))))) (blkOk_by (N := NSf) (sc := defScope (top 32)) (by decide +kernel)) (fun _ _ _ _ _ => pg_name (i := 6) N rfl (.inl rfl)) (fun _ _ _ _ _ => pts_nil)
          (fun _ _ _ _ _ => pe_fn DR hr (pa_cons (pv 0) (pa_cons (pv 6) (pa_cons pe_str pa_nil)))))
        (pg_unl rfl (pgs_cons (pg_name (i := 1) N rfl (.inl rfl)) (pgs_cons (pg_name (i := 2) N rfl (.inl rfl)) (pgs_cons (pg_name (i := 3) N rfl (.inl rfl)) pgs_nil)))))
      (pss_cons (ps_asg (pe_lc (own := [("change", 6)]) (g := gName 6) (tt := tYes) rfl N (pi_tup (pe_tup (pa_cons pe_int (pa_cons pe_int pa_nil)))) (blkOk_by (N := NSf) (sc := defScope (top 32)) (by decide +kernel)) (fun _ _ _ _ _ => pg_name (i := 6) N rfl (.inl rfl)) (fun _ _ _ _ _ => pts_nil)
          (fun _ _ _ _ _ => pe_fn DX hr (pa_cons (pv 0) (pa_cons (pv 6) (pa_cons pe_str pa_nil)))))
        (pg_unl rfl (pgs_cons (pg_name (i := 4) N rfl (.inl rfl)) (pgs_cons (pg_name (i := 5) N rfl (.inl rfl)) pgs_nil))))
      (pss_one (ps_ret (pe_sh M T hr (pa_cons (pe_lst (pa_cons (pv 1) (pa_cons (pv 2) (pa_cons (pv 3) (pa_cons (pv 4) pa_nil))))) (pa_cons (pe_fn JO r1 (pa_cons (pv 1) (pa_cons (pv 5) pa_nil))) (pa_cons (pv 3) pa_nil))))))), ?_⟩
    refine seqV (Good := fun σ2 H1 => ∃ (u f d : Addr) (lu lf ld : List Nat), Same H H1 ∧ H1 u = some (.lst (iN lu)) ∧ H1 f = some (.lst (iN lf)) ∧ H1 d = some (.lst (iN ld)) ∧ Rep n lu (Dl ds 1) ∧ Rep n lf (Dl ds 0) ∧ Rep n ld (Dl ds (-1)) ∧ σ2 = [some (.ref h), some (.ref u), some (.ref f), some (.ref d), none, none, none]) ?_ ?_
    · intro nx hnx
      refine ⟨_, rfl, (by show 3 ≤ sizeLine; decide), fun t ht => ?_⟩
      have s0 := same_upd (o := .tup [V.int 1, V.int 0, V.int (-1)]) ht
      refine ⟨t, rfl, ⟨_, .inl (.inl upd_same)⟩, fun D hD => ?_⟩
      refine lc_mapT (es := [(1 : Int), 0, -1]) (F := fun _ v c => v = V.int c) (G := RelAt n ds D) (f := some) stabR upd_same hD (by decide) (.cons rfl (.cons rfl (.cons rfl .nil))) ?_ ?_
      · rintro x c H2 A B hc rfl b ⟨zs, hz⟩ hA hB
        refine ⟨rfl, yes_ite ⟨_, rfl, _, rfl, h, l, n, c, xs, ds, rfl, (hh.same s0).same (b.new hD), wf, fun p H3 y np s3 hp rp => hA c _ H3 rfl s3 ⟨p, y, rfl, ne_of_none hz np |>.symm, hp, rp⟩⟩⟩
      · intro ys H2 h1 h2 h3
        have h2 : Paired (RelAt n ds D H2) ys [(1 : Int), 0, -1] := h2
        obtain _ | ⟨⟨u, lu, rfl, _, hu, ru⟩, _ | ⟨⟨f, lf, rfl, _, hf, rf⟩, _ | ⟨⟨d, ld, rfl, _, hd, rd⟩, _ | _⟩⟩⟩ := h2
        exact ⟨D, _, rfl, .inl (.inl h1), rfl, _, _, rfl, _, _, rfl, _, _, rfl, rfl, hnx _ _ ⟨u, f, d, lu, lf, ld, s0.trans (h3.new hD), hu, hf, hd, ru, rf, rd, rfl⟩⟩
    rintro _ H1 ⟨u, f, d, lu, lf, ld, s1, hu, hf, hd, ru, rf, rd, rfl⟩
    refine seqV (Good := fun σ2 H2 => ∃ (la lg : Addr) (z1 z2 : List Nat), Same H1 H2 ∧ H2 la = some (.lst (iN z1)) ∧ H2 lg = some (.lst (iN z2)) ∧ Rep n z2 (De ds 1) ∧ σ2 = [some (.ref h), some (.ref u), some (.ref f), some (.ref d), some (.ref la), some (.ref lg), none]) ?_ ?_
    · intro nx hnx
      refine ⟨(by show 2 ≤ sizeLine; decide), fun t ht => ?_⟩
      have s0 := same_upd (o := .tup [V.int 0, V.int 1]) ht
      refine ⟨t, rfl, ⟨_, .inl (.inl upd_same)⟩, fun D hD => ?_⟩
      refine lc_mapT (es := [(0 : Int), 1]) (F := fun _ v c => v = V.int c) (G := ReeAt n ds D) (f := some) stabE upd_same hD (by decide) (.cons rfl (.cons rfl .nil)) ?_ ?_
      · rintro x c H2 A B hc rfl b ⟨zs, hz⟩ hA hB
        refine ⟨rfl, yes_ite ⟨_, rfl, _, rfl, h, l, n, c, xs, ds, rfl, ((hh.same s1).same s0).same (b.new hD), wf, fun p H3 y np s3 hp rp => hA c _ H3 rfl s3 ⟨p, y, rfl, ne_of_none hz np |>.symm, hp, rp⟩⟩⟩
      · intro ys H2 h1 h2 h3
        have h2 : Paired (ReeAt n ds D H2) ys [(0 : Int), 1] := h2
        obtain _ | ⟨⟨la, z1, rfl, _, h4, r4⟩, _ | ⟨⟨lg, z2, rfl, _, h5, r5⟩, _ | _⟩⟩ := h2
        exact ⟨D, _, rfl, .inl (.inl h1), rfl, _, _, rfl, _, _, rfl, rfl, hnx _ _ ⟨la, lg, z1, z2, s0.trans (h3.new hD), h4, h5, r5, rfl⟩⟩
    rintro _ H2 ⟨la, lg, z1, z2, s2, hla, hlg, rlg, rfl⟩
    have n16 : n ≤ 16 := by have := wf.m16; omega
    have n100 : n ≤ 100 := by omega
    have hu2 := s2 _ _ hu
    have hf2 := s2 _ _ hf
    have hd2 := s2 _ _ hd
    refine ⟨_, rfl, _, rfl, _, rfl, _, rfl, (by show 4 ≤ sizeLine; decide), fun R hR => ?_⟩
    have sR := same_upd (o := .lst [V.ref u, V.ref f, V.ref d, V.ref la]) hR
    refine ⟨_, rfl, _, rfl, u, lg, lu, z2, n, _, _, rfl, sR _ _ hu2, sR _ _ hlg, ru, rlg, n100, fun fu H4 y4 n4 s4 h4 r4 => ⟨_, rfl, fun x dx nx ndx ne => ?_⟩⟩
    have s5 : Same H4 (upd (upd H4 dx (.own x)) x (.ins C dx [])) := fun b o e => by
      rw [upd_ne (ne_of_none e nx), upd_ne (ne_of_none e ndx)]
      exact e
    have s24 := sR.trans s4
    have hu4 := s24 _ _ hu2
    have hf4 := s24 _ _ hf2
    have hd4 := s24 _ _ hd2
    refine ⟨x, dx, R, u, f, d, la, fu, d, n, Dl ds 1, Dl ds 0, Dl ds (-1), lu, lf, ld, rfl, upd_same, s5 _ _ (s4 _ _ upd_same), ⟨s5 _ _ hu4, s5 _ _ hf4, s5 _ _ hd4, ru, rf, rd, Dl.inn wf.ok 1, Dl.inn wf.ok 0, Dl.inn wf.ok (-1), n100⟩, fun H' li fl wh b sh nli nfl nwh => ?_⟩
    have s04 := (s1.trans s2).trans s24
    have f4 : ∀ {t : Addr}, upd (upd H4 dx (.own x)) x (.ins C dx []) t = none → H4 t = none := fun e => s5.free e
    refine ⟨rfl, ?_⟩
    exact q H' x u f d la fu d li fl wh lu lf ld (s04.free nx) (fun t o e => b t o (ne_of_none (s04 _ _ e) nx) (s5 _ _ (s04 _ _ e))) (sh.at ⟨ne_of_none hu4 (f4 nli), ne_of_none hf4 (f4 nli), ne_of_none hd4 (f4 nli)⟩ ⟨ne_of_none hu4 (f4 nfl), ne_of_none hf4 (f4 nfl), ne_of_none hd4 (f4 nfl)⟩) (s04.free (f4 nli)) (s04.free (f4 nfl)) (s04.free (f4 nwh))
end
end L2.K73
end

section
set_option Elab.async false
set_option linter.all false
set_option maxRecDepth 100000
set_option maxHeartbeats 4000000
namespace L2.K73
open PySem PySem.Spec PyProof.Rows L2.Gd L2.Lv
section
variable {P : Program} {w : World} {K : PySem.W.Frag} {mg : Str → Option Value} {base : Heap} {C C2 : Addr}
def spCM : Sp := fun vs H Q _ => ∃ p : Int, vs = [.int p] ∧ 0 ≤ p ∧ Q .non H
theorem scCM : FnScope ["many"] ["many"] (defScope (top 15)) := ⟨rfl, rfl, rfl, by decide +kernel, rfl, by decide +kernel, by decide +kernel⟩
theorem ok_cm {f : Addr} {fd : FuncData} (F : Fun K "check_many" "check_many" (top 15) f fd) (GC : Fn P w K mg base 2 "is_count" ["value"] spIsCount) : FnOk P w K mg base CX0 3 f fd ["many"] spCM := by
  refine F.ok scCM (fun vs H Q E h => ?_) (fun cdv A outer s H vs Q E hr h => ?_)
  · obtain ⟨p, rfl, _⟩ := h
    rfl
  · obtain ⟨p, rfl, p0, k⟩ := h
    refine ⟨_, pss_one (ps_if (pt_not (pt_val (pe_fn GC hr (pa_cons (pv 0) pa_nil)))) pss_never pss_nil), ?_⟩
    exact ⟨_, rfl, p, rfl, p0, true, rfl, iteF k⟩
end
end L2.K73
end

section
set_option Elab.async false
set_option linter.all false
set_option maxRecDepth 100000
set_option maxHeartbeats 4000000
namespace L2.K73
open PySem PySem.Spec PyProof.Rows L2.Gd L2.Lv
/-! ### lids, floors, strip -/
section
variable {X : Cx} {C : Addr} {x : Str} {k : Nat} {ps : List Str} {sp : Sp} {o : Expr} {ta : TE} {apos pos : Pos}
theorem pe_mP0 {pl : Sem Bool} (M : MeH X.prog X.w X.K X.mg X.base C x k ps sp) (T : Cls X.K C) (hr : Room k X.A) (he : PE X o ta)
    (ht : eval (.Call (.Attribute o x apos) [] [] pos) X.env = (do
      let ov ← eval o X.env
      standAt apos.atName
      let (f, first) ← holding [ov] (getMethod ov x pl)
      callWith pos f first (backTo pos (starEach [] X.env)) (backToKw pos (keywordEach [] X.env))) := by rfl) :
    PE X (.Call (.Attribute o x apos) [] [] pos) (tMeth C x sp [] E0 ta tNil) := by
  obtain ⟨f, fd, hm, b, F⟩ := M.ex
  exact pe_meth0 he T hm F hr b .nil pass0 ht
end
abbrev LidD (n : Nat) (ds : List Dd) (k : Nat) : Rl := Lid n (Dl ds 1) (Dl ds 0) (Dl ds (-1)) k
abbrev FloD (n : Nat) (ds : List Dd) (k : Nat) : Rl := Lid n (Dl ds (-1)) (Dl ds 0) (Dl ds 1) k
abbrev BandD (n : Nat) (ds : List Dd) (l h : Nat) : Rl := Band n (Dl ds 1) (Dl ds 0) (Dl ds (-1)) l h
noncomputable def liL (f : Nat → Rl) (n m : Nat) : List (List (Nat × Nat)) := (List.range (m + 1)).map fun k => canon n (f k)
theorem ys_liL {n m : Nat} {f : Nat → Rl} (fin : ∀ k, In n (f k)) {ys : List (List Nat)} (yl : ys.length = m + 1) (ry : ∀ k y, ys[k]? = some y → Rep n y (f k)) : ys.map prsL = liL f n m := by
  refine List.ext_getElem? fun k => ?_
  unfold liL
  rw [List.getElem?_map]
  by_cases h : k < m + 1
  · rw [getElem_mapR _ h]
    obtain ⟨y, hy⟩ : ∃ y, ys[k]? = some y := ⟨_, List.getElem?_eq_getElem (by omega)⟩
    rw [hy]
    exact congrArg some (prs_canon (ry k y hy) (fin k))
  · rw [List.getElem?_eq_none (by omega), List.getElem?_eq_none (by rw [List.length_map, List.length_range]; omega)]
    rfl
/-- a new list of pairs -/
def NpAt (H0 : Hp) (D : Addr) (H : Hp) (v : V) (ps : List (Nat × Nat)) : Prop := PlAt D H v ps ∧ ∃ a, v = .ref a ∧ H0 a = none
theorem stabN {H0 : Hp} {D : Addr} : Stab (NpAt H0 D) D := fun _ _ _ _ b hD ⟨p, q⟩ => ⟨p.but b hD, q⟩
def spLf (C2 : Addr) (g : Nat → List Dd → Nat → Rl) : Sp := fun vs H Q _ => ∃ (h l : Addr) (n : Nat) (xs : List V) (ds : List Dd), vs = [.ref h] ∧ HouseL C2 H h l n xs ds ∧ WF n ds ∧
  ∀ p H' zs m, H p = none → Same H H' → H' p = some (.lst zs) → PlAll p H' zs (liL (g n ds) n m) → (∀ a, V.ref a ∈ zs → H a = none) → Stops (g n ds) m → (∀ j, j < m → ¬ Stops (g n ds) j) → Q (.ref p) H'
theorem fresh_of {H0 H : Hp} {D : Addr} : ∀ {zs : List V} {ps : List (List (Nat × Nat))}, Paired (NpAt H0 D H) zs ps → ∀ a, V.ref a ∈ zs → H0 a = none
  | _, _, .cons ⟨_, b, e, n⟩ t, a, h => by
    rcases List.mem_cons.mp h with z | z
    · rw [e] at z
      rw [V.ref.inj z]
      exact n
    · exact fresh_of t a z
theorem scLd : FnScope ["house", "lid"] ["house"] (defScope (top 34)) := ⟨rfl, rfl, rfl, by decide +kernel, rfl, by decide +kernel, by decide +kernel⟩
theorem scFl : FnScope ["house", "floor"] ["house"] (defScope (top 35)) := ⟨rfl, rfl, rfl, by decide +kernel, rfl, by decide +kernel, by decide +kernel⟩
section
variable {P : Program} {w : World} {K : PySem.W.Frag} {mg : Str → Option Value} {base : Heap} {C C2 : Addr}
theorem ok_lids {f : Addr} {fd : FuncData} (F : Fun K "lids" "lids" (top 34) f fd) (T : ClsS K mg C) (SF : Fn P w K mg base 4 "shaft_of" ["house"] (spSf C C2)) (AL : MeH P w K mg base C "all_lids" 6 ["self"] (spAl C pkL)) (PS : Fn P w K mg base 2 "pairs_of" ["relation"] spPrs) :
    FnOk P w K mg base CX0 7 f fd ["house"] (spLf C2 LidD) := by
  refine F.ok scLd (fun vs H Q E h => ?_) (fun cdv A outer s H vs Q E hr h => ?_)
  · obtain ⟨h, l, n, xs, ds, rfl, _⟩ := h
    rfl
  · obtain ⟨h, l, n, xs, ds, rfl, hh, wf, q⟩ := h
    have N := scLd.nd
    have r4 := hr.mono (k := 6) (j := 4) (by decide)
    have r2 := hr.mono (k := 6) (j := 2) (by decide)
    refine ⟨_, pss_one (ps_ret (pe_lc (own := [("lid", 1)]) (g := gName 1) (tt := tYes) rfl N (pi_list (pe_mP0 AL T.cl hr (pe_fn SF r4 (pa_cons (pv 0) pa_nil)))) (blkOk_by (N := ["house", "lid"]) (sc := defScope (top 34)) (by decide +kernel)) (fun _ _ _ _ _ => pg_name (i := 1) N rfl (.inl rfl))
      (fun _ _ _ _ _ => pts_nil) (fun _ _ _ _ _ => pe_fn PS r2 (pa_cons (pv 1) pa_nil)))), ?_⟩
    have n1 : 1 ≤ n := by have := wf.m1; omega
    have n16 : n ≤ 16 := by have := wf.m16; omega
    have nn : n * n ≤ 16 * 16 := Nat.mul_le_mul n16 n16
    refine ⟨_, rfl, h, l, n, xs, ds, rfl, hh, wf, fun H1 x u f d la fu ldn li fl wh lu lf ld nx s1 sh nli nfl nwh => ?_⟩
    obtain ⟨dx, hx⟩ := sh.ob
    refine ⟨x, dx, _, rfl, hx, fSh_mall_lids .., x, u, f, d, la, fu, ldn, li, fl, wh, n, 0, 0, _, _, _, lu, lf, ld, rfl, sh, n1, n16, fun H2 o vs ys m b2 no ho ms yl ry st go => ?_⟩
    have s2 : Same H H2 := fun c ob e => b2 c ob (ne_of_none e nli) (ne_of_none e nfl) (ne_of_none e nwh) (s1 c ob e)
    have mn : m + 1 ≤ n * n := by
      obtain ⟨m0, h0, st0, go0⟩ := lid_chain (n := n) (U := Dl ds 1) (F := Dl ds 0) (D := Dl ds (-1)) n1
      have := stops_one st0 go0 st go
      omega
    refine ⟨o, rfl, ⟨vs, .inl (.inl ho)⟩, fun D hD => ?_⟩
    have vl := Paired.length ms
    refine lc_mapL (es := ys) (F := Mt1 o) (G := NpAt H D) (f := fun y => some (prsL y)) stabN ho hD (by omega) ms ?_ ?_
    · rintro v y H3 A B hy ⟨a, rfl, na, ha⟩ b3 hz hA hB
      obtain ⟨k, hk⟩ := List.getElem?_of_mem hy
      have r := ry k y hk
      have s3 := b3.new hD
      refine ⟨rfl, yes_ite ⟨_, rfl, a, y, rfl, s3 _ _ ha, by rw [r.len]; omega, fun m' hm => lt100 (n := n) (by omega) (Rep.inn r (lid_in k) hm), fun e H4 ws ne s4 he pa => ?_⟩⟩
      obtain ⟨zs, hz⟩ := hz
      exact hA _ _ H4 rfl s4 ⟨⟨e, ws, rfl, (ne_of_none hz ne).symm, he, pa⟩, e, rfl, (s2.trans s3).free ne⟩
    · intro us H3 h1 h2 h3
      have s3 := h3.new hD
      rw [mapE, ys_liL (f := LidD n ds) lid_in yl ry] at h2
      exact q D H3 us m (s2.free hD) (s2.trans s3) h1 (Paired.mapP h2 fun _ _ z => z.1) (fresh_of h2) st go
theorem ok_floors {f : Addr} {fd : FuncData} (F : Fun K "floors" "floors" (top 35) f fd) (T : ClsS K mg C) (SF : Fn P w K mg base 4 "shaft_of" ["house"] (spSf C C2)) (AL : MeH P w K mg base C "all_floors" 6 ["self"] (spAl C pkF)) (PS : Fn P w K mg base 2 "pairs_of" ["relation"] spPrs) :
    FnOk P w K mg base CX0 7 f fd ["house"] (spLf C2 FloD) := by
  refine F.ok scFl (fun vs H Q E h => ?_) (fun cdv A outer s H vs Q E hr h => ?_)
  · obtain ⟨h, l, n, xs, ds, rfl, _⟩ := h
    rfl
  · obtain ⟨h, l, n, xs, ds, rfl, hh, wf, q⟩ := h
    have N := scFl.nd
    have r4 := hr.mono (k := 6) (j := 4) (by decide)
    have r2 := hr.mono (k := 6) (j := 2) (by decide)
    refine ⟨_, pss_one (ps_ret (pe_lc (own := [("floor", 1)]) (g := gName 1) (tt := tYes) rfl N (pi_list (pe_mP0 AL T.cl hr (pe_fn SF r4 (pa_cons (pv 0) pa_nil)))) (blkOk_by (N := ["house", "floor"]) (sc := defScope (top 35)) (by decide +kernel)) (fun _ _ _ _ _ => pg_name (i := 1) N rfl (.inl rfl))
      (fun _ _ _ _ _ => pts_nil) (fun _ _ _ _ _ => pe_fn PS r2 (pa_cons (pv 1) pa_nil)))), ?_⟩
    have n1 : 1 ≤ n := by have := wf.m1; omega
    have n16 : n ≤ 16 := by have := wf.m16; omega
    have nn : n * n ≤ 16 * 16 := Nat.mul_le_mul n16 n16
    refine ⟨_, rfl, h, l, n, xs, ds, rfl, hh, wf, fun H1 x u f d la fu ldn li fl wh lu lf ld nx s1 sh nli nfl nwh => ?_⟩
    obtain ⟨dx, hx⟩ := sh.ob
    refine ⟨x, dx, _, rfl, hx, fSh_mall_floors .., x, u, f, d, la, fu, ldn, li, fl, wh, n, 0, 0, _, _, _, lu, lf, ld, rfl, sh, n1, n16, fun H2 o vs ys m b2 no ho ms yl ry st go => ?_⟩
    have s2 : Same H H2 := fun c ob e => b2 c ob (ne_of_none e nli) (ne_of_none e nfl) (ne_of_none e nwh) (s1 c ob e)
    have mn : m + 1 ≤ n * n := by
      obtain ⟨m0, h0, st0, go0⟩ := lid_chain (n := n) (U := Dl ds (-1)) (F := Dl ds 0) (D := Dl ds 1) n1
      have := stops_one st0 go0 st go
      omega
    refine ⟨o, rfl, ⟨vs, .inl (.inl ho)⟩, fun D hD => ?_⟩
    have vl := Paired.length ms
    refine lc_mapL (es := ys) (F := Mt1 o) (G := NpAt H D) (f := fun y => some (prsL y)) stabN ho hD (by omega) ms ?_ ?_
    · rintro v y H3 A B hy ⟨a, rfl, na, ha⟩ b3 hz hA hB
      obtain ⟨k, hk⟩ := List.getElem?_of_mem hy
      have r := ry k y hk
      have s3 := b3.new hD
      refine ⟨rfl, yes_ite ⟨_, rfl, a, y, rfl, s3 _ _ ha, by rw [r.len]; omega, fun m' hm => lt100 (n := n) (by omega) (Rep.inn r (lid_in k) hm), fun e H4 ws ne s4 he pa => ?_⟩⟩
      obtain ⟨zs, hz⟩ := hz
      exact hA _ _ H4 rfl s4 ⟨⟨e, ws, rfl, (ne_of_none hz ne).symm, he, pa⟩, e, rfl, (s2.trans s3).free ne⟩
    · intro us H3 h1 h2 h3
      have s3 := h3.new hD
      rw [mapE, ys_liL (f := FloD n ds) lid_in yl ry] at h2
      exact q D H3 us m (s2.free hD) (s2.trans s3) h1 (Paired.mapP h2 fun _ _ z => z.1) (fresh_of h2) st go
/-! strip -/
def spStr (C2 : Addr) : Sp := fun vs H Q _ => ∃ (h l : Addr) (n lo hi : Nat) (xs : List V) (ds : List Dd), vs = [.ref h, .int (lo : Nat), .int (hi : Nat)] ∧ HouseL C2 H h l n xs ds ∧ WF n ds ∧
  ∀ p H' zs, H p = none → Same H H' → H' p = some (.lst zs) → PrAll H' zs (canon n (BandD n ds lo hi)) → Q (.ref p) H'
theorem scStr : FnScope ["house", "low", "high"] ["house", "low", "high"] (defScope (top 36)) := ⟨rfl, rfl, rfl, by decide +kernel, rfl, by decide +kernel, by decide +kernel⟩
theorem band_in {n l h : Nat} {U F D : Rl} : In n (Band n U F D l h) := Cl.inn
theorem ok_str {f : Addr} {fd : FuncData} (F : Fun K "strip" "strip" (top 36) f fd) (T : ClsS K mg C) (CM : Fn P w K mg base 3 "check_many" ["many"] spCM) (SF : Fn P w K mg base 4 "shaft_of" ["house"] (spSf C C2)) (BD : MeH P w K mg base C "band" 6 ["self", "low", "high"] (spBd C)) (PS : Fn P w K mg base 2 "pairs_of" ["relation"] spPrs) :
    FnOk P w K mg base CX0 7 f fd ["house", "low", "high"] (spStr C2) := by
  refine F.ok scStr (fun vs H Q E h => ?_) (fun cdv A outer s H vs Q E hr h => ?_)
  · obtain ⟨h, l, n, lo, hi, xs, ds, rfl, _⟩ := h
    rfl
  · obtain ⟨h, l, n, lo, hi, xs, ds, rfl, hh, wf, q⟩ := h
    have r4 := hr.mono (k := 6) (j := 4) (by decide)
    have r3 := hr.mono (k := 6) (j := 3) (by decide)
    have r2 := hr.mono (k := 6) (j := 2) (by decide)
    refine ⟨_, pss_cons (ps_expr (pe_fn CM r3 (pa_cons (pv 1) pa_nil))) (pss_cons (ps_expr (pe_fn CM r3 (pa_cons (pv 2) pa_nil)))
      (pss_one (ps_ret (pe_fn PS r2 (pa_cons (pe_mP BD T.cl hr (pe_fn SF r4 (pa_cons (pv 0) pa_nil)) (pa_cons (pv 1) (pa_cons (pv 2) pa_nil))) pa_nil))))), ?_⟩
    have n1 : 1 ≤ n := by have := wf.m1; omega
    have n16 : n ≤ 16 := by have := wf.m16; omega
    refine ⟨_, rfl, lo, rfl, by omega, _, rfl, hi, rfl, by omega, ?_⟩
    refine ⟨_, rfl, h, l, n, xs, ds, rfl, hh, wf, fun H1 x u f d la fu ldn li fl wh lu lf ld nx s1 sh nli nfl nwh => ?_⟩
    obtain ⟨dx, hx⟩ := sh.ob
    refine ⟨x, dx, _, rfl, hx, fSh_mband .., _, rfl, _, rfl, x, u, f, d, la, fu, ldn, li, fl, wh, lo, hi, n, 0, 0, _, _, _, lu, lf, ld, rfl, sh, n1, n16, fun H2 o y b2 ho ro => ?_⟩
    have s2 : Same H H2 := fun c ob e => b2 c ob (ne_of_none e nli) (ne_of_none e nfl) (ne_of_none e nwh) (s1 c ob e)
    refine ⟨o, y, rfl, ho, by rw [ro.len]; omega, fun m' hm => lt100 (n := n) (by omega) (Rep.inn ro band_in hm), fun p H3 zs np s3 hp pa => ?_⟩
    rw [prs_canon ro band_in] at pa
    exact q p H3 zs (s2.free np) (s2.trans s3) hp pa
end
end L2.K73
end

section
set_option Elab.async false
set_option linter.all false
set_option maxRecDepth 100000
set_option maxHeartbeats 8000000
namespace L2.K73
open PySem PySem.Spec PyProof.Rows L2.Gd L2.Lv
/-! ### the law's strips -/
def spSp : Sp := fun vs H Q _ => ∃ (D : Addr) (ys : List V) (ds : List Dd) (n l h : Nat), vs = [.int (n : Nat), .ref D, .int (l : Nat), .int (h : Nat)] ∧ H D = some (.lst ys) ∧ DdAll H ys ds ∧ (∀ d ∈ ds, d.Ok (n : Int)) ∧ n ≤ 16 ∧ l ≤ 100 ∧ h ≤ 100 ∧ ds.length ≤ 60 ∧
  ∀ p H' xs, H p = none → Same H H' → H' p = some (.lst xs) → PrAll H' xs (canon n (BandD n ds l h)) → Q (.ref p) H'
def NSp : List Str := ["_law_places", "_law_deeds", "_law_low", "_law_high", "_law_pairs", "_law_place", "_law_found", "_law_todo", "_law_here", "_law_own", "_law_change", "_law_goal", "_law_when"]
theorem scSp : FnScope NSp ["_law_places", "_law_deeds", "_law_low", "_law_high"] (defScope (top 48)) := ⟨rfl, rfl, rfl, by decide +kernel, rfl, by decide +kernel, by decide +kernel⟩
/-- what stands while it goes on -/
structure SzAt (l h : Int) (ds : List Dd) (a : Nat) (H H2 : Hp) (f w : Addr) (fs ws : List (Nat × Int)) : Prop where
  nf : H f = none
  nw : H w = none
  ne : f ≠ w
  same : Same H H2
  hf : H2 f = some (.dT (kvZ fs))
  hw : ∃ xs, H2 w = some (.lst xs) ∧ PzAll H2 xs ws
  bz : Bz l h ds a fs ws
theorem mul_step {M k B : Nat} (h : k + 1 ≤ M) : (M - k) * B = (M - (k + 1)) * B + B := by
  rw [← Nat.succ_mul]
  congr 1
  omega
section
variable {P : Program} {w : World} {K : PySem.W.Frag} {mg : Str → Option Value} {base : Heap} {C C2 : Addr}
open Classical in
theorem ok_sp {f : Addr} {fd : FuncData} (F : Fun K "_law_strip" "_law_strip" (top 48) f fd) (n : Nm mg) : FnOk P w K mg base CX0 1 f fd ["_law_places", "_law_deeds", "_law_low", "_law_high"] spSp := by
  refine F.ok scSp (fun vs H Q E h => ?_) (fun cdv A outer s H vs Q E hr h => ?_)
  · obtain ⟨D, ys, ds, n, l, h, rfl, _⟩ := h
    rfl
  · obtain ⟨D, ys, ds, m, l, h, rfl, hD, dd, ok, m16, l100, h100, d60, q⟩ := h
    have N := scSp.nd
    have hu := hu_of hr
    have yl := Paired.length dd
    refine ⟨_, pss_cons (ps_set (i := 4) N rfl (.inl rfl) (pe_lst pa_nil))
      (pss_cons (ps_for PassesOwn.never rfl (pi_range1 (by rfl) n.range (pa_cons (pv 0) pa_nil)) (pg_name (i := 5) N rfl (.inr rfl))
        (pss_cons (ps_asg (pe_tup (pa_cons pe_dnewT (pa_cons (pe_lst (pa_cons (pe_tup (pa_cons (pv 5) (pa_cons pe_int pa_nil))) pa_nil)) pa_nil))) (pg_tup rfl (pgs_cons (pg_name (i := 6) N rfl (.inr rfl)) (pgs_cons (pg_name (i := 7) N rfl (.inl rfl)) pgs_nil))))
        (pss_cons (ps_while PassesOwn.never (pt_cmpR (op_neD hr.units) (pv 7) (pe_lst pa_nil) (nomark _))
          (pss_cons (ps_set (i := 8) N rfl (.inl rfl) (pe_bm0 PySem.F.plainAttrs_list PySem.F.slot_list_pop PySem.F.type_list_pop mt_pop (pv 7)))
          (pss_one (ps_if (pt_cmp (pc_dnotin hu (pv 8) (pv 6)))
            (pss_cons (ps_dput hu (pv 6) (pv 8) pe_bl rfl)
            (pss_one (ps_for PassesOwn.never rfl (pi_list (pv 1)) (pg_tup rfl (pgs_cons (pg_name (i := 9) N rfl (.inl rfl)) (pgs_cons (pg_name (i := 10) N rfl (.inl rfl)) (pgs_cons (pg_name (i := 11) N rfl (.inl rfl)) (pgs_cons (pg_name (i := 12) N rfl (.inl rfl)) pgs_nil)))))
              (pss_one (ps_if (PW.pt (pw_and (pt_cmpR op_eq (pv 9) (pe_ix ix_tup (pv 8) pe_int (fun _ _ => rfl)) (nomark _)) (pw_and (pt_cmpR op_eq (pv 12) pe_str (nomark _)) (pw_and1 (pt_chain op_le op_le (pe_op op_sub pe_int (pv 2)) (pe_op op_add (pe_ix ix_tup (pv 8) pe_int (fun _ _ => rfl)) (pv 10)) (pv 3))))))
                (pss_one (ps_expr (pe_bm PySem.F.plainAttrs_list PySem.F.slot_list_append PySem.F.type_list_append mt_append (pv 7) (pa_cons (pe_tup (pa_cons (pv 11) (pa_cons (pe_op op_add (pe_ix ix_tup (pv 8) pe_int (fun _ _ => rfl)) (pv 10)) pa_nil))) pa_nil)))) pss_nil)))))
            pss_nil))))
        (pss_one (ps_expr (pe_bm PySem.F.plainAttrs_list PySem.F.slot_list_extend PySem.F.type_list_extend mt_extend (pv 4) (pa_cons
          (pe_lc (own := [("_law_goal", 11)]) (g := gName 11) rfl N (pi_range1 (by rfl) n.range (pa_cons (pv 0) pa_nil)) (blkOk_by (N := NSp) (sc := defScope (top 48)) (by decide +kernel)) (fun _ _ _ _ _ => pg_name (i := 11) N rfl (.inl rfl))
            (fun _ _ _ _ _ => pts_one (pt_cmp (pc_din hu (pe_tup (pa_cons (pv 11) (pa_cons pe_int pa_nil))) (pv 6)))) (fun _ _ _ _ _ => pe_tup (pa_cons (pv 5) (pa_cons (pv 11) pa_nil)))) pa_nil)))))))
      (pss_one (ps_ret (pv 4)))), ?_⟩
    generalize hB : ds.length + 1 = B
    generalize hM : m * (l + h + 1) = M
    have MB : M * B ≤ 196176 := by
      have h1 : m * (l + h + 1) ≤ 16 * 201 := Nat.mul_le_mul m16 (by omega)
      have h2 : M * B ≤ (16 * 201) * 61 := Nat.mul_le_mul (hM ▸ h1) (by omega)
      exact h2
    refine ⟨(by show 0 ≤ sizeLine; decide), fun o ho => ?_⟩
    have s0 := same_upd (o := .lst []) ho
    refine ⟨_, rfl, m, rfl, by omega, by omega, for_range (lo := 0) (n := ((m : Int)).toNat) (fun i σ H2 => ∃ (xs : List V) (v5 v6 v7 v8 v9 v10 v11 v12 : Option V), σ = [some (.int (m : Nat)), some (.ref D), some (.int (l : Nat)), some (.int (h : Nat)), some (.ref o), v5, v6, v7, v8, v9, v10, v11, v12] ∧ ButD o H H2 ∧ H2 o = some (.lst xs) ∧ PrAll H2 xs ((List.range i).flatMap (rowC m (BandD m ds l h))))
      ⟨[], _, _, _, _, _, _, _, _, rfl, .start, upd_same, .nil⟩ ?_ ?_⟩
    · rintro i σ H2 hi ⟨xs, v5, v6, v7, v8, v9, v10, v11, v12, rfl, b2, ho2, pa⟩
      have s2 := b2.new ho
      have im : i < m := by omega
      have e0 : (0 : Int) + (i : Int) = (i : Int) := Int.zero_add _
      refine gn ?_
      rw [e0]
      -- nothing found, the place waits
      refine seqV (Good := fun σ2 H3 => ∃ (f w : Addr), SzAt (-(l : Int)) h ds i H2 H3 f w [] [(i, 0)] ∧ σ2 = [some (.int (m : Nat)), some (.ref D), some (.int (l : Nat)), some (.int (h : Nat)), some (.ref o), some (.int (i : Nat)), some (.ref f), some (.ref w), v8, v9, v10, v11, v12]) ?_ ?_
      · intro nx hnx
        intro f hf
        have s3 : Same H2 (upd H2 f (.dT [])) := same_upd hf
        refine ⟨_, rfl, (by show 2 ≤ sizeLine; decide), fun t ht => ⟨(by show 1 ≤ sizeLine; decide), fun w hw => ⟨(by show 2 ≤ sizeLine; decide), fun T hT => ?_⟩⟩⟩
        have s4 := same_upd (o := .tup [V.int (i : Nat), V.int 0]) ht
        have s5 := same_upd (o := .lst [V.ref t]) hw
        have s6 := same_upd (o := .tup [V.ref f, V.ref w]) hT
        have hf3 : upd H2 f (.dT []) f = some (.dT []) := upd_same
        refine ⟨T, _, rfl, .inl (.inl upd_same), rfl, _, _, rfl, _, _, rfl, rfl, ?_⟩
        exact hnx _ _ ⟨f, w, ⟨hf, (s3.trans s4).free hw, ne_of_none (s4 _ _ hf3) hw, s3.trans (s4.trans (s5.trans s6)), s6 _ _ (s5 _ _ (s4 _ _ hf3)), ⟨_, s6 _ _ upd_same, .cons ⟨t, rfl, s6 _ _ (s5 _ _ upd_same)⟩ .nil⟩,
          ⟨.nil, (fun t z => nomatch z), (fun t z => by
            rw [List.mem_singleton.mp z]
            exact .start), .inr List.mem_cons_self⟩⟩, rfl⟩
      rintro _ H3 ⟨f, w, z3, rfl⟩
      -- the walk
      refine seqV (Good := fun σ2 H4 => ∃ (fs : List (Nat × Int)) (v8 v9 v10 v11 v12 : Option V), Same H2 H4 ∧ H4 f = some (.dT (kvZ fs)) ∧ (∀ t, t ∈ fs ↔ ZwD (-(l : Int)) h ds i t) ∧ σ2 = [some (.int (m : Nat)), some (.ref D), some (.int (l : Nat)), some (.int (h : Nat)), some (.ref o), some (.int (i : Nat)), some (.ref f), some (.ref w), v8, v9, v10, v11, v12]) ?_ ?_
      · intro nx hnx
        refine ⟨fun k σ H4 => ∃ (fs ws : List (Nat × Int)) (v8 v9 v10 v11 v12 : Option V), k = (M - fs.length) * B + ws.length ∧ σ = [some (.int (m : Nat)), some (.ref D), some (.int (l : Nat)), some (.int (h : Nat)), some (.ref o), some (.int (i : Nat)), some (.ref f), some (.ref w), v8, v9, v10, v11, v12] ∧ SzAt (-(l : Int)) h ds i H2 H4 f w fs ws ∧ (∀ t ∈ fs, DoneZ (-(l : Int)) h ds fs ws t) ∧ (M - fs.length) * B + ws.length ≤ M * B + 1,
          ⟨_, [], [(i, 0)], v8, v9, v10, v11, v12, rfl, rfl, z3, (fun t z => nomatch z), Nat.le_refl _⟩, ?_⟩
        clear z3 v8 v9 v10 v11 v12 H3
        rintro k σ H4 ⟨fs, ws, v8, v9, v10, v11, v12, rfl, rfl, z4, dn, lm⟩
        obtain ⟨ws1, hw, pw⟩ := z4.hw
        refine ⟨_, rfl, (by show 0 ≤ sizeLine; decide), fun e he => ?_⟩
        have se := same_upd (o := .lst []) he
        refine ⟨_, .list [], .lst (.inl (.inl (se _ _ hw))) (PzAll.same se pw).dps, .lst (.inl (.inl upd_same)) .nil, zD_shaped _, by decide +kernel, !decide (ws = []), congrArg (fun b => V.bl (!b)) (zD_nil ws), ?_⟩
        rcases List.eq_nil_or_concat ws with rfl | ⟨ws0, t0, rfl⟩
        · exact iteF (hnx _ _ ⟨fs, _, _, _, _, _, z4.same.trans se, se _ _ z4.hf, z4.bz.all (by omega) (by omega) dn, rfl⟩)
        rw [List.concat_eq_append] at *
        have hne : decide (ws0 ++ [t0] = []) = false := decide_eq_false (by simp)
        rw [hne]
        refine iteT ⟨_, fun σ' H' h => h, ?_⟩
        obtain ⟨xs0, x0, rfl, pa0, t, rfl, ht⟩ := paired_snoc pw
        have hw' := se _ _ hw
        refine ⟨_, rfl, .inl ⟨rfl, _, .inl (.inl hw')⟩, w, _, .ref t, rfl, rfl, hw', by simp, ?_⟩
        rw [List.dropLast_concat]
        have bp : ButD w (upd H4 e (.lst [])) (upd (upd H4 e (.lst [])) w (.lst xs0)) := ButD.start
        have tw : t ≠ w := fun z => by
          subst z
          rw [hw] at ht
          exact nomatch ht
        have s3 : Same H2 (upd (upd H4 e (.lst [])) w (.lst xs0)) := fun b o eb => bp _ _ (ne_of_none eb z4.nw) (se _ _ (z4.same _ _ eb))
        have hf5 := bp _ _ z4.ne (se _ _ z4.hf)
        have hw5 : upd (upd H4 e (.lst [])) w (.lst xs0) w = some (.lst xs0) := upd_same
        have pw5 := (PzAll.same se pa0).but bp ⟨_, hw'⟩
        have ht5 := bp _ _ tw (se _ _ ht)
        have w0 : ∀ t ∈ ws0, ZwD (-(l : Int)) h ds i t := fun t z => z4.bz.wk t (List.mem_append_left _ z)
        have wt0 : ZwD (-(l : Int)) h ds i t0 := z4.bz.wk t0 (by simp)
        rw [List.length_append] at lm
        have lm : (M - fs.length) * B + (ws0.length + 1) ≤ M * B + 1 := lm
        have lw : (ws0 ++ [t0]).length = ws0.length + 1 := by rw [List.length_append]; rfl
        generalize upd (upd H4 e (.lst [])) w (.lst xs0) = H5 at s3 hf5 hw5 pw5 ht5
        have hTk : H5 t = some (.tup ((kZ t0).map kV)) := ht5
        refine ⟨_, rfl, _, rfl, f, _, rfl, .t hf5 hTk, _, rfl, ?_⟩
        rw [valV_Z]
        by_cases c : t0 ∈ fs
        · rw [decide_eq_true c]
          refine iteF ⟨_, ?_, fs, ws0, _, _, _, _, _, rfl, rfl, ⟨z4.nf, z4.nw, z4.ne, s3, hf5, ⟨xs0, hw5, pw5⟩, ⟨z4.bz.nd, z4.bz.ok, w0, z4.bz.st.elim .inl fun z => ?_⟩⟩, fun t' ht' d hd u e => ?_, by omega⟩
          · rw [lw]
            omega
          · rcases List.mem_append.mp z with z | z
            · exact .inr z
            · rw [List.mem_singleton.mp z]
              exact .inl c
          · rcases dn t' ht' d hd u e with z | z
            · exact .inl z
            · rcases List.mem_append.mp z with z | z
              · exact .inr z
              · rw [List.mem_singleton.mp z]
                exact .inl c
        rw [decide_eq_false c]
        have bz1 : Bz (-(l : Int)) h ds i (fs ++ [t0]) ws0 := ⟨List.nodup_append.mpr ⟨z4.bz.nd, List.pairwise_singleton _ _, fun a ha b hb z => by
            rw [List.mem_singleton.mp hb] at z
            exact c (z ▸ ha)⟩, fun t' ht' => (List.mem_append.mp ht').elim (z4.bz.ok t') fun z => by
              rw [List.mem_singleton.mp z]
              exact wt0, w0, z4.bz.st.elim (fun z => .inl (List.mem_append_left _ z)) fun z => (List.mem_append.mp z).elim .inr fun z => .inl (List.mem_append_right _ z)⟩
        have fl : fs.length + 1 ≤ M := by
          have := bz1.len ok (by omega) (by omega) im
          rw [show ((h : Int) - -(l : Int) + 1).toNat = l + h + 1 by omega, hM, List.length_append] at this
          exact this
        have ms := mul_step (B := B) fl
        refine iteT ⟨_, rfl, _, rfl, f, _, rfl, .t hf5 hTk (by
          unfold kvZ
          have : M ≤ M * B := Nat.le_mul_of_pos_right _ (by omega)
          rw [List.length_map, sizeLine_eq]
          omega), ?_⟩
        rw [putK_new _ (valV_Znone c)]
        have ek : kvZ fs ++ [(kZ t0, V.bl true)] = kvZ (fs ++ [t0]) := by
          unfold kvZ
          rw [List.map_append]
          rfl
        rw [ek]
        have tf : t ≠ f := fun z => by
          subst z
          rw [hf5] at ht5
          exact nomatch ht5
        have bf : ButD f H5 (upd H5 f (.dT (kvZ (fs ++ [t0])))) := ButD.start
        have z6 : SzAt (-(l : Int)) h ds i H2 (upd H5 f (.dT (kvZ (fs ++ [t0])))) f w (fs ++ [t0]) ws0 :=
          ⟨z4.nf, z4.nw, z4.ne, fun b o eb => bf _ _ (ne_of_none eb z4.nf) (s3 _ _ eb), upd_same, ⟨xs0, bf _ _ (Ne.symm z4.ne) hw5, Paired.mapP pw5 fun _ _ ⟨u, e, hu⟩ => ⟨u, e, bf _ _ (fun z => by rw [z, hf5] at hu; exact nomatch hu) hu⟩⟩, bz1⟩
        have ht6 := bf _ _ tf ht5
        clear hf5 hw5 pw5 ht5 hTk s3 bp hw' se
        generalize upd H5 f (.dT (kvZ (fs ++ [t0]))) = H6 at z6 ht6
        -- the deeds
        refine ⟨_, rfl, D, rfl, ⟨ys, .inl (.inl (z6.same _ _ (s2 _ _ hD)))⟩, ?_⟩
        refine loop_of (n := ys.length) (fun j σ H7 => ∃ (ws' : List (Nat × Int)) (v9 v10 v11 v12 : Option V), σ = [some (.int (m : Nat)), some (.ref D), some (.int (l : Nat)), some (.int (h : Nat)), some (.ref o), some (.int (i : Nat)), some (.ref f), some (.ref w), some (.ref t), v9, v10, v11, v12] ∧ SzAt (-(l : Int)) h ds i H2 H7 f w (fs ++ [t0]) ws' ∧ H7 t = some (.tup [.int (t0.1 : Nat), .int t0.2]) ∧
            (∀ t ∈ fs, DoneZ (-(l : Int)) h ds (fs ++ [t0]) ws' t) ∧ (∀ d ∈ ds.take j, ∀ u, nz (-(l : Int)) h d t0 = some u → u ∈ fs ++ [t0] ∨ u ∈ ws') ∧ ws'.length ≤ ws0.length + j)
          ⟨ws0, v9, v10, v11, v12, rfl, z6, ht6, fun t' ht' d hd u e => ?_, (by simp), Nat.le_refl _⟩ ?_ ?_
        · rcases dn t' ht' d hd u e with z | z
          · exact .inl (List.mem_append_left _ z)
          · exact (List.mem_append.mp z).elim .inr fun z => .inl (List.mem_append_right _ z)
        · rintro σ H7 ⟨ws', v9, v10, v11, v12, rfl, z7, ht7, dn7, all7, le7⟩
          refine ⟨⟨_, .inl (.inl (z7.same _ _ (s2 _ _ hD))), Nat.le_refl _⟩, ?_⟩
          rw [yl] at all7 le7
          rw [List.take_length] at all7
          have fl2 : (fs ++ [t0]).length = fs.length + 1 := by rw [List.length_append]; rfl
          refine ⟨_, ?_, fs ++ [t0], ws', _, _, _, _, _, rfl, rfl, z7, fun t' ht' => ?_, ?_⟩
          · rw [lw, fl2, ms]
            omega
          · rcases List.mem_append.mp ht' with z | z
            · exact dn7 t' z
            · rw [List.mem_singleton.mp z]
              exact all7
          · rw [fl2]
            rw [ms] at lm
            omega
        · rintro j σ H7 hj ⟨ws', v9, v10, v11, v12, rfl, z7, ht7, dn7, all7, le7⟩
          have hD7 := z7.same _ _ (s2 _ _ hD)
          refine ⟨⟨_, _, .inl (.inl hD7), List.getElem?_eq_getElem hj⟩, ?_⟩
          rintro x H8 ⟨rfl, hy⟩
          have hyj := hy _ (.inl (.inl hD7))
          obtain ⟨d, hd, td, rfl, htd⟩ := Paired.at dd hyj
          have dm := List.mem_of_getElem? hd
          have od := ok d dm
          have tk : ds.take (j + 1) = ds.take j ++ [d] := by rw [List.take_succ, hd]; rfl
          refine ⟨td, _, rfl, .inl (.inl (z7.same _ _ (s2 _ _ htd))), rfl, _, _, rfl, _, _, rfl, _, _, rfl, _, _, rfl, rfl, ?_⟩
          have skip : (∀ u, nz (-(l : Int)) h d t0 = some u → u ∈ fs ++ [t0] ∨ u ∈ ws') → ∃ (ws'' : List (Nat × Int)) (v9 v10 v11 v12 : Option V), [some (V.int (m : Nat)), some (.ref D), some (.int (l : Nat)), some (.int (h : Nat)), some (.ref o), some (.int (i : Nat)), some (.ref f), some (.ref w), some (.ref t), some (.int d.p), some (.int d.c), some (.int d.g), some (.str d.w)] = [some (V.int (m : Nat)), some (.ref D), some (.int (l : Nat)), some (.int (h : Nat)), some (.ref o), some (.int (i : Nat)), some (.ref f), some (.ref w), some (.ref t), v9, v10, v11, v12] ∧ SzAt (-(l : Int)) h ds i H2 H8 f w (fs ++ [t0]) ws'' ∧ H8 t = some (.tup [.int (t0.1 : Nat), .int t0.2]) ∧
            (∀ t ∈ fs, DoneZ (-(l : Int)) h ds (fs ++ [t0]) ws'' t) ∧ (∀ d ∈ ds.take (j + 1), ∀ u, nz (-(l : Int)) h d t0 = some u → u ∈ fs ++ [t0] ∨ u ∈ ws'') ∧ ws''.length ≤ ws0.length + (j + 1) := fun z =>
            ⟨ws', _, _, _, _, rfl, z7, ht7, dn7, fun d' hd' u e => by
              rw [tk] at hd'
              rcases List.mem_append.mp hd' with hd' | hd'
              · exact all7 d' hd' u e
              · rw [List.mem_singleton.mp hd'] at e
                exact z u e, by omega⟩
          have no : ¬ (d.p = (t0.1 : Int) ∧ d.w = "any" ∧ -(l : Int) ≤ t0.2 + d.c ∧ t0.2 + d.c ≤ h) → ∀ u, nz (-(l : Int)) h d t0 = some u → u ∈ fs ++ [t0] ∨ u ∈ ws' := fun c u e => by
            unfold nz at e
            rw [if_neg c] at e
            exact nomatch e
          have e1 : decide (V.int d.p = V.int (t0.1 : Nat)) = decide (d.p = (t0.1 : Int)) := by simp
          refine ⟨_, rfl, _, rfl, t, _, _, _, rfl, rfl, .inl (.inl ht7), rfl, rfl, decide (d.p = (t0.1 : Int)), congrArg V.bl e1, ?_⟩
          by_cases c1 : ¬ (d.p = (t0.1 : Int))
          · rw [decide_eq_false c1]
            exact iteF (skip (no fun z => c1 z.1))
          replace c1 := Decidable.not_not.mp c1
          rw [decide_eq_true c1]
          refine iteT ⟨_, rfl, rfl, isAny d, congrArg V.bl (anyE d), ?_⟩
          cases c2 : isAny d with
          | false => exact iteF (skip (no fun z => by rw [(isAny_w d).mpr z.2.1] at c2; exact nomatch c2))
          | true =>
            have w2 := (isAny_w d).mp c2
            refine iteT ⟨_, rfl, _, _, rfl, rfl, _, rfl, t, _, _, _, rfl, rfl, .inl (.inl ht7), rfl, _, rfl, _, _, rfl, rfl, _, _, rfl, rfl, decide ((0 : Int) - (l : Int) ≤ t0.2 + d.c), rfl, ?_⟩
            by_cases c3 : ¬ ((0 : Int) - (l : Int) ≤ t0.2 + d.c)
            · rw [decide_eq_false c3]
              exact iteF ⟨false, rfl, iteF (skip (no fun z => c3 (by omega)))⟩
            replace c3 := Decidable.not_not.mp c3
            rw [decide_eq_true c3]
            refine iteT ⟨_, rfl, _, _, rfl, rfl, decide (t0.2 + d.c ≤ (h : Int)), rfl, ?_⟩
            by_cases c4 : ¬ (t0.2 + d.c ≤ (h : Int))
            · rw [decide_eq_false c4]
              exact iteF (skip (no fun z => c4 z.2.2.2))
            replace c4 := Decidable.not_not.mp c4
            rw [decide_eq_true c4]
            have g0 := od.g0
            have enx : nz (-(l : Int)) h d t0 = some (d.g.toNat, t0.2 + d.c) := by
              unfold nz
              rw [if_pos ⟨c1, w2, by omega, c4⟩]
            obtain ⟨xs7, hw7, pw7⟩ := z7.hw
            have xl7 := Paired.length pw7
            refine iteT ⟨_, rfl, .inl ⟨rfl, _, .inl (.inl hw7)⟩, _, rfl, _, rfl, t, _, _, _, rfl, rfl, .inl (.inl ht7), rfl, _, rfl, _, _, rfl, rfl, (by show 2 ≤ sizeLine; decide), fun T hT => ?_⟩
            have sT := same_upd (o := .tup [V.int d.g, V.int (t0.2 + d.c)]) hT
            have hT8 : upd H8 T (.tup [V.int d.g, V.int (t0.2 + d.c)]) T = some (.tup [V.int ((d.g.toNat : Nat) : Int), V.int (t0.2 + d.c)]) := by
              rw [upd_same, show ((d.g.toNat : Nat) : Int) = d.g by omega]
            have hf8 := sT _ _ z7.hf
            have hw8 := sT _ _ hw7
            have pw8 := PzAll.same sT pw7
            have ht8 := sT _ _ ht7
            have s8 := z7.same.trans sT
            generalize upd H8 T (.tup [V.int d.g, V.int (t0.2 + d.c)]) = H9 at hT8 hf8 hw8 pw8 ht8 s8
            refine ⟨w, _, _, rfl, rfl, hw8, by rw [sizeLine_eq]; omega, ?_⟩
            have bw : ButD w H9 (upd H9 w (.lst (xs7 ++ [.ref T]))) := ButD.start
            have zw : ∀ t' ∈ ws' ++ [(d.g.toNat, t0.2 + d.c)], ZwD (-(l : Int)) h ds i t' := fun t' z => by
              rcases List.mem_append.mp z with z | z
              · exact z7.bz.wk t' z
              · rw [List.mem_singleton.mp z]
                exact nz_zw ok dm wt0 enx
            refine ⟨ws' ++ [(d.g.toNat, t0.2 + d.c)], _, _, _, _, rfl, ⟨z7.nf, z7.nw, z7.ne, fun b ob e => bw _ _ (ne_of_none e z7.nw) (s8 _ _ e), bw _ _ z7.ne hf8, ⟨_, upd_same, PzAll.but bw ⟨_, hw8⟩ (PySem.Paired.snoc pw8 ⟨T, rfl, hT8⟩)⟩,
              ⟨z7.bz.nd, z7.bz.ok, zw, z7.bz.st.imp id fun z => List.mem_append_left _ z⟩⟩, bw _ _ tw ht8, fun t' ht' d' hd' u e => (dn7 t' ht' d' hd' u e).imp id fun z => List.mem_append_left _ z, fun d' hd' u e => ?_, by rw [List.length_append]; show ws'.length + 1 ≤ _; omega⟩
            rw [tk] at hd'
            rcases List.mem_append.mp hd' with hd' | hd'
            · exact (all7 d' hd' u e).imp id fun z => List.mem_append_left _ z
            · rw [List.mem_singleton.mp hd', enx] at e
              rw [← Option.some.inj e]
              exact .inr (List.mem_append_right _ List.mem_cons_self)
      clear z3 v8 v9 v10 v11 v12
      rintro _ H4 ⟨fs, v8, v9, v10, v11, v12, s24, hf4, mem, rfl⟩
      have ho4 := s24 _ _ ho2
      have pa4 := PrAll.same s24 pa
      have lv : ∀ b, (b, (0 : Int)) ∈ fs ↔ BandD m ds l h i b := fun b => (mem (b, 0)).trans (band_iff (Dl.inn ok 1) (Dl.inn ok 0) (Dl.inn ok (-1)) im).symm
      refine ⟨_, rfl, .inl ⟨rfl, _, .inl (.inl ho4)⟩, _, rfl, m, rfl, by omega, by omega, fun o2 no2 => ?_⟩
      refine lc_range (lo := 0) (n := ((m : Int)).toNat) (fun j H5 => ButD o2 H4 H5 ∧ ∃ zs, H5 o2 = some (.lst zs) ∧ PrAll H5 zs (((List.range j).filter fun b => decide (BandD m ds l h i b)).map fun b => (i, b))) ⟨.start, [], upd_same, .nil⟩ ?_ ?_
      · rintro j H5 hj ⟨b5, zs, h5, p5⟩
        have s5 := b5.new no2
        have ej : (0 : Int) + (j : Int) = (j : Int) := Int.zero_add _
        refine ⟨rfl, ?_⟩
        refine ⟨_, rfl, (by show 2 ≤ sizeLine; decide), fun T hT => ?_⟩
        have sT := same_upd (o := .tup [V.int (0 + (j : Int)), V.int 0]) hT
        have hTk : upd H5 T (.tup [V.int (0 + (j : Int)), V.int 0]) T = some (.tup ((kZ (j, 0)).map kV)) := by
          rw [upd_same, ej]
          rfl
        have hf6 := sT _ _ (s5 _ _ hf4)
        have h6 := sT _ _ h5
        have b6 := b5.more sT
        have p6 := PrAll.same sT p5
        generalize upd H5 T (.tup [V.int (0 + (j : Int)), V.int 0]) = H6 at hTk hf6 h6 b6 p6
        refine ⟨_, rfl, f, _, rfl, .t hf6 hTk, _, rfl, ?_⟩
        rw [valV_Z]
        have rs : ((List.range (j + 1)).filter fun b => decide (BandD m ds l h i b)).map (fun b => (i, b)) = ((List.range j).filter fun b => decide (BandD m ds l h i b)).map (fun b => (i, b)) ++ (if BandD m ds l h i j then [(i, j)] else []) := by
          rw [List.range_succ, List.filter_append, List.map_append]
          congr 1
          by_cases c : BandD m ds l h i j <;> simp [c]
        by_cases c : BandD m ds l h i j
        · rw [if_pos c] at rs
          rw [decide_eq_true ((lv j).mpr c)]
          refine iteT ⟨_, rfl, _, rfl, (by show 2 ≤ sizeLine; decide), fun u hu => ?_⟩
          have su := same_upd (o := .tup [V.int (i : Nat), V.int (0 + (j : Int))]) hu
          have zl := Paired.length p6
          have hz : zs.length ≤ j := by
            rw [zl, List.length_map]
            exact Nat.le_trans (List.length_filter_le _ _) (Nat.le_of_eq List.length_range)
          have bt : ButD o2 (upd H6 u (.tup [V.int (i : Nat), V.int (0 + (j : Int))])) (L2.upd (upd H6 u (.tup [V.int (i : Nat), V.int (0 + (j : Int))])) o2 (.lst (zs ++ [V.ref u]))) := ButD.start
          refine ⟨zs, su _ _ h6, by rw [sizeLine_eq]; omega, (b6.more su).put, _, upd_same, ?_⟩
          rw [rs]
          refine PrAll.but bt ⟨_, su _ _ h6⟩ (PySem.Paired.snoc (PrAll.same su p6) ⟨u, rfl, ?_⟩)
          rw [upd_same, ej]
        · rw [if_neg c, List.append_nil] at rs
          rw [decide_eq_false (fun z => c ((lv j).mp z))]
          exact iteF ⟨b6, zs, h6, by rw [rs]; exact p6⟩
      · rintro H5 ⟨b5, zs, h5, p5⟩
        rw [Int.toNat_natCast] at p5
        have s5 := b5.new no2
        have ho5 := s5 _ _ ho4
        have pa5 := PrAll.same s5 pa4
        have l1 := canon_len m (BandD m ds l h) i
        have l2 := rowC_len m (BandD m ds l h) i
        have xl := Paired.length pa5
        have zl : zs.length = (rowC m (BandD m ds l h) i).length := Paired.length p5
        have im2 : i * m ≤ 16 * 16 := Nat.mul_le_mul (by omega) m16
        have bo : ButD o H5 (upd H5 o (.lst (xs ++ zs))) := ButD.start
        refine ⟨o, o2, xs, zs, rfl, rfl, ho5, h5, by rw [sizeLine_eq]; omega, ?_⟩
        refine ⟨xs ++ zs, _, _, _, _, _, _, _, _, rfl, ButD.trans b2 (ButD.trans (Same.but (s24.trans s5)) bo), upd_same, ?_⟩
        rw [List.range_succ, List.flatMap_append, List.flatMap_cons, List.flatMap_nil, List.append_nil]
        exact PrAll.but bo ⟨_, ho5⟩ (PrAll.app pa5 p5)
    · rintro σ H2 ⟨xs, v5, v6, v7, v8, v9, v10, v11, v12, rfl, b2, ho2, pa⟩
      rw [Int.toNat_natCast] at pa
      exact ⟨_, rfl, q o H2 xs ho (b2.new ho) ho2 pa⟩
end
end L2.K73
end

section
set_option Elab.async false
set_option linter.all false
set_option maxRecDepth 100000
set_option maxHeartbeats 4000000
namespace L2.K73
open PySem PySem.Spec PyProof.Rows L2.Gd L2.Lv
/-! ### the law's lists of lids, of floors -/
def gUp : Bool → Nat → List Dd → Nat → Rl
  | true => LidD
  | false => FloD
theorem gUp_in (up : Bool) {n : Nat} {ds : List Dd} (k : Nat) : In n (gUp up n ds k) := by cases up <;> exact lid_in k
theorem gUp_chain (up : Bool) {n : Nat} {ds : List Dd} (n1 : 1 ≤ n) : ∃ m, m + 1 ≤ n * n ∧ Stops (gUp up n ds) m ∧ ∀ j, j < m → ¬ Stops (gUp up n ds) j := by cases up <;> exact lid_chain n1
theorem gUp_band (up : Bool) {n : Nat} {ds : List Dd} (k : Nat) : canon n (gUp up n ds k) = canon n (BandD n ds (if up = true then 0 else k) (if up = true then k else 0)) := by
  cases up with
  | true => exact canon_congr fun a _ b => lid_band k a b
  | false => exact canon_congr fun a _ b => (lid_band k a b).trans (band_mir k 0 a b)
theorem liL_len {f : Nat → Rl} {n m : Nat} : (liL f n m).length = m + 1 := by
  unfold liL
  rw [List.length_map, List.length_range]
theorem liL_get {f : Nat → Rl} {n m k : Nat} (h : k ≤ m) : (liL f n m)[k]? = some (canon n (f k)) := by
  unfold liL
  exact getElem_mapR _ (by omega)
def spGn : Sp := fun vs H Q _ => ∃ (D : Addr) (ys : List V) (ds : List Dd) (n : Nat) (up : Bool), vs = [.int (n : Nat), .ref D, .bl up] ∧ H D = some (.lst ys) ∧ DdAll H ys ds ∧ (∀ d ∈ ds, d.Ok (n : Int)) ∧ 1 ≤ n ∧ n ≤ 9 ∧ ds.length ≤ 60 ∧
  ∀ p H' xs m, H p = none → Same H H' → H' p = some (.lst xs) → PlAll p H' xs (liL (gUp up n ds) n m) → m + 1 ≤ n * n → Stops (gUp up n ds) m → (∀ j, j < m → ¬ Stops (gUp up n ds) j) → Q (.ref p) H'
def NGn : List Str := ["_law_places", "_law_deeds", "_law_is_up", "_law_found", "_law_many", "_law_here"]
theorem scGn : FnScope NGn ["_law_places", "_law_deeds", "_law_is_up"] (defScope (top 49)) := ⟨rfl, rfl, rfl, by decide +kernel, rfl, by decide +kernel, by decide +kernel⟩
theorem dLs_nil (ls : List (List (Nat × Nat))) : PyData.eqv (.list (ls.map dL)) (.list []) = decide (ls = []) := by
  cases ls with
  | nil => simp [PyData.eqv, PyData.eqvAll]
  | cons x r => simp [PyData.eqv, PyData.eqvAll]
section
variable {P : Program} {w : World} {K : PySem.W.Frag} {mg : Str → Option Value} {base : Heap} {C C2 : Addr}
theorem ok_gn {f : Addr} {fd : FuncData} (F : Fun K "_law_grown" "_law_grown" (top 49) f fd) (n : Nm mg) (SP : Fn P w K mg base 1 "_law_strip" ["_law_places", "_law_deeds", "_law_low", "_law_high"] spSp) : FnOk P w K mg base CX0 2 f fd ["_law_places", "_law_deeds", "_law_is_up"] spGn := by
  refine F.ok scGn (fun vs H Q E h => ?_) (fun cdv A outer s H vs Q E hr h => ?_)
  · obtain ⟨D, ys, ds, n, up, rfl, _⟩ := h
    rfl
  · obtain ⟨D, ys, ds, m, up, rfl, hD, dd, ok, m1, m9, d60, q⟩ := h
    have N := scGn.nd
    refine ⟨_, pss_cons (ps_par (i := 3) (j := 4) rfl N rfl rfl (by decide) rfl rfl (pa_cons (pe_lst pa_nil) (pa_cons pe_int pa_nil)) (by rfl))
      (pss_cons (ps_while PassesOwn.never (pt_cmpR op_lt (pv 4) (pe_op op_add (pe_op op_mul (pv 0) (pv 0)) pe_int) (nomark _))
        (pss_cons (ps_set (i := 5) N rfl (.inl rfl) (pe_ifExp (pt_val (pv 2)) (pe_fn SP hr (pa_cons (pv 0) (pa_cons (pv 1) (pa_cons pe_int (pa_cons (pv 4) pa_nil))))) (pe_fn SP hr (pa_cons (pv 0) (pa_cons (pv 1) (pa_cons (pv 4) (pa_cons pe_int pa_nil)))))))
        (pss_cons (ps_if (PW.pt (pw_and (pt_cmpR (op_neD hr.units) (pv 3) (pe_lst pa_nil) (nomark _)) (pw_and1 (pt_cmpR (op_eqD hr.units) (pe_ix ix_list (pv 3) (pe_un un_neg pe_int) (fun _ _ => rfl)) (pv 5) (nomark _))))) (pss_one (ps_ret (pv 3))) pss_nil)
        (pss_cons (ps_expr (pe_bm PySem.F.plainAttrs_list PySem.F.slot_list_append PySem.F.type_list_append mt_append (pv 3) (pa_cons (pv 5) pa_nil)))
        (pss_one (ps_set (i := 4) N rfl (.inl rfl) (pe_op op_add (pv 4) pe_int)))))))
      (pss_one (ps_ret pe_non))), ?_⟩
    obtain ⟨m0, m0n, st, go⟩ := gUp_chain up (n := m) (ds := ds) m1
    have mm : m * m ≤ 9 * 9 := Nat.mul_le_mul m9 m9
    refine seqV (Good := fun σ2 H2 => ∃ p : Addr, H p = none ∧ ButD p H H2 ∧ H2 p = some (.lst []) ∧ σ2 = [some (.int (m : Nat)), some (.ref D), some (.bl up), some (.ref p), some (.int ((0 : Nat) : Int)), none])
      (fun nx hnx => ⟨(by show 0 ≤ sizeLine; decide), fun o ho => ⟨_, _, rfl, hnx _ _ ⟨o, ho, .start, upd_same, rfl⟩⟩⟩) ?_
    rintro _ H1 ⟨p, np, b1, h1, rfl⟩
    refine ⟨fun k σ H2 => ∃ (j : Nat) (xs : List V) (v5 : Option V), j ≤ m0 + 1 ∧ k = m0 + 1 - j ∧ σ = [some (.int (m : Nat)), some (.ref D), some (.bl up), some (.ref p), some (.int (j : Nat)), v5] ∧ ButD p H H2 ∧ H2 p = some (.lst xs) ∧ PlAll p H2 xs ((List.range j).map fun k => canon m (gUp up m ds k)),
      ⟨_, 0, [], none, by omega, rfl, rfl, b1, h1, .nil⟩, ?_⟩
    clear b1 h1 H1
    rintro k σ H2 ⟨j, xs, v5, jm, rfl, rfl, b2, h2, pl⟩
    have s2 := b2.new np
    have mc : (m : Int) * (m : Int) = ((m * m : Nat) : Int) := (Int.natCast_mul m m).symm
    refine ⟨_, rfl, _, rfl, _, rfl, _, _, rfl, rfl, .inl ⟨by omega, by omega⟩, _, _, rfl, rfl, _, _, rfl, rfl, decide ((j : Int) < (m : Int) * (m : Int) + 2), rfl, ?_⟩
    rw [decide_eq_true (by rw [mc]; omega)]
    refine iteT ⟨_, fun σ' H' h => h, ?_⟩
    -- the strip
    refine seqV (Good := fun σ2 H3 => ∃ (e : Addr) (es : List V), H2 e = none ∧ Same H2 H3 ∧ H3 e = some (.lst es) ∧ PrAll H3 es (canon m (gUp up m ds j)) ∧ σ2 = [some (.int (m : Nat)), some (.ref D), some (.bl up), some (.ref p), some (.int (j : Nat)), some (.ref e)]) ?_ ?_
    · intro nx hnx
      refine ⟨_, rfl, up, rfl, ?_⟩
      have eb := gUp_band up (n := m) (ds := ds) j
      cases up with
      | true => exact iteT ⟨_, rfl, _, rfl, _, rfl, D, ys, ds, m, 0, j, rfl, s2 _ _ hD, DdAll.same s2 dd, ok, by omega, by omega, by omega, d60, fun e H3 es ne s3 he pe => hnx _ _ ⟨e, es, ne, s3, he, eb ▸ pe, rfl⟩⟩
      | false => exact iteF ⟨_, rfl, _, rfl, _, rfl, D, ys, ds, m, j, 0, rfl, s2 _ _ hD, DdAll.same s2 dd, ok, by omega, by omega, by omega, d60, fun e H3 es ne s3 he pe => hnx _ _ ⟨e, es, ne, s3, he, eb ▸ pe, rfl⟩⟩
    rintro _ H3 ⟨e, es, ne, s3, he, pe, rfl⟩
    have h3 := s3 _ _ h2
    have pl3 := PlAll.same s3 pl
    have xl := Paired.length pl3
    rw [List.length_map, List.length_range] at xl
    have noD : e ≠ p := (ne_of_none h2 ne).symm
    refine seqV (Good := fun σ2 H4 => Same H3 H4 ∧ j ≤ m0 ∧ σ2 = [some (.int (m : Nat)), some (.ref D), some (.bl up), some (.ref p), some (.int (j : Nat)), some (.ref e)]) ?_ ?_
    · intro nx hnx
      refine ⟨_, rfl, (by show 0 ≤ sizeLine; decide), fun u hu => ?_⟩
      have su := same_upd (o := .lst []) hu
      refine ⟨_, .list [], .lst (.inl (.inl (su _ _ h3))) (PlAll.same su pl3).dps, .lst (.inl (.inl upd_same)) .nil, dLs_shaped _, by decide +kernel, !decide ((List.range j).map (fun k => canon m (gUp up m ds k)) = []), congrArg (fun b => V.bl (!b)) (dLs_nil _), ?_⟩
      cases j with
      | zero => exact iteF (hnx _ _ ⟨su, Nat.zero_le _, rfl⟩)
      | succ j =>
        rw [decide_eq_false (by simp)]
        have lst : ∃ a zs, xs[j]? = some (V.ref a) ∧ a ≠ p ∧ H3 a = some (.lst zs) ∧ PrAll H3 zs (canon m (gUp up m ds j)) := by
          obtain ⟨x, hx⟩ : ∃ x, xs[j]? = some x := ⟨_, List.getElem?_eq_getElem (by omega)⟩
          obtain ⟨ps, hps, a, zs, rfl, na, ha, pa⟩ := Paired.at pl3 hx
          rw [getElem_mapR _ (by omega)] at hps
          obtain rfl := Option.some.inj hps
          exact ⟨a, zs, hx, na, ha, pa⟩
        obtain ⟨a, zs, hx, na, ha, pa⟩ := lst
        have hla : atI xs (-1) = some (.ref a) := by
          have := atI_take1 (xs := xs) hx
          rw [List.take_of_length_le (by omega)] at this
          exact this
        refine iteT ⟨_, rfl, 1, rfl, p, _, _, _, rfl, rfl, .inl (.inl (su _ _ h3)), hla, _, rfl, ?_⟩
        refine ⟨_, _, .lst (.inl (.inl (su _ _ ha))) (PrAll.same su pa).dps, .lst (.inl (.inl (su _ _ he))) (PrAll.same su pe).dps, pD_shaped _, pD_shaped _, _, congrArg V.bl (pL_eqv _ _), ?_⟩
        by_cases c : canon m (gUp up m ds j) = canon m (gUp up m ds (j + 1))
        · rw [decide_eq_true c]
          have stj : Stops (gUp up m ds) j := canon_inj (gUp_in up _) (gUp_in up _) c.symm
          have e0 : j = m0 := by
            rcases Nat.lt_or_ge j m0 with z | z
            · exact absurd stj (go j z)
            · omega
          subst e0
          exact iteT ⟨_, rfl, q p _ xs j np (s2.trans (s3.trans su)) (su _ _ h3) (PlAll.same su pl3) m0n st go⟩
        · rw [decide_eq_false c]
          refine iteF (hnx _ _ ⟨su, ?_, rfl⟩)
          rcases Nat.lt_or_ge m0 (j + 1) with z | z
          · exfalso
            have e0 : j = m0 := by omega
            subst e0
            exact c (canon_congr fun a _ b => (st a b).symm)
          · exact z
    rintro _ H4 ⟨s4, jm0, rfl⟩
    have h4 := s4 _ _ h3
    have bp : ButD p H4 (upd H4 p (.lst (xs ++ [.ref e]))) := ButD.start
    refine ⟨_, rfl, .inl ⟨rfl, _, .inl (.inl h4)⟩, _, rfl, p, _, _, rfl, rfl, h4, by rw [sizeLine_eq]; omega, ?_⟩
    refine ⟨_, rfl, _, _, rfl, rfl, ?_⟩
    refine ⟨_, ?_, j + 1, xs ++ [.ref e], _, by omega, rfl, rfl, ButD.trans b2 (ButD.trans (Same.but (s3.trans s4)) bp), upd_same, ?_⟩
    · omega
    · rw [List.range_succ, List.map_append]
      exact PlAll.but bp ⟨_, h4⟩ (PySem.Paired.snoc (PlAll.same s4 pl3) ⟨e, es, rfl, noD, s4 _ _ he, PrAll.same s4 pe⟩)
end
end L2.K73
end

section
set_option Elab.async false
set_option linter.all false
set_option maxRecDepth 100000
set_option maxHeartbeats 4000000
namespace L2.K73
open PySem PySem.Spec PyProof.Rows L2.Gd L2.Lv
/-! ### the pot, drawn deeds -/
abbrev sPot : Stmt := top 44
def spPot (K : PySem.W.Frag) : Sp := fun vs H Q _ => ∃ (s : Addr) (k : Nat) (ns : List Int), vs = [.ref s, .int k] ∧ SqL K H s (ns.map V.int) ∧ (ns.length ≤ 100000) ∧
  ∀ p H', H p = none → Same H H' → PotAt H' p → Q (.ref p) H'
theorem scPot : FnScope ["_law_script", "_law_k", "_law_cell"] ["_law_script", "_law_k"] (defScope sPot) := ⟨rfl, rfl, rfl, by decide +kernel, rfl, by decide +kernel, by decide +kernel⟩
theorem pot_refs {H : Hp} {p b : Addr} {zs : List V} (hp : PotAt H p) (h : H b = some (.lst zs)) (hr : ∀ v ∈ zs, ∃ t, v = V.ref t) : b ≠ p := by
  rintro rfl
  obtain ⟨x, y, e, _⟩ := hp
  rw [h] at e
  have e : zs = [V.int x, V.int y] := HO.lst.inj (Option.some.inj e)
  obtain ⟨t, ht⟩ := hr (.int x) (by rw [e]; exact List.mem_cons_self)
  exact nomatch ht
theorem DdAll.refs {H : Hp} : ∀ {zs : List V} {ps : List Dd}, DdAll H zs ps → ∀ v ∈ zs, ∃ t, v = V.ref t
  | _, _, .nil, _, h => nomatch h
  | _, _, .cons ⟨t, e, _⟩ r, v, h => (List.mem_cons.mp h).elim (fun z => ⟨t, z.trans e⟩) (DdAll.refs r v)
theorem pot_free {H H' : Hp} {p l : Addr} (hp : PotAt H p) (hp' : PotAt H' p) (b : ButD p H H') (n : H' l = none) : H l = none := by
  by_cases e : l = p
  · subst e
    obtain ⟨x, y, e, _⟩ := hp'
    rw [n] at e
    exact nomatch e
  · cases h : H l with
    | none => rfl
    | some o =>
      have := b _ _ e h
      rw [n] at this
      exact nomatch this
section
variable {P : Program} {w : World} {K : PySem.W.Frag} {mg : Str → Option Value} {base : Heap} {C C2 : Addr}
theorem ok_pot {f : Addr} {fd : FuncData} (F : Fun K "_law_pot" "_law_pot" sPot f fd) (n : Nm mg) : FnOk P w K mg base CX0 1 f fd ["_law_script", "_law_k"] (spPot K) := by
  refine F.ok scPot (fun vs H Q E h => ?_) (fun cdv A outer s H vs Q E hr h => ?_)
  · obtain ⟨s, k, ns, rfl, _⟩ := h
    rfl
  · obtain ⟨s, k, ns, rfl, hs, hz, q⟩ := h
    have N := scPot.nd
    refine ⟨_, pss_cons (ps_set (i := 2) N rfl (.inl rfl) (pe_ifExp (pt_cmpR op_lt (pv 1) (pe_callB call_len_seq (by rfl) n.len PySem.boot_len (pa_cons (pv 0) pa_nil)) (nomark _))
          (pe_callB call_abs (by rfl) n.abs (by decide +kernel) (pa_cons (pe_ix ix_list (pv 0) (pv 1) (fun _ _ => rfl)) pa_nil)) (pe_op op_add (pe_op op_mul pe_int (pv 1)) pe_int)))
      (pss_one (ps_ret (pe_lst (pa_cons (pe_callB (call_max2 rfl) (by rfl) n.max (by decide +kernel) (pa_cons pe_int (pa_cons (pe_op op_sub (pv 2) (pe_op op_pow pe_int pe_int)) pa_nil)))
        (pa_cons (pe_op op_add (pe_op op_mod (pe_callTy call_int1 (by rfl) n.int (by decide +kernel) (pa_cons (pe_op op_add (pe_op op_add (pe_op op_mul (pe_op op_mod (pe_callTy call_int1 (by rfl) n.int (by decide +kernel) (pa_cons (pv 2) pa_nil)) pe_int) pe_int) (pe_op op_mul pe_int (pv 1))) pe_int) pa_nil)) pe_int) pe_int) pa_nil))))), ?_⟩
    refine seqV (Good := fun σ2 H2 => H = H2 ∧ ∃ c : Int, σ2 = [some (.ref s), some (.int (k : Nat)), some (.int c)]) ?_ ?_
    · intro nx hnx
      refine ⟨_, rfl, _, rfl, s, _, rfl, .inl hs, _, _, rfl, rfl, decide ((k : Int) < (ns.map V.int).length), rfl, ?_⟩
      rw [List.length_map]
      by_cases hk : k < ns.length
      · rw [decide_eq_true (by omega)]
        exact iteT ⟨_, rfl, _, rfl, s, _, _, _, rfl, rfl, hs, atI_nat (by rw [List.getElem?_map, List.getElem?_eq_getElem hk]; rfl), _, rfl, hnx _ _ ⟨rfl, _, rfl⟩⟩
      · rw [decide_eq_false (by omega)]
        exact iteF ⟨_, rfl, _, _, rfl, rfl, .inl (by decide), _, _, rfl, rfl, hnx _ _ ⟨rfl, _, rfl⟩⟩
    rintro _ _ ⟨rfl, c, rfl⟩
    refine ⟨_, rfl, _, _, rfl, rfl, ⟨by decide, by decide, by decide⟩, _, _, rfl, rfl, _, _, rfl, ?_⟩
    refine ⟨_, rfl, .inl ⟨_, rfl, _, _, rfl, rfl, (by show (0 : Int) < 2147483549; decide), _, _, rfl, rfl, .inr (by decide), _, rfl, _, _, rfl, rfl, .inl (by decide), _, _, rfl, rfl, _, _, rfl, rfl, .inl ⟨_, rfl, ?_⟩⟩⟩
    refine ⟨_, _, rfl, rfl, (by show (0 : Int) < 2147483563; decide), _, _, rfl, rfl, (by show 2 ≤ sizeLine; decide), fun p hp => ?_⟩
    refine q p _ hp (same_upd hp) ⟨_, _, upd_same, ?_, ?_, ?_⟩
    · split <;> omega
    · omega
    · omega
/-! more deeds -/
def spMd : Sp := fun vs H Q _ => ∃ (p D : Addr) (ys : List V) (ds : List Dd) (m : Int) (k : Nat), vs = [.ref p, .int m, .ref D, .int (k : Nat), .bl false] ∧ PotAt H p ∧ H D = some (.lst ys) ∧ D ≠ p ∧ DdAll H ys ds ∧ (∀ d ∈ ds, d.Ok m) ∧ ds.Nodup ∧ ds.length ≤ 30 ∧ 1 ≤ m ∧ m ≤ 100 ∧ k ≤ 30 ∧
  ∀ l xs es H', H l = none → H' l = some (.lst xs) → PotAt H' p → ButD p H H' → DdAll H' xs es → (∀ d ∈ es, d.Ok m) → es.Nodup → es.length ≤ ds.length + k → Q (.ref l) H'
def NMd : List Str := ["_law_pot_here", "_law_places", "_law_deeds", "_law_many", "_law_is_plain", "_law_found", "_law_turn", "_law_change", "_law_is_empty", "_law_deed"]
theorem scMd : FnScope NMd ["_law_pot_here", "_law_places", "_law_deeds", "_law_many", "_law_is_plain"] (defScope (top 46)) := ⟨rfl, rfl, rfl, by decide +kernel, rfl, by decide +kernel, by decide +kernel⟩
theorem ok_md {f : Addr} {fd : FuncData} (F : Fun K "_law_more_deeds" "_law_more_deeds" (top 46) f fd) (n : Nm mg) (GD : Fn P w K mg base 1 "_law_draw" ["_law_pot_here", "_law_many"] spDraw) :
    FnOk P w K mg base CX0 2 f fd ["_law_pot_here", "_law_places", "_law_deeds", "_law_many", "_law_is_plain"] spMd := by
  refine F.ok scMd (fun vs H Q E h => ?_) (fun cdv A outer s H vs Q E hr h => ?_)
  · obtain ⟨p, D, ys, ds, m, k, rfl, _⟩ := h
    rfl
  · obtain ⟨p, D, ys, ds, m, k, rfl, hp, hD, nDp, dd, ok, nd, d30, m1, m100, k30, q⟩ := h
    have N := scMd.nd
    refine ⟨_, pss_cons (ps_set (i := 5) N rfl (.inl rfl) (pe_callTy call_list_of (by rfl) n.list (by decide +kernel) (pa_cons (pv 2) pa_nil)))
      (pss_cons (ps_for PassesOwn.never rfl (pi_range1 (by rfl) n.range (pa_cons (pv 3) pa_nil)) (pg_name (i := 6) N rfl (.inl rfl))
        (pss_cons (ps_set (i := 7) N rfl (.inl rfl) (pe_op op_sub (pe_fn GD hr (pa_cons (pv 0) (pa_cons pe_int pa_nil))) pe_int))
        (pss_cons (ps_set (i := 8) N rfl (.inl rfl) (pe_and (pe_not (pv 4)) (pe_and (pe_cmpR op_gt (pv 7) (pe_un un_neg pe_int) (nomark _)) (pe_one (pe_cmpR op_eq (pe_fn GD hr (pa_cons (pv 0) (pa_cons pe_int pa_nil))) pe_int (nomark _))))))
        (pss_cons (ps_set (i := 9) N rfl (.inl rfl) (pe_tup (pa_cons (pe_fn GD hr (pa_cons (pv 0) (pa_cons (pv 1) pa_nil))) (pa_cons (pv 7) (pa_cons (pe_fn GD hr (pa_cons (pv 0) (pa_cons (pv 1) pa_nil))) (pa_cons (pe_ifExp (pt_val (pv 8)) pe_str pe_str) pa_nil))))))
        (pss_one (ps_set (i := 5) N rfl (.inl rfl) (pe_ifExp (pt_cmpR (op_inD (hu65 hr)) (pv 9) (pv 5) (by rfl)) (pv 5) (pe_op op_cat (pv 5) (pe_lst (pa_cons (pv 9) pa_nil))))))))))
      (pss_one (ps_ret (pv 5)))), ?_⟩
    refine ⟨_, rfl, D, ys, rfl, .inl (.inl (.inl hD)), fun l hl => ?_⟩
    have sl := same_upd (o := .lst ys) hl
    refine ⟨_, rfl, k, rfl, by omega, by omega, for_range (lo := 0) (n := (k : Int).toNat) (fun i σ H2 => ∃ (l : Addr) (a6 a7 a8 a9 : Option V) (xs : List V) (es : List Dd),
      σ = [some (.ref p), some (.int m), some (.ref D), some (.int (k : Nat)), some (.bl false), some (.ref l), a6, a7, a8, a9] ∧ PotAt H2 p ∧ ButD p H H2 ∧ H l = none ∧ H2 l = some (.lst xs) ∧ DdAll H2 xs es ∧ (∀ d ∈ es, d.Ok m) ∧ es.Nodup ∧ es.length ≤ ds.length + i)
      ⟨l, none, none, none, none, ys, ds, rfl, hp.same sl, Same.but sl, hl, upd_same, dd.same sl, ok, nd, Nat.le_refl _⟩ ?_ ?_⟩
    · clear sl hl l
      rintro i σ H2 hi ⟨l, a6, a7, a8, a9, xs, es, rfl, hp2, b2, nl, hl2, dd2, ok2, nd2, len⟩
      refine gn ?_
      refine seqV (Good := fun σ2 H3 => ∃ ch : Int, -1 ≤ ch ∧ ch ≤ 1 ∧ PotAt H3 p ∧ ButD p H2 H3 ∧ σ2 = [some (.ref p), some (.int m), some (.ref D), some (.int (k : Nat)), some (.bl false), some (.ref l), some (.int (0 + (i : Int))), some (.int ch), a8, a9])
        (fun nx hnx => ⟨_, rfl, p, 3, rfl, hp2, by decide, by decide, fun d H3 d0 d3 hp3 b3 => ⟨_, _, rfl, rfl, hnx _ _ ⟨_, by omega, by omega, hp3, b3, rfl⟩⟩⟩) ?_
      rintro _ H3 ⟨ch, c1, c2, hp3, b3, rfl⟩
      refine seqV (Good := fun σ2 H4 => ∃ em : Bool, (em = true → -1 < ch) ∧ PotAt H4 p ∧ ButD p H2 H4 ∧ σ2 = [some (.ref p), some (.int m), some (.ref D), some (.int (k : Nat)), some (.bl false), some (.ref l), some (.int (0 + (i : Int))), some (.int ch), some (.bl em), a9]) ?_ ?_
      · intro nx hnx
        refine ⟨_, rfl, false, rfl, true, rfl, iteT ⟨_, rfl, 1, rfl, _, _, rfl, rfl, decide (ch > -1), rfl, ?_⟩⟩
        by_cases c : ch > -1
        · rw [decide_eq_true c]
          exact iteT ⟨_, rfl, p, 3, rfl, hp3, by decide, by decide, fun d H4 d0 d3 hp4 b4 => ⟨rfl, hnx _ _ ⟨_, fun _ => by omega, hp4, ButD.trans b3 b4, rfl⟩⟩⟩
        · rw [decide_eq_false c]
          exact iteF (hnx _ _ ⟨false, (fun z => nomatch z), hp3, b3, rfl⟩)
      rintro _ H4 ⟨em, hem, hp4, b4, rfl⟩
      refine seqV (Good := fun σ2 H5 => ∃ (t : Addr) (dn : Dd), dn.Ok m ∧ H5 t = some (.tup dn.vs) ∧ PotAt H5 p ∧ ButD p H2 H5 ∧ σ2 = [some (.ref p), some (.int m), some (.ref D), some (.int (k : Nat)), some (.bl false), some (.ref l), some (.int (0 + (i : Int))), some (.int ch), some (.bl em), some (.ref t)]) ?_ ?_
      · intro nx hnx
        refine ⟨_, rfl, _, rfl, p, m, rfl, hp4, m1, by omega, fun pl H5 pl0 pln hp5 b5 => ⟨_, rfl, _, rfl, _, rfl, p, m, rfl, hp5, m1, by omega, fun gl H6 gl0 gln hp6 b6 => ⟨_, rfl, em, rfl, ?_⟩⟩⟩
        have b6' : ButD p H2 H6 := ButD.trans b4 (ButD.trans b5 b6)
        cases em with
        | true =>
          refine iteT ⟨(by show 4 ≤ sizeLine; decide), fun t ht => ?_⟩
          have st := same_upd (o := .tup [.int pl, .int ch, .int gl, .str "empty"]) ht
          have := hem rfl
          exact hnx _ _ ⟨t, ⟨pl, ch, gl, "empty"⟩, ⟨pl0, pln, gl0, gln, .inr ⟨rfl, by show 0 ≤ ch; omega, c2⟩⟩, upd_same, hp6.same st, ButD.trans b6' (Same.but st), rfl⟩
        | false =>
          refine iteF ⟨(by show 4 ≤ sizeLine; decide), fun t ht => ?_⟩
          have st := same_upd (o := .tup [.int pl, .int ch, .int gl, .str "any"]) ht
          exact hnx _ _ ⟨t, ⟨pl, ch, gl, "any"⟩, ⟨pl0, pln, gl0, gln, .inl ⟨rfl, c1, c2⟩⟩, upd_same, hp6.same st, ButD.trans b6' (Same.but st), rfl⟩
      rintro _ H5 ⟨t, dn, okd, ht, hp5, b5, rfl⟩
      have nlp : l ≠ p := pot_refs hp2 hl2 dd2.refs
      have hl5 := b5 _ _ nlp hl2
      have dd5 := DdAll.pot hp2 b5 dd2
      refine ⟨_, rfl, _, rfl, dn.d, es.map Dd.d, DdAt.dp ⟨_, rfl, ht⟩, .lst (.inl (.inl hl5)) dd5.dps, Dd.shaped okd.wd, shapedL (fun x hx => (ok2 x hx).wd), _, rfl, ?_⟩
      rw [any_in]
      by_cases hin : dn ∈ es
      · rw [decide_eq_true hin]
        exact iteT ⟨_, rfl, l, _, _, _, _, xs, es, rfl, hp5, ButD.trans b2 b5, nl, hl5, dd5, ok2, nd2, by omega⟩
      · rw [decide_eq_false hin]
        have xl := Paired.length dd5
        refine iteF ⟨_, rfl, _, rfl, (by show 1 ≤ sizeLine; decide), fun e he => ?_⟩
        have se := same_upd (o := .lst [V.ref t]) he
        refine ⟨l, e, xs, [.ref t], rfl, rfl, se _ _ hl5, upd_same, by rw [sizeLine_eq]; show xs.length + 1 ≤ _; omega, fun u hu => ?_⟩
        have su := same_upd (o := .lst (xs ++ [V.ref t])) hu
        have s57 := se.trans su
        refine ⟨u, _, _, _, _, xs ++ [.ref t], es ++ [dn], rfl, hp5.same s57, ButD.trans b2 (ButD.trans b5 (Same.but s57)), pot_free hp hp5 (ButD.trans b2 b5) (se.free hu), upd_same, PySem.Paired.snoc (DdAll.same s57 dd5) ⟨t, rfl, s57 _ _ ht⟩, fun d hd => ?_, ?_, by rw [List.length_append]; show es.length + 1 ≤ _; omega⟩
        · rcases List.mem_append.mp hd with hd | hd
          · exact ok2 d hd
          · rw [List.mem_singleton.mp hd]
            exact okd
        · exact List.nodup_append.mpr ⟨nd2, List.pairwise_singleton _ _, fun a ha b hb z => by
            rw [List.mem_singleton.mp hb] at z
            exact hin (z ▸ ha)⟩
    · rintro σ H2 ⟨l, a6, a7, a8, a9, xs, es, rfl, hp2, b2, nl, hl2, dd2, ok2, nd2, len⟩
      exact ⟨_, rfl, q l xs es H2 nl hl2 hp2 b2 dd2 ok2 nd2 (by omega)⟩
end
end L2.K73
end

section
set_option Elab.async false
set_option linter.all false
set_option maxRecDepth 100000
set_option maxHeartbeats 4000000
namespace L2.K73
open PySem PySem.Spec PyProof.Rows L2.Gd L2.Lv
/-! ### a drawn house -/
theorem rgI_mem {lo e : Int} {n : Nat} : e ∈ rgI lo n ↔ lo ≤ e ∧ e < lo + n := by
  unfold rgI
  rw [List.mem_map]
  constructor
  · rintro ⟨i, hi, rfl⟩
    have := List.mem_range.mp hi
    omega
  · rintro ⟨h1, h2⟩
    exact ⟨(e - lo).toNat, List.mem_range.mpr (by omega), by omega⟩
theorem rgI_lt (lo : Int) (n : Nat) : (rgI lo n).Pairwise (· < ·) := by
  unfold rgI
  rw [List.pairwise_map]
  exact List.pairwise_lt_range.imp fun {a b} h => by omega
/-- a ring up, a ring down -/
def dU (u : Nat) (e : Int) : Dd := ⟨e, 1, (e + 1) % (u : Int), "any"⟩
def dV (u v : Nat) (e : Int) : Dd := ⟨(u : Int) + e, -1, (u : Int) + (e + 1) % (v : Int), "any"⟩
theorem ring_ok {u v : Nat} {d : Dd} {x : Int} (u1 : 1 ≤ u) (v1 : 1 ≤ v) (x0 : 0 ≤ x) (xu : x < u) (c1 : -1 ≤ d.c) (c2 : d.c ≤ 1) (hd : d = ⟨x, d.c, (u : Int), "any"⟩) :
    (∀ a ∈ (rgI 0 u).map (dU u) ++ [d] ++ (rgI 0 v).map (dV u v), a.Ok ((u : Int) + v)) ∧ ((rgI 0 u).map (dU u) ++ [d] ++ (rgI 0 v).map (dV u v)).Nodup := by
  have mU : ∀ a ∈ (rgI 0 u).map (dU u), 0 ≤ a.p ∧ a.p < u ∧ 0 ≤ a.g ∧ a.g < u ∧ a.c = 1 ∧ a.w = "any" := fun a ha => by
    obtain ⟨e, he, rfl⟩ := List.mem_map.mp ha
    have := rgI_mem.mp he
    exact ⟨this.1, by show e < u; omega, Int.emod_nonneg _ (by omega), Int.emod_lt_of_pos _ (by omega), rfl, rfl⟩
  have mV : ∀ a ∈ (rgI 0 v).map (dV u v), (u : Int) ≤ a.p ∧ a.p < u + v ∧ (u : Int) ≤ a.g ∧ a.g < u + v ∧ a.c = -1 ∧ a.w = "any" := fun a ha => by
    obtain ⟨e, he, rfl⟩ := List.mem_map.mp ha
    have := rgI_mem.mp he
    have h1 := Int.emod_nonneg (e + 1) (show (v : Int) ≠ 0 by omega)
    have h2 := Int.emod_lt_of_pos (e + 1) (show (0 : Int) < v by omega)
    refine ⟨?_, ?_, ?_, ?_, rfl, rfl⟩
    · show (u : Int) ≤ u + e; omega
    · show (u : Int) + e < u + v; omega
    · show (u : Int) ≤ u + (e + 1) % (v : Int); omega
    · show (u : Int) + (e + 1) % (v : Int) < u + v; omega
  have dg : d.g = u := by rw [hd]
  have dp : d.p = x := by rw [hd]
  have dw : d.w = "any" := by rw [hd]
  constructor
  · intro a ha
    rcases List.mem_append.mp ha with ha | ha
    · rcases List.mem_append.mp ha with ha | ha
      · obtain ⟨h1, h2, h3, h4, h5, h6⟩ := mU a ha
        exact ⟨h1, by omega, h3, by omega, .inl ⟨h6, by omega, by omega⟩⟩
      · rw [List.mem_singleton.mp ha]
        exact ⟨by omega, by omega, by omega, by omega, .inl ⟨dw, c1, c2⟩⟩
    · obtain ⟨h1, h2, h3, h4, h5, h6⟩ := mV a ha
      exact ⟨by omega, h2, by omega, h4, .inl ⟨h6, by omega, by omega⟩⟩
  · refine List.nodup_append.mpr ⟨List.nodup_append.mpr ⟨?_, List.pairwise_singleton _ _, fun a ha b hb z => ?_⟩, ?_, fun a ha b hb z => ?_⟩
    · exact List.pairwise_map.mpr ((rgI_lt 0 u).imp fun {a b} h e => by
        have := congrArg Dd.p e
        have : a = b := this
        omega)
    · rw [List.mem_singleton.mp hb] at z
      have := mU a ha
      rw [z] at this
      omega
    · exact List.pairwise_map.mpr ((rgI_lt 0 v).imp fun {a b} h e => by
        have := congrArg Dd.p e
        have : (u : Int) + a = u + b := this
        omega)
    · have hb := mV b hb
      rcases List.mem_append.mp ha with ha | ha
      · have := mU a ha
        rw [z] at this
        omega
      · rw [List.mem_singleton.mp ha] at z
        rw [← z] at hb
        omega
def spHo : Sp := fun vs H Q _ => ∃ (p : Addr), vs = [.ref p, .int 5, .bl false] ∧ PotAt H p ∧
  ∀ t D ys ds (n : Nat) H', H' t = some (.tup [.int (n : Nat), .ref D]) → H' D = some (.lst ys) → D ≠ p → DdAll H' ys ds → WF n ds → n ≤ 5 → PotAt H' p → ButD p H H' → Q (.ref t) H'
def NHo : List Str := ["_law_pot_here", "_law_most", "_law_is_plain", "_law_places", "_law_ups", "_law_downs", "_law_deeds", "_law_at"]
theorem scHo : FnScope NHo ["_law_pot_here", "_law_most", "_law_is_plain"] (defScope (top 47)) := ⟨rfl, rfl, rfl, by decide +kernel, rfl, by decide +kernel, by decide +kernel⟩
abbrev σH (p : Addr) (x3 x4 x5 x6 : Option V) : L2.St := [some (.ref p), some (.int 5), some (.bl false), x3, x4, x5, x6, none]
section
variable {P : Program} {w : World} {K : PySem.W.Frag} {mg : Str → Option Value} {base : Heap} {C C2 : Addr}
theorem ok_ho {f : Addr} {fd : FuncData} (F : FunD K "_law_house" "_law_house" (defArgs (top 47)) (defBody (top 47)) (defScope (top 47)) [.bl false] [] f fd) (n : Nm mg) (GD : Fn P w K mg base 1 "_law_draw" ["_law_pot_here", "_law_many"] spDraw)
    (MD : Fn P w K mg base 2 "_law_more_deeds" ["_law_pot_here", "_law_places", "_law_deeds", "_law_many", "_law_is_plain"] spMd) :
    FnOk P w K mg base CX0 3 f fd ["_law_pot_here", "_law_most", "_law_is_plain"] spHo := by
  refine F.ok scHo (fun vs H Q E h => ?_) (fun cdv A outer s H vs Q E hr h => ?_)
  · obtain ⟨p, rfl, _⟩ := h
    rfl
  · obtain ⟨p, rfl, hp, q⟩ := h
    have N := scHo.nd
    have r1 := hr.mono (k := 2) (j := 1) (by decide)
    refine ⟨_, pss_cons (ps_if (pt_cmpR op_eq (pe_fn GD r1 (pa_cons (pv 0) (pa_cons pe_int pa_nil))) pe_int (nomark _))
        (pss_cons (ps_set (i := 3) N rfl (.inl rfl) (pe_op op_add pe_int (pe_fn GD r1 (pa_cons (pv 0) (pa_cons (pv 1) pa_nil)))))
        (pss_one (ps_ret (pe_tup (pa_cons (pv 3) (pa_cons (pe_fn MD hr (pa_cons (pv 0) (pa_cons (pv 3) (pa_cons (pe_lst pa_nil) (pa_cons (pe_op op_add pe_int (pe_fn GD r1 (pa_cons (pv 0) (pa_cons pe_int pa_nil)))) (pa_cons (pv 2) pa_nil)))))) pa_nil)))))) pss_nil)
      (pss_cons (ps_set (i := 4) N rfl (.inr rfl) (pe_op op_add pe_int (pe_fn GD r1 (pa_cons (pv 0) (pa_cons (pe_ifExp (pt_cmpR op_lt (pv 1) pe_int (nomark _)) (pe_op op_sub (pv 1) pe_int) pe_int) pa_nil)))))
      (pss_cons (ps_set (i := 5) N rfl (.inr rfl) (pe_op op_add pe_int (pe_fn GD r1 (pa_cons (pv 0) (pa_cons (pe_op op_sub (pv 1) (pv 4)) pa_nil)))))
      (pss_cons (ps_setLc (i := 6) (own := [("_law_at", 7)]) (g := gName 7) (tt := tYes) (by rfl) N rfl rfl (sw_true rfl rfl rfl (by decide +kernel)) (pi_range1 (by rfl) n.range (pa_cons (pv 4) pa_nil)) (blkOk_by (N := NHo) (sc := defScope (top 47)) (by decide +kernel)) (fun _ _ _ _ _ => pg_name (i := 7) N rfl (.inl rfl))
          (fun _ _ _ _ _ => pts_nil) (fun _ _ _ _ _ => pe_tup (pa_cons (pv 7) (pa_cons pe_int (pa_cons (pe_op op_mod (pe_op op_add (pv 7) pe_int) (pv 4)) (pa_cons pe_str pa_nil))))))
      (pss_cons (ps_expr (pe_bm PySem.F.plainAttrs_list PySem.F.slot_list_append PySem.F.type_list_append mt_append (pv 6) (pa_cons
          (pe_tup (pa_cons (pe_fn GD r1 (pa_cons (pv 0) (pa_cons (pv 4) pa_nil))) (pa_cons (pe_op op_sub (pe_fn GD r1 (pa_cons (pv 0) (pa_cons pe_int pa_nil))) pe_int) (pa_cons (pv 4) (pa_cons pe_str pa_nil))))) pa_nil)))
      (pss_cons (ps_expr (pe_bm PySem.F.plainAttrs_list PySem.F.slot_list_extend PySem.F.type_list_extend mt_extend (pv 6) (pa_cons
          (pe_lc (own := [("_law_at", 7)]) (g := gName 7) (tt := tYes) rfl N (pi_range1 (by rfl) n.range (pa_cons (pv 5) pa_nil)) (blkOk_by (N := NHo) (sc := defScope (top 47)) (by decide +kernel)) (fun _ _ _ _ _ => pg_name (i := 7) N rfl (.inl rfl))
            (fun _ _ _ _ _ => pts_nil) (fun _ _ _ _ _ => pe_tup (pa_cons (pe_op op_add (pv 4) (pv 7)) (pa_cons (pe_un un_neg pe_int) (pa_cons (pe_op op_add (pv 4) (pe_op op_mod (pe_op op_add (pv 7) pe_int) (pv 5))) (pa_cons pe_str pa_nil)))))) pa_nil)))
      (pss_one (ps_ret (pe_tup (pa_cons (pe_op op_add (pv 4) (pv 5)) (pa_cons (pe_fn MD hr (pa_cons (pv 0) (pa_cons (pe_op op_add (pv 4) (pv 5)) (pa_cons (pv 6) (pa_cons (pe_fn GD r1 (pa_cons (pv 0) (pa_cons pe_int pa_nil))) (pa_cons (pv 2) pa_nil)))))) pa_nil)))))))))), ?_⟩
    -- drawn deeds alone
    refine seqV (Good := fun σ2 H2 => PotAt H2 p ∧ ButD p H H2 ∧ σ2 = σH p none none none none) ?_ ?_
    · intro nx hnx
      refine ⟨_, rfl, p, 2, rfl, hp, by decide, by decide, fun z H1 z0 z2 hp1 b1 => ⟨rfl, decide (V.int z = V.int 0), rfl, ?_⟩⟩
      by_cases c : z = 0
      · rw [decide_eq_true (by rw [c])]
        refine iteT ?_
        refine ⟨_, rfl, _, rfl, p, 5, rfl, hp1, by decide, by decide, fun d H2 d0 d5 hp2 b2 => ⟨_, _, rfl, rfl, ?_⟩⟩
        obtain ⟨k, rfl⟩ : ∃ k : Nat, d = k := ⟨d.toNat, by omega⟩
        have e1 : (1 : Int) + (k : Int) = ((k + 1 : Nat) : Int) := by omega
        refine ⟨_, rfl, _, rfl, _, rfl, (by show 0 ≤ sizeLine; decide), fun l hl => ?_⟩
        have sl := same_upd (o := .lst []) hl
        refine ⟨_, rfl, p, 6, rfl, hp2.same sl, by decide, by decide, fun j H3 j0 j6 hp3 b3 => ⟨_, _, rfl, rfl, _, rfl, ?_⟩⟩
        obtain ⟨j, rfl⟩ : ∃ k : Nat, j = k := ⟨j.toNat, by omega⟩
        have nlp : l ≠ p := fun z => by
          subst z
          obtain ⟨_, _, e, _⟩ := hp2
          rw [hl] at e
          exact nomatch e
        refine ⟨p, l, [], [], 1 + (k : Int), 2 + j, ?_, hp3, b3 _ _ nlp upd_same, nlp, .nil, (fun d z => nomatch z), .nil, Nat.zero_le _, by omega, by omega, by omega, fun u xs es H4 nu hu hp4 b4 dd ok nd le => ⟨(by show 2 ≤ sizeLine; decide), fun t ht => ?_⟩⟩
        · show [V.ref p, V.int (1 + (k : Int)), V.ref l, V.int (2 + (j : Int)), V.bl false] = _
          rw [show (2 + (j : Int)) = ((2 + j : Nat) : Int) by omega]
        have st := same_upd (o := .tup [V.int (1 + (k : Int)), V.ref u]) ht
        have nup : u ≠ p := pot_refs hp4 hu dd.refs
        have le : es.length ≤ 0 + (2 + j) := le
        refine q t u xs es (k + 1) _ ?_ (st _ _ hu) nup (dd.same st) ⟨by omega, by omega, ?_, nd, by omega⟩ (by omega) (hp4.same st) (ButD.trans b1 (ButD.trans b2 (ButD.trans (Same.but sl) (ButD.trans b3 (ButD.trans b4 (Same.but st))))))
        · rw [← e1]
          exact upd_same
        · rw [← e1]
          exact ok
      · rw [decide_eq_false (fun z => c (V.int.inj z))]
        exact iteF (hnx _ _ ⟨hp1, b1, rfl⟩)
    clear hp
    rintro _ H1 ⟨hp1, b1, rfl⟩
    -- ups
    refine seqV (Good := fun σ2 H2 => ∃ u : Nat, 1 ≤ u ∧ u ≤ 3 ∧ PotAt H2 p ∧ ButD p H H2 ∧ σ2 = σH p none (some (.int (u : Nat))) none none) ?_ ?_
    · intro nx hnx
      refine ⟨_, rfl, _, rfl, _, _, rfl, rfl, false, rfl, iteF ?_⟩
      refine ⟨p, 3, rfl, hp1, by decide, by decide, fun d H2 d0 d3 hp2 b2 => ⟨_, _, rfl, rfl, ?_⟩⟩
      obtain ⟨k, rfl⟩ : ∃ k : Nat, d = k := ⟨d.toNat, by omega⟩
      refine hnx _ _ ⟨k + 1, by omega, by omega, hp2, ButD.trans b1 b2, ?_⟩
      show _ = [some (V.ref p), some (V.int 5), some (V.bl false), none, some (V.int ((k + 1 : Nat) : Int)), none, none, none]
      rw [show ((k + 1 : Nat) : Int) = 1 + (k : Int) by omega]
      rfl
    clear hp1 b1 H1
    rintro _ H1 ⟨u, u1, u3, hp1, b1, rfl⟩
    -- downs
    refine seqV (Good := fun σ2 H2 => ∃ v : Nat, 1 ≤ v ∧ u + v ≤ 5 ∧ PotAt H2 p ∧ ButD p H H2 ∧ σ2 = σH p none (some (.int (u : Nat))) (some (.int (v : Nat))) none) ?_ ?_
    · intro nx hnx
      refine ⟨_, rfl, _, rfl, _, rfl, _, _, rfl, rfl, ?_⟩
      refine ⟨p, 5 - (u : Int), rfl, hp1, by omega, by omega, fun d H2 d0 d3 hp2 b2 => ⟨_, _, rfl, rfl, ?_⟩⟩
      obtain ⟨k, rfl⟩ : ∃ k : Nat, d = k := ⟨d.toNat, by omega⟩
      refine hnx _ _ ⟨k + 1, by omega, by omega, hp2, ButD.trans b1 b2, ?_⟩
      show _ = [some (V.ref p), some (V.int 5), some (V.bl false), none, some (V.int (u : Nat)), some (V.int ((k + 1 : Nat) : Int)), none, none]
      rw [show ((k + 1 : Nat) : Int) = 1 + (k : Int) by omega]
      rfl
    clear hp1 b1 H1
    rintro _ H1 ⟨v, v1, uv, hp1, b1, rfl⟩
    -- the ring up
    refine seqV (Good := fun σ2 H2 => ∃ (l : Addr) (ys : List V), H1 l = none ∧ Same H1 H2 ∧ H2 l = some (.lst ys) ∧ DdAll H2 ys ((rgI 0 u).map (dU u)) ∧ σ2 = σH p none (some (.int (u : Nat))) (some (.int (v : Nat))) (some (.ref l))) ?_ ?_
    · intro nx hnx
      refine ⟨_, rfl, u, rfl, by omega, by omega, fun D hD => ?_⟩
      refine lc_mapR (lo := 0) (n := ((u : Int)).toNat) (G := DdAt) (f := fun e => some (dU u e)) (stabD D) (by omega) ?_ ?_
      · rintro x e H2 A B he rfl b ⟨zs, hz⟩ hA hB
        refine ⟨rfl, yes_ite ?_⟩
        refine ⟨_, rfl, _, rfl, _, _, rfl, rfl, _, rfl, _, _, rfl, rfl, (by show (0 : Int) < u; omega), (by show 4 ≤ sizeLine; decide), fun t ht => ?_⟩
        exact hA _ _ _ rfl (same_upd ht) ⟨t, rfl, upd_same⟩
      · intro ys H2 h1 h2 h3
        rw [mapE, Int.toNat_natCast] at h2
        exact hnx _ _ ⟨D, ys, hD, h3.new hD, h1, h2, rfl⟩
    rintro _ H2 ⟨l, ys, nl, s2, hl, dd, rfl⟩
    have hp2 := hp1.same s2
    have nlp : l ≠ p := pot_refs hp2 hl dd.refs
    have yl := Paired.length dd
    rw [List.length_map, rgI_len] at yl
    -- the way across
    refine seqV (Good := fun σ2 H3 => ∃ (zs : List V) (d : Dd) (x : Int), 0 ≤ x ∧ x < u ∧ -1 ≤ d.c ∧ d.c ≤ 1 ∧ d = ⟨x, d.c, (u : Int), "any"⟩ ∧ PotAt H3 p ∧ ButD p H H3 ∧ H3 l = some (.lst zs) ∧ DdAll H3 zs ((rgI 0 u).map (dU u) ++ [d]) ∧ σ2 = σH p none (some (.int (u : Nat))) (some (.int (v : Nat))) (some (.ref l))) ?_ ?_
    · intro nx hnx
      refine ⟨_, rfl, .inl ⟨rfl, _, .inl (.inl hl)⟩, _, rfl, _, rfl, p, u, rfl, hp2, by omega, by omega, fun x H3 x0 xu hp3 b3 => ?_⟩
      refine ⟨_, rfl, p, 3, rfl, hp3, by decide, by decide, fun c H4 c0 c3 hp4 b4 => ⟨_, _, rfl, rfl, _, rfl, (by show 4 ≤ sizeLine; decide), fun t ht => ?_⟩⟩
      have st := same_upd (o := .tup [V.int x, V.int (c - 1), V.int (u : Nat), V.str "any"]) ht
      have b24 : ButD p H2 _ := ButD.trans b3 (ButD.trans b4 (Same.but st))
      have hl5 := b24 _ _ nlp hl
      have dd5 := DdAll.pot hp2 b24 dd
      have hp5 := hp4.same st
      have bl : ButD l (upd H4 t (.tup [V.int x, V.int (c - 1), V.int (u : Nat), V.str "any"])) (upd (upd H4 t (.tup [V.int x, V.int (c - 1), V.int (u : Nat), V.str "any"])) l (.lst (ys ++ [.ref t]))) := ButD.start
      have tup_l : ∀ {t : Addr} {us : List V}, upd H4 t (.tup us) t = some (.tup us) := fun {_ _} => upd_same
      refine ⟨l, _, _, rfl, rfl, hl5, by rw [sizeLine_eq]; omega, ?_⟩
      have ddl : DdAll (upd (upd H4 t (.tup [V.int x, V.int (c - 1), V.int (u : Nat), V.str "any"])) l (.lst (ys ++ [.ref t]))) (ys ++ [.ref t]) ((rgI 0 u).map (dU u) ++ [⟨x, c - 1, (u : Int), "any"⟩]) := by
        have st2 : ∀ {y d}, DdAt (upd H4 t (.tup [V.int x, V.int (c - 1), V.int (u : Nat), V.str "any"])) y d → DdAt (upd (upd H4 t (.tup [V.int x, V.int (c - 1), V.int (u : Nat), V.str "any"])) l (.lst (ys ++ [.ref t]))) y d := fun {y d} ⟨a, e, hq⟩ => ⟨a, e, bl _ _ (fun z => by rw [z, hl5] at hq; exact nomatch hq) hq⟩
        exact PySem.Paired.snoc (Paired.mapP dd5 fun _ _ z => st2 z) (st2 ⟨t, rfl, upd_same⟩)
      refine hnx _ _ ⟨_, ⟨x, c - 1, (u : Int), "any"⟩, x, x0, xu, by show -1 ≤ c - 1; omega, by show c - 1 ≤ 1; omega, rfl, ?_, ?_, upd_same, ddl, rfl⟩
      · obtain ⟨a, b, e, r⟩ := hp5
        exact ⟨a, b, bl _ _ (Ne.symm nlp) e, r⟩
      · intro a o ne e
        have e1 := b1 a o ne e
        exact bl _ _ (ne_of_none e1 nl) (b24 _ _ ne (s2 _ _ e1))
    clear hp2 dd hl s2
    rintro _ H3 ⟨zs, d, x, x0, xu, c1, c2, ed, hp3, b3, hl3, dd3, rfl⟩
    have zl := Paired.length dd3
    rw [List.length_append, List.length_map, rgI_len] at zl
    have zl : zs.length = u + 1 := zl
    -- the ring down
    refine seqV (Good := fun σ2 H4 => ∃ (ys : List V), PotAt H4 p ∧ ButD p H H4 ∧ H4 l = some (.lst ys) ∧ DdAll H4 ys ((rgI 0 u).map (dU u) ++ [d] ++ (rgI 0 v).map (dV u v)) ∧ σ2 = σH p none (some (.int (u : Nat))) (some (.int (v : Nat))) (some (.ref l))) ?_ ?_
    · intro nx hnx
      refine ⟨_, rfl, .inl ⟨rfl, _, .inl (.inl hl3)⟩, _, rfl, v, rfl, by omega, by omega, fun D hD => ?_⟩
      refine lc_mapR (lo := 0) (n := ((v : Int)).toNat) (G := DdAt) (f := fun e => some (dV u v e)) (stabD D) (by omega) ?_ ?_
      · rintro x e H4 A B he rfl b ⟨zs, hz⟩ hA hB
        refine ⟨rfl, yes_ite ?_⟩
        refine ⟨_, rfl, _, rfl, _, _, rfl, rfl, 1, rfl, _, rfl, _, rfl, _, _, rfl, rfl, _, rfl, _, _, rfl, rfl, (by show (0 : Int) < v; omega), _, _, rfl, rfl, (by show 4 ≤ sizeLine; decide), fun t ht => ?_⟩
        exact hA _ _ _ rfl (same_upd ht) ⟨t, rfl, upd_same⟩
      · intro us H4 h1 h2 h3
        rw [mapE, Int.toNat_natCast] at h2
        have s4 := h3.new hD
        have hl4 := s4 _ _ hl3
        have ul := Paired.length h2
        rw [List.length_map, rgI_len] at ul
        have bl : ButD l H4 (upd H4 l (.lst (zs ++ us))) := ButD.start
        refine ⟨l, D, zs, us, rfl, rfl, hl4, h1, by rw [sizeLine_eq]; omega, ?_⟩
        refine hnx _ _ ⟨_, ?_, ?_, upd_same, ?_, rfl⟩
        · obtain ⟨a, b, e, r⟩ := hp3
          exact ⟨a, b, bl _ _ (Ne.symm nlp) (s4 _ _ e), r⟩
        · intro a o ne e
          exact bl _ _ (ne_of_none (b1 a o ne e) nl) (s4 _ _ (b3 a o ne e))
        · have st2 : ∀ {y d}, DdAt H4 y d → DdAt (upd H4 l (.lst (zs ++ us))) y d := fun {y d} ⟨a, e, hq⟩ => ⟨a, e, bl _ _ (fun z => by rw [z, hl4] at hq; exact nomatch hq) hq⟩
          exact Paired.app (Paired.mapP (DdAll.same s4 dd3) fun _ _ z => st2 z) (Paired.mapP h2 fun _ _ z => st2 z)
    clear hp3 b3 hl3 dd3
    rintro _ H4 ⟨zs, hp4, b4, hl4, dd4, rfl⟩
    obtain ⟨ok, nd⟩ := ring_ok u1 v1 x0 xu c1 c2 ed
    have dl : ((rgI 0 u).map (dU u) ++ [d] ++ (rgI 0 v).map (dV u v)).length = u + 1 + v := by
      rw [List.length_append, List.length_append, List.length_map, List.length_map, rgI_len, rgI_len]
      rfl
    refine ⟨_, rfl, _, rfl, _, _, rfl, rfl, _, rfl, _, rfl, _, rfl, _, _, rfl, rfl, _, rfl, _, rfl, p, 3, rfl, hp4, by decide, by decide, fun k H5 k0 k3 hp5 b5 => ⟨_, rfl, ?_⟩⟩
    obtain ⟨k, rfl⟩ : ∃ j : Nat, k = j := ⟨k.toNat, by omega⟩
    refine ⟨p, l, zs, _, (u : Int) + (v : Int), k, rfl, hp5, b5 _ _ nlp hl4, nlp, DdAll.pot hp4 b5 dd4, ok, nd, by omega, by omega, by omega, by omega, fun a xs es H6 na ha hp6 b6 dd ok6 nd6 le => ⟨(by show 2 ≤ sizeLine; decide), fun t ht => ?_⟩⟩
    have st := same_upd (o := .tup [V.int ((u : Int) + (v : Int)), V.ref a]) ht
    have nap : a ≠ p := pot_refs hp6 ha dd.refs
    have euv : (u : Int) + (v : Int) = ((u + v : Nat) : Int) := by omega
    refine q t a xs es (u + v) _ ?_ (st _ _ ha) nap (dd.same st) ⟨by omega, by omega, ?_, nd6, by omega⟩ uv (hp6.same st) (ButD.trans b4 (ButD.trans b5 (ButD.trans b6 (Same.but st))))
    · rw [← euv]
      exact upd_same
    · rw [← euv]
      exact ok6
end
end L2.K73
end

section
set_option Elab.async false
set_option linter.all false
set_option maxRecDepth 100000
set_option maxHeartbeats 8000000
namespace L2.K73
open PySem PySem.Spec PyProof.Rows L2.Gd L2.Lv
/-! ### the lists of lids and floors are right -/
theorem same_put {H H' : Hp} {x : Addr} {o : HO} (s : Same H H') (n : H x = none) : Same H (upd H' x o) := fun b u e => by
  rw [upd_ne (ne_of_none e n)]
  exact s _ _ e
theorem sm_canon5 {n : Nat} (n5 : n ≤ 5) (r : Rl) : Sml (dL (canon n r)) 475 := by
  have cl : (canon n r).length ≤ n * n := canon_len n r n
  have mm : n * n ≤ 5 * 5 := Nat.mul_le_mul n5 n5
  refine ((sm_prs fun p hp => ?_).mono (m := 475) (by omega)).lst
  have := mem_canon.mp (show (p.1, p.2) ∈ canon n r from hp)
  omega
theorem sm_all5 {ls : List (List (Nat × Nat))} : (∀ ps ∈ ls, Sml (dL ps) 475) → SmlAll (ls.map dL) (476 * ls.length) := by
  induction ls with
  | nil => exact fun _ => .nil
  | cons ps r ih =>
    intro h
    have a := SmlAll.cons (h ps List.mem_cons_self) (ih fun q hq => h q (List.mem_cons_of_mem _ hq))
    exact a.mono (by rw [List.length_cons]; omega)
theorem dLL_showy {ls : List (List (Nat × Nat))} (h : ∀ ps ∈ ls, Sml (dL ps) 475) (l : ls.length ≤ 30) : Showy (.list (ls.map dL)) := by
  refine Sml.showy (sm_all5 h).lst (by omega) ?_
  have := dLs_dep ls
  simp only [PyData.depth]
  omega
theorem liL_of {f : Nat → Rl} {n m : Nat} {ps : List (Nat × Nat)} (h : ps ∈ liL f n m) : ∃ k, ps = canon n (f k) := by
  unfold liL at h
  obtain ⟨k, _, e⟩ := List.mem_map.mp h
  exact ⟨k, e.symm⟩
theorem liL_showy {f : Nat → Rl} {n m : Nat} (n5 : n ≤ 5) (m25 : m + 1 ≤ n * n) : Showy (.list ((liL f n m).map dL)) := by
  have mm : n * n ≤ 5 * 5 := Nat.mul_le_mul n5 n5
  refine dLL_showy (fun ps hp => ?_) (by rw [liL_len]; omega)
  obtain ⟨k, rfl⟩ := liL_of hp
  exact sm_canon5 n5 _
/-- lids and floors, by their addresses -/
structure AskK (P : Program) (w : World) (K : PySem.W.Frag) (mg : Str → Option Value) (base : Heap) (C2 fl ff : Addr) : Prop where
  l : mg "lids" = some (.ref fl)
  f : mg "floors" = some (.ref ff)
  ne : fl ≠ ff
  hl : Held P w K mg base 7 fl (spLf C2 LidD)
  hf : Held P w K mg base 7 ff (spLf C2 FloD)
def asks (C2 fl ff : Addr) (a : Addr) : Option Sp := if a = fl then some (spLf C2 LidD) else if a = ff then some (spLf C2 FloD) else none
theorem AskK.held {P : Program} {w : World} {K : PySem.W.Frag} {mg : Str → Option Value} {base : Heap} {C2 fl ff : Addr} (k : AskK P w K mg base C2 fl ff) : ∀ f sp, asks C2 fl ff f = some sp → Held P w K mg base 7 f sp := by
  intro f sp h
  unfold asks at h
  split at h
  · rename_i e
    obtain rfl := Option.some.inj h
    exact e ▸ k.hl
  · split at h
    · rename_i e
      obtain rfl := Option.some.inj h
      exact e ▸ k.hf
    · exact nomatch h
def askA (fl ff : Addr) : Bool → Addr
  | true => fl
  | false => ff
theorem asks_up {P : Program} {w : World} {K : PySem.W.Frag} {mg : Str → Option Value} {base : Heap} {C2 fl ff : Addr} (k : AskK P w K mg base C2 fl ff) (up : Bool) : asks C2 fl ff (askA fl ff up) = some (spLf C2 (gUp up)) := by
  cases up with
  | true => exact if_pos rfl
  | false =>
    unfold asks askA
    rw [if_neg (Ne.symm k.ne), if_pos rfl]
    rfl
def spLr (C2 : Addr) : Sp := fun vs H Q _ => ∃ (h l D : Addr) (n : Nat) (xs ys : List V) (ds : List Dd), vs = [.ref h, .int (n : Nat), .ref D] ∧ HouseL C2 H h l n xs ds ∧ WF n ds ∧ H D = some (.lst ys) ∧ DdAll H ys ds ∧ n ≤ 5 ∧
  ∀ H', Same H H' → Q (.bl true) H'
def NLr : List Str := ["_law_house_here", "_law_places", "_law_deeds", "_law_is_up", "_law_ask", "_law_due", "_law_told", "_law_near", "_law_far", "_law_pair"]
theorem scLr : FnScope NLr ["_law_house_here", "_law_places", "_law_deeds"] (defScope (top 50)) := ⟨rfl, rfl, rfl, by decide +kernel, rfl, by decide +kernel, by decide +kernel⟩
abbrev σL (h D : Addr) (n : Nat) (x3 x4 x5 x6 x7 x8 : Option V) : L2.St := [some (.ref h), some (.int (n : Nat)), some (.ref D), x3, x4, x5, x6, x7, x8, none]
section
variable {P : Program} {w : World} {K : PySem.W.Frag} {mg : Str → Option Value} {base : Heap} {C C2 fl ff : Addr}
theorem ok_lr {f : Addr} {fd : FuncData} (F : Fun K "_law_lists_right" "_law_lists_right" (top 50) f fd) (n : Nm mg) (nz : mg "zip" = none) (GN : Fn P w K mg base 2 "_law_grown" ["_law_places", "_law_deeds", "_law_is_up"] spGn)
    (AK : AskK P w K mg base C2 fl ff) (KL : KFn P w K mg base 7 "lids" "house" (spLf C2 LidD)) (KF : KFn P w K mg base 7 "floors" "house" (spLf C2 FloD)) :
    FnG P w K mg base 8 f fd ["_law_house_here", "_law_places", "_law_deeds"] (spLr C2) := by
  refine okG F scLr (fun vs H Q h => ?_) (fun cdv A outer s H vs Q hg hr h => ?_)
  · obtain ⟨h, l, D, n, xs, ys, ds, rfl, _⟩ := h
    rfl
  · obtain ⟨h, l, D, m, hxs, ys, ds, rfl, hh, wf, hD, dd, m5, q⟩ := h
    have N := scLr.nd
    have hu := hu65 hr
    have r2 := hr.mono (k := 7) (j := 2) (by decide)
    have m1 : 1 ≤ m := by have := wf.m1; omega
    have mm : m * m ≤ 5 * 5 := Nat.mul_le_mul m5 m5
    refine ⟨_, pss_cons (ps_for PassesOwn.never rfl (pi_list (pe_lst (pa_cons (pe_tup (pa_cons pe_bl (pa_cons (pe_glob (v := .ref fl) (by rfl) AK.l rfl) pa_nil))) (pa_cons (pe_tup (pa_cons pe_bl (pa_cons (pe_glob (v := .ref ff) (by rfl) AK.f rfl) pa_nil))) pa_nil)))) (pg_tup rfl (pgs_cons (pg_name (i := 3) N rfl (.inl rfl)) (pgs_cons (pg_name (i := 4) N rfl (.inl rfl)) pgs_nil)))
        (pss_cons (ps_par (i := 5) (j := 6) rfl N rfl rfl (by decide) rfl rfl (pa_cons (pe_fn GN r2 (pa_cons (pv 1) (pa_cons (pv 2) (pa_cons (pv 3) pa_nil)))) (pa_cons (pe_callA (i := 4) AK.held hr rfl (.inl rfl) (pa_cons (pv 0) pa_nil)) pa_nil)) (by rfl))
        (pss_cons (ps_if (pw_or (pt_cmp (pc_isN (pv 5))) (pw_or (pt_cmpR op_ne (pe_callB (call_reprAny hg hr.units) (by rfl) n.repr (by decide +kernel) (pa_cons (pv 6) pa_nil)) (pe_callB (call_reprAny hg hr.units) (by rfl) n.repr (by decide +kernel) (pa_cons (pv 5) pa_nil)) (nomark _))
            (pw_or1 (pt_cmpR op_gt (pe_callB call_len_seq (by rfl) n.len PySem.boot_len (pa_cons (pv 5) pa_nil)) (pe_op op_mul (pv 1) (pv 1)) (nomark _))))).pt (pss_one (ps_ret pe_bl)) pss_nil)
        (pss_cons (ps_expr (pe_bm PySem.F.plainAttrs_list PySem.F.slot_list_append PySem.F.type_list_append mt_append (pe_ix ix_list (pv 6) pe_int (fun _ _ => rfl)) (pa_cons pe_non pa_nil)))
        (pss_cons (ps_expr (pe_bm PySem.F.plainAttrs_list PySem.F.slot_list_append PySem.F.type_list_append mt_append (pv 6) (pa_cons pe_non pa_nil)))
        (pss_cons (ps_if (pt_cmpR op_ne (pe_callB (call_reprAny hg hr.units) (by rfl) n.repr (by decide +kernel) (pa_cons (pe_ifExp (pt_val (pv 3)) (pe_kfn KL hr (pk_cons (pv 0) pk_nil)) (pe_kfn KF hr (pk_cons (pv 0) pk_nil))) pa_nil)) (pe_callB (call_reprAny hg hr.units) (by rfl) n.repr (by decide +kernel) (pa_cons (pv 5) pa_nil)) (nomark _)) (pss_one (ps_ret pe_bl)) pss_nil)
        (pss_one (ps_for PassesOwn.never rfl (pi_zip (by rfl) nz (pa_cons (pv 5) (pa_cons (pe_slice sl_list (pv 5) (po_some pe_int) po_none) pa_nil))) (pg_tup rfl (pgs_cons (pg_name (i := 7) N rfl (.inl rfl)) (pgs_cons (pg_name (i := 8) N rfl (.inr rfl)) pgs_nil)))
          (pss_one (ps_if (pt_not (pt_val (pe_callB (cr_all rfl) (by rfl) n.all (by decide +kernel) (pa_cons
              (pe_lc (own := [("_law_pair", 9)]) (g := gName 9) (tt := tYes) rfl N (pi_list (pv 7)) (blkOk_by (N := NLr) (sc := defScope (top 50)) (by decide +kernel)) (fun _ _ _ _ _ => pg_name (i := 9) N rfl (.inl rfl))
                (fun _ _ _ _ _ => pts_nil) (fun _ _ _ _ _ => pe_cmpR (r := rInD K) (op_inD hu) (pv 9) (pv 8) (by rfl))) pa_nil)))) (pss_one (ps_ret pe_bl)) pss_nil))))))))))
      (pss_one (ps_ret pe_bl)), ?_⟩
    refine ⟨(by show 2 ≤ sizeLine; decide), fun t1 n1 => ⟨(by show 2 ≤ sizeLine; decide), fun t2 n2 => ⟨(by show 2 ≤ sizeLine; decide), fun L nL => ?_⟩⟩⟩
    have s1 := same_upd (o := .tup [V.bl true, V.ref fl]) n1
    have s2 := same_upd (o := .tup [V.bl false, V.ref ff]) n2
    have s3 := same_upd (o := .lst [V.ref t1, V.ref t2]) nL
    have ht1 := s3 _ _ (s2 _ _ (show upd H t1 (.tup [V.bl true, V.ref fl]) t1 = some (.tup [V.bl true, V.ref (askA fl ff true)]) from upd_same))
    have ht2 := s3 _ _ (show upd (upd H t1 (.tup [V.bl true, V.ref fl])) t2 (.tup [V.bl false, V.ref ff]) t2 = some (.tup [V.bl false, V.ref (askA fl ff false)]) from upd_same)
    have hL : upd (upd (upd H t1 (.tup [V.bl true, V.ref fl])) t2 (.tup [V.bl false, V.ref ff])) L (.lst [V.ref t1, V.ref t2]) L = some (.lst [V.ref t1, V.ref t2]) := upd_same
    have s0 := s1.trans (s2.trans s3)
    generalize upd (upd (upd H t1 (.tup [V.bl true, V.ref fl])) t2 (.tup [V.bl false, V.ref ff])) L (.lst [V.ref t1, V.ref t2]) = H0 at ht1 ht2 hL s0
    clear s1 s2 s3 n1 n2 nL
    refine ⟨L, rfl, ⟨_, .inl (.inl hL)⟩, ?_⟩
    refine loop_of (n := [V.ref t1, V.ref t2].length) (fun _ σ H1 => Same H0 H1 ∧ ∃ x3 x4 x5 x6 x7 x8 : Option V, σ = σL h D m x3 x4 x5 x6 x7 x8) ⟨fun _ _ z => z, _, _, _, _, _, _, rfl⟩ ?_ ?_
    · rintro σ H1 ⟨s1, x3, x4, x5, x6, x7, x8, rfl⟩
      exact ⟨⟨_, .inl (.inl (s1 _ _ hL)), Nat.le_refl _⟩, q H1 (s0.trans s1)⟩
    · rintro i σ H1 hi ⟨s1, x3, x4, x5, x6, x7, x8, rfl⟩
      have hL1 := s1 _ _ hL
      refine ⟨⟨_, _, .inl (.inl hL1), List.getElem?_eq_getElem hi⟩, ?_⟩
      rintro x H2 ⟨rfl, hy⟩
      have hyi := hy _ (.inl (.inl hL1))
      obtain ⟨up, t, rfl, ht⟩ : ∃ (up : Bool) (t : Addr), x = V.ref t ∧ H2 t = some (.tup [.bl up, .ref (askA fl ff up)]) := by
        match i, hi, hyi with
        | 0, _, e => exact ⟨true, t1, (Option.some.inj e).symm, s1 _ _ ht1⟩
        | 1, _, e => exact ⟨false, t2, (Option.some.inj e).symm, s1 _ _ ht2⟩
      clear hy hyi hL1
      have hh2 := (hh.same s0).same s1
      have hD2 := s1 _ _ (s0 _ _ hD)
      have dd2 := (dd.same s0).same s1
      refine ⟨t, _, rfl, .inl (.inl ht), rfl, _, _, rfl, _, _, rfl, rfl, ?_⟩
      -- due and told
      refine seqV (Good := fun σ2 H4 => ∃ (p b : Addr) (xs zs : List V) (M : Nat) (H3 : Hp), Same H2 H3 ∧ Same H3 H4 ∧ H3 p = some (.lst xs) ∧ PlAll p H3 xs (liL (gUp up m ds) m M) ∧ M + 1 ≤ m * m ∧ Stops (gUp up m ds) M ∧ (∀ j, j < M → ¬ Stops (gUp up m ds) j) ∧
          H3 b = none ∧ H4 b = some (.lst zs) ∧ PlAll b H4 zs (liL (gUp up m ds) m M) ∧ (∀ a, V.ref a ∈ zs → H3 a = none) ∧ σ2 = σL h D m (some (.bl up)) (some (.ref (askA fl ff up))) (some (.ref p)) (some (.ref b)) x7 x8) ?_ ?_
      · intro nx hnx
        refine ⟨_, rfl, _, rfl, _, rfl, D, ys, ds, m, up, rfl, hD2, dd2, wf.ok, m1, by omega, wf.len, fun p H3 xs M np s3 hp pl mM st go => ?_⟩
        refine ⟨askA fl ff up, _, rfl, asks_up AK up, _, rfl, h, l, m, hxs, ds, rfl, hh2.same s3, wf, fun b H4 zs M' nb s4 hb pb fr st' go' => ?_⟩
        obtain rfl := stops_one st go st' go'
        exact ⟨_, _, rfl, hnx _ _ ⟨p, b, xs, zs, M, H3, s3, s4, hp, pl, mM, st, go, nb, hb, pb, fr, rfl⟩⟩
      rintro _ H4 ⟨p, b, xs, zs, M, H3, s3, s4, hp, pl, mM, st, go, nb, hb, pb, fr, rfl⟩
      have shw := liL_showy (f := gUp up m ds) m5 mM
      have hp4 := s4 _ _ hp
      have pl4 := PlAll.same s4 pl
      have xl := Paired.length pl
      rw [liL_len] at xl
      have zl := Paired.length pb
      rw [liL_len] at zl
      -- they are alike
      refine seqV (Good := fun σ2 H5 => H4 = H5 ∧ σ2 = σL h D m (some (.bl up)) (some (.ref (askA fl ff up))) (some (.ref p)) (some (.ref b)) x7 x8) ?_ ?_
      · intro nx hnx
        refine ⟨_, rfl, false, rfl, iteF ⟨_, rfl, _, _, rfl, .lst (.inl (.inl hb)) pb.dps, shw, _, rfl, _, _, rfl, .lst (.inl (.inl hp4)) pl4.dps, shw, rfl, false, congrArg (fun z => V.bl (!z)) (decide_eq_true rfl), iteF ?_⟩⟩
        have mc : (m : Int) * (m : Int) = ((m * m : Nat) : Int) := (Int.natCast_mul m m).symm
        refine ⟨_, rfl, p, xs, rfl, .inl (.inl (.inl hp4)), _, rfl, _, rfl, _, _, rfl, rfl, .inl ⟨by omega, by omega⟩, _, _, rfl, rfl, false, congrArg V.bl (decide_eq_false (by rw [mc, xl]; omega)), iteF (hnx _ _ ⟨rfl, rfl⟩)⟩
      rintro _ _ ⟨rfl, rfl⟩
      -- told is changed
      obtain ⟨z0, hz0⟩ : ∃ x, zs[0]? = some x := ⟨_, List.getElem?_eq_getElem (by omega)⟩
      obtain ⟨ps0, _, a0, us0, rfl, na0, ha0, pu0⟩ := Paired.at pb hz0
      have fa0 : H3 a0 = none := fr a0 (List.mem_of_getElem? hz0)
      have pl0 := Paired.length pu0
      have us25 : us0.length ≤ 25 := by
        obtain ⟨k, rfl⟩ := liL_of (List.mem_of_getElem? ‹_›)
        have cl : (canon m (gUp up m ds k)).length ≤ m * m := canon_len m _ m
        omega
      refine seqV (Good := fun σ2 H5 => Same H3 H5 ∧ H5 b = some (.lst zs) ∧ σ2 = σL h D m (some (.bl up)) (some (.ref (askA fl ff up))) (some (.ref p)) (some (.ref b)) x7 x8) ?_ ?_
      · intro nx hnx
        refine ⟨_, rfl, b, _, _, _, rfl, rfl, .inl (.inl hb), atI_nat (j := 0) hz0, .inl ⟨rfl, _, .inl (.inl ha0)⟩, a0, us0, _, rfl, rfl, ha0, by rw [sizeLine_eq]; omega, ?_⟩
        exact hnx _ _ ⟨same_put s4 fa0, by rw [upd_ne (Ne.symm na0)]; exact hb, rfl⟩
      rintro _ H5 ⟨s5, hb5, rfl⟩
      refine seqV (Good := fun σ2 H6 => Same H3 H6 ∧ σ2 = σL h D m (some (.bl up)) (some (.ref (askA fl ff up))) (some (.ref p)) (some (.ref b)) x7 x8) ?_ ?_
      · intro nx hnx
        refine ⟨_, rfl, .inl ⟨rfl, _, .inl (.inl hb5)⟩, b, zs, _, rfl, rfl, hb5, by rw [sizeLine_eq]; omega, ?_⟩
        exact hnx _ _ ⟨same_put s5 nb, rfl⟩
      rintro _ H6 ⟨s6, rfl⟩
      clear hp4 pl4 hb pb s4 s5 hb5 fr nb fa0 ha0 pu0 H5 H4
      have s26 := s3.trans s6
      -- asked again by name
      refine seqV (Good := fun σ2 H7 => Same H6 H7 ∧ σ2 = σL h D m (some (.bl up)) (some (.ref (askA fl ff up))) (some (.ref p)) (some (.ref b)) x7 x8) ?_ ?_
      · intro nx hnx
        have hh6 := hh2.same s26
        refine ⟨_, rfl, up, rfl, ?_⟩
        cases up with
        | true =>
          refine iteT ⟨_, rfl, rfl, rfl, h, l, m, hxs, ds, rfl, hh6, wf, fun c H7 cs M' nc s7 hc pc fr st' go' => ?_⟩
          obtain rfl := stops_one st go st' go'
          refine ⟨_, _, rfl, .lst (.inl (.inl hc)) pc.dps, shw, _, rfl, _, _, rfl, .lst (.inl (.inl (s7 _ _ (s6 _ _ hp)))) (PlAll.same s7 (PlAll.same s6 pl)).dps, shw, rfl, false, congrArg (fun z => V.bl (!z)) (decide_eq_true rfl), iteF (hnx _ _ ⟨s7, rfl⟩)⟩
        | false =>
          refine iteF ⟨_, rfl, rfl, rfl, h, l, m, hxs, ds, rfl, hh6, wf, fun c H7 cs M' nc s7 hc pc fr st' go' => ?_⟩
          obtain rfl := stops_one st go st' go'
          refine ⟨_, _, rfl, .lst (.inl (.inl hc)) pc.dps, shw, _, rfl, _, _, rfl, .lst (.inl (.inl (s7 _ _ (s6 _ _ hp)))) (PlAll.same s7 (PlAll.same s6 pl)).dps, shw, rfl, false, congrArg (fun z => V.bl (!z)) (decide_eq_true rfl), iteF (hnx _ _ ⟨s7, rfl⟩)⟩
      rintro _ H7 ⟨s7, rfl⟩
      have s37 := s6.trans s7
      have hp7 := s37 _ _ hp
      -- each within the next one
      refine ⟨_, rfl, _, rfl, 1, rfl, p, xs, rfl, .inl (.inl hp7), fun s ns => ?_⟩
      have ss := same_upd (o := .lst (cutV xs (some 1) none)) ns
      have ec : cutV xs (some (1 : Int)) none = xs.drop 1 := cutV_drop xs (i := 1) (by omega)
      rw [ec] at ss ⊢
      have s38 := s37.trans ss
      have hs8 : upd H7 s (.lst (xs.drop 1)) s = some (.lst (xs.drop 1)) := upd_same
      generalize upd H7 s (.lst (xs.drop 1)) = H8 at ss s38 hs8
      refine ⟨p, s, xs, _, rfl, .inl (.inl (s38 _ _ hp)), .inl (.inl hs8), ?_⟩
      refine loop_of (n := M) (fun _ σ H9 => Same H8 H9 ∧ ∃ x7 x8 : Option V, σ = σL h D m (some (.bl up)) (some (.ref (askA fl ff up))) (some (.ref p)) (some (.ref b)) x7 x8) ⟨fun _ _ z => z, _, _, rfl⟩ ?_ ?_
      · rintro σ H9 ⟨s9, x7, x8, rfl⟩
        exact ⟨⟨xs, _, .inl (.inl (s9 _ _ (s38 _ _ hp))), .inl (.inl (s9 _ _ hs8)), .inr (by rw [List.length_drop]; omega)⟩, s1.trans (s3.trans (s38.trans s9)), _, _, _, _, _, _, rfl⟩
      · rintro j σ H9 hj ⟨s9, x7, x8, rfl⟩
        have s39 := s38.trans s9
        have hp9 := s39 _ _ hp
        have hs9 := s9 _ _ hs8
        obtain ⟨u, hu1⟩ : ∃ x, xs[j]? = some x := ⟨_, List.getElem?_eq_getElem (by omega)⟩
        obtain ⟨v, hv1⟩ : ∃ x, xs[j + 1]? = some x := ⟨_, List.getElem?_eq_getElem (by omega)⟩
        have hv2 : (xs.drop 1)[j]? = some v := by rw [List.getElem?_drop, Nat.add_comm]; exact hv1
        refine ⟨⟨xs, _, u, v, .inl (.inl hp9), .inl (.inl hs9), hu1, hv2⟩, ?_⟩
        rintro x H10 ⟨T, u', v', rfl, nT, rfl, hx1, hx2⟩
        have eu := hx1 _ (.inl (.inl hp9))
        have ev := hx2 _ (.inl (.inl hs9))
        rw [hu1] at eu
        rw [hv2] at ev
        obtain rfl := Option.some.inj eu
        obtain rfl := Option.some.inj ev
        have sT := same_upd (o := .tup [u, v]) nT
        obtain ⟨psu, hpu, au, bu, rfl, _, hau, pau⟩ := Paired.at pl hu1
        obtain ⟨psv, hpv, av, bv, rfl, _, hav, pav⟩ := Paired.at pl hv1
        rw [liL_get (by omega)] at hpu hpv
        obtain rfl := Option.some.inj hpu
        obtain rfl := Option.some.inj hpv
        refine ⟨T, _, rfl, .inl (.inl upd_same), rfl, _, _, rfl, _, _, rfl, rfl, ?_⟩
        have s310 := s39.trans sT
        have s810 := s9.trans sT
        generalize upd H9 T (.tup [V.ref au, V.ref av]) = H10 at sT s310 s810
        have hau := s310 _ _ hau
        have hav := s310 _ _ hav
        have pau := PrAll.same s310 pau
        have pav := PrAll.same s310 pav
        have bl := Paired.length pau
        have cl : (canon m (gUp up m ds j)).length ≤ m * m := canon_len m _ m
        refine ⟨_, rfl, au, rfl, ⟨bu, .inl (.inl hau)⟩, fun E nE => ?_⟩
        refine lc_list (xs := bu) (fun k H11 => H11 E = some (.lst ((List.replicate k true).map V.bl)) ∧ ButD E H10 H11) ⟨upd_same, .start⟩ (fun k H11 _ hI => .inl (.inl (hI.2.new nE _ _ hau))) ?_ ?_
        · rintro k y H11 hy ⟨h11, b11⟩
          have s11 := b11.new nE
          obtain ⟨⟨c, d⟩, hcd, tt, rfl, htt⟩ := Paired.at pau hy
          have km : k < bu.length := (List.getElem?_eq_some_iff.mp hy).1
          have em := mem_canon.mp (List.mem_of_getElem? hcd)
          have inn : (c, d) ∈ canon m (gUp up m ds (j + 1)) := mem_canon.mpr ⟨em.1, em.2.1, by cases up <;> exact lid_succ j _ _ em.2.2⟩
          refine ⟨rfl, yes_ite ⟨_, rfl, _, rfl, in_prs (a := c) (b := d) (s11 _ _ htt) (s11 _ _ hav) (PrAll.same s11 pav) ?_⟩⟩
          refine ⟨_, h11, by rw [List.length_map, List.length_replicate, sizeLine_eq]; omega, ?_, b11.put⟩
          rw [upd_same, List.replicate_succ', List.map_append, decide_eq_true inn]
          rfl
        · rintro H11 ⟨h11, b11⟩
          have s11 := b11.new nE
          refine ⟨E, List.replicate bu.length true, rfl, .inl (.inl h11), true, congrArg V.bl (by simp), iteF ?_⟩
          exact ⟨s810.trans s11, _, _, rfl⟩
end
end L2.K73
end

section
set_option Elab.async false
set_option linter.all false
set_option maxRecDepth 100000
set_option maxHeartbeats 8000000
namespace L2.K73
open PySem PySem.Spec PyProof.Rows L2.Gd L2.Lv
/-! ### strips are right -/
/-- strip(high=.., low=.., house=..) -/
def prm3 {α : Type} : List α → List α
  | [b, a, h] => [h, a, b]
  | _ => []
theorem prm3_vals {zs : List V} {ws : List Value} (h : Vals zs ws) : Vals (prm3 zs) (prm3 ws) := by
  match zs, ws, h with
  | [], [], .nil => exact .nil
  | [_], [_], .cons _ .nil => exact .nil
  | [_, _], [_, _], .cons _ (.cons _ .nil) => exact .nil
  | [_, _, _], [_, _, _], .cons a (.cons b (.cons c .nil)) => exact .cons c (.cons b (.cons a .nil))
  | _ :: _ :: _ :: _ :: _, _ :: _ :: _ :: _ :: _, .cons _ (.cons _ (.cons _ (.cons _ _))) => exact .nil
structure KStr (P : Program) (w : World) (K : PySem.W.Frag) (mg : Str → Option Value) (base : Heap) (C2 : Addr) : Prop where
  ex : ∃ f fd, mg "strip" = some (.ref f) ∧ PySem.W.keepIn K (.ref f) = true ∧ KBn K fd ["house", "low", "high"] 0 ["high", "low", "house"] (fun _ ws => prm3 ws) (fun _ zs => prm3 zs) ∧ FnOk P w K mg base CX0 7 f fd ["house", "low", "high"] (spStr C2)
theorem pe_kStr {X : Cx} {kws : List Keyword} {tk : TA} {p pos : Pos} {C2 : Addr} (G : KStr X.prog X.w X.K X.mg X.base C2) (hr : Room 7 X.A) (hkw : PK X kws tk)
    (hg : Gl X "strip" := by rfl) (hall : (backToKw pos (keywordEach kws X.env)).all (·.1.isSome) = true := by rfl) (hks : (backToKw pos (keywordEach kws X.env)).filterMap (·.1) = (["high", "low", "house"] : List Str) := by rfl)
    (hpl : ((backTo pos (starEach [] X.env)).any (·.1) || (backToKw pos (keywordEach kws X.env)).any (·.1.isNone)) = false := by rfl) :
    PE X (.Call (.Name "strip" p) [] kws pos) (tCallN 0 3 (spStr C2) (fun _ zs => prm3 zs) E0 tNil tk) := by
  obtain ⟨f, fd, m, kp, b, F⟩ := G.ex
  exact pe_callN0 F hr hg m kp b pass0 hkw hall hks (by decide) hpl
theorem HouseL.pot {C : Addr} {H H' : Hp} {p h l : Addr} {m : Int} {xs : List V} {ds : List Dd} (hp : PotAt H p) (ne : l ≠ p) (b : ButD p H H') (hh : HouseL C H h l m xs ds) : HouseL C H' h l m xs ds := by
  obtain ⟨dx, ob⟩ := hh.ob
  refine ⟨⟨dx, b _ _ (fun z => ?_) ob⟩, b _ _ ne hh.ls, DdAll.pot hp b hh.dd⟩
  obtain ⟨_, _, e, _⟩ := hp
  rw [z, e] at ob
  exact nomatch ob
theorem dL_showy {n : Nat} (n5 : n ≤ 5) (r : Rl) : Showy (dL (canon n r)) := Sml.showy (sm_canon5 n5 r) (by decide) (Nat.le_trans (dL_dep _) (by decide))
theorem band_great {n : Nat} {ds : List Dd} (n1 : 1 ≤ n) {l h l' h' : Nat} (e1 : n * n ≤ l) (e2 : n * n ≤ h) (e3 : n * n ≤ l') (e4 : n * n ≤ h') : canon n (BandD n ds l h) = canon n (BandD n ds l' h') := by
  obtain ⟨m0, h0, st0, _⟩ := lid_chain (n := n) (U := Dl ds 1) (F := Dl ds 0) (D := Dl ds (-1)) n1
  obtain ⟨m1, h1, st1, _⟩ := lid_chain (n := n) (U := Dl ds (-1)) (F := Dl ds 0) (D := Dl ds 1) n1
  exact canon_congr fun a _ b => band_far st0 st1 (by omega) (by omega) (by omega) (by omega) a b
def spSr (C2 : Addr) : Sp := fun vs H Q _ => ∃ (p h l D : Addr) (n : Nat) (xs ys : List V) (ds : List Dd), vs = [.ref p, .ref h, .int (n : Nat), .ref D] ∧ PotAt H p ∧ HouseL C2 H h l n xs ds ∧ l ≠ p ∧ WF n ds ∧ H D = some (.lst ys) ∧ D ≠ p ∧ DdAll H ys ds ∧ n ≤ 5 ∧
  ∀ H', PotAt H' p → ButD p H H' → Q (.bl true) H'
def NSr : List Str := ["_law_pot_here", "_law_house_here", "_law_places", "_law_deeds", "_law_turn", "_law_low", "_law_high", "_law_due", "_law_told", "_law_many", "_law_great"]
theorem scSr : FnScope NSr ["_law_pot_here", "_law_house_here", "_law_places", "_law_deeds"] (defScope (top 51)) := ⟨rfl, rfl, rfl, by decide +kernel, rfl, by decide +kernel, by decide +kernel⟩
abbrev σS (p h D : Addr) (n : Nat) (x4 x5 x6 x7 x8 x9 x10 : Option V) : L2.St := [some (.ref p), some (.ref h), some (.int (n : Nat)), some (.ref D), x4, x5, x6, x7, x8, x9, x10]
section
variable {P : Program} {w : World} {K : PySem.W.Frag} {mg : Str → Option Value} {base : Heap} {C C2 fl ff : Addr}
theorem ok_sr {f : Addr} {fd : FuncData} (F : Fun K "_law_strips_right" "_law_strips_right" (top 51) f fd) (n : Nm mg) (GD : Fn P w K mg base 1 "_law_draw" ["_law_pot_here", "_law_many"] spDraw)
    (SP : Fn P w K mg base 1 "_law_strip" ["_law_places", "_law_deeds", "_law_low", "_law_high"] spSp) (ST : Fn P w K mg base 7 "strip" ["house", "low", "high"] (spStr C2)) (KS : KStr P w K mg base C2) :
    FnG P w K mg base 8 f fd ["_law_pot_here", "_law_house_here", "_law_places", "_law_deeds"] (spSr C2) := by
  refine okG F scSr (fun vs H Q h => ?_) (fun cdv A outer s H vs Q hg hr h => ?_)
  · obtain ⟨p, h, l, D, n, xs, ys, ds, rfl, _⟩ := h
    rfl
  · obtain ⟨p, h, l, D, m, hxs, ys, ds, rfl, hp, hh, lp, wf, hD, Dp', dd, m5, q⟩ := h
    have N := scSr.nd
    have r1 := hr.mono (k := 7) (j := 1) (by decide)
    have m1 : 1 ≤ m := by have := wf.m1; omega
    have mm : m * m ≤ 5 * 5 := Nat.mul_le_mul m5 m5
    refine ⟨_, pss_cons (ps_for PassesOwn.never rfl (pi_range1 (by rfl) n.range (pa_cons pe_int pa_nil)) (pg_name (i := 4) N rfl (.inl rfl))
        (pss_cons (ps_par (i := 5) (j := 6) rfl N rfl rfl (by decide) rfl rfl (pa_cons (pe_fn GD r1 (pa_cons (pv 0) (pa_cons pe_int pa_nil))) (pa_cons (pe_fn GD r1 (pa_cons (pv 0) (pa_cons pe_int pa_nil))) pa_nil)) (by rfl))
        (pss_cons (ps_set (i := 7) N rfl (.inl rfl) (pe_fn SP r1 (pa_cons (pv 2) (pa_cons (pv 3) (pa_cons (pv 5) (pa_cons (pv 6) pa_nil))))))
        (pss_cons (ps_set (i := 8) N rfl (.inl rfl) (pe_fn ST hr (pa_cons (pv 1) (pa_cons (pv 5) (pa_cons (pv 6) pa_nil)))))
        (pss_one (ps_if (pw_or (pt_cmpR op_ne (pe_callB (call_reprAny hg hr.units) (by rfl) n.repr (by decide +kernel) (pa_cons (pv 8) pa_nil)) (pe_callB (call_reprAny hg hr.units) (by rfl) n.repr (by decide +kernel) (pa_cons (pv 7) pa_nil)) (nomark _))
            (pw_or1 (pt_cmpR op_ne (pe_callB (call_reprAny hg hr.units) (by rfl) n.repr (by decide +kernel) (pa_cons (pe_kStr KS hr (pk_cons (pv 6) (pk_cons (pv 5) (pk_cons (pv 1) pk_nil)))) pa_nil)) (pe_callB (call_reprAny hg hr.units) (by rfl) n.repr (by decide +kernel) (pa_cons (pv 7) pa_nil)) (nomark _)))).pt (pss_one (ps_ret pe_bl)) pss_nil))))))
      (pss_cons (ps_set (i := 9) N rfl (.inl rfl) (pe_op op_mul (pv 2) (pv 2)))
      (pss_cons (ps_set (i := 10) N rfl (.inl rfl) (pe_lst (pa_cons (pe_fn ST hr (pa_cons (pv 1) (pa_cons (pe_op op_pow pe_int pe_int) (pa_cons (pe_op op_pow pe_int pe_int) pa_nil)))) (pa_cons (pe_fn ST hr (pa_cons (pv 1) (pa_cons (pv 9) (pa_cons (pe_op op_pow pe_int pe_int) pa_nil)))) pa_nil))))
      (pss_one (ps_ret (pe_cmpR op_eq (pe_callB (call_reprAny hg hr.units) (by rfl) n.repr (by decide +kernel) (pa_cons (pv 10) pa_nil))
        (pe_callB (call_reprAny hg hr.units) (by rfl) n.repr (by decide +kernel) (pa_cons (pe_op op_rep (pe_lst (pa_cons (pe_fn SP r1 (pa_cons (pv 2) (pa_cons (pv 3) (pa_cons (pv 9) (pa_cons (pv 9) pa_nil))))) pa_nil)) pe_int) pa_nil)) (nomark _)))))), ?_⟩
    -- four turns
    refine seqV (Good := fun σ2 H1 => PotAt H1 p ∧ ButD p H H1 ∧ ∃ x4 x5 x6 x7 x8 : Option V, σ2 = σS p h D m x4 x5 x6 x7 x8 none none) ?_ ?_
    · intro nx hnx
      refine ⟨4, rfl, by decide, by decide, for_range (lo := 0) (n := (4 : Int).toNat) (fun _ σ2 H1 => PotAt H1 p ∧ ButD p H H1 ∧ ∃ x4 x5 x6 x7 x8 : Option V, σ2 = σS p h D m x4 x5 x6 x7 x8 none none) ⟨hp, ButD.refl, _, _, _, _, _, rfl⟩ ?_ (fun σ2 H1 z => hnx _ _ z)⟩
      rintro i σ2 H1 hi ⟨hp1, b1, x4, x5, x6, x7, x8, rfl⟩
      refine gn ?_
      refine seqV (Good := fun σ2 H2 => ∃ a b : Nat, a ≤ 8 ∧ b ≤ 8 ∧ PotAt H2 p ∧ ButD p H H2 ∧ σ2 = σS p h D m (some (.int (0 + (i : Int)))) (some (.int (a : Nat))) (some (.int (b : Nat))) x7 x8 none none) ?_ ?_
      · intro nx hnx
        refine ⟨_, rfl, p, 9, rfl, hp1, by decide, by decide, fun d1 H2 d10 d19 hp2 b2 => ⟨_, rfl, p, 9, rfl, hp2, by decide, by decide, fun d2 H3 d20 d29 hp3 b3 => ?_⟩⟩
        obtain ⟨a, rfl⟩ : ∃ k : Nat, d1 = k := ⟨d1.toNat, by omega⟩
        obtain ⟨b, rfl⟩ : ∃ k : Nat, d2 = k := ⟨d2.toNat, by omega⟩
        exact ⟨_, _, rfl, hnx _ _ ⟨a, b, by omega, by omega, hp3, ButD.trans b1 (ButD.trans b2 b3), rfl⟩⟩
      rintro _ H2 ⟨a, b, a8, b8, hp2, b2, rfl⟩
      have hh2 := hh.pot hp lp b2
      have hD2 := b2 _ _ Dp' hD
      have dd2 := DdAll.pot hp b2 dd
      refine seqV (Good := fun σ2 H3 => ∃ (e : Addr) (es : List V), Same H2 H3 ∧ H3 e = some (.lst es) ∧ PrAll H3 es (canon m (BandD m ds a b)) ∧ σ2 = σS p h D m (some (.int (0 + (i : Int)))) (some (.int (a : Nat))) (some (.int (b : Nat))) (some (.ref e)) x8 none none)
        (fun nx hnx => ⟨_, rfl, _, rfl, _, rfl, _, rfl, D, ys, ds, m, a, b, rfl, hD2, dd2, wf.ok, by omega, by omega, by omega, wf.len, fun e H3 es ne s3 he pe => hnx _ _ ⟨e, es, s3, he, pe, rfl⟩⟩) ?_
      rintro _ H3 ⟨e, es, s3, he, pe, rfl⟩
      refine seqV (Good := fun σ2 H4 => ∃ (c : Addr) (cs : List V), Same H3 H4 ∧ H4 c = some (.lst cs) ∧ PrAll H4 cs (canon m (BandD m ds a b)) ∧ σ2 = σS p h D m (some (.int (0 + (i : Int)))) (some (.int (a : Nat))) (some (.int (b : Nat))) (some (.ref e)) (some (.ref c)) none none)
        (fun nx hnx => ⟨_, rfl, _, rfl, _, rfl, h, l, m, a, b, hxs, ds, rfl, hh2.same s3, wf, fun c H4 cs nc s4 hc pc => hnx _ _ ⟨c, cs, s4, hc, pc, rfl⟩⟩) ?_
      rintro _ H4 ⟨c, cs, s4, hc, pc, rfl⟩
      have shw := dL_showy m5 (BandD m ds a b)
      have he4 := s4 _ _ he
      have pe4 := PrAll.same s4 pe
      refine ⟨_, rfl, _, _, rfl, .lst (.inl (.inl hc)) pc.dps, shw, _, rfl, _, _, rfl, .lst (.inl (.inl he4)) pe4.dps, shw, rfl, false, congrArg (fun z => V.bl (!z)) (decide_eq_true rfl), iteF ?_⟩
      refine ⟨_, rfl, _, rfl, _, rfl, rfl, rfl, h, l, m, a, b, hxs, ds, rfl, (hh2.same s3).same s4, wf, fun c2 H5 cs2 nc2 s5 hc2 pc2 => ?_⟩
      refine ⟨_, _, rfl, .lst (.inl (.inl hc2)) pc2.dps, shw, _, rfl, _, _, rfl, .lst (.inl (.inl (s5 _ _ he4))) (PrAll.same s5 pe4).dps, shw, rfl, false, congrArg (fun z => V.bl (!z)) (decide_eq_true rfl), iteF ?_⟩
      have s25 := s3.trans (s4.trans s5)
      exact ⟨hp2.same s25, ButD.trans b2 (Same.but s25), _, _, _, _, _, rfl⟩
    rintro _ H1 ⟨hp1, b1, x4, x5, x6, x7, x8, rfl⟩
    have hh1 := hh.pot hp lp b1
    have hD1 := b1 _ _ Dp' hD
    have dd1 := DdAll.pot hp b1 dd
    -- great numbers
    refine seqV (Good := fun σ2 H2 => H1 = H2 ∧ σ2 = σS p h D m x4 x5 x6 x7 x8 (some (.int ((m * m : Nat) : Int))) none) (fun nx hnx => ⟨_, rfl, _, rfl, _, _, rfl, rfl, .inl ⟨by omega, by omega⟩, hnx _ _ ⟨rfl, by
      rw [show ((m * m : Nat) : Int) = (m : Int) * (m : Int) from Int.natCast_mul m m]
      rfl⟩⟩) ?_
    rintro _ _ ⟨rfl, rfl⟩
    have e20 : (10 : Int) ^ (20 : Int).toNat = ((10 ^ 20 : Nat) : Int) := by decide
    have e25 : (10 : Int) ^ (25 : Int).toNat = ((10 ^ 25 : Nat) : Int) := by decide
    have g20 : m * m ≤ 10 ^ 20 := Nat.le_trans mm (by decide)
    have g25 : m * m ≤ 10 ^ 25 := Nat.le_trans mm (by decide)
    have shw : Showy (.list ([canon m (BandD m ds (m * m) (m * m)), canon m (BandD m ds (m * m) (m * m))].map dL)) := dLL_showy (fun ps hp => by
      rcases List.mem_cons.mp hp with z | z
      · rw [z]
        exact sm_canon5 m5 _
      · rw [List.mem_singleton.mp z]
        exact sm_canon5 m5 _) (by show 2 ≤ 30; decide)
    refine seqV (Good := fun σ2 H2 => ∃ (g a b : Addr) (as bs : List V), Same H1 H2 ∧ H2 g = some (.lst [.ref a, .ref b]) ∧ H2 a = some (.lst as) ∧ PrAll H2 as (canon m (BandD m ds (m * m) (m * m))) ∧ H2 b = some (.lst bs) ∧ PrAll H2 bs (canon m (BandD m ds (m * m) (m * m))) ∧ σ2 = σS p h D m x4 x5 x6 x7 x8 (some (.int ((m * m : Nat) : Int))) (some (.ref g))) ?_ ?_
    · intro nx hnx
      refine ⟨_, rfl, _, _, rfl, rfl, ⟨by decide, by decide, by decide⟩, _, _, rfl, rfl, ⟨by decide, by decide, by decide⟩, h, l, m, 10 ^ 20, 10 ^ 20, hxs, ds, ?_, hh1, wf, fun a H2 as na s2 ha pa => ?_⟩
      · show [V.ref h, V.int ((10 : Int) ^ (20 : Int).toNat), V.int ((10 : Int) ^ (20 : Int).toNat)] = _
        rw [e20]
      refine ⟨_, rfl, _, rfl, _, _, rfl, rfl, ⟨by decide, by decide, by decide⟩, h, l, m, m * m, 10 ^ 25, hxs, ds, ?_, hh1.same s2, wf, fun b H3 bs nb s3 hb pb => ⟨(by show 2 ≤ sizeLine; decide), fun g ng => ?_⟩⟩
      · show [V.ref h, V.int ((m * m : Nat) : Int), V.int ((10 : Int) ^ (25 : Int).toNat)] = _
        rw [e25]
      have sg := same_upd (o := .lst [V.ref a, V.ref b]) ng
      rw [band_great m1 g20 g20 (Nat.le_refl _) (Nat.le_refl _)] at pa
      rw [band_great m1 (Nat.le_refl _) g25 (Nat.le_refl _) (Nat.le_refl _)] at pb
      exact hnx _ _ ⟨g, a, b, as, bs, s2.trans (s3.trans sg), upd_same, sg _ _ (s3 _ _ ha), PrAll.same (s3.trans sg) pa, sg _ _ hb, PrAll.same sg pb, rfl⟩
    rintro _ H2 ⟨g, a, b, as, bs, s2, hg2, ha, pa, hb, pb, rfl⟩
    refine ⟨_, rfl, _, _, rfl, .lst (.inl (.inl hg2)) (.cons (.lst (.inl (.inl ha)) pa.dps) (.cons (.lst (.inl (.inl hb)) pb.dps) .nil)), shw, ?_⟩
    refine ⟨_, rfl, _, rfl, _, rfl, _, rfl, D, ys, ds, m, m * m, m * m, rfl, s2 _ _ hD1, DdAll.same s2 dd1, wf.ok, by omega, by omega, by omega, wf.len, fun e H3 es ne s3 he pe => ⟨(by show 1 ≤ sizeLine; decide), fun L nL => ?_⟩⟩
    have sL := same_upd (o := .lst [V.ref e]) nL
    refine ⟨L, 2, _, rfl, rfl, upd_same, by decide, by decide, by rw [sizeLine_eq]; show 1 * 2 ≤ _; decide, fun R nR => ?_⟩
    have sR := same_upd (o := .lst [V.ref e, V.ref e]) nR
    have sLR := sL.trans sR
    refine ⟨_, _, rfl, .lst (.inl (.inl (show upd (upd H3 L (.lst [V.ref e])) R (.lst [V.ref e, V.ref e]) R = some (.lst [V.ref e, V.ref e]) from upd_same))) (.cons (.lst (.inl (.inl (sLR _ _ he))) (PrAll.same sLR pe).dps) (.cons (.lst (.inl (.inl (sLR _ _ he))) (PrAll.same sLR pe).dps) .nil)), shw, rfl, ?_⟩
    have s14 := s2.trans (s3.trans sLR)
    refine blT (Q := Q) rfl (q _ (hp1.same s14) (ButD.trans b1 (Same.but s14)))
end
end L2.K73
end

section
set_option Elab.async false
set_option linter.all false
set_option maxRecDepth 100000
set_option maxHeartbeats 8000000
namespace L2.K73
open PySem PySem.Spec PyProof.Rows L2.Gd L2.Lv
/-! ### turned houses -/
theorem gUp_plain (up : Bool) (n : Nat) (ds : List Dd) : gUp up n (ds.filter isAny) = gUp up n ds := by
  cases up <;>
  · funext k
    show Lid n (Dl (ds.filter isAny) _) (Dl (ds.filter isAny) _) (Dl (ds.filter isAny) _) k = _
    rw [Dl_plain]
    rfl
theorem gUp_turn (up : Bool) (n : Nat) (ds : List Dd) (k a b : Nat) : gUp up n (ds.map turnD) k b a ↔ gUp up n ds k a b := by
  cases up with
  | true =>
    show Lid n (Dl (ds.map turnD) 1) (Dl (ds.map turnD) 0) (Dl (ds.map turnD) (-1)) k b a ↔ _
    rw [Dl_turn, Dl_turn, Dl_turn]
    exact lid_tr_iff k a b
  | false =>
    show Lid n (Dl (ds.map turnD) (-1)) (Dl (ds.map turnD) 0) (Dl (ds.map turnD) 1) k b a ↔ _
    rw [Dl_turn, Dl_turn, Dl_turn]
    exact lid_tr_iff k a b
theorem gUp_stops (up : Bool) (n : Nat) (ds : List Dd) (k : Nat) : Stops (gUp up n (ds.map turnD)) k ↔ Stops (gUp up n ds) k :=
  ⟨fun h a b => (gUp_turn up n ds (k + 1) a b).symm.trans ((h b a).trans (gUp_turn up n ds k a b)), fun h a b => (gUp_turn up n ds (k + 1) b a).trans ((h b a).trans (gUp_turn up n ds k b a).symm)⟩
noncomputable def trL (n : Nat) (ps : List (Nat × Nat)) : List (Nat × Nat) := canon n fun a b => (b, a) ∈ ps
theorem trL_canon {n : Nat} {r s : Rl} (ir : In n r) (h : ∀ a b, s b a ↔ r a b) : trL n (canon n r) = canon n s :=
  canon_congr fun a ha b => ⟨fun z => (h b a).mpr (mem_canon.mp z).2.2, fun z => mem_canon.mpr ⟨(ir _ _ ((h b a).mp z)).1, ha, (h b a).mp z⟩⟩
theorem trL_liL {up : Bool} {n m : Nat} {ds : List Dd} : (liL (gUp up n ds) n m).map (trL n) = liL (gUp up n (ds.map turnD)) n m := by
  unfold liL
  rw [List.map_map]
  refine List.map_congr_left fun k _ => ?_
  exact trL_canon (gUp_in up k) fun a b => gUp_turn up n ds k a b
def spBr (C2 : Addr) : Sp := fun vs H Q _ => ∃ (h l : Addr) (n : Nat) (xs : List V) (ds : List Dd), vs = [.ref h] ∧ HouseL C2 H h l n xs ds ∧ WF n ds ∧ n ≤ 5 ∧ ∀ H', Same H H' → Q (.bl true) H'
def NBr : List Str := ["_law_house_here", "_law_plain", "_law_turned", "_law_ask", "_law_pairs", "_law_place", "_law_goal"]
theorem scBr : FnScope NBr ["_law_house_here"] (defScope (top 52)) := ⟨rfl, rfl, rfl, by decide +kernel, rfl, by decide +kernel, by decide +kernel⟩
/-- the scope of the outer comprehension -/
def scBp : Scope := { kind := .function, names := [(".0", .local), ("_law_pairs", .local), ("sorted", .globalImplicit)], isGenerator := false, isCoroutine := false }
abbrev σT (h : Addr) (x1 x2 x3 : Option V) : L2.St := [some (.ref h), x1, x2, x3, none, none, none]
section
variable {P : Program} {w : World} {K : PySem.W.Frag} {mg : Str → Option Value} {base : Heap} {C C2 fl ff : Addr}
theorem ok_br {f : Addr} {fd : FuncData} (F : Fun K "_law_back_right" "_law_back_right" (top 52) f fd) (n : Nm mg) (T : ClsT K mg C2) (AK : AskK P w K mg base C2 fl ff)
    (LD : Fn P w K mg base 7 "lids" ["house"] (spLf C2 LidD)) (FL : Fn P w K mg base 7 "floors" ["house"] (spLf C2 FloD))
    (PN : MeH P w K mg base C2 "plain" 7 ["self"] (spPln C2)) (TN : MeH P w K mg base C2 "turned" 7 ["self"] (spTrn C2)) :
    FnOk P w K mg base CX0 8 f fd ["_law_house_here"] (spBr C2) := by
  refine F.ok scBr (fun vs H Q E h => ?_) (fun cdv A outer s H vs Q E hr h => ?_)
  · obtain ⟨h, l, n, xs, ds, rfl, _⟩ := h
    rfl
  · obtain ⟨h, l, m, xs, ds, rfl, hh, wf, m5, q⟩ := h
    have N := scBr.nd
    refine ⟨_, pss_cons (ps_set (i := 1) N rfl (.inl rfl) (pe_mH0 PN T hr (pv 0)))
      (pss_cons (ps_set (i := 2) N rfl (.inl rfl) (pe_mH0 TN T hr (pv 1)))
      (pss_cons (ps_for PassesOwn.never rfl (pi_list (pe_lst (pa_cons (pe_glob (v := .ref fl) (by rfl) AK.l rfl) (pa_cons (pe_glob (v := .ref ff) (by rfl) AK.f rfl) pa_nil)))) (pg_name (i := 3) N rfl (.inl rfl))
        (pss_one (ps_if (pt_cmpR (op_neD hr.units)
          (pe_lc (own := [("_law_pairs", 4)]) (g := gName 4) (tt := tYes) rfl N (pi_list (pe_callA (i := 3) AK.held hr rfl (.inl rfl) (pa_cons (pv 1) pa_nil))) (blkOk_by (N := NBr) (sc := defScope (top 52)) (by decide +kernel)) (fun _ _ _ _ _ => pg_name (i := 4) N rfl (.inl rfl))
            (fun _ _ _ _ _ => pts_nil) (fun _ _ _ _ _ => pe_callB (id := "sorted") (r := rSortU K 2 64) (cr_sortT (d := 2) (B := 64) (by decide)) (by rfl) n.sorted (by decide +kernel) (pa_cons
              (pe_lc (wi := iList K (tVar 4)) (own := [("_law_place", 5), ("_law_goal", 6)]) (g := gTup K 2 (gCons (gName 5) (gCons (gName 6) gNil))) (tt := tYes) rfl N (pi_list (pv 4)) (blkOk_by (N := NBr) (sc := scBp) (by decide +kernel)) (fun _ _ _ _ _ => pg_tup rfl (pgs_cons (pg_name (i := 5) N rfl (.inl rfl)) (pgs_cons (pg_name (i := 6) N rfl (.inl rfl)) pgs_nil)))
                (fun _ _ _ _ _ => pts_nil) (fun _ _ _ _ _ => pe_tup (pa_cons (pv 6) (pa_cons (pv 5) pa_nil)))) pa_nil)))
          (pe_callA (i := 3) AK.held hr rfl (.inl rfl) (pa_cons (pv 2) pa_nil)) (nomark _)) (pss_one (ps_ret pe_bl)) pss_nil)))
      (pss_one (ps_ret (pe_and (pe_cmpR (op_eqD hr.units) (pe_fn LD hr (pa_cons (pv 1) pa_nil)) (pe_fn LD hr (pa_cons (pv 0) pa_nil)) (nomark _))
        (pe_one (pe_cmpR (op_eqD hr.units) (pe_fn FL hr (pa_cons (pv 1) pa_nil)) (pe_fn FL hr (pa_cons (pv 0) pa_nil)) (nomark _)))))))), ?_⟩
    have m1 : 1 ≤ m := by have := wf.m1; omega
    have mm : m * m ≤ 5 * 5 := Nat.mul_le_mul m5 m5
    have wfp : WF (m : Int) (ds.filter isAny) := wf.filter isAny
    have alp : (ds.filter isAny).all isAny = true := List.all_eq_true.mpr fun d hd => (List.mem_filter.mp hd).2
    have wfb : WF (m : Int) ((ds.filter isAny).map turnD) := wfp.turn alp
    refine seqV (Good := fun σ2 H1 => ∃ (ph pl : Addr) (pys : List V), Same H H1 ∧ HouseL C2 H1 ph pl (m : Int) pys (ds.filter isAny) ∧ σ2 = σT h (some (.ref ph)) none none) ?_ ?_
    · intro nx hnx
      obtain ⟨dx, ob⟩ := hh.ob
      exact ⟨_, rfl, h, dx, _, rfl, ob, flds_no _ _ (by decide +kernel) (by decide +kernel), h, l, m, xs, ds, rfl, hh, wf, fun ph pl pys H5 n5 n5' s5 ph5 => hnx _ _ ⟨ph, pl, pys, s5, ph5, rfl⟩⟩
    rintro _ H1 ⟨ph, plh, pys, s1, hp1, rfl⟩
    refine seqV (Good := fun σ2 H2 => ∃ (bh bl : Addr) (bys : List V), Same H1 H2 ∧ HouseL C2 H2 bh bl (m : Int) bys ((ds.filter isAny).map turnD) ∧ σ2 = σT h (some (.ref ph)) (some (.ref bh)) none) ?_ ?_
    · intro nx hnx
      obtain ⟨dx, ob⟩ := hp1.ob
      exact ⟨_, rfl, ph, dx, _, rfl, ob, flds_no _ _ (by decide +kernel) (by decide +kernel), ph, plh, m, pys, _, rfl, hp1, wfp.len, alp, wfb, fun bh bl bys H9 n9 n9' s9 bh9 => hnx _ _ ⟨bh, bl, bys, s9, bh9, rfl⟩⟩
    rintro _ H2 ⟨bh, blh, bys, s2, hb2, rfl⟩
    have hp2 := hp1.same s2
    have hh2 := (hh.same s1).same s2
    -- both lists, turned
    refine seqV (Good := fun σ2 H3 => Same H2 H3 ∧ ∃ x3 : Option V, σ2 = σT h (some (.ref ph)) (some (.ref bh)) x3) ?_ ?_
    · intro nx hnx
      refine ⟨(by show 2 ≤ sizeLine; decide), fun L nL => ?_⟩
      have sL := same_upd (o := .lst [V.ref fl, V.ref ff]) nL
      have hL : upd H2 L (.lst [V.ref fl, V.ref ff]) L = some (.lst [V.ref fl, V.ref ff]) := upd_same
      generalize upd H2 L (.lst [V.ref fl, V.ref ff]) = H3 at sL hL
      refine ⟨L, rfl, ⟨_, .inl (.inl hL)⟩, ?_⟩
      refine loop_of (n := [V.ref fl, V.ref ff].length) (fun _ σ H4 => Same H3 H4 ∧ ∃ x3 : Option V, σ = σT h (some (.ref ph)) (some (.ref bh)) x3) ⟨fun _ _ z => z, _, rfl⟩ ?_ ?_
      · rintro σ H4 ⟨s4, x3, rfl⟩
        exact ⟨⟨_, .inl (.inl (s4 _ _ hL)), Nat.le_refl _⟩, hnx _ _ ⟨sL.trans s4, _, rfl⟩⟩
      · rintro i σ H4 hi ⟨s4, x3, rfl⟩
        have hL4 := s4 _ _ hL
        refine ⟨⟨_, _, .inl (.inl hL4), List.getElem?_eq_getElem hi⟩, ?_⟩
        rintro x H5 ⟨rfl, hy⟩
        have hyi := hy _ (.inl (.inl hL4))
        obtain ⟨up, rfl⟩ : ∃ up : Bool, x = V.ref (askA fl ff up) := by
          match i, hi, hyi with
          | 0, _, e => exact ⟨true, (Option.some.inj e).symm⟩
          | 1, _, e => exact ⟨false, (Option.some.inj e).symm⟩
        clear hy hyi hL4
        have s24 := sL.trans s4
        refine gn ?_
        refine ⟨askA fl ff up, _, rfl, asks_up AK up, _, rfl, ph, plh, m, pys, _, rfl, hp2.same s24, wfp, fun b H6 zs M nb s6 hb pb fr st go => ?_⟩
        have zl := Paired.length pb
        rw [liL_len] at zl
        obtain ⟨M0, M0n, st0, go0⟩ := gUp_chain up (n := m) (ds := ds.filter isAny) m1
        obtain rfl := stops_one st go st0 go0
        refine ⟨b, rfl, ⟨zs, .inl (.inl hb)⟩, fun D hD => ?_⟩
        refine lc_mapL (es := liL (gUp up m (ds.filter isAny)) m M) (F := PlAt b) (G := PlAt D) (f := fun ps => some (trL m ps)) (fun _ _ _ _ b hD h => h.but b hD) hb hD (by omega) pb ?_ ?_
        · rintro x ps H7 A B hps ⟨a, us, rfl, na, ha, pa⟩ b7 hz hA hB
          obtain ⟨k, rfl⟩ := liL_of hps
          have s7 := b7.new hD
          have ha7 := s7 _ _ ha
          have pa7 := PrAll.same s7 pa
          have ul := Paired.length pa7
          have cl : (canon m (gUp up m (ds.filter isAny) k)).length ≤ m * m := canon_len m _ m
          generalize gUp up m (ds.filter isAny) k = r at cl pa7 ul hA
          refine ⟨rfl, yes_ite ?_⟩
          refine ⟨_, rfl, a, rfl, ⟨us, .inl (.inl ha7)⟩, fun E hE => ?_⟩
          refine lc_list (xs := us) (fun j H' => ButD E H7 H' ∧ ∃ zs, H' E = some (.lst zs) ∧ PrAll H' zs (((canon m r).take j).map Prod.swap)) ⟨.start, [], upd_same, .nil⟩
            (fun j H' _ hI => .inl (.inl (hI.1.new hE _ _ ha7))) ?_ ?_
          · rintro j x H' hx ⟨b', zs', h1, h2⟩
            have s' := b'.new hE
            obtain ⟨y, hy, t, rfl, ht⟩ := Paired.at pa7 hx
            refine ⟨t, _, rfl, .inl (.inl (s' _ _ ht)), rfl, _, _, rfl, _, _, rfl, rfl, rfl, yes_ite ?_⟩
            refine ⟨_, rfl, _, rfl, (by show 2 ≤ sizeLine; decide), fun u hu => ?_⟩
            have su := same_upd (o := .tup [V.int (y.2 : Nat), V.int (y.1 : Nat)]) hu
            have zl' := Paired.length h2
            rw [List.length_map, List.length_take] at zl'
            have bt : ButD E (upd H' u (.tup [V.int (y.2 : Nat), V.int (y.1 : Nat)])) (L2.upd (upd H' u (.tup [V.int (y.2 : Nat), V.int (y.1 : Nat)])) E (.lst (zs' ++ [V.ref u]))) := ButD.start
            refine ⟨zs', su _ _ h1, by rw [sizeLine_eq]; omega, (b'.more su).put, _, upd_same, ?_⟩
            rw [take_map _ hy]
            exact PrAll.but bt ⟨_, su _ _ h1⟩ (PySem.Paired.snoc (PrAll.same su h2) ⟨u, rfl, upd_same⟩)
          · rintro H' ⟨b', zs', h1, h2⟩
            have s' := b'.new hE
            rw [ul, List.take_length] at h2
            refine sorted_prs (K := K) (n := m) (r := fun a b => (b, a) ∈ canon m r) h1 h2 (by rw [List.length_map]; omega) (by omega) ?_ (fun c d => ?_) fun p H8 ys np s8 hp8 pp => ?_
            · exact List.pairwise_map.mpr ((canon_nodup (by omega) r).imp fun {x y} h e => h (by
                have := congrArg Prod.swap e
                simpa using this))
            · rw [List.mem_map]
              constructor
              · rintro ⟨⟨x, y⟩, hxy, e⟩
                obtain ⟨rfl, rfl⟩ := Prod.mk.inj e
                have := mem_canon.mp hxy
                exact ⟨this.2.1, this.1, hxy⟩
              · rintro ⟨h3, h4, h5⟩
                exact ⟨(d, c), h5, rfl⟩
            · obtain ⟨zs, hz⟩ := hz
              have h3 := (s'.trans s8) _ _ hz
              have fp := s'.free np
              exact hA (trL m (canon m r)) _ H8 rfl (s'.trans s8) ⟨p, ys, rfl, (ne_of_none (s' _ _ hz) np).symm, hp8, pp⟩
        · intro us H7 h1 h2 h3
          have s7 := h3.new hD
          rw [mapE, trL_liL] at h2
          have s27 := s24.trans (s6.trans s7)
          refine ⟨askA fl ff up, _, rfl, asks_up AK up, _, rfl, bh, blh, m, bys, _, rfl, hb2.same s27, wfb, fun c H8 cs M' nc s8 hc pc fr' st' go' => ?_⟩
          obtain rfl := stops_one st' go' ((gUp_stops up m _ _).mpr st) (fun j hj z => go j hj ((gUp_stops up m _ _).mp z))
          refine ⟨_, _, .lst (.inl (.inl (s8 _ _ h1))) (PlAll.same s8 h2).dps, .lst (.inl (.inl hc)) pc.dps, dLs_shaped _, dLs_shaped _, false, by rw [dLs_eqv']; rfl, iteF ?_⟩
          exact ⟨s4.trans (s6.trans (s7.trans s8)), _, rfl⟩
    rintro _ H3 ⟨s3, x3, rfl⟩
    have hp3 := hp2.same s3
    have hh3 := hh2.same s3
    -- the plain house tells the same
    have el : LidD m (ds.filter isAny) = LidD m ds := gUp_plain true m ds
    have ef : FloD m (ds.filter isAny) = FloD m ds := gUp_plain false m ds
    refine ⟨_, rfl, ph, plh, m, pys, _, rfl, hp3, wfp, fun a H4 as M na s4 ha pa fa st go => ?_⟩
    refine ⟨_, rfl, h, l, m, xs, ds, rfl, hh3.same s4, wf, fun b H5 bs M' nb s5 hb pb fb st' go' => ?_⟩
    rw [el] at pa st go
    obtain rfl := stops_one st go st' go'
    refine ⟨_, _, .lst (.inl (.inl (s5 _ _ ha))) (PlAll.same s5 pa).dps, .lst (.inl (.inl hb)) pb.dps, dLs_shaped _, dLs_shaped _, true, by rw [dLs_eqv'], iteT ?_⟩
    have s35 := s4.trans s5
    refine ⟨_, rfl, ph, plh, m, pys, _, rfl, hp3.same s35, wfp, fun c H6 cs M2 nc s6 hc pc fc st2 go2 => ?_⟩
    refine ⟨_, rfl, h, l, m, xs, ds, rfl, (hh3.same s35).same s6, wf, fun d H7 es M3 nd s7 hd pd fd st3 go3 => ?_⟩
    rw [ef] at pc st2 go2
    obtain rfl := stops_one st2 go2 st3 go3
    refine ⟨_, _, .lst (.inl (.inl (s7 _ _ hc))) (PlAll.same s7 pc).dps, .lst (.inl (.inl hd)) pd.dps, dLs_shaped _, dLs_shaped _, ?_⟩
    rw [dLs_eqv']
    exact q _ (s1.trans (s2.trans (s3.trans (s35.trans (s6.trans s7)))))
end
end L2.K73
end

section
set_option Elab.async false
set_option linter.all false
set_option maxRecDepth 100000
set_option maxHeartbeats 8000000
namespace L2.K73
open PySem PySem.Spec PyProof.Rows L2.Gd L2.Lv
/-! ### all is right -/
/-- a def called by its name, defaults behind what is written -/
structure FnD (P : Program) (w : World) (K : PySem.W.Frag) (mg : Str → Option Value) (base : Heap) (k : Nat) (x : Str) (ps : List Str) (dvs : List V) (sp : Sp) : Prop where
  ex : ∃ f fd ds, mg x = some (.ref f) ∧ PySem.W.keepIn K (.ref f) = true ∧ Vals dvs ds ∧ Binds K fd ps ds ∧ FnOk P w K mg base CX0 k f fd ps sp
theorem pe_fnD {X : Cx} {k : Nat} {x : Str} {ps : List Str} {dvs : List V} {sp : Sp} {e : Expr} {es : List Expr} {t : TA} {p pos : Pos}
    (F : FnD X.prog X.w X.K X.mg X.base k x ps dvs sp) (hr : Room k X.A) (ha : PA X (e :: es) t) (gl : Gl X x := by rfl) (hdb : (x == ("__debug__" : Str)) = false := by decide)
    (he : starEach (e :: es) X.env = (false, eval e X.env) :: starEach es X.env := by rfl)
    (hpl : (backTo pos (starEach es X.env)).any (·.1) = false := by rfl) :
    PE X (.Call (.Name x p) (e :: es) [] pos) (tCall sp dvs E0 t) := by
  obtain ⟨f, fd, ds, m, kp, v, b, G⟩ := F.ex
  exact pe_call G hr gl m kp b v pass0 ha hdb he hpl
section
variable {P : Program} {w : World} {K : PySem.W.Frag} {mg : Str → Option Value} {base : Heap} {C C2 fl ff : Addr}
structure RK (P : Program) (w : World) (K : PySem.W.Frag) (mg : Str → Option Value) (base : Heap) (C2 : Addr) : Prop where
  n : Nm mg
  T : ClsT K mg C2
  M : MkH P w K mg base C2
  ho : FnD P w K mg base 3 "_law_house" ["_law_pot_here", "_law_most", "_law_is_plain"] [.bl false] spHo
  lr : FnGd P w K mg base 8 "_law_lists_right" ["_law_house_here", "_law_places", "_law_deeds"] (spLr C2)
  sr : FnGd P w K mg base 8 "_law_strips_right" ["_law_pot_here", "_law_house_here", "_law_places", "_law_deeds"] (spSr C2)
  br : Fn P w K mg base 8 "_law_back_right" ["_law_house_here"] (spBr C2)
  de : MeH P w K mg base C2 "deeds" 1 ["self"] (spDeeds C2)
def spRight : Sp := fun vs H Q _ => ∃ (p : Addr), vs = [.ref p] ∧ PotAt H p ∧ ∀ H', ButD p H H' → Q (.bl true) H'
def NRi : List Str := ["_law_pot_here", "_law_places", "_law_deeds", "_law_house_here"]
theorem scRi : FnScope NRi ["_law_pot_here"] (defScope (top 53)) := ⟨rfl, rfl, rfl, by decide +kernel, rfl, by decide +kernel, by decide +kernel⟩
theorem ok_right {f : Addr} {fd : FuncData} (F : Fun K "_law_right" "_law_right" (top 53) f fd) (k : RK P w K mg base C2) : FnG P w K mg base 9 f fd ["_law_pot_here"] spRight := by
  refine okG F scRi (fun vs H Q h => ?_) (fun cdv A outer s H vs Q hg hr h => ?_)
  · obtain ⟨p, rfl, _⟩ := h
    rfl
  · obtain ⟨p, rfl, hp, q⟩ := h
    have N := scRi.nd
    have T := k.T
    have r1 := hr.mono (k := 8) (j := 1) (by decide)
    have r3 := hr.mono (k := 8) (j := 3) (by decide)
    have r6 := hr.mono (k := 8) (j := 6) (by decide)
    refine ⟨_, pss_cons (ps_asg (pe_fnD k.ho r3 (pa_cons (pv 0) (pa_cons pe_int pa_nil))) (pg_tup rfl (pgs_cons (pg_name (i := 1) N rfl (.inl rfl)) (pgs_cons (pg_name (i := 2) N rfl (.inl rfl)) pgs_nil))))
      (pss_cons (ps_set (i := 3) N rfl (.inl rfl) (pe_house k.M T r6 (pa_cons (pv 1) (pa_cons (pv 2) pa_nil))))
      (pss_cons (ps_if (pw_or (pt_not (pt_val (pe_fnG k.lr hg hr (pa_cons (pv 3) (pa_cons (pv 1) (pa_cons (pv 2) pa_nil)))))) (pw_or1 (pt_not (pt_val (pe_fnG k.sr hg hr (pa_cons (pv 0) (pa_cons (pv 3) (pa_cons (pv 1) (pa_cons (pv 2) pa_nil))))))))).pt (pss_one (ps_ret pe_bl)) pss_nil)
      (pss_one (ps_ret (pe_and (pe_fn k.br hr (pa_cons (pv 3) pa_nil)) (pe_one (pe_cmpR (op_eqD hr.units) (pe_mH0 k.de T r1 (pv 3)) (pv 2) (nomark _)))))))), ?_⟩
    refine seqV (Good := fun σ2 H1 => ∃ (m : Nat) (D : Addr) (ys : List V) (ds : List Dd), H1 D = some (.lst ys) ∧ D ≠ p ∧ DdAll H1 ys ds ∧ WF m ds ∧ m ≤ 5 ∧ PotAt H1 p ∧ ButD p H H1 ∧ σ2 = [some (.ref p), some (.int (m : Nat)), some (.ref D), none]) ?_ ?_
    · intro nx hnx
      refine ⟨_, rfl, p, rfl, hp, fun t D ys ds m H1 ht hD nD dd wf m5 hp1 b1 => ?_⟩
      exact ⟨t, _, rfl, .inl (.inl ht), rfl, _, _, rfl, _, _, rfl, rfl, hnx _ _ ⟨m, D, ys, ds, hD, nD, dd, wf, m5, hp1, b1, rfl⟩⟩
    rintro _ H1 ⟨m, D, ys, ds, hD, nD, dd, wf, m5, hp1, b1, rfl⟩
    refine seqV (Good := fun σ2 H2 => ∃ (h l : Addr), HouseL C2 H2 h l (m : Int) ys ds ∧ Same H1 H2 ∧ σ2 = [some (.ref p), some (.int (m : Nat)), some (.ref D), some (.ref h)]) ?_ ?_
    · intro nx hnx
      refine ⟨_, rfl, _, rfl, ?_⟩
      exact make_any (K := K) (C := C2) (.inl hD) dd wf (fun h l H3 n3 n3' s3 hh3 => ⟨rfl, hnx _ _ ⟨h, l, hh3, s3, rfl⟩⟩)
    rintro _ H2 ⟨h, l, hh, s2, rfl⟩
    have hp2 := hp1.same s2
    have hD2 := s2 _ _ hD
    have dd2 := dd.same s2
    have lp : l ≠ p := pot_refs hp2 hh.ls hh.dd.refs
    refine seqV (Good := fun σ2 H3 => PotAt H3 p ∧ ButD p H2 H3 ∧ σ2 = [some (.ref p), some (.int (m : Nat)), some (.ref D), some (.ref h)]) ?_ ?_
    · intro nx hnx
      refine ⟨_, rfl, _, rfl, _, rfl, h, l, D, m, ys, ys, ds, rfl, hh, wf, hD2, dd2, m5, fun H3 s3 => ⟨true, rfl, iteF ?_⟩⟩
      refine ⟨_, rfl, _, rfl, _, rfl, _, rfl, p, h, l, D, m, ys, ys, ds, rfl, hp2.same s3, hh.same s3, lp, wf, s3 _ _ hD2, nD, dd2.same s3, m5, fun H4 hp4 b4 => ⟨true, rfl, iteF ?_⟩⟩
      exact hnx _ _ ⟨hp4, ButD.trans (Same.but s3) b4, rfl⟩
    rintro _ H3 ⟨hp3, b3, rfl⟩
    have hh3 := hh.pot hp2 lp b3
    have hD3 := b3 _ _ nD hD2
    have dd3 := DdAll.pot hp2 b3 dd2
    refine ⟨_, rfl, h, l, m, ys, ds, rfl, hh3, wf, m5, fun H4 s4 => ⟨true, rfl, iteT ?_⟩⟩
    have hh4 := hh3.same s4
    obtain ⟨dx, ob⟩ := hh4.ob
    refine ⟨_, rfl, h, dx, _, rfl, ob, flds_no _ _ (by decide +kernel) (by decide +kernel), h, l, m, ys, ds, rfl, hh4, fun o no => ?_⟩
    have so := same_upd (o := .lst ys) no
    refine ⟨_, rfl, .list (ds.map Dd.d), .list (ds.map Dd.d), .lst (.inl (.inl upd_same)) (hh4.dd.same so).dps, .lst (.inl (.inl (so _ _ (s4 _ _ hD3)))) ((dd3.same s4).same so).dps, shapedL (fun x hx => (wf.ok x hx).wd), shapedL (fun x hx => (wf.ok x hx).wd), ?_⟩
    have e : PyData.eqv (.list (ds.map Dd.d)) (.list (ds.map Dd.d)) = true := by
      rw [PyData.eqv, eqvs]
      exact decide_eq_true rfl
    rw [e]
    exact q _ (ButD.trans b1 (ButD.trans (Same.but s2) (ButD.trans b3 (Same.but (s4.trans so)))))
/-! the law -/
abbrev sLaw : Stmt := top 54
def spLaw (K : PySem.W.Frag) : Sp := fun vs H Q _ => ∃ (a : Addr) (ns : List Int), vs = [.ref a] ∧ SqL K H a (ns.map V.int) ∧ ns.length ≤ 63 ∧ ∀ H', Q (.bl true) H'
theorem scLaw : FnScope ["_law_script", "_law_k"] ["_law_script"] (defScope sLaw) := ⟨rfl, rfl, rfl, by decide +kernel, rfl, by decide +kernel, by decide +kernel⟩
theorem ok_law {f : Addr} {fd : FuncData} (F : Fun K "law" "law" sLaw f fd) (n : Nm mg) (GP : Fn P w K mg base 1 "_law_pot" ["_law_script", "_law_k"] (spPot K)) (GR : FnGd P w K mg base 9 "_law_right" ["_law_pot_here"] spRight) :
    FnG P w K mg base 10 f fd ["_law_script"] (spLaw K) := by
  refine okG F scLaw (fun vs H Q h => ?_) (fun cdv A outer s H vs Q hg hr h => ?_)
  · obtain ⟨a, ns, rfl, _⟩ := h
    rfl
  · obtain ⟨a, ns, rfl, hs, hl, q⟩ := h
    have N := scLaw.nd
    have r1 := hr.mono (k := 9) (j := 1) (by decide)
    refine ⟨_, pss_one (ps_ret (pe_callB (cr_all rfl) (by rfl) n.all (by decide +kernel) (pa_cons
      (pe_lc (own := [("_law_k", 1)]) (g := gName 1) (tt := tYes) rfl N (pi_range1 (by rfl) n.range (pa_cons (pe_callB (call_max2 rfl) (by rfl) n.max (by decide +kernel) (pa_cons pe_int (pa_cons
          (pe_callB (call_min2 rfl) (by rfl) n.min (by decide +kernel) (pa_cons pe_int (pa_cons (pe_callB call_len_seq (by rfl) n.len PySem.boot_len (pa_cons (pv 0) pa_nil)) pa_nil))) pa_nil))) pa_nil))
        (blkOk_by (N := ["_law_script", "_law_k"]) (sc := defScope sLaw) (by decide +kernel)) (fun _ _ _ _ _ => pg_name (i := 1) N rfl (.inl rfl)) (fun _ _ _ _ _ => pts_nil)
        (fun _ _ _ _ _ => pe_fnG GR hg hr (pa_cons (pe_fn GP r1 (pa_cons (pv 0) (pa_cons (pv 1) pa_nil))) pa_nil))) pa_nil))), ?_⟩
    refine ⟨_, rfl, a, _, rfl, .inl hs, _, _, rfl, _, _, rfl, ?_⟩
    have hlen : (ns.map V.int).length = ns.length := List.length_map _
    generalize hr' : (if (if ((ns.map V.int).length : Int) < 3 then ((ns.map V.int).length : Int) else 3) > 1 then (if ((ns.map V.int).length : Int) < 3 then ((ns.map V.int).length : Int) else 3) else 1) = R
    have R1 : 1 ≤ R ∧ R ≤ 3 := by
      rw [hlen] at hr'
      subst hr'
      split <;> split <;> omega
    refine ⟨R, rfl, by omega, by omega, fun D hD => ?_⟩
    refine lc_mapR (lo := 0) (n := R.toNat) (G := fun _ v b => v = V.bl b) (f := fun _ => some true) (fun _ _ _ _ _ _ z => z) (by omega) ?_ ?_
    · rintro x e H2 A B he rfl b ⟨zs, hz⟩ hA hB
      unfold rgI at he
      obtain ⟨i, hi, rfl⟩ := List.mem_map.mp he
      have s2 := b.new hD
      refine ⟨rfl, yes_ite ?_⟩
      refine ⟨_, rfl, _, rfl, a, i, ns, by rw [Int.zero_add]; rfl, s2.seq hs, by omega, fun p H4 np s4 hp4 => ?_⟩
      refine ⟨p, rfl, hp4, fun H5 b5 => hA true _ H5 rfl (fun c o z => ?_) rfl⟩
      exact b5 _ _ (ne_of_none z np) (s4 _ _ z)
    · intro ys H2 h1 h2 h3
      rw [mapE] at h2
      rw [bls_of h2] at h1
      exact ⟨D, _, rfl, .inl (.inl h1), by
        have : ((rgI 0 R.toNat).map fun _ => true).all id = true := by simp
        rw [this]
        exact q H2⟩
end
end L2.K73
end

section
set_option Elab.async false
set_option linter.all false
set_option maxRecDepth 100000
set_option maxHeartbeats 4000000
namespace L2.K73
open PySem PySem.Spec PyProof.Rows L2.Gd L2.Lv
section
variable {K : PySem.W.Frag} {mg : Str → Option Value} {h : Heap} {C f p g N : Addr} {x qual : Str} {st : Stmt} {oc kV doc pm cdv ct : Value} {od an : Option Addr} {osl : Array (Option Value)}
/-- a def of the top -/
def MFact (K : PySem.W.Frag) (mg : Str → Option Value) (x : Str) (st : Stmt) : Prop := ∃ f fd, mg x = some (.ref f) ∧ Fun K x x st f fd
theorem mfact (X : K.In h) (G : h.Ns mainGlobals mg) (a : PySem.W.nsIn K mainGlobals x = some (some (.ref f)))
    (l : K.lookup f = some ⟨oc, od, .func (PySem.W.fnOf x x (defArgs st) (defBody st) (defScope st) .none kV doc pm an cdv ct), osl⟩) (c : PySem.W.codeIn K cdv x = true) (k : PySem.W.keepIn K (.ref f) = true) : MFact K mg x st :=
  ⟨f, _, PySem.W.mg_of X G a, fun_mk l c k⟩
/-- a method -/
def CFact (K : PySem.W.Frag) (C : Addr) (x qual : Str) (st : Stmt) : Prop := ∃ f fd, Meth K C x f ∧ Fun K x qual st f fd
theorem cfact (a : PySem.W.findIn K (.ref C) x = some (some (.ref f))) (i : PySem.W.isFn K (.ref f) = true)
    (l : K.lookup f = some ⟨oc, od, .func (PySem.W.fnOf x qual (defArgs st) (defBody st) (defScope st) .none kV doc pm an cdv ct), osl⟩) (c : PySem.W.codeIn K cdv qual = true) (k : PySem.W.keepIn K (.ref f) = true) : CFact K C x qual st :=
  ⟨f, _, ⟨a, i, k⟩, fun_mk l c k⟩
/-- a property -/
def PFact (K : PySem.W.Frag) (C : Addr) (x qual : Str) (st : Stmt) : Prop := ∃ p g fd, PropOf K C x p g ∧ Fun K x qual st g fd
theorem pfact {rest : List Value} (a : PySem.W.findIn K (.ref C) x = some (some (.ref p))) (b : PySem.W.specialIn K (.ref p) "__get__" = some (some (.builtin "property.__get__"))) (t : PySem.W.takesIn K (.ref p) = some true)
    (r : PySem.W.recIn K p "property" = some (.ref g :: rest))
    (l : K.lookup g = some ⟨oc, od, .func (PySem.W.fnOf x qual (defArgs st) (defBody st) (defScope st) .none kV doc pm an cdv ct), osl⟩) (c : PySem.W.codeIn K cdv qual = true) (k : PySem.W.keepIn K (.ref g) = true) : PFact K C x qual st :=
  ⟨p, g, _, ⟨a, b, t, ⟨rest, r⟩⟩, fun_mk l c k⟩
theorem kbn_of {f : Addr} {fd : FuncData} {ps ks : List Str} {n : Nat} {g : List Value → List Value → List Value} {gV : List V → List V → List V} (F : Fun K x qual st f fd)
    (h : ∀ (kV doc pm : Value) (an : Option Addr) (cdv ct : Value) (us ws : List Value), us.length = n → ws.length = ks.length →
      bindArgs (PySem.W.fnOf x qual (defArgs st) (defBody st) (defScope st) .none kV doc pm an cdv ct) ⟨us, ks.zip ws⟩ = pure (ps.zip (g us ws)))
    (r : ∀ {vs : List V} {us : List Value} {zs : List V} {ws : List Value}, Vals vs us → Vals zs ws → Vals (gV vs zs) (g us ws)) : KBn K fd ps n ks g gV := by
  obtain ⟨oc, od, kV, doc, pm, an, cdv, ct, osl, rfl, lk, hcd⟩ := F.ex
  exact ⟨fun s us ws _ l1 l2 => .of_eq (h kV doc pm an cdv ct us ws l1 l2), r⟩
/-- a def with defaults -/
def DFact (K : PySem.W.Frag) (mg : Str → Option Value) (x : Str) (st : Stmt) (dvs : List V) : Prop := ∃ f fd, mg x = some (.ref f) ∧ FunD K x x (defArgs st) (defBody st) (defScope st) dvs [] f fd
theorem dfact_b {T : Addr} {tc : Value} {td : Option Addr} {b : Bool} {tn : Nat} {tsl : Array (Option Value)} (X : K.In h) (G : h.Ns mainGlobals mg) (a : PySem.W.nsIn K mainGlobals x = some (some (.ref f)))
    (l : K.lookup f = some ⟨oc, od, .func (PySem.W.fnOf x x (defArgs st) (defBody st) (defScope st) (.ref T) kV doc pm an cdv ct), osl⟩) (c : PySem.W.codeIn K cdv x = true) (k : PySem.W.keepIn K (.ref f) = true)
    (t : K.lookup T = some ⟨tc, td, .seq #[.bool b] tn, tsl⟩) : DFact K mg x st [.bl b] :=
  ⟨f, _, PySem.W.mg_of X G a, ⟨⟨oc, od, .ref T, kV, doc, pm, an, cdv, ct, osl, rfl, l, c, .inr ⟨List.cons_ne_nil _ _, T, _, [.bool b], tn, rfl, t, rfl, .cons rfl .nil⟩, .inl rfl⟩, k⟩⟩
theorem fun_ne {y r : Str} {st2 : Stmt} {g : Addr} {fd fd2 : FuncData} (F : Fun K x qual st f fd) (G : Fun K y r st2 g fd2) (n : x ≠ y) : f ≠ g := by
  rintro rfl
  obtain ⟨_, _, _, _, _, _, _, _, _, rfl, l, _⟩ := F.ex
  obtain ⟨_, _, _, _, _, _, _, _, _, rfl, l2, _⟩ := G.ex
  have e := Option.some.inj (l.symm.trans l2)
  injection e with _ _ e2 _
  injection e2 with e3
  exact n (congrArg FuncData.name e3)
end
/-- all that the top has left -/
structure Facts (K : PySem.W.Frag) (mg : Str → Option Value) (C C2 : Addr) : Prop where
  n : Nm mg
  zip : mg "zip" = none
  m16 : ∃ t, mg "MOST_PLACES" = some (.int 16 t)
  m60 : ∃ t, mg "MOST_DEEDS" = some (.int 60 t)
  TC : ClsS K mg C
  mkC : PySem.W.makesIn K C = true
  kpC : PySem.W.keepIn K (.ref C) = true
  TC2 : ClsT K mg C2
  mkC2 : PySem.W.makesIn K C2 = true
  kpC2 : PySem.W.keepIn K (.ref C2) = true
  ii : MFact K mg "is_integer" (top 2)
  ic : MFact K mg "is_count" (top 3)
  il : MFact K mg "is_list" (top 4)
  cm : MFact K mg "check_many" (top 15)
  on : MFact K mg "ones" (top 17)
  rel : MFact K mg "relation_of" (top 19)
  prs : MFact K mg "pairs_of" (top 20)
  img : MFact K mg "image" (top 21)
  fol : MFact K mg "followed" (top 22)
  joi : MFact K mg "joined" (top 23)
  clo : MFact K mg "closed" (top 24)
  der : MFact K mg "deed_relation" (top 26)
  sf : MFact K mg "shaft_of" (top 32)
  lid : MFact K mg "lids" (top 34)
  flo : MFact K mg "floors" (top 35)
  stp : MFact K mg "strip" (top 36)
  id : MFact K mg "is_deed" (top 40)
  ck : MFact K mg "check_deeds" (top 41)
  pot : MFact K mg "_law_pot" (top 44)
  dr : MFact K mg "_law_draw" (top 45)
  md : MFact K mg "_law_more_deeds" (top 46)
  lst : MFact K mg "_law_strip" (top 48)
  gn : MFact K mg "_law_grown" (top 49)
  lr : MFact K mg "_law_lists_right" (top 50)
  sr : MFact K mg "_law_strips_right" (top 51)
  br : MFact K mg "_law_back_right" (top 52)
  ri : MFact K mg "_law_right" (top 53)
  ho : DFact K mg "_law_house" (top 47) [.bl false]
  h_init : CFact K C2 "__init__" "House.__init__" (cHouse 0)
  h_de : CFact K C2 "deeds" "House.deeds" (cHouse 3)
  h_pn : CFact K C2 "plain" "House.plain" (cHouse 11)
  h_tn : CFact K C2 "turned" "House.turned" (cHouse 12)
  s_init : CFact K C "__init__" "Shaft.__init__" (cSh 0)
  s_gw : CFact K C "_grown" "Shaft._grown" (cSh 2)
  s_li : CFact K C "lid" "Shaft.lid" (cSh 3)
  s_fo : CFact K C "floor" "Shaft.floor" (cSh 4)
  s_al : CFact K C "all_lids" "Shaft.all_lids" (cSh 5)
  s_af : CFact K C "all_floors" "Shaft.all_floors" (cSh 6)
  s_bd : CFact K C "band" "Shaft.band" (cSh 9)
  h_pl : PFact K C2 "places" "House.places" (cHouse 1)
  h_ip : PFact K C2 "is_plain" "House.is_plain" (cHouse 2)
section
variable {P : Program} {w : World} {K : PySem.W.Frag} {mg : Str → Option Value} {base : Heap} {C C C2 : Addr}
theorem fn_mk {x : Str} {st : Stmt} {k : Nat} {ps : List Str} {sp : Sp} (m : MFact K mg x st)
    (b : ∀ (kV doc pm : Value) (an : Option Addr) (cdv ct : Value) (us : List Value), us.length = ps.length → bindArgs (PySem.W.fnOf x x (defArgs st) (defBody st) (defScope st) .none kV doc pm an cdv ct) ⟨us, []⟩ = pure (ps.zip us))
    (ok : ∀ f fd, Fun K x x st f fd → FnOk P w K mg base CX0 k f fd ps sp) : Fn P w K mg base k x ps sp := by
  obtain ⟨f, fd, e, F⟩ := m
  exact ⟨f, fd, e, F.kp, F.binds b, ok f fd F⟩
theorem fnG_mk {x : Str} {st : Stmt} {k : Nat} {ps : List Str} {sp : Sp} (m : MFact K mg x st)
    (b : ∀ (kV doc pm : Value) (an : Option Addr) (cdv ct : Value) (us : List Value), us.length = ps.length → bindArgs (PySem.W.fnOf x x (defArgs st) (defBody st) (defScope st) .none kV doc pm an cdv ct) ⟨us, []⟩ = pure (ps.zip us))
    (ok : ∀ f fd, Fun K x x st f fd → FnG P w K mg base k f fd ps sp) : FnGd P w K mg base k x ps sp := by
  obtain ⟨f, fd, e, F⟩ := m
  exact ⟨f, fd, e, F.kp, F.binds b, ok f fd F⟩
theorem me_mk {x qual : Str} {st : Stmt} {k : Nat} {ps : List Str} {sp : Sp} (m : CFact K C x qual st)
    (b : ∀ (kV doc pm : Value) (an : Option Addr) (cdv ct : Value) (us : List Value), us.length = ps.length → bindArgs (PySem.W.fnOf x qual (defArgs st) (defBody st) (defScope st) .none kV doc pm an cdv ct) ⟨us, []⟩ = pure (ps.zip us))
    (ok : ∀ f fd, Fun K x qual st f fd → FnOk P w K mg base CX0 k f fd ps sp) : MeH P w K mg base C x k ps sp := by
  obtain ⟨f, fd, e, F⟩ := m
  exact ⟨f, fd, e, F.binds b, ok f fd F⟩
theorem pr_mk {x qual : Str} {st : Stmt} {sp : Sp} (m : PFact K C x qual st)
    (b : ∀ (kV doc pm : Value) (an : Option Addr) (cdv ct : Value) (us : List Value), us.length = (["self"] : List Str).length → bindArgs (PySem.W.fnOf x qual (defArgs st) (defBody st) (defScope st) .none kV doc pm an cdv ct) ⟨us, []⟩ = pure ((["self"] : List Str).zip us))
    (ok : ∀ f fd, Fun K x qual st f fd → FnOk P w K mg base CX0 1 f fd ["self"] sp) : PrH P w K mg base C x sp := by
  obtain ⟨p, g, fd, e, F⟩ := m
  exact ⟨p, g, fd, e, F.binds b, ok g fd F⟩
theorem law_of (z : Facts K mg C C2) {f : Addr} {fd : FuncData} (F : Fun K "law" "law" sLaw f fd) : FnG P w K mg base 10 f fd ["_law_script"] (spLaw K) := by
  obtain ⟨tm16, m16⟩ := z.m16
  obtain ⟨tm60, m60⟩ := z.m60
  have n := z.n
  have T := z.TC2
  have TS := z.TC
  have II : Fn P w K mg base 1 "is_integer" ["value"] spIsInt := fn_mk z.ii (fun _ _ _ _ _ _ us hl => match us, hl with | [_], _ => rfl) fun f fd F => ok_isInt F n
  have IC : Fn P w K mg base 2 "is_count" ["value"] spIsCount := fn_mk z.ic (fun _ _ _ _ _ _ us hl => match us, hl with | [_], _ => rfl) fun f fd F => ok_isCount F II
  have IL : Fn P w K mg base 1 "is_list" ["value"] (spIsList K) := fn_mk z.il (fun _ _ _ _ _ _ us hl => match us, hl with | [_], _ => rfl) fun f fd F => ok_isList F n
  have ID : Fn P w K mg base 3 "is_deed" ["value", "places"] spIsDeed := fn_mk z.id (fun _ _ _ _ _ _ us hl => match us, hl with | [_, _], _ => rfl) fun f fd F => ok_isDeed F n II IC
  have CK : Fn P w K mg base 4 "check_deeds" ["places", "deeds"] (spCheck K) := fn_mk z.ck (fun _ _ _ _ _ _ us hl => match us, hl with | [_, _], _ => rfl) fun f fd F => ok_check F n IL ID m60
  have MK : MkH P w K mg base C2 := by
    obtain ⟨f, fd, me, F⟩ := z.h_init
    exact ⟨f, fd, ⟨z.mkC2, me.at_, me.fn, z.kpC2⟩, F.binds (fun _ _ _ _ _ _ us hl => match us, hl with | [_, _, _], _ => rfl), ok_init F n T II CK m16⟩
  have PL : PrH P w K mg base C2 "places" (spPlaces C2) := pr_mk z.h_pl (fun _ _ _ _ _ _ us hl => match us, hl with | [_], _ => rfl) fun f fd F => ok_places F T
  have IP : PrH P w K mg base C2 "is_plain" (spPlain C2) := pr_mk z.h_ip (fun _ _ _ _ _ _ us hl => match us, hl with | [_], _ => rfl) fun f fd F => ok_isPlain F n T
  have DE : MeH P w K mg base C2 "deeds" 1 ["self"] (spDeeds C2) := me_mk z.h_de (fun _ _ _ _ _ _ us hl => match us, hl with | [_], _ => rfl) fun f fd F => ok_deeds F n T
  have PN : MeH P w K mg base C2 "plain" 7 ["self"] (spPln C2) := me_mk z.h_pn (fun _ _ _ _ _ _ us hl => match us, hl with | [_], _ => rfl) fun f fd F => ok_plain F T MK
  have TN : MeH P w K mg base C2 "turned" 7 ["self"] (spTrn C2) := me_mk z.h_tn (fun _ _ _ _ _ _ us hl => match us, hl with | [_], _ => rfl) fun f fd F => ok_turned F T MK IP
  have ON : Fn P w K mg base 1 "ones" ["bits"] spOnes := fn_mk z.on (fun _ _ _ _ _ _ us hl => match us, hl with | [_], _ => rfl) fun f fd F => ok_ones F n
  have RE : Fn P w K mg base 1 "relation_of" ["many", "pairs"] spRel := fn_mk z.rel (fun _ _ _ _ _ _ us hl => match us, hl with | [_, _], _ => rfl) fun f fd F => ok_rel F n
  have PS : Fn P w K mg base 2 "pairs_of" ["relation"] spPrs := fn_mk z.prs (fun _ _ _ _ _ _ us hl => match us, hl with | [_], _ => rfl) fun f fd F => ok_prs F n ON
  have IM : Fn P w K mg base 2 "image" ["relation", "mask"] spImg := fn_mk z.img (fun _ _ _ _ _ _ us hl => match us, hl with | [_, _], _ => rfl) fun f fd F => ok_img F n ON
  have FO : Fn P w K mg base 3 "followed" ["one", "two"] spFol := fn_mk z.fol (fun _ _ _ _ _ _ us hl => match us, hl with | [_, _], _ => rfl) fun f fd F => ok_fol F n IM
  have JO : Fn P w K mg base 1 "joined" ["one", "two"] spJoi := fn_mk z.joi (fun _ _ _ _ _ _ us hl => match us, hl with | [_, _], _ => rfl) fun f fd F => ok_joi F n
  have CL : Fn P w K mg base 1 "closed" ["relation"] spCl := fn_mk z.clo (fun _ _ _ _ _ _ us hl => match us, hl with | [_], _ => rfl) fun f fd F => ok_cl F n
  have DR : Fn P w K mg base 3 "deed_relation" ["house", "change", "when"] (spDR C2) := fn_mk z.der (fun _ _ _ _ _ _ us hl => match us, hl with | [_, _, _], _ => rfl) fun f fd F => ok_dr F T PL DE RE
  have DX : Fn P w K mg base 3 "deed_relation" ["house", "change", "when"] (spDRe C2) := fn_mk z.der (fun _ _ _ _ _ _ us hl => match us, hl with | [_, _, _], _ => rfl) fun f fd F => ok_dre F T PL DE RE
  have MS : MkS P w K mg base C := by
    obtain ⟨f, fd, me, F⟩ := z.s_init
    exact ⟨f, fd, ⟨z.mkC, me.at_, me.fn, z.kpC⟩, F.binds (fun _ _ _ _ _ _ us hl => match us, hl with | [_, _, _, _], _ => rfl), ok_si F TS CL⟩
  have GW : MeH P w K mg base C "_grown" 4 ["self", "word", "lots", "ahead", "behind", "number"] (spGw C K) := me_mk z.s_gw (fun _ _ _ _ _ _ us hl => match us, hl with | [_, _, _, _, _, _], _ => rfl) fun f fd F => ok_gw F n TS CL JO FO
  have LI : MeH P w K mg base C "lid" 5 ["self", "room"] (spLi C) := me_mk z.s_li (fun _ _ _ _ _ _ us hl => match us, hl with | [_, _], _ => rfl) fun f fd F => ok_li F TS GW
  have FL : MeH P w K mg base C "floor" 5 ["self", "room"] (spFo2 C) := me_mk z.s_fo (fun _ _ _ _ _ _ us hl => match us, hl with | [_, _], _ => rfl) fun f fd F => ok_fo2 F TS GW
  have AL : MeH P w K mg base C "all_lids" 6 ["self"] (spAl C pkL) := me_mk z.s_al (fun _ _ _ _ _ _ us hl => match us, hl with | [_], _ => rfl) fun f fd F => ok_al F n TS LI
  have AF : MeH P w K mg base C "all_floors" 6 ["self"] (spAl C pkF) := me_mk z.s_af (fun _ _ _ _ _ _ us hl => match us, hl with | [_], _ => rfl) fun f fd F => ok_af F n TS FL
  have BD : MeH P w K mg base C "band" 6 ["self", "low", "high"] (spBd C) := me_mk z.s_bd (fun _ _ _ _ _ _ us hl => match us, hl with | [_, _, _], _ => rfl) fun f fd F => ok_bd F TS CL JO FO LI FL
  have SF : Fn P w K mg base 4 "shaft_of" ["house"] (spSf C C2) := fn_mk z.sf (fun _ _ _ _ _ _ us hl => match us, hl with | [_], _ => rfl) fun f fd F => ok_sf F TS MS JO DR DX
  have CM : Fn P w K mg base 3 "check_many" ["many"] spCM := fn_mk z.cm (fun _ _ _ _ _ _ us hl => match us, hl with | [_], _ => rfl) fun f fd F => ok_cm F IC
  have LD : Fn P w K mg base 7 "lids" ["house"] (spLf C2 LidD) := fn_mk z.lid (fun _ _ _ _ _ _ us hl => match us, hl with | [_], _ => rfl) fun f fd F => ok_lids F TS SF AL PS
  have FD : Fn P w K mg base 7 "floors" ["house"] (spLf C2 FloD) := fn_mk z.flo (fun _ _ _ _ _ _ us hl => match us, hl with | [_], _ => rfl) fun f fd F => ok_floors F TS SF AF PS
  have SG : Fn P w K mg base 7 "strip" ["house", "low", "high"] (spStr C2) := fn_mk z.stp (fun _ _ _ _ _ _ us hl => match us, hl with | [_, _, _], _ => rfl) fun f fd F => ok_str F TS CM SF BD PS
  have KL : KFn P w K mg base 7 "lids" "house" (spLf C2 LidD) := by
    obtain ⟨f, fd, e, F⟩ := z.lid
    exact ⟨f, fd, e, F.kp, kbn_of F (fun _ _ _ _ _ _ us ws l1 l2 => match us, ws, l1, l2 with | [], [_], _, _ => rfl) (fun _ r => r), ok_lids F TS SF AL PS⟩
  have KF : KFn P w K mg base 7 "floors" "house" (spLf C2 FloD) := by
    obtain ⟨f, fd, e, F⟩ := z.flo
    exact ⟨f, fd, e, F.kp, kbn_of F (fun _ _ _ _ _ _ us ws l1 l2 => match us, ws, l1, l2 with | [], [_], _, _ => rfl) (fun _ r => r), ok_floors F TS SF AF PS⟩
  have KS : KStr P w K mg base C2 := by
    obtain ⟨f, fd, e, F⟩ := z.stp
    exact ⟨f, fd, e, F.kp, kbn_of F (fun _ _ _ _ _ _ us ws l1 l2 => match us, ws, l1, l2 with | [], [_, _, _], _, _ => rfl) (fun _ r => prm3_vals r), ok_str F TS CM SF BD PS⟩
  obtain ⟨fl, ff, AK⟩ : ∃ fl ff, AskK P w K mg base C2 fl ff := by
    obtain ⟨fl, fd1, e1, F1⟩ := z.lid
    obtain ⟨ff, fd2, e2, F2⟩ := z.flo
    exact ⟨fl, ff, e1, e2, fun_ne F1 F2 (by decide), ⟨fd1, _, ok_lids F1 TS SF AL PS, F1.kp, F1.binds (fun _ _ _ _ _ _ us hl => match us, hl with | [_], _ => rfl)⟩, ⟨fd2, _, ok_floors F2 TS SF AF PS, F2.kp, F2.binds (fun _ _ _ _ _ _ us hl => match us, hl with | [_], _ => rfl)⟩⟩
  have DW : Fn P w K mg base 1 "_law_draw" ["_law_pot_here", "_law_many"] spDraw := fn_mk z.dr (fun _ _ _ _ _ _ us hl => match us, hl with | [_, _], _ => rfl) fun f fd F => ok_draw F n
  have MD : Fn P w K mg base 2 "_law_more_deeds" ["_law_pot_here", "_law_places", "_law_deeds", "_law_many", "_law_is_plain"] spMd := fn_mk z.md (fun _ _ _ _ _ _ us hl => match us, hl with | [_, _, _, _, _], _ => rfl) fun f fd F => ok_md F n DW
  have HO : FnD P w K mg base 3 "_law_house" ["_law_pot_here", "_law_most", "_law_is_plain"] [.bl false] spHo := by
    obtain ⟨f, fd, e, F⟩ := z.ho
    obtain ⟨ds, v, b⟩ := F.binds1 (ps := ["_law_pot_here", "_law_most", "_law_is_plain"]) 2 0 (List.cons_ne_nil _ _) rfl (fun _ _ _ _ _ _ _ us its hl hi => match us, its, hl, hi with | [_, _], [_], _, _ => ⟨_, rfl, rfl⟩)
    exact ⟨f, fd, ds, e, F.kp, v, b, ok_ho F n DW MD⟩
  have SP : Fn P w K mg base 1 "_law_strip" ["_law_places", "_law_deeds", "_law_low", "_law_high"] spSp := fn_mk z.lst (fun _ _ _ _ _ _ us hl => match us, hl with | [_, _, _, _], _ => rfl) fun f fd F => ok_sp F n
  have GN : Fn P w K mg base 2 "_law_grown" ["_law_places", "_law_deeds", "_law_is_up"] spGn := fn_mk z.gn (fun _ _ _ _ _ _ us hl => match us, hl with | [_, _, _], _ => rfl) fun f fd F => ok_gn F n SP
  have LR : FnGd P w K mg base 8 "_law_lists_right" ["_law_house_here", "_law_places", "_law_deeds"] (spLr C2) := fnG_mk z.lr (fun _ _ _ _ _ _ us hl => match us, hl with | [_, _, _], _ => rfl) fun f fd F => ok_lr F n z.zip GN AK KL KF
  have SR : FnGd P w K mg base 8 "_law_strips_right" ["_law_pot_here", "_law_house_here", "_law_places", "_law_deeds"] (spSr C2) := fnG_mk z.sr (fun _ _ _ _ _ _ us hl => match us, hl with | [_, _, _, _], _ => rfl) fun f fd F => ok_sr F n DW SP SG KS
  have BR : Fn P w K mg base 8 "_law_back_right" ["_law_house_here"] (spBr C2) := fn_mk z.br (fun _ _ _ _ _ _ us hl => match us, hl with | [_], _ => rfl) fun f fd F => ok_br F n T AK LD FD PN TN
  have k : RK P w K mg base C2 := { n := n, T := T, M := MK, ho := HO, lr := LR, sr := SR, br := BR, de := DE }
  have RI : FnGd P w K mg base 9 "_law_right" ["_law_pot_here"] spRight := fnG_mk z.ri (fun _ _ _ _ _ _ us hl => match us, hl with | [_], _ => rfl) fun f fd F => ok_right F k
  have PO : Fn P w K mg base 1 "_law_pot" ["_law_script", "_law_k"] (spPot K) := fn_mk z.pot (fun _ _ _ _ _ _ us hl => match us, hl with | [_, _], _ => rfl) fun f fd F => ok_pot F n
  exact ok_law F n PO RI
theorem law_all (z : Facts K mg C C2) (l : MFact K mg "law" sLaw) {fa : Addr} (hfa : mg "law" = some (.ref fa)) :
    ∃ fd : FuncData, (∀ (s : Shared) (v : Value), BindsTo s fd ⟨[v], []⟩ [("_law_script", v)]) ∧ ∀ base : Heap, K.In base → base.Ns mainGlobals mg → FnG P w K mg base 10 fa fd ["_law_script"] (spLaw K) := by
  obtain ⟨f, fd, e, F⟩ := l
  cases hfa.symm.trans e
  refine ⟨fd, ?_, fun base _ _ => law_of z F⟩
  obtain ⟨oc, od, kV, doc, pm, an, cdv, ct, osl, rfl, _, _⟩ := F.ex
  exact fun s v => .of_eq rfl
end
end L2.K73
end

section
set_option Elab.async false
set_option linter.all false
set_option maxRecDepth 100000
set_option maxHeartbeats 2000000
namespace L2.K73
open PySem PySem.Spec PyProof.Rows L2.Gd
section
variable {K : PySem.W.Frag} {mg : Str → Option Value} {h : Heap} {C f N : Addr} {oc kV doc pm cdv ct : Value} {od an : Option Addr} {osl : Array (Option Value)}
  {nm q : Str} {bs : List Value} {sn : List Str} {sub : List Value} {ab : Bool} {col : Option Bool} {dd : Option Addr} {k0 k1 k2 k3 k5 : Option Value} {newId : String}
  {nc : Value} {nd : Option Addr} {es : Array DictEntry} {en : Nat} {nsl : Array (Option Value)}
theorem kit_ref {T : String} {b : Bool} (c1 : PySem.W.isClsIn K C = true) (c2 : PySem.W.typeIn K (.ref C) = some (.type "type")) (s : PySem.W.subIn K (.type T) (.ref C) = some b) : PySem.W.kitOne K (.type T) (.ref C) = some b := by
  unfold PySem.W.kitOne
  rw [if_neg (show ¬ (Value.type T == Value.ref C) = true from fun z => nomatch z)]
  unfold PySem.W.kitCls
  have c1' : (PySem.W.clsIn K C).isSome = true := c1
  show (if ((PySem.W.clsIn K C).isSome && PySem.W.typeIn K (.ref C) == some (.type "type")) = true then PySem.W.subIn K (.type T) (.ref C) else none) = some b
  rw [c1', c2, if_pos (by rfl)]
  exact s
theorem kit_self : PySem.W.kitOne K (.ref C) (.ref C) = some true := by
  unfold PySem.W.kitOne
  rw [if_pos (show (Value.ref C == Value.ref C) = true by simp)]
theorem ifact {x : Str} {n : Int} {t : Tok} (X : K.In h) (G : h.Ns mainGlobals mg) (a : PySem.W.nsIn K mainGlobals x = some (some (.int n t))) : ∃ t, mg x = some (.int n t) := ⟨t, PySem.W.mg_of X G a⟩
theorem clsT_of (mC : mg "House" = some (.ref C)) (pg : PySem.W.plainGet K C Str.empty = true) (hd : PySem.W.hasDictIn K C = true) (po : PySem.W.plainOver K C = true) (sa : PySem.W.findIn K (.ref C) "__setattr__" = some (some (.builtin "object.__setattr__")))
    (ha : PySem.W.findIn K (.ref C) "__class__" = some (some (.builtin "object.__class__"))) (hn : PySem.W.specialIn K (.builtin "object.__class__") "__get__" = some (some (.builtin "getset_descriptor.__get__"))) (ht : PySem.W.takesIn K (.builtin "object.__class__") = some true)
    (hm : PySem.W.mroIn K C (.type "object") = some true) (nP : PySem.W.findIn K (.ref C) "_places" = some none) (nD : PySem.W.findIn K (.ref C) "_deeds" = some none) : ClsT K mg C :=
  ⟨⟨⟨pg, hd, po, sa⟩, ha, hn, ht, hm, kit_self⟩, nP, nD, mC⟩
theorem clsS_of (mC : mg "Shaft" = some (.ref C)) (pg : PySem.W.plainGet K C Str.empty = true) (hd : PySem.W.hasDictIn K C = true) (po : PySem.W.plainOver K C = true) (sa : PySem.W.findIn K (.ref C) "__setattr__" = some (some (.builtin "object.__setattr__")))
    (a0 : PySem.W.findIn K (.ref C) "ups" = some none) (a1 : PySem.W.findIn K (.ref C) "flats" = some none) (a2 : PySem.W.findIn K (.ref C) "downs" = some none) (a3 : PySem.W.findIn K (.ref C) "lasting" = some none) (a4 : PySem.W.findIn K (.ref C) "first_ups" = some none) (a5 : PySem.W.findIn K (.ref C) "last_downs" = some none) (a6 : PySem.W.findIn K (.ref C) "_lids" = some none) (a7 : PySem.W.findIn K (.ref C) "_floors" = some none) (a8 : PySem.W.findIn K (.ref C) "_whole" = some none) : ClsS K mg C :=
  ⟨⟨pg, hd, po, sa⟩, a0, a1, a2, a3, a4, a5, a6, a7, a8, mC⟩
end
end L2.K73
end

section
set_option Elab.async false
set_option linter.all false
open PySem PySem.W PyProof.Rows L2.K73
set_option maxRecDepth 100000 in
set_option maxHeartbeats 0 in
theorem PySem.Challenge.cw_lonetill_k73_lids_floors_and_strips_holds : PySem.Challenge.rw_lonetill_k73_lids_floors_and_strips.Holds := by
  w_on; o_law; k_head; (case hw => w_witness2)
  k_fill
  refine L2.Gd.walk_ofG (l := PySem.Challenge.rw_lonetill_k73_lids_floors_and_strips) (n := 63) (k := 10) (x := "_law_script") (sp := L2.K73.spLaw) rfl (by decide) rfl ⟨rfl, by decide, by decide⟩ (fun w h Y => PySem.W.kIn_of Y) ?F ?hsp
  case hsp =>
    intro K H a ns hl _ hS
    exact ⟨a, ns, rfl, hS, hl, fun _ => rfl⟩
  case F =>
    intro w mg fa h KX G hmg
    refine' (fun {C C2 : Addr} (aC : PySem.W.nsIn _ mainGlobals "Shaft" = some (some (.ref C))) (aC2 : PySem.W.nsIn _ mainGlobals "House" = some (some (.ref C2))) (z : (mg "Shaft" = some (.ref C)) → (mg "House" = some (.ref C2)) → Facts _ mg C C2 ∧ MFact _ mg "law" sLaw) => law_all (z (PySem.W.mg_of KX G aC) (PySem.W.mg_of KX G aC2)).1 (z (PySem.W.mg_of KX G aC) (PySem.W.mg_of KX G aC2)).2 hmg) ?aC ?aC2 ?z
    (case aC => k_is)
    (case aC2 => k_is)
    case z =>
      intro mC mC2
      refine' ⟨⟨?n, ?zip, ?m16, ?m60, ?TC, ?mkC, ?kpC, ?TC2, ?mkC2, ?kpC2, ?ii, ?ic, ?il, ?cm, ?on, ?rel, ?prs, ?img, ?fol, ?joi, ?clo, ?der, ?sf, ?lid, ?flo, ?stp, ?id, ?ck, ?pot, ?dr, ?md, ?lst, ?gn, ?lr, ?sr, ?br, ?ri, ?ho, ?h_init, ?h_de, ?h_pn, ?h_tn, ?s_init, ?s_gw, ?s_li, ?s_fo, ?s_al, ?s_af, ?s_bd, ?h_pl, ?h_ip⟩, ?law⟩
      case n =>
        refine' ⟨PySem.W.mg_none_of KX G ?b0, PySem.W.mg_none_of KX G ?b1, PySem.W.mg_none_of KX G ?b2, PySem.W.mg_none_of KX G ?b3, PySem.W.mg_none_of KX G ?b4, PySem.W.mg_none_of KX G ?b5, PySem.W.mg_none_of KX G ?b6, PySem.W.mg_none_of KX G ?b7, PySem.W.mg_none_of KX G ?b8, PySem.W.mg_none_of KX G ?b9, PySem.W.mg_none_of KX G ?b10, PySem.W.mg_none_of KX G ?b11, PySem.W.mg_none_of KX G ?b12, PySem.W.mg_none_of KX G ?b13, PySem.W.mg_none_of KX G ?b14, PySem.W.mg_none_of KX G ?b15, PySem.W.mg_none_of KX G ?b16, PySem.W.mg_none_of KX G ?b17⟩
        (case b0 => k_is); (case b1 => k_is); (case b2 => k_is); (case b3 => k_is); (case b4 => k_is); (case b5 => k_is); (case b6 => k_is); (case b7 => k_is); (case b8 => k_is); (case b9 => k_is); (case b10 => k_is); (case b11 => k_is); (case b12 => k_is); (case b13 => k_is); (case b14 => k_is); (case b15 => k_is); (case b16 => k_is); (case b17 => k_is)
      case zip =>
        refine' PySem.W.mg_none_of KX G ?a
        case a => k_is
      case m16 =>
        refine' ifact KX G ?a
        case a => k_is
      case m60 =>
        refine' ifact KX G ?a
        case a => k_is
      case TC =>
        refine' clsS_of mC ?pg ?hd ?po ?sa ?a0 ?a1 ?a2 ?a3 ?a4 ?a5 ?a6 ?a7 ?a8
        (case pg => k_is); (case hd => k_is); (case po => k_is); (case sa => k_is); (case a0 => k_is); (case a1 => k_is); (case a2 => k_is); (case a3 => k_is); (case a4 => k_is); (case a5 => k_is); (case a6 => k_is); (case a7 => k_is); (case a8 => k_is)
      case mkC => k_is
      case kpC => k_is
      case TC2 =>
        refine' clsT_of mC2 ?pg ?hd ?po ?sa ?ha ?hn ?ht ?hm ?nP ?nD
        (case pg => k_is); (case hd => k_is); (case po => k_is); (case sa => k_is); (case ha => k_is); (case hn => k_is); (case ht => k_is); (case hm => k_is); (case nP => k_is); (case nD => k_is)
      case mkC2 => k_is
      case kpC2 => k_is
      case ii =>
        refine' mfact KX G ?a ?l ?c ?k
        (case a => k_is); (case l => k_is); (case c => k_is); (case k => k_is)
      case ic =>
        refine' mfact KX G ?a ?l ?c ?k
        (case a => k_is); (case l => k_is); (case c => k_is); (case k => k_is)
      case il =>
        refine' mfact KX G ?a ?l ?c ?k
        (case a => k_is); (case l => k_is); (case c => k_is); (case k => k_is)
      case cm =>
        refine' mfact KX G ?a ?l ?c ?k
        (case a => k_is); (case l => k_is); (case c => k_is); (case k => k_is)
      case on =>
        refine' mfact KX G ?a ?l ?c ?k
        (case a => k_is); (case l => k_is); (case c => k_is); (case k => k_is)
      case rel =>
        refine' mfact KX G ?a ?l ?c ?k
        (case a => k_is); (case l => k_is); (case c => k_is); (case k => k_is)
      case prs =>
        refine' mfact KX G ?a ?l ?c ?k
        (case a => k_is); (case l => k_is); (case c => k_is); (case k => k_is)
      case img =>
        refine' mfact KX G ?a ?l ?c ?k
        (case a => k_is); (case l => k_is); (case c => k_is); (case k => k_is)
      case fol =>
        refine' mfact KX G ?a ?l ?c ?k
        (case a => k_is); (case l => k_is); (case c => k_is); (case k => k_is)
      case joi =>
        refine' mfact KX G ?a ?l ?c ?k
        (case a => k_is); (case l => k_is); (case c => k_is); (case k => k_is)
      case clo =>
        refine' mfact KX G ?a ?l ?c ?k
        (case a => k_is); (case l => k_is); (case c => k_is); (case k => k_is)
      case der =>
        refine' mfact KX G ?a ?l ?c ?k
        (case a => k_is); (case l => k_is); (case c => k_is); (case k => k_is)
      case sf =>
        refine' mfact KX G ?a ?l ?c ?k
        (case a => k_is); (case l => k_is); (case c => k_is); (case k => k_is)
      case lid =>
        refine' mfact KX G ?a ?l ?c ?k
        (case a => k_is); (case l => k_is); (case c => k_is); (case k => k_is)
      case flo =>
        refine' mfact KX G ?a ?l ?c ?k
        (case a => k_is); (case l => k_is); (case c => k_is); (case k => k_is)
      case stp =>
        refine' mfact KX G ?a ?l ?c ?k
        (case a => k_is); (case l => k_is); (case c => k_is); (case k => k_is)
      case id =>
        refine' mfact KX G ?a ?l ?c ?k
        (case a => k_is); (case l => k_is); (case c => k_is); (case k => k_is)
      case ck =>
        refine' mfact KX G ?a ?l ?c ?k
        (case a => k_is); (case l => k_is); (case c => k_is); (case k => k_is)
      case pot =>
        refine' mfact KX G ?a ?l ?c ?k
        (case a => k_is); (case l => k_is); (case c => k_is); (case k => k_is)
      case dr =>
        refine' mfact KX G ?a ?l ?c ?k
        (case a => k_is); (case l => k_is); (case c => k_is); (case k => k_is)
      case md =>
        refine' mfact KX G ?a ?l ?c ?k
        (case a => k_is); (case l => k_is); (case c => k_is); (case k => k_is)
      case lst =>
        refine' mfact KX G ?a ?l ?c ?k
        (case a => k_is); (case l => k_is); (case c => k_is); (case k => k_is)
      case gn =>
        refine' mfact KX G ?a ?l ?c ?k
        (case a => k_is); (case l => k_is); (case c => k_is); (case k => k_is)
      case lr =>
        refine' mfact KX G ?a ?l ?c ?k
        (case a => k_is); (case l => k_is); (case c => k_is); (case k => k_is)
      case sr =>
        refine' mfact KX G ?a ?l ?c ?k
        (case a => k_is); (case l => k_is); (case c => k_is); (case k => k_is)
      case br =>
        refine' mfact KX G ?a ?l ?c ?k
        (case a => k_is); (case l => k_is); (case c => k_is); (case k => k_is)
      case ri =>
        refine' mfact KX G ?a ?l ?c ?k
        (case a => k_is); (case l => k_is); (case c => k_is); (case k => k_is)
      case ho =>
        refine' dfact_b KX G ?a ?l ?c ?k ?t
        (case a => k_is); (case l => k_is); (case c => k_is); (case k => k_is); (case t => k_is)
      case h_init =>
        refine' cfact ?a ?i ?l ?c ?k
        (case a => k_is); (case i => k_is); (case l => k_is); (case c => k_is); (case k => k_is)
      case h_de =>
        refine' cfact ?a ?i ?l ?c ?k
        (case a => k_is); (case i => k_is); (case l => k_is); (case c => k_is); (case k => k_is)
      case h_pn =>
        refine' cfact ?a ?i ?l ?c ?k
        (case a => k_is); (case i => k_is); (case l => k_is); (case c => k_is); (case k => k_is)
      case h_tn =>
        refine' cfact ?a ?i ?l ?c ?k
        (case a => k_is); (case i => k_is); (case l => k_is); (case c => k_is); (case k => k_is)
      case s_init =>
        refine' cfact ?a ?i ?l ?c ?k
        (case a => k_is); (case i => k_is); (case l => k_is); (case c => k_is); (case k => k_is)
      case s_gw =>
        refine' cfact ?a ?i ?l ?c ?k
        (case a => k_is); (case i => k_is); (case l => k_is); (case c => k_is); (case k => k_is)
      case s_li =>
        refine' cfact ?a ?i ?l ?c ?k
        (case a => k_is); (case i => k_is); (case l => k_is); (case c => k_is); (case k => k_is)
      case s_fo =>
        refine' cfact ?a ?i ?l ?c ?k
        (case a => k_is); (case i => k_is); (case l => k_is); (case c => k_is); (case k => k_is)
      case s_al =>
        refine' cfact ?a ?i ?l ?c ?k
        (case a => k_is); (case i => k_is); (case l => k_is); (case c => k_is); (case k => k_is)
      case s_af =>
        refine' cfact ?a ?i ?l ?c ?k
        (case a => k_is); (case i => k_is); (case l => k_is); (case c => k_is); (case k => k_is)
      case s_bd =>
        refine' cfact ?a ?i ?l ?c ?k
        (case a => k_is); (case i => k_is); (case l => k_is); (case c => k_is); (case k => k_is)
      case h_pl =>
        refine' pfact ?a ?b ?t ?r ?l ?c ?k
        (case a => k_is); (case b => k_is); (case t => k_is); (case r => k_is); (case l => k_is); (case c => k_is); (case k => k_is)
      case h_ip =>
        refine' pfact ?a ?b ?t ?r ?l ?c ?k
        (case a => k_is); (case b => k_is); (case t => k_is); (case r => k_is); (case l => k_is); (case c => k_is); (case k => k_is)
      case law =>
        refine' mfact KX G ?a ?l ?c ?k
        (case a => k_is); (case l => k_is); (case c => k_is); (case k => k_is)
end
