import PyProof.Rows.All
import Wide.All
import OpenK.AllK
import Wide.FinOn
import PyProof.EqAt
import PyProof.EqKinds
import PyProof.TupleCall
import HandS.ForMost
import HandS.FStr
import HandS.RaiseMore
import HandS.IsInst
import PyProof.FactsAll.dict
import HandS.OwnEq
import PyProof.InstNe
import HandS.Defaults
import HandS.MakeKwOnly
import HandS.Iter
import PyProof.EnumMake
import PyProof.EnumIter
import OpenK.KOps
import HandS.SortInts
import PyProof.TupleOfSeq
import HandS.Comp
import HandS.Conv
import HandS.Property
import HandS.Style
import PySem.Challenge.RW_lonetill_k22_any_value_as_going
import HandS.Deep
import HandS.TupAny
import PyProof.P3In
import HandS.Codes
import PyProof.Rows.RegFStrParts

section
set_option Elab.async false
set_option linter.all false
set_option maxRecDepth 100000
set_option maxHeartbeats 2000000
/-! Defs that are called while nothing is being shown (no repr runs around): their promise, their calls, the law's end. -/
namespace L2.Gd
open PySem PySem.Spec PyProof.Rows

structure FnG (P : Program) (w : World) (K : PySem.W.Frag) (mg : Str → Option Value) (base : Heap)
    (k : Nat) (f : Addr) (fd : FuncData) (ps : List Str) (sp : Sp) : Prop where
  cnt : ∀ (vs : List V) (H : Hp) (Q : VK), sp vs H Q E0 → vs.length = ps.length
  go : ∀ (A : Around) (outer : List Env) (s : Shared) (H : Hp) (args : Args)
      (us : List Value) (vs : List V) (Q : VK), A.guards = some [] → Room k A →
    Env0 P w K mg base A outer s H → BindsTo s fd args (ps.zip us) → Vals vs us →
    sp vs H Q E0 → codeAny (model P w) A (.call (.ref f) args) (CR CX0 outer P w H s Q E0) s

section
variable {P : Program} {w : World} {K : PySem.W.Frag} {mg : Str → Option Value} {base : Heap}
  {k : Nat} {f : Addr} {fd : FuncData} {ps N : List Str} {sp : Sp}

theorem FnG.of (F : FnOk P w K mg base CX0 k f fd ps sp) : FnG P w K mg base k f fd ps sp :=
  ⟨fun vs H Q h => F.len vs H Q E0 h,
   fun A outer s H args us vs Q _ hr e0 hb r h => F.run A outer s H args us vs Q E0 hr e0 hb r h⟩

theorem FnG.mono {j : Nat} (F : FnG P w K mg base j f fd ps sp) (h : j ≤ k) : FnG P w K mg base k f fd ps sp :=
  ⟨F.cnt, fun A outer s H args us vs Q hg hr => F.go A outer s H args us vs Q hg (hr.mono h)⟩

/-- a def of the text, by its body, where nothing is being shown around it -/
theorem okG {x qual : Str} {st : Stmt} (F : Fun K x qual st f fd) (S : FnScope N ps (defScope st))
    (cnt : ∀ (vs : List V) (H : Hp) (Q : VK), sp vs H Q E0 → vs.length = ps.length)
    (body : ∀ (cdv : Value) (A : Around) (outer : List Env) (s : Shared) (H : Hp) (vs : List V) (Q : VK),
      A.guards = some [] → Room k (A.deeper (envOfC qual (defScope st) s.heap.objs.size f cdv)) →
      sp vs H Q E0 →
      ∃ t, PSs (cxOf CX0 P w K mg base N qual (defScope st) f cdv A outer s H E0).nox (defBody st) t ∧
        t { nx := fun _ H' => Q .non H', rt := Q } (start N vs) H) :
    FnG P w K mg base (k + 1) f fd ps sp := by
  obtain ⟨oc, od, kV, doc, pm, an, cdv, ct, osl, rfl, there, code⟩ := F.ex
  refine ⟨cnt, ?_⟩
  intro A outer s H args us vs Q hg hr e0 bind rv hsp
  have inK : K.In s.heap := e0.mod.kin.keeps (fun b o q => (e0.bs b o q).1)
  have nolim : s.heap.NoLimit := e0.mod.nolimit.keeps (fun b o q => (e0.bs b o q).1)
  have kinds : ∀ y ∈ ps.zip us, (defScope st).names.lookup y.1 = some .local ∨
      ((defScope st).names.lookup y.1 = some .cell ∧
        ((cellsFrom (s.heap.objs.size + 1) (defScope st).names []).lookup y.1).isSome = true) := by
    rintro ⟨n, v⟩ hy
    cases S.par n (List.of_mem_zip hy).1 with
    | inl q => exact .inl q
    | inr q => exact .inr ⟨q, PySem.W.cellsFrom_some _ _ _ (.inl q)⟩
  refine codeAny_call_function hr.depth (inK _ _ there) rfl S.co S.gen rfl
    (PySem.W.codeRec_of inK code) (bind _ _ _ _ ?_)
  refine wpAny_newFunctionEnv_cells S.kind kinds ?_
  intro env he s1 ic
  subst he
  refine ⟨nolim.keeps ic.toInCall.keep, codeAny_func ?_⟩
  obtain ⟨t, ht, hq⟩ := body cdv A outer s H vs Q hg (hr.deeper _) hsp
  have hl : vs.length = ps.length := cnt _ _ _ hsp
  have I := inv_start (CX := CX0) (P := P) (w := w) (mg := mg) (base := base) (E := E0) S hr.hd e0 hl rv ic
  refine wpAny_mono (ht.nox.run [] s1 (start N vs) H _ I hq) (fun fl s' z => ?_) (fun e s' z => z)
  cases fl with
  | ret u =>
    obtain ⟨v, σ', H', J, r1, q⟩ := z
    exact ⟨v, H', J.os, J.bare, J.base, J.hok, r1, q⟩
  | next =>
    obtain ⟨σ', H', J, q⟩ := z
    exact ⟨.non, H', J.os, J.bare, J.base, J.hok, rfl, q⟩
  | brk =>
    obtain ⟨_, _, _, q⟩ := z
    exact q.elim
  | cont =>
    obtain ⟨_, _, _, q⟩ := z
    exact q.elim
end

section
variable {X : Cx} {k : Nat} {f : Addr} {fd : FuncData} {ps : List Str} {sp : Sp} {x : Str}
  {p pos : Pos} {e : Expr} {es : List Expr} {t : TA}

theorem run_fnG {pins : List (Addr × Obj)} {σ : St} {H : Hp} {s : Shared} {Q : VK} {us : List Value} {vs : List V}
    (F : FnG X.prog X.w X.K X.mg X.base k f fd ps sp) (hg : X.A.guards = some []) (hr : Room k X.A)
    (hb : Binds X.K fd ps []) (I : Inv X pins σ H s) (r : Vals vs us) (h : sp vs H Q E0) :
    wpAny (model X.prog X.w) X.A (call (.ref f) us) (EP X pins σ Q) X.xe s := by
  have hl : (us ++ []).length = ps.length := by
    rw [List.append_nil, ← r.length]
    exact F.cnt _ _ _ h
  have hb2 := hb s us I.kIn hl
  rw [List.append_nil] at hb2
  refine wpAny_call (codeAny_mono
    (F.go X.A X.stack s H ⟨us, []⟩ us vs Q hg hr I.env0 hb2 r h) ?_)
  intro res s' hq
  cases res with
  | error er => exact (show False from hq).elim
  | ok fl =>
    cases fl with
    | ret u => exact I.after hq
    | next => exact hq.elim
    | brk => exact hq.elim
    | cont => exact hq.elim

/-- f(e, ..), f such a def -/
theorem pe_callG (F : FnG X.prog X.w X.K X.mg X.base k f fd ps sp) (hg : X.A.guards = some [])
    (hr : Room k X.A) (gl : Gl X x) (hm : X.mg x = some (.ref f))
    (hk : PySem.W.keepIn X.K (.ref f) = true) (hb : Binds X.K fd ps []) (ha : PA X (e :: es) t)
    (hdb : (x == ("__debug__" : Str)) = false := by decide)
    (he : starEach (e :: es) X.env = (false, eval e X.env) :: starEach es X.env := by rfl)
    (hpl : (backTo pos (starEach es X.env)).any (·.1) = false := by rfl) :
    PE X (.Call (.Name x p) (e :: es) [] pos) (tCall sp [] E0 t) := by
  constructor
  intro pins s σ H Q I h
  refine wpAny_Call_Name_kw (ld_glob I gl hm ?_ hdb)
  refine PySem.W.callWith_K (h₀ := X.base) I.ok.mod.kin hk ?_ he hpl
  refine thn (ha.run pos pins s σ H _ I h) ?_
  rintro us s1 ⟨vs, H1, I1, r, q⟩
  rw [List.append_nil] at q
  exact ⟨I1.kIn, run_fnG F hg hr hb I1 r q⟩
end
end L2.Gd
end

section
set_option Elab.async false
set_option linter.all false
set_option maxRecDepth 100000
set_option maxHeartbeats 2000000
namespace L2.Gd
open PySem PySem.Spec PyProof.Rows

section
variable {P : Program} {w : World} {K : PySem.W.Frag} {mg mb : Str → Option Value} {k : Nat} {fa a : Addr}
  {fd : FuncData} {x : Str} {sp : Sp} {s₁ : Shared} {vs : List Value} {ns : List Int}

/-- the law's run from a heap of which at most the script is tracked -/
theorem law_core (inK : K.In s₁.heap) (hns : s₁.heap.Ns mainGlobals mg) (hb : s₁.heap.Ns builtinsNs mb)
    (hbb : ∀ x : Str, x ≠ "__name__" → mb x = bootBuiltins x) (nolim : s₁.heap.NoLimit) (hg : s₁.gens = #[])
    (ha : s₁.heap.get? a = some { cls := .type "list", data := .seq vs.toArray }) (hr : Room k callerA)
    (F : ∀ base : Heap, K.In base → base.Ns mainGlobals mg → FnG P w K mg base k fa fd [x] sp)
    (bind : ∀ (s : Shared) (u : Value), BindsTo s fd ⟨[u], []⟩ [(x, u)])
    (H : Hp) (only : Only H) (hsp : sp [.ref a] H (fun v _ => v = .bl true) E0)
    (ok : HOk P w H s₁.heap) (hA : ∀ b, H b ≠ none → b = a) (hK : H a ≠ none → K.lookup a = none) :
    codeAny (model P w) callerA (.call (.ref fa) ⟨[.ref a], []⟩)
      (fun r s' => r = .ok (.ret (.bool true)) ∧ OldK s₁.heap s'.heap ∧ s'.os = s₁.os ∧ AllBare s'.gens) s₁ := by
  have untracked : ∀ {b : Addr} {o : Obj} {es : Array DictEntry} {ep : Nat},
      s₁.heap.get? b = some o → o.data = .dict es ep → H b = none := by
    intro b o es ep q d
    cases hb' : H b with
    | none => rfl
    | some u =>
      have q2 : b = a := hA b (by rw [hb']; exact fun z => nomatch z)
      subst q2
      have q3 := ha.symm.trans q
      cases q3
      exact nomatch (show Data.seq vs.toArray _ = Data.dict es ep from d)
  have nsB : ∀ {b : Addr} {m : Str → Option Value}, s₁.heap.Ns b m → (hidT s₁.heap H).Ns b m := by
    rintro b m ⟨o, es, ep, q, d, r⟩
    exact ⟨o, es, ep, hidT_get q (untracked q d), d, r⟩
  have inB : K.In (hidT s₁.heap H) := by
    intro b o q
    refine hidT_get (inK b o q) ?_
    cases hb' : H b with
    | none => rfl
    | some u =>
      have q2 : b = a := hA b (by rw [hb']; exact fun z => nomatch z)
      subst q2
      rw [hK (by rw [hb']; exact fun z => nomatch z)] at q
      exact nomatch q
  obtain ⟨mc, l1, l2⟩ := nolim
  have md : Mod K mg (hidT s₁.heap H) := ⟨inB, nsB hns, ⟨mb, nsB hb, hbb⟩, ⟨mc, nsB l1, l2⟩⟩
  have e0 : Env0 P w K mg (hidT s₁.heap H) callerA [] s₁ H :=
    ⟨rfl, md, fun b o q => of_hidT q, Nat.le_of_eq (hidT_size _ _), trivial,
      fun b z => absurd (show b ∈ ([] : List Addr) from z) (by simp), ok, .of_eq hg⟩
  refine codeAny_mono ((F _ inB (nsB hns)).go callerA [] s₁ H ⟨[.ref a], []⟩ [.ref a] [.ref a] _ rfl hr e0
    (bind s₁ (.ref a)) (.cons rfl .nil) hsp) ?_
  intro r s' h
  cases r with
  | error e => exact (show False from h).elim
  | ok fl =>
    cases fl with
    | next => exact h.elim
    | brk => exact h.elim
    | cont => exact h.elim
    | ret u =>
      obtain ⟨v, H', os, bare, un, ok', rv, q⟩ := h
      obtain rfl : v = V.bl true := q
      obtain rfl : u = Value.bool true := rv
      refine ⟨rfl, OldK.of_keep ?_, os, bare⟩
      intro b o q1
      cases hb' : H b with
      | none =>
        exact un.keep b o q1 hb' (fun z => absurd (show b ∈ ([] : List Addr) from z) (by simp)) (by simp)
      | some u =>
        rcases only b with z | ⟨ob, xs, z⟩
        · exact nomatch hb'.symm.trans z
        · obtain ⟨q2, _⟩ := ok b _ z
          obtain ⟨q3, _⟩ := ok' b _ (un.frzs b ob _ z)
          cases q1.symm.trans q2
          exact q3

theorem law_callG (inK : K.In s₁.heap) (hns : s₁.heap.Ns mainGlobals mg) (hb : s₁.heap.Ns builtinsNs mb)
    (hbb : ∀ x : Str, x ≠ "__name__" → mb x = bootBuiltins x) (nolim : s₁.heap.NoLimit) (hg : s₁.gens = #[])
    (ha : s₁.heap.get? a = some { cls := .type "list", data := .seq vs.toArray }) (hi : IntsAre vs ns)
    (hl : ns.length ≤ sizeLine) (hr : Room k callerA)
    (F : ∀ base : Heap, K.In base → base.Ns mainGlobals mg → FnG P w K mg base k fa fd [x] sp)
    (bind : ∀ (s : Shared) (u : Value), BindsTo s fd ⟨[u], []⟩ [(x, u)])
    (hsp : ∀ H : Hp, Only H → SqL K H a (ns.map V.int) → sp [.ref a] H (fun v _ => v = .bl true) E0) :
    codeAny (model P w) callerA (.call (.ref fa) ⟨[.ref a], []⟩)
      (fun r s' => r = .ok (.ret (.bool true)) ∧ OldK s₁.heap s'.heap ∧ s'.os = s₁.os ∧ AllBare s'.gens) s₁ := by
  have rv := vals_ints hi
  have lenV := hi.length
  cases hk : K.lookup a with
  | some o =>
    -- the script is one of the module's own objects
    cases ha.symm.trans (inK a o hk)
    have only : Only (fun _ => none) := fun _ => .inl rfl
    have sq : SqL K (fun _ => none) a (ns.map V.int) :=
      .inr ⟨_, vs.toArray, _, hk, rfl, rfl, rfl, by rw [List.size_toArray, lenV]; exact hl, by simpa using rv⟩
    refine law_core inK hns hb hbb nolim hg ha hr F bind _ only (hsp _ only sq) ?_ ?_ ?_
    · intro b u z
      exact nomatch (show (none : Option HO) = some u from z)
    · exact fun b z => absurd rfl z
    · exact fun z => absurd rfl z
  | none =>
    let Hs : Hp := fun b => if b = a then some (.frz { cls := .type "list", data := .seq vs.toArray } (.lst (ns.map V.int))) else none
    have at_a : Hs a = some (.frz { cls := .type "list", data := .seq vs.toArray } (.lst (ns.map V.int))) := if_pos rfl
    have else_ : ∀ b, b ≠ a → Hs b = none := fun b n => if_neg n
    have only : Only Hs := by
      intro b
      by_cases q : b = a
      · subst q; exact .inr ⟨_, _, at_a⟩
      · exact .inl (else_ b q)
    refine law_core inK hns hb hbb nolim hg ha hr F bind Hs only (hsp _ only (.inl (.inr ⟨_, at_a⟩))) ?_ ?_ ?_
    · intro b u z
      by_cases q : b = a
      · subst q
        cases at_a.symm.trans z
        exact ⟨ha, by rw [List.length_map]; exact hl, vs, _, rv, ha⟩
      · exact nomatch (else_ b q).symm.trans z
    · intro b z
      by_cases q : b = a
      · exact q
      · exact absurd (else_ b q) z
    · exact fun _ => hk
end

/-- the goal that the head leaves, from the law's promise -/
theorem walk_ofG {l : PySem.W.OpenLaw} {n k : Nat} {q : Program} {loose : List Str}
    {XP : (Str → Option Value) → Heap → Prop} {YP : World → Heap → Prop} {d : DefRec} {K : Params → PySem.W.Frag}
    {sp : PySem.W.Frag → Sp} {x : Str}
    (hn : l.most = some n) (hn2 : n ≤ sizeLine) (hdf : d.params.defaults = []) (hr : Room k callerA)
    (hY : ∀ (w : World) (h : Heap), YP w h → (K w.params).In h)
    (F : ∀ (w : World) (mg : Str → Option Value) (fa : Addr) (h : Heap), (K w.params).In h →
      h.Ns mainGlobals mg → mg d.name = some (.ref fa) →
      ∃ fd : FuncData, (∀ (s : Shared) (u : Value), BindsTo s fd ⟨[u], []⟩ [(x, u)]) ∧
        ∀ base : Heap, (K w.params).In base → base.Ns mainGlobals mg →
          FnG l.prog w (K w.params) mg base k fa fd [x] (sp (K w.params)))
    (hsp : ∀ (K : PySem.W.Frag) (H : Hp) (a : Addr) (ns : List Int), ns.length ≤ n → Only H →
      SqL K H a (ns.map V.int) → sp K [.ref a] H (fun v _ => v = .bl true) E0) :
    PySem.W.WalkO q loose XP YP l.row.toRowW d [] (fun f vs => PySem.call f vs) := by
  refine Att.attach_call hn hdf ?_
  intro w s₀ s₁ mg mb fa o pm cd doc a vs ns G Y ho hd hcd hmg hobj hints hlen hg
  have inK := hY w _ Y
  obtain ⟨fd, bind, hF⟩ := F w mg fa _ inK G.T.g hmg
  exact law_callG inK G.T.g G.T.b G.T.builtins G.T.nolimit hg hobj hints (Nat.le_trans hlen hn2) hr hF bind
    (fun H hO hS => hsp (K w.params) H a ns hlen hO hS)
end L2.Gd
end

section
set_option Elab.async false
set_option linter.all false
set_option maxRecDepth 100000
set_option maxHeartbeats 2000000
namespace L2.Gd
open PySem PySem.Spec PyProof.Rows

/-- a list or a tuple of plain data: what is told of it fits -/
def Showy (d : PyData) : Prop := d.showable = true ∧ d.hasDict = false ∧ d.depth ≤ 20 ∧ d.shown.length ≤ sizeLine
section
variable {X : Cx} {pins : List (Addr × Obj)} {σ : St} {H : Hp} {s : Shared}
theorem reprObj_D {A : Around} (I : Inv X pins σ H s) (hg : A.guards = some []) (hu : A.units + 64 < cLine) {a : Addr} {d : PyData}
    (hd : Dp X.K H (.ref a) d) (hs : Showy d) {Q : Value → Shared → Prop} {E : Value → Shared → Prop}
    (h : ∀ s' u, Inv X pins σ H s' → Q (.str d.shown u) s') :
    wpAny (model X.prog X.w) A (pyReprObj (.ref a)) Q E s := by
  obtain ⟨as, r⟩ := Dp.reads I d _ _ hd rfl
  obtain ⟨h1, h2, h3, h4⟩ := hs
  refine pyReprObj_of_reads r h1 (PyData.noDict_hsm h2) hg (by omega) (fun _ _ q => q) ?_ h4
  intro h' u tk k
  exact h _ u (I.kept k)
end
section
variable {X : Cx}
/-- repr(x), x a list or a tuple of plain data -/
theorem call_reprD (hg : X.A.guards = some []) (hu : X.A.units + 64 < cLine) :
    CallR X (.builtin "repr") (fun xs H Q => ∃ a d, xs = [.ref a] ∧ Dp X.K H (.ref a) d ∧ Showy d ∧ Q (.str d.shown) H) := by
  rintro pins s σ H xs us Q I r ⟨a, d, rfl, hd, ⟨h1, h2, h3, h4⟩, q⟩
  cases r with
  | cons r1 r2 =>
    cases r2
    obtain rfl := r1
    obtain ⟨as, rd⟩ := Dp.reads I d _ _ hd rfl
    refine repr_of_reads' rd h1 (PyData.noDict_hsm h2) hg (by omega) (fun _ _ q => q) ?_ h4
    intro h' u tk k
    exact ⟨.str d.shown, H, I.kept k, ⟨_, rfl⟩, q⟩
/-- {x!r} of such -/
theorem pe_fmtRD {e : Expr} {te : TE} {pos : Pos} (hg : X.A.guards = some []) (hu : X.A.units + 64 < cLine) (he : PE X e te) :
    PE X (.FormattedValue e 114 none pos) (fun σ H Q => te σ H fun x H1 => ∃ a d, x = .ref a ∧ Dp X.K H1 (.ref a) d ∧ Showy d ∧ Q (.str d.shown) H1) := by
  constructor
  intro pins s σ H Q I h
  refine wpAny_FormattedValue_repr (thn (he.run pins s σ H _ I h) ?_)
  rintro v s1 ⟨x, H1, I1, r1, a, d, rfl, hd, hs, q⟩
  obtain rfl := r1
  refine reprObj_D I1 hg hu hd hs ?_
  intro s' u I'
  exact wpAny_formatField_str ⟨.str d.shown, H1, I', ⟨u, rfl⟩, q⟩ ⟨.str d.shown, H1, I'.tok _, ⟨_, rfl⟩, q⟩ hs.2.2.2
end
end L2.Gd
end

section
set_option Elab.async false
set_option linter.all false
set_option maxRecDepth 100000
set_option maxHeartbeats 2000000
namespace L2.Gd
open PySem PySem.Spec PyProof.Rows

/-! ### a def's run, whatever it hands back (NotImplemented, too) -/
def RawEnd (R : Result → Shared → Prop) (fl : Flow) (s' : Shared) : Prop := match fl with
  | .ret u => R (.ok (.ret u)) s'
  | .next => R (.ok (.ret .none)) s'
  | _ => False
section
variable {P : Program} {w : World} {K : PySem.W.Frag} {mg : Str → Option Value} {base : Heap}
  {k : Nat} {f : Addr} {fd : FuncData} {ps N : List Str}

theorem raw_call {x qual : Str} {st : Stmt} (F : Fun K x qual st f fd) (S : FnScope N ps (defScope st))
    {A : Around} {outer : List Env} {s : Shared} {H : Hp} {args : Args} {us : List Value} {vs : List V}
    {R : Result → Shared → Prop} (hr : Room (k + 1) A) (e0 : Env0 P w K mg base A outer s H)
    (bind : BindsTo s fd args (ps.zip us)) (rv : Vals vs us) (hl : vs.length = ps.length)
    (body : ∀ (cdv : Value) (s1 : Shared),
      Inv (cxOf CX0 P w K mg base N qual (defScope st) f cdv A outer s H E0).nox [] (start N vs) H s1 →
      wpAny (model P w) (A.deeper (envOfC qual (defScope st) s.heap.objs.size f cdv))
        (execs (defBody st) (envOfC qual (defScope st) s.heap.objs.size f cdv)) (RawEnd R) (fun _ _ => False) s1) :
    codeAny (model P w) A (.call (.ref f) args) R s := by
  obtain ⟨oc, od, kV, doc, pm, an, cdv, ct, osl, rfl, there, code⟩ := F.ex
  have inK : K.In s.heap := e0.mod.kin.keeps (fun b o q => (e0.bs b o q).1)
  have nolim : s.heap.NoLimit := e0.mod.nolimit.keeps (fun b o q => (e0.bs b o q).1)
  have kinds : ∀ y ∈ ps.zip us, (defScope st).names.lookup y.1 = some .local ∨
      ((defScope st).names.lookup y.1 = some .cell ∧
        ((cellsFrom (s.heap.objs.size + 1) (defScope st).names []).lookup y.1).isSome = true) := by
    rintro ⟨n, v⟩ hy
    cases S.par n (List.of_mem_zip hy).1 with
    | inl q => exact .inl q
    | inr q => exact .inr ⟨q, PySem.W.cellsFrom_some _ _ _ (.inl q)⟩
  refine codeAny_call_function hr.depth (inK _ _ there) rfl S.co S.gen rfl
    (PySem.W.codeRec_of inK code) (bind _ _ _ _ ?_)
  refine wpAny_newFunctionEnv_cells S.kind kinds ?_
  intro env he s1 ic
  subst he
  refine ⟨nolim.keeps ic.toInCall.keep, codeAny_func ?_⟩
  have I := inv_start (CX := CX0) (P := P) (w := w) (mg := mg) (base := base) (E := E0) S hr.hd e0 hl rv ic
  refine wpAny_mono (body cdv s1 (I.wish _)) (fun fl s' z => ?_) (fun e s' z => z.elim)
  cases fl with
  | ret u => exact z
  | next => exact z
  | brk => exact z.elim
  | cont => exact z.elim
end

/-! ### == of an own class that answers NotImplemented -/
/-- the state behind it: nothing that was tracked has changed -/
def After (X : Cx) (pins : List (Addr × Obj)) (σ : St) (H : Hp) (s' : Shared) : Prop := ∃ H', Inv X pins σ H' s' ∧ Same H H'
/-- the own __eq__ at f, of the class at C, declines what is of another kind -/
def Declines (X : Cx) (C f : Addr) (D : V → Hp → Prop) : Prop :=
  ∀ (pins : List (Addr × Obj)) (s : Shared) (σ : St) (H : Hp) (x : Addr) (y : V) (v : Value) (dx : Addr) (fs : List (Str × V)),
    Inv X pins σ H s → H x = some (.ins C dx fs) → RelV y v → D y H →
    wpAny (model X.prog X.w) X.A (call (.ref f) [.ref x, v]) (fun r s' => r = .notImplemented ∧ After X pins σ H s') (fun _ _ => False) s

section
variable {X : Cx} {C f : Addr}
theorem wpAny_noE {M : Model} {A : Around} {α : Type} {t : Sem α} {Q : α → Shared → Prop} {E : Value → Shared → Prop} {s : Shared}
    (h : wpAny M A t Q (fun _ _ => False) s) : wpAny M A t Q E s := wpAny_mono h (fun _ _ z => z) (fun _ _ z => z.elim)

/-- the value on the right: its type, and what its own == says of an instance -/
structure OtherKind (X : Cx) (C : Addr) (y : V) (tb : Value) (D : V → Hp → Prop) : Prop where
  ne : (tb == .ref C) = false
  sub : PySem.W.subIn X.K tb (.ref C) = some false
  ty : ∀ (pins : List (Addr × Obj)) (s : Shared) (σ : St) (H : Hp) (v : Value), Inv X pins σ H s → RelV y v → D y H →
    PySem.W.Looks (model X.prog X.w) s.heap (typeOf v) tb
  dec : ∀ (A : Around) (pins : List (Addr × Obj)) (s : Shared) (σ : St) (H : Hp) (x : Addr) (v : Value) (dx : Addr) (fs : List (Str × V)) (Q : Option Value → Shared → Prop) (E : Value → Shared → Prop),
    A.units + 8 < cLine → Inv X pins σ H s → RelV y v → D y H → H x = some (.ins C dx fs) → (∀ s', Inv X pins σ H s' → Q none s') →
    wpAny (model X.prog X.w) A (tryCompare v "__eq__" (.ref x)) Q E s
  mono : ∀ (H H' : Hp), Same H H' → D y H → D y H'
  notSame : ∀ (pins : List (Addr × Obj)) (s : Shared) (σ : St) (H : Hp) (x : Addr) (v : Value) (dx : Addr) (fs : List (Str × V)) (A : Around) (Q : Bool → Shared → Prop) (E : Value → Shared → Prop),
    Inv X pins σ H s → RelV y v → D y H → H x = some (.ins C dx fs) → Q false s → wpAny (model X.prog X.w) A (isSame (.ref x) v) Q E s

/-- x == y, x an instance of the class at C, y of another kind: False -/
theorem op_eqNI (hu : X.A.units + 64 < cLine) {DD : V → Hp → Prop} (hs : PySem.W.findIn X.K (.ref C) "__eq__" = some (some (.ref f)))
    (hf : PySem.W.isFn X.K (.ref f) = true) (dc : Declines X C f DD) :
    OpR X (compareOp .Eq) (fun x y H Q => ∃ (a dx : Addr) (fs : List (Str × V)) (tb : Value) (D : V → Hp → Prop),
      x = .ref a ∧ H a = some (.ins C dx fs) ∧ OtherKind X C y tb D ∧ D y H ∧ DD y H ∧ ∀ H', Same H H' → Q (.bl false) H') := by
  rintro pins s σ H x y u v Q I rx ry ⟨a, dx, fs, tb, D, rfl, ha, O, hD, hDD, q⟩
  obtain rfl := rx
  obtain ⟨mA, J, _⟩ := ins_get I.hok ha
  obtain ⟨od, J, _⟩ := J.look
  show wpAny _ _ (richCompare .Eq (.ref a) v) _ _ _
  unfold richCompare
  simp only [oneThing_ref]
  refine wpAny_holding (wpAny_bind (wpAny_cRoomFor (by omega) ?_))
  refine wpAny_bind (J.type.here (wpAny_bind ((O.ty pins s σ H v I ry hD).here ?_)))
  have ne : (Value.ref C != tb) = true := by
    have := O.ne
    rw [bne_comm, bne, this]
    rfl
  rw [if_pos ne]
  refine wpAny_bind ((PySem.W.looks_subIn I.kIn O.sub).here ?_)
  simp only [Bool.false_eq_true, if_false]
  have one : wpAny (model X.prog X.w) X.A (tryCompare (.ref a) (cmpInfo CmpOp.Eq).2.fst v)
      (fun r s' => r = none ∧ After X pins σ H s') X.xe s := by
    unfold tryCompare
    refine wpAny_bind (PySem.W.ifBound_K I.kIn J hs hf (wpAny_mono (wpAny_noE (dc pins s σ H a y v dx fs I ha ry hDD)) ?_ (fun _ _ z => z)))
    rintro r s' ⟨rfl, h⟩
    exact wpAny_pure ⟨rfl, h⟩
  refine wpAny_bind (thn one ?_)
  rintro r s1 ⟨rfl, H1, I1, sm⟩
  show wpAny _ _ (tryCompare v (cmpInfo CmpOp.Eq).2.snd (Value.ref a) >>= _) _ _ _
  refine wpAny_bind (O.dec X.A pins s1 σ H1 a v dx fs _ _ (by omega) I1 ry (O.mono _ _ sm hD) (sm _ _ ha) ?_)
  intro s2 I2
  show wpAny _ _ (rule "compare.eq-identity" >>= _) _ _ _
  refine wpAny_bind (wpAny_rule (wpAny_bind (O.notSame pins s2 σ H1 a v dx fs X.A _ _ I2 ry (O.mono _ _ sm hD) (sm _ _ ha) ?_)))
  exact wpAny_pure ⟨.bl false, H1, I2, rfl, q H1 sm⟩
end
end L2.Gd
end

section
set_option Elab.async false
set_option linter.all false
set_option maxRecDepth 100000
set_option maxHeartbeats 2000000
/-! What built-in values say of an instance of an own class: their own == declines. -/
namespace PySem.SeqAt
open AutoSeq1 (wpAny_loadPart')
open MeetsSeq
def NoSub (C : Addr) (T : String) (h : Heap) : Prop := ∀ M : Model, PySem.W.Looks M h (isSubtype (.ref C) (.type T)) false
theorem list_eq_ni (l x C dx : Addr) (items : Array Value) (n : Nat) (dd : Option Addr) (sl : Array (Option Value)) :
    Meets (Builtin.«list.__eq__» ⟨[.ref l, .ref x], []⟩) (fun _ R s =>
      s.heap.get? l = some { cls := .type "list", dict := dd, data := .seq items n, slots := sl } ∧
      s.heap.get? x = some (PySem.W.instObj C dx) ∧ NoSub C "list" s.heap ∧ R (.ok (.ret .notImplemented)) s) :=
  .of_wp fun prog w A R s h => by
    obtain ⟨hp, g, d, tk, os⟩ := s
    obtain ⟨hl, hx, ns, h⟩ := h
    wp_walk using wpAny_loadPart' hl
    refine (ns _).here ?_
    wp_walk
    exact ⟨_, rfl, h⟩
theorem tuple_eq_ni (l x C dx : Addr) (items : Array Value) (n : Nat) (dd : Option Addr) (sl : Array (Option Value)) :
    Meets (Builtin.«tuple.__eq__» ⟨[.ref l, .ref x], []⟩) (fun _ R s =>
      s.heap.get? l = some { cls := .type "tuple", dict := dd, data := .seq items n, slots := sl } ∧
      s.heap.get? x = some (PySem.W.instObj C dx) ∧ NoSub C "tuple" s.heap ∧ R (.ok (.ret .notImplemented)) s) :=
  .of_wp fun prog w A R s h => by
    obtain ⟨hp, g, d, tk, os⟩ := s
    obtain ⟨hl, hx, ns, h⟩ := h
    wp_walk using wpAny_loadPart' hl
    refine (ns _).here ?_
    wp_walk
    exact ⟨_, rfl, h⟩
theorem dict_eq_ni (l x C dx : Addr) (o : Obj) :
    Meets (Builtin.«dict.__eq__» ⟨[.ref l, .ref x], []⟩) (fun _ R s => s.heap.get? l = some o ∧ o.cls = .type "dict" ∧
      s.heap.get? x = some (PySem.W.instObj C dx) ∧ NoSub C "dict" s.heap ∧ R (.ok (.ret .notImplemented)) s) :=
  .of_wp fun prog w A R s h => by
    obtain ⟨hp, g, d, tk, os⟩ := s
    obtain ⟨hl, hc, hx, ns, h⟩ := h
    wp_walk using wpAny_loadPart' hl
    refine (ns _).here ?_
    wp_walk
    exact ⟨_, rfl, h⟩
theorem int_eq_ni (b : Int) (u : Tok) (x C dx : Addr) :
    Meets (Builtin.«int.__eq__» ⟨[.int b u, .ref x], []⟩) (fun _ R s => s.heap.get? x = some (PySem.W.instObj C dx) ∧ R (.ok (.ret .notImplemented)) s) :=
  .of_wp fun prog w A R s h => by
    obtain ⟨hp, g, d, tk, os⟩ := s
    obtain ⟨hx, h⟩ := h
    wp_walk using wpAny_loadPart' hx, wpAny_load hx
    exact ⟨_, rfl, h⟩
theorem str_eq_ni (b : Str) (u : Tok) (x C dx : Addr) :
    Meets (Builtin.«str.__eq__» ⟨[.str b u, .ref x], []⟩) (fun _ R s => s.heap.get? x = some (PySem.W.instObj C dx) ∧ R (.ok (.ret .notImplemented)) s) :=
  .of_wp fun prog w A R s h => by
    obtain ⟨hp, g, d, tk, os⟩ := s
    obtain ⟨hx, h⟩ := h
    wp_walk using wpAny_loadPart' hx, wpAny_load hx
    exact ⟨_, rfl, h⟩
end PySem.SeqAt

namespace L2.Gd
open PySem PySem.Spec PyProof.Rows PySem.SeqAt
section
variable {X : Cx} {C : Addr}
/-- the class at C is of no built-in kind -/
structure NoKin (K : PySem.W.Frag) (C : Addr) : Prop where
  none : PySem.W.subIn K (.type "NoneType") (.ref C) = some false
  int : PySem.W.subIn K (.type "int") (.ref C) = some false
  str : PySem.W.subIn K (.type "str") (.ref C) = some false
  lst : PySem.W.subIn K (.type "list") (.ref C) = some false
  tup : PySem.W.subIn K (.type "tuple") (.ref C) = some false
  dct : PySem.W.subIn K (.type "dict") (.ref C) = some false
  lst' : PySem.W.subIn K (.ref C) (.type "list") = some false
  tup' : PySem.W.subIn K (.ref C) (.type "tuple") = some false
  dct' : PySem.W.subIn K (.ref C) (.type "dict") = some false
theorem noSub_of {pins : List (Addr × Obj)} {σ : St} {H : Hp} {s : Shared} {T : String} (I : Inv X pins σ H s)
    (h : PySem.W.subIn X.K (.ref C) (.type T) = some false) : NoSub C T s.heap := fun _ => PySem.W.looks_subIn I.kIn h

theorem kind_none (nk : NoKin X.K C) : OtherKind X C .non (.type "NoneType") (fun _ _ => True) where
  ne := rfl
  sub := nk.none
  ty := by
    intro pins s σ H v I rv _
    obtain rfl := rv
    exact .now
  dec := by
    intro A pins s σ H x v dx fs Q E hu I rv _ hx k
    obtain rfl := rv
    exact wpAny_tryCompare_declines (T := "NoneType") rfl F.slot_NoneType_eq
      (call_gives F.slot_NoneType_eq rfl F.entry_NoneType_eq (F.args_NoneType_eq_2 _ _) (NoneType___eq___none_ref_0 x) ⟨rfl, k _ I⟩)
  mono := fun _ _ _ h => h
  notSame := by
    intro pins s σ H x v dx fs A Q E I rv _ hx q
    obtain rfl := rv
    exact wpAny_of_eq (rfl : isSame (.ref x) .none = pure false) q
theorem kind_int (i : Int) (nk : NoKin X.K C) : OtherKind X C (.int i) (.type "int") (fun _ _ => True) where
  ne := rfl
  sub := nk.int
  ty := by
    intro pins s σ H v I rv _
    obtain ⟨t, rfl⟩ := rv
    exact .now
  dec := by
    intro A pins s σ H x v dx fs Q E hu I rv _ hx k
    obtain ⟨t, rfl⟩ := rv
    obtain ⟨mA, J, _⟩ := ins_get I.hok hx
    exact wpAny_tryCompare_declines (T := "int") (typeIs_int _ _ _) F.slot_int_eq
      (call_meets F.slot_int_eq (typeIs_int _ _ _) F.entry_int_eq (F.args_int_eq_2 _ _) (int_eq_ni i t x C dx) ⟨J.1, rfl, k _ I⟩)
  mono := fun _ _ _ h => h
  notSame := by
    intro pins s σ H x v dx fs A Q E I rv _ hx q
    obtain ⟨t, rfl⟩ := rv
    exact wpAny_of_eq (rfl : isSame (.ref x) (.int i t) = pure false) q
theorem kind_str (z : Str) (nk : NoKin X.K C) : OtherKind X C (.str z) (.type "str") (fun _ _ => True) where
  ne := rfl
  sub := nk.str
  ty := by
    intro pins s σ H v I rv _
    obtain ⟨t, rfl⟩ := rv
    exact .now
  dec := by
    intro A pins s σ H x v dx fs Q E hu I rv _ hx k
    obtain ⟨t, rfl⟩ := rv
    obtain ⟨mA, J, _⟩ := ins_get I.hok hx
    exact wpAny_tryCompare_declines (T := "str") (typeIs_str _ _ _) F.slot_str_eq
      (call_meets F.slot_str_eq (typeIs_str _ _ _) F.entry_str_eq (F.args_str_eq_2 _ _) (str_eq_ni z t x C dx) ⟨J.1, rfl, k _ I⟩)
  mono := fun _ _ _ h => h
  notSame := by
    intro pins s σ H x v dx fs A Q E I rv _ hx q
    obtain ⟨t, rfl⟩ := rv
    exact wpAny_of_eq (rfl : isSame (.ref x) (.str z t) = pure false) q
theorem kind_list (l : Addr) (nk : NoKin X.K C) : OtherKind X C (.ref l) (.type "list") (fun _ H => ∃ xs, H l = some (.lst xs)) where
  ne := rfl
  sub := nk.lst
  ty := by
    intro pins s σ H v I rv ⟨xs, hl⟩
    obtain rfl := rv
    obtain ⟨_, its, n, _, e⟩ := (show ObjOk X.prog X.w H s.heap l (.lst xs) from I.hok l _ hl)
    exact (PySem.W.Looks.ld (part := none) e).andThen .now
  dec := by
    intro A pins s σ H x v dx fs Q E hu I rv ⟨xs, hl⟩ hx k
    obtain rfl := rv
    obtain ⟨_, its, n, _, e⟩ := (show ObjOk X.prog X.w H s.heap l (.lst xs) from I.hok l _ hl)
    obtain ⟨mA, J, _⟩ := ins_get I.hok hx
    exact wpAny_tryCompare_declines (T := "list") ⟨_, e, rfl⟩ F.slot_list_eq
      (call_meets F.slot_list_eq ⟨_, e, rfl⟩ F.entry_list_eq (F.args_list_eq_2 _ _) (list_eq_ni l x C dx _ _ _ _) ⟨e, J.1, noSub_of I nk.lst', rfl, k _ I⟩)
  mono := fun _ _ sm ⟨xs, h⟩ => ⟨xs, sm _ _ h⟩
  notSame := by
    intro pins s σ H x v dx fs A Q E I rv ⟨xs, hl⟩ hx q
    obtain rfl := rv
    obtain ⟨_, its, n, _, e⟩ := (show ObjOk X.prog X.w H s.heap l (.lst xs) from I.hok l _ hl)
    obtain ⟨mA, J, _⟩ := ins_get I.hok hx
    exact wpAny_isSame_ref_other' (ne_of hx hl (by intro z; cases z)) J.1 e (show Value.type "list" ≠ Value.type "tuple" by decide) q
theorem same_left {M : Model} {A : Around} {E : Value → Shared → Prop} {s : Shared} {x y : Addr} {ox oy : Obj} {R : Bool → Shared → Prop} (ne : x ≠ y)
    (hx : s.heap.get? x = some ox) (hy : s.heap.get? y = some oy) (hnt : ox.cls ≠ .type "tuple") (h : R false s) :
    wpAny M A (isSame (.ref x) (.ref y)) R E s := by
  show wpAny M A (if (x == y) = true then pure true else _) R E s
  rw [if_neg (fun z => ne (beq_iff_eq.mp z))]
  refine wpAny_bind (wpAny_load hx (wpAny_bind (wpAny_load hy ?_)))
  split
  · rename_i _ h1 _ _ _
    exact absurd h1 hnt
  · exact wpAny_pure h
theorem kind_tup (l : Addr) (nk : NoKin X.K C) : OtherKind X C (.ref l) (.type "tuple") (fun _ H => ∃ xs, H l = some (.tup xs)) where
  ne := rfl
  sub := nk.tup
  ty := by
    intro pins s σ H v I rv ⟨xs, hl⟩
    obtain rfl := rv
    obtain ⟨_, its, _, o, e, c, n, hd⟩ := (show ObjOk X.prog X.w H s.heap l (.tup xs) from I.hok l _ hl)
    obtain ⟨cls, dd, data, sl⟩ := o
    simp only at c hd
    subst c hd
    exact (PySem.W.Looks.ld (part := none) e).andThen .now
  dec := by
    intro A pins s σ H x v dx fs Q E hu I rv ⟨xs, hl⟩ hx k
    obtain rfl := rv
    obtain ⟨_, its, _, o, e, c, n, hd⟩ := (show ObjOk X.prog X.w H s.heap l (.tup xs) from I.hok l _ hl)
    obtain ⟨cls, dd, data, sl⟩ := o
    simp only at c hd
    subst c hd
    obtain ⟨mA, J, _⟩ := ins_get I.hok hx
    exact wpAny_tryCompare_declines (T := "tuple") ⟨_, e, rfl⟩ F.slot_tuple_eq
      (call_meets F.slot_tuple_eq ⟨_, e, rfl⟩ F.entry_tuple_eq (F.args_tuple_eq_2 _ _) (tuple_eq_ni l x C dx _ _ _ _) ⟨e, J.1, noSub_of I nk.tup', rfl, k _ I⟩)
  mono := fun _ _ sm ⟨xs, h⟩ => ⟨xs, sm _ _ h⟩
  notSame := by
    intro pins s σ H x v dx fs A Q E I rv ⟨xs, hl⟩ hx q
    obtain rfl := rv
    obtain ⟨_, its, _, o, e, c, n, hd⟩ := (show ObjOk X.prog X.w H s.heap l (.tup xs) from I.hok l _ hl)
    obtain ⟨mA, J, _⟩ := ins_get I.hok hx
    exact same_left (ne_of hx hl (by intro z; cases z)) J.1 e (by intro z; cases z) q
theorem kind_dict (l : Addr) (nk : NoKin X.K C) : OtherKind X C (.ref l) (.type "dict") (fun _ H => ∃ kvs, H l = some (.dK kvs)) where
  ne := rfl
  sub := nk.dct
  ty := by
    intro pins s σ H v I rv ⟨kvs, hl⟩
    obtain rfl := rv
    obtain ⟨_, _, vs, _, o, es, ep, e, c, _⟩ := (show ObjOk X.prog X.w H s.heap l (.dK kvs) from I.hok l _ hl)
    have c1 : o.cls = .type "dict" := c.1
    obtain ⟨cls, dd, data, sl⟩ := o
    simp only at c1
    subst c1
    exact (PySem.W.Looks.ld (part := none) e).andThen .now
  dec := by
    intro A pins s σ H x v dx fs Q E hu I rv ⟨kvs, hl⟩ hx k
    obtain rfl := rv
    obtain ⟨_, _, vs, _, o, es, ep, e, c, _⟩ := (show ObjOk X.prog X.w H s.heap l (.dK kvs) from I.hok l _ hl)
    obtain ⟨mA, J, _⟩ := ins_get I.hok hx
    exact wpAny_tryCompare_declines (T := "dict") ⟨_, e, c.1⟩ F.slot_dict_eq
      (call_meets F.slot_dict_eq ⟨_, e, c.1⟩ F.entry_dict_eq (F.args_dict_eq_2 _ _) (dict_eq_ni l x C dx o) ⟨e, c.1, J.1, noSub_of I nk.dct', rfl, k _ I⟩)
  mono := fun _ _ sm ⟨xs, h⟩ => ⟨xs, sm _ _ h⟩
  notSame := by
    intro pins s σ H x v dx fs A Q E I rv ⟨kvs, hl⟩ hx q
    obtain rfl := rv
    obtain ⟨_, _, vs, _, o, es, ep, e, c, _⟩ := (show ObjOk X.prog X.w H s.heap l (.dK kvs) from I.hok l _ hl)
    obtain ⟨mA, J, _⟩ := ins_get I.hok hx
    exact same_left (ne_of hx hl (by intro z; cases z)) J.1 e (by intro z; cases z) q
end
end L2.Gd
end

section
set_option Elab.async false
set_option linter.all false
set_option maxRecDepth 100000
set_option maxHeartbeats 2000000
/-! == and != of two instances of an own class that has an __eq__ alone. -/
namespace L2.Gd
open PySem PySem.Spec PyProof.Rows
section
variable {X : Cx} {C f N : Addr} {n : Nat} {fd : FuncData} {ps : List Str} {sp : Sp}

/-- the callee runs, somewhere below the body -/
theorem run_at (F : FnOk X.prog X.w X.K X.mg X.base CX0 n f fd ps sp) (hb : Binds X.K fd ps []) {A : Around} (sb : Sub X n A)
    {pins : List (Addr × Obj)} {σ : St} {H : Hp} {s : Shared} {Q : VK} {us : List Value} {vs : List V}
    (I : Inv X pins σ H s) (r : Vals vs us) (h : sp vs H Q E0) {E : Value → Shared → Prop} :
    wpAny (model X.prog X.w) A (call (.ref f) us) (EP X pins σ Q) E s := by
  have e := I.env0
  have e0 : Env0 X.prog X.w X.K X.mg X.base A X.stack s H := ⟨sb.fr.trans e.frames, e.mod, e.bs, e.bsz, e.funs, e.frf, e.hok, e.bare⟩
  have hl : (us ++ []).length = ps.length := by
    rw [List.append_nil, ← r.length]
    exact F.len _ _ _ _ h
  have hb2 := hb s us I.kIn hl
  rw [List.append_nil] at hb2
  refine wpAny_call (codeAny_mono (F.run A X.stack s H ⟨us, []⟩ us vs Q E0 sb.room e0 hb2 r h) ?_)
  intro res s' hq
  cases res with
  | error er => exact (show False from hq).elim
  | ok fl =>
    cases fl with
    | ret u => exact I.after hq
    | next => exact hq.elim
    | brk => exact hq.elim
    | cont => exact hq.elim

theorem binds2 (hb : Binds X.K fd ps []) : Binds X.K fd ps [] := hb

/-- x == y, two instances of the class at C -/
theorem op_eqOwn (hr : Room n X.A) (F : FnOk X.prog X.w X.K X.mg X.base CX0 n f fd ps sp) (hb : Binds X.K fd ps [])
    (hs : PySem.W.findIn X.K (.ref C) "__eq__" = some (some (.ref f))) (hf : PySem.W.isFn X.K (.ref f) = true) :
    OpR X (compareOp .Eq) (fun x y H Q => ∃ (a b dx dy : Addr) (fs gs : List (Str × V)), x = .ref a ∧ y = .ref b ∧
      H a = some (.ins C dx fs) ∧ H b = some (.ins C dy gs) ∧ sp [.ref a, .ref b] H (fun v H' => (∃ k, v = .bl k) ∧ Q v H') E0) := by
  rintro pins s σ H x y u v Q I rx ry ⟨a, b, dx, dy, fs, gs, rfl, rfl, ha, hb', h⟩
  obtain rfl := rx
  obtain rfl := ry
  obtain ⟨mA, J, _⟩ := ins_get I.hok ha
  obtain ⟨mB, J', _⟩ := ins_get I.hok hb'
  obtain ⟨od, J, _⟩ := J.look
  obtain ⟨od', J', _⟩ := J'.look
  obtain ⟨m, fr⟩ := I.fr
  show wpAny _ _ (richCompare .Eq (.ref a) (.ref b)) _ _ _
  refine PySem.W.cmp_K (op := .Eq) (tb := .ref C) hr.units0 fr I.ok.mod.kin J J'.type (by simp [PySem.W.notFirst]) hs hf ?_
  refine thn (run_at (us := [.ref a, .ref b]) (vs := [.ref a, .ref b]) F hb ⟨hr, rfl⟩ I (.cons rfl (.cons rfl .nil)) h) ?_
  rintro r s' ⟨z, H', I', rz, ⟨k, rfl⟩, q⟩
  obtain rfl := rz
  exact ⟨.bl k, H', I', rfl, q⟩

/-- what the text's class must have for != by its own == -/
structure NeC (K : PySem.W.Frag) (C f N : Addr) : Prop where
  cls : ∃ nm q bs sn sub ab col dd k0 k1 k2 k3 k5 newId, K.lookup C = some (excClassObj nm q C N bs [.type "object"] true sn sub ab col dd k0 k1 k2 k3 k5 newId)
  ok : PySem.W.nsOkIn K N = true
  eq : PySem.W.nsIn K N "__eq__" = some (some (.ref f))
  ne : PySem.W.nsIn K N "__ne__" = some none
  fn : ∃ o, K.lookup f = some o ∧ o.cls = .type "function"

theorem ns_some {K : PySem.W.Frag} {h : Heap} {N : Addr} {m : Str → Option Value} {x : Str} {v : Value} (k : K.In h) (G : h.Ns N m)
    (e : PySem.W.nsIn K N x = some (some v)) : m x = some v := by
  obtain ⟨o, es, ep, ho, hd, _, hf⟩ := G
  unfold PySem.W.nsIn at e
  split at e
  · rename_i c d es' n' sl q
    cases ho.symm.trans (k _ _ q)
    cases hd
    split at e
    · rename_i en he
      cases e
      rw [← hf]
      unfold nsFind findBy
      rw [← Array.find?_toList, he]
      rfl
    · split at e
      · cases e
      · cases e
  · cases e
theorem NeC.heap {K : PySem.W.Frag} {h : Heap} (c : NeC K C f N) (k : K.In h) {x : Addr} {o : Obj} (hx : h.get? x = some o) (hc : o.cls = .ref C) :
    h.OwnEqNoNe x C f "object" [.type "object"] := by
  obtain ⟨nm, q, bs, sn, sub, ab, col, dd, k0, k1, k2, k3, k5, newId, hC⟩ := c.cls
  obtain ⟨of, hf, ft⟩ := c.fn
  have ns := Heap.Ns.of_isNs (PySem.W.isNs_of_in k c.ok)
  exact ⟨o, of, nm, q, N, bs, true, sn, sub, ab, col, dd, k0, k1, k2, k3, k5, newId, _, _, hx, hc, k _ _ hC, ns,
    ns_some k ns c.eq, k _ _ hf, ft, PySem.F.cmp_object.mro, PySem.F.cmp_object.eq.lookup, PySem.W.nsMap_none_of_in k c.ok c.ne⟩

/-- x != y -/
theorem op_neOwn (hr : Room (n + 1) X.A) (F : FnOk X.prog X.w X.K X.mg X.base CX0 n f fd ps sp) (hb : Binds X.K fd ps []) (c : NeC X.K C f N) :
    OpR X (compareOp .NotEq) (fun x y H Q => ∃ (a b dx dy : Addr) (fs gs : List (Str × V)), x = .ref a ∧ y = .ref b ∧
      H a = some (.ins C dx fs) ∧ H b = some (.ins C dy gs) ∧
      sp [.ref a, .ref b] H (fun v H' => ∃ k, v = .bl k ∧ Q (.bl (!k)) H') E0) := by
  rintro pins s σ H x y u v Q I rx ry ⟨a, b, dx, dy, fs, gs, rfl, rfl, ha, hb', h⟩
  obtain rfl := rx
  obtain rfl := ry
  obtain ⟨mA, J, _⟩ := ins_get I.hok ha
  obtain ⟨mB, J', _⟩ := ins_get I.hok hb'
  show wpAny _ _ (richCompare .NotEq (.ref a) (.ref b)) _ _ _
  obtain ⟨hp, g, d, t, os⟩ := s
  refine richCompare_ne_ownEq PySem.F.cmp_object (c.heap I.kIn J.1 rfl) J'.1 rfl (by have := hr.units; omega) ?_
  refine thn (run_at (us := [.ref a, .ref b]) (vs := [.ref a, .ref b]) F hb (A := X.A.in1) ⟨hr.in1, rfl⟩ I (.cons rfl (.cons rfl .nil)) h) ?_
  rintro r s' ⟨z, H', I', rz, k, rfl, q⟩
  obtain rfl := rz
  exact ⟨k, rfl, .bl (!k), H', I', rfl, q⟩
end
end L2.Gd
end

section
set_option Elab.async false
set_option linter.all false
set_option maxRecDepth 100000
set_option maxHeartbeats 2000000
namespace L2.Gd
open PySem PySem.Spec PyProof.Rows
section
variable {X : Cx} {k : Nat} {f C : Addr} {fd : FuncData} {ps ks : List Str} {sp : Sp} {x m : Str} {p pos apos : Pos}
  {o : Expr} {kws : List Keyword} {ta tk : TE} {tks : TA} {g : List Value → List Value → List Value} {gV : List V → List V → List V}
/-- a call with keywords alone of a def: it binds by KBn -/
theorem run_kw {pins : List (Addr × Obj)} {σ : St} {H : Hp} {s : Shared} {Q : VK} {us ws : List Value} {vs zs : List V} {n : Nat}
    (F : FnOk X.prog X.w X.K X.mg X.base CX0 k f fd ps sp) (hr : Room k X.A) (hb : KBn X.K fd ps n ks g gV)
    (I : Inv X pins σ H s) (r : Vals vs us) (rz : Vals zs ws) (l1 : vs.length = n) (l2 : zs.length = ks.length)
    (h : sp (gV vs zs) H Q E0) : wpAny (model X.prog X.w) X.A (call (.ref f) us (ks.zip ws)) (EP X pins σ Q) X.xe s := by
  have n1 : us.length = n := r.length.symm.trans l1
  have n2 : ws.length = ks.length := rz.length.symm.trans l2
  refine wpAny_call (codeAny_mono (F.run X.A X.stack s H ⟨us, ks.zip ws⟩ (g us ws) (gV vs zs) Q E0 hr I.env0
    (hb.to s us ws I.kIn n1 n2) (hb.rel r rz) h) ?_)
  intro res s' hq
  cases res with
  | error er => exact (show False from hq).elim
  | ok fl =>
    cases fl with
    | ret u => exact I.after hq
    | next => exact hq.elim
    | brk => exact hq.elim
    | cont => exact hq.elim
/-- o.m(k = v, ..), o an instance of the class at C -/
def tMethK (C : Addr) (m : Str) (n : Nat) (sp : Sp) (gV : List V → List V → List V) (ta : TE) (tk : TA) : TE := fun σ H Q =>
  ta σ H fun x H1 => ∃ a dx fs, x = .ref a ∧ H1 a = some (.ins C dx fs) ∧ fs.lookup m = none ∧
    tk σ H1 fun zs H2 => zs.length = n ∧ sp (gV [x] zs) H2 Q E0
theorem pe_methK0 {pl : Sem Bool} (he : PE X o ta) (c : Cls X.K C) (hm : Meth X.K C m f)
    (F : FnOk X.prog X.w X.K X.mg X.base CX0 k f fd ps sp) (hr : Room k X.A) (hb : KBn X.K fd ps 1 ks g gV) (hkw : PK X kws tks)
    (hall : (backToKw pos (keywordEach kws X.env)).all (·.1.isSome) = true := by rfl)
    (hks : (backToKw pos (keywordEach kws X.env)).filterMap (·.1) = ks := by rfl)
    (hpl : ((backTo pos (starEach [] X.env)).any (·.1) || (backToKw pos (keywordEach kws X.env)).any (·.1.isNone)) = false := by rfl)
    (ht : eval (.Call (.Attribute o m apos) [] kws pos) X.env = (do
      let ov ← eval o X.env
      standAt apos.atName
      let (f, first) ← holding [ov] (getMethod ov m pl)
      callWith pos f first (backTo pos (starEach [] X.env))
        (backToKw pos (keywordEach kws X.env))) := by rfl) :
    PE X (.Call (.Attribute o m apos) [] kws pos) (tMethK C m ks.length sp gV ta tks) := by
  constructor
  intro pins s σ H Q I h
  refine PySem.W.methodCall_KW (pl := pl) (thn (he.run pins s σ H _ I h) ?_) ht
  rintro u s1 ⟨x, H1, I1, rx, a, dx, fs, rfl, ea, l, q⟩
  obtain rfl := rx
  refine getmeth_ok I1 ea c hm l ?_
  refine PySem.W.callWith_KW0 (first := [.ref a]) (h₀ := X.base) I.ok.mod.kin hm.kp hall ?_ hpl
  refine thn (hkw.run pos pins s1 σ H1 _ I1 q) ?_
  rintro ws s2 ⟨zs, H2, I2, rz, l2, q2⟩
  refine ⟨I2.kIn, ?_⟩
  rw [hks]
  have r1 : Vals [V.ref a] [Value.ref a] := .cons rfl .nil
  exact run_kw (us := [Value.ref a]) (vs := [V.ref a]) F hr hb I2 r1 rz rfl l2 q2
end
end L2.Gd
end

section
set_option Elab.async false
set_option linter.all false
set_option maxRecDepth 100000
set_option maxHeartbeats 2000000
/-! enumerate of a tuple -/
namespace PyProof.Rows
open PySem
open Sem (wp)
open AutoSeq1 (wpAny_loadPart')
section
variable {prog : Program} {w : World} {A : Around} {E : Value → Shared → Prop} {s : Shared} {I T e : Addr} {i : Nat} {xs : Array Value} {x old : Value}
/-- the tuple's iterator, asked from within a builtin -/
theorem nextOf_tup {Q : Value → Shared → Prop} (it : IsTupIter s.heap I T i) (ht : IsTup s.heap T xs) (hx : xs[i]? = some x)
    (k : ∀ h', IsTupIter h' I T (i + 1) → Heap.SameBut I s.heap h' → Q x { s with heap := h' }) :
    wpAny (model prog w) A (Builtin.SmallTypes.nextOf (.ref I)) Q E s := by
  obtain ⟨o, oi, oc, od⟩ := id it
  obtain ⟨p, op, _, m, pd⟩ := ht
  unfold Builtin.SmallTypes.nextOf
  refine wpAny_bind (wpAny_callSpecial?_slot (name := Str.ofString "__next__") it.typeIs slot_tupleiter_next (wpAny_call_entry slot_tupleiter_next it.typeIs entry_tupleiter_next
    (?a : wpAny _ _ _ _ _ _) (args_tupleiter_next _)))
  show wpAny _ _ (field (.ref I) 0 >>= _) _ _ s
  refine wpAny_bind (wpAny_field oi od (x := .ref T) rfl ?_)
  show wpAny _ _ (if (Value.ref T == Value.none) = true then _ else _) _ _ s
  rw [if_neg (show ¬ ((Value.ref T == Value.none) = true) from Bool.false_ne_true)]
  show wpAny _ _ (field (.ref I) 1 >>= _) _ _ s
  refine wpAny_bind (wpAny_field oi od (x := .int i 0) rfl ?_)
  show wpAny _ _ (seqItems? (.ref T) >>= _) _ _ s
  refine wpAny_bind (wpAny_seqItems op pd ?_)
  simp only [hx, Int.toNat_natCast]
  refine wpAny_bind (wpAny_setField oi od (by simp) (wpAny_pure ⟨x, rfl, wpAny_pure (k _ ⟨_, Heap.get?_update_self _ oi (Obj.isFreed_of_fields (Obj.data_mapFields od _)), (Obj.cls_mapFields ..).trans oc, ?_⟩ (Heap.SameBut.update ..))⟩))
  rw [Obj.data_mapFields od]
  simp [rawInt]
theorem nextOf_tup_end {Q : Value → Shared → Prop} (hh : A.handled = none) (it : IsTupIter s.heap I T i) (ht : IsTup s.heap T xs) (hx : xs[i]? = none)
    (k : ∀ h' c, Heap.ExtBut I s.heap h' → (∃ o, h'.get? c = some o ∧ o.cls = .type "StopIteration") → E (.ref c) { s with heap := h' }) :
    wpAny (model prog w) A (Builtin.SmallTypes.nextOf (.ref I)) Q E s := by
  obtain ⟨o, oi, oc, od⟩ := id it
  obtain ⟨p, op, _, m, pd⟩ := ht
  unfold Builtin.SmallTypes.nextOf
  refine wpAny_bind (wpAny_callSpecial?_slot (name := Str.ofString "__next__") it.typeIs slot_tupleiter_next (wpAny_call_entry slot_tupleiter_next it.typeIs entry_tupleiter_next
    (?a : wpAny _ _ _ _ _ _) (args_tupleiter_next _)))
  show wpAny _ _ (field (.ref I) 0 >>= _) _ _ s
  refine wpAny_bind (wpAny_field oi od (x := .ref T) rfl ?_)
  show wpAny _ _ (if (Value.ref T == Value.none) = true then _ else _) _ _ s
  rw [if_neg (show ¬ ((Value.ref T == Value.none) = true) from Bool.false_ne_true)]
  show wpAny _ _ (field (.ref I) 1 >>= _) _ _ s
  refine wpAny_bind (wpAny_field oi od (x := .int i 0) rfl ?_)
  show wpAny _ _ (seqItems? (.ref T) >>= _) _ _ s
  refine wpAny_bind (wpAny_seqItems op pd ?_)
  simp only [hx, Int.toNat_natCast]
  refine wpAny_bind (wpAny_rule (wpAny_bind (wpAny_setField oi od (by simp) ?_)))
  show wpAny _ _ (newExc (.type "StopIteration") ([] : List Value) >>= _) _ _ _
  refine wpAny_bind ?_
  simp only [newTuple, newExc]
  refine wpAny_bind (wpAny_newObj_type ?_ (by size_fits))
  refine wpAny_bind (m := firstArgMember _ _) (wpAny_of_eq (a := Value.none) rfl ?_)
  refine wpAny_newObj_type ?_ (by size_fits)
  simp only [raiseNew]
  refine wpAny_bind (wpAny_handled ?_)
  rw [show A.in1.handled = none from hh]
  exact wpAny_bind (wpAny_pure (wpAny_throw (k _ _ (((Heap.SameBut.update ..).extBut.push _).push _) ⟨_, Heap.get?_push_size _ rfl, rfl⟩)))
/-- enumerate.__next__ over a tuple's iterator: a pair -/
theorem enumT_item {Q : Value → Shared → Prop} (he : IsEnum s.heap e I i old) (it : IsTupIter s.heap I T i) (ht : IsTup s.heap T xs) (hx : xs[i]? = some x) (ne : e ≠ I)
    (k : ∀ h', IsEnumOut h' e I ((i : Int) + 1) x s.heap.objs.size → IsTupIter h' I T (i + 1) →
      h'.get? s.heap.objs.size = some { cls := .type "tuple", data := .seq #[.int i s.toks, x] } → h'.objs.size = s.heap.objs.size + 1 →
      (∀ b o, b ≠ e → b ≠ I → s.heap.get? b = some o → h'.get? b = some o) → Q (.ref s.heap.objs.size) { s with heap := h', toks := s.toks + 1 }) :
    wpAny (model prog w) A (Builtin.«enumerate.__next__» ⟨[.ref e], []⟩) (fun r s' => ∃ v, r = .done (.ret v) ∧ Q v s') E s := by
  obtain ⟨hp, gs, dr, tk, os⟩ := s
  show wpAny _ _ (field (.ref e) 2 >>= _) _ _ (⟨hp, gs, dr, tk, os⟩ : Shared)
  refine wpAny_bind (wpAny_field he rfl (x := .ref I) rfl (wpAny_bind (nextOf_tup it ht hx ?_)))
  intro a1 ia1 (sa1 : Heap.SameBut I hp a1)
  have e1 : IsEnum a1 e I i old := (sa1.2 e ne).trans he
  show wpAny _ _ (field (.ref e) 3 >>= _) _ _ ⟨a1, gs, dr, tk, os⟩
  refine wpAny_bind (wpAny_field e1 rfl (x := rawInt i) rfl ?_)
  show wpAny _ _ (field (.ref e) 4 >>= _) _ _ ⟨a1, gs, dr, tk, os⟩
  refine wpAny_bind (wpAny_field e1 rfl (x := .none) rfl ?_)
  show wpAny _ _ (mkInt i >>= _) _ _ ⟨a1, gs, dr, tk, os⟩
  refine wpAny_bind (wpAny_mkInt ?_)
  show wpAny _ _ (setField (.ref e) 3 (rawInt ((i : Int) + 1)) >>= _) _ _ ⟨a1, gs, dr, tk + 1, os⟩
  refine wpAny_bind (wpAny_setField_rec e1 (by simp) ?_)
  intro a2 (e2 : IsEnum a2 e I ((i : Int) + 1) old) (sa2 : Heap.SameBut e a1 a2)
  show wpAny _ _ (setField (.ref e) 4 .none >>= _) _ _ ⟨a2, gs, dr, tk + 1, os⟩
  refine wpAny_bind (wpAny_setField_rec e2 (by simp) ?_)
  intro a3 (e3 : IsEnum a3 e I ((i : Int) + 1) old) (sa3 : Heap.SameBut e a2 a3)
  show wpAny _ _ (newTuple [.int i tk, x] >>= _) _ _ ⟨a3, gs, dr, tk + 1, os⟩
  refine wpAny_bind (wpAny_newTuple ?_)
  have z3 : a3.objs.size = hp.objs.size := by rw [sa3.1, sa2.1, sa1.1]
  have le : e < hp.objs.size := Heap.lt_size he
  have nz : hp.objs.size ≠ e := Nat.ne_of_gt le
  rw [z3]
  generalize hq : a3.push { cls := .type "tuple", data := .seq #[.int i tk, x] } = a4
  have e4 : IsEnum a4 e I ((i : Int) + 1) old := by
    rw [← hq]
    exact Heap.get?_push_of_some _ e3
  have t4 : a4.get? hp.objs.size = some { cls := .type "tuple", data := .seq #[.int i tk, x] } := by
    rw [← hq, ← z3]
    exact Heap.get?_push_size _ rfl
  have z4 : a4.objs.size = hp.objs.size + 1 := by rw [← hq, Heap.size_push, z3]
  have k4 : ∀ b o, b ≠ e → b ≠ I → hp.get? b = some o → a4.get? b = some o := by
    intro b o h1 h2 h3
    rw [← hq]
    exact Heap.get?_push_of_some _ (sa3.extBut b o h1 (sa2.extBut b o h1 (sa1.extBut b o h2 h3)))
  have i4 : IsTupIter a4 I T (i + 1) := by
    rw [← hq]
    obtain ⟨o, ho, r⟩ := (ia1.extBut sa2.extBut (Ne.symm ne)).extBut sa3.extBut (Ne.symm ne)
    exact ⟨o, Heap.get?_push_of_some _ ho, r⟩
  show wpAny _ _ (Builtin.SmallTypes.ownedTupleIsFree (.ref e) >>= _) _ _ ⟨a4, gs, dr, tk + 1, os⟩
  refine wpAny_bind ?_
  unfold Builtin.SmallTypes.ownedTupleIsFree
  refine wpAny_bind (wpAny_field e4 rfl (x := .none) rfl (wpAny_pure ?_))
  simp only [if_true]
  refine wpAny_bind (wpAny_rule (wpAny_bind (wpAny_field e4 rfl (x := old) rfl ?_)))
  refine wpAny_bind (wpAny_setField_rec e4 (by simp) ?_)
  intro a5 (e5 : IsEnum a5 e I ((i : Int) + 1) x) (sa5 : Heap.SameBut e a4 a5)
  show wpAny _ _ (Builtin.SmallTypes.ownedTupleHandOut (.ref e) (.ref hp.objs.size) >>= _) _ _ ⟨a5, gs, dr, tk + 1, os⟩
  refine wpAny_bind ?_
  unfold Builtin.SmallTypes.ownedTupleHandOut
  refine wpAny_bind (wpAny_setField_rec e5 (by simp) ?_)
  intro a6 (e6 : IsEnumOut a6 e I ((i : Int) + 1) x hp.objs.size) (sa6 : Heap.SameBut e a5 a6)
  refine wpAny_setField_rec e6 (by simp) ?_
  intro a7 (e7 : IsEnumOut a7 e I ((i : Int) + 1) x hp.objs.size) (sa7 : Heap.SameBut e a6 a7)
  refine wpAny_bind (wpAny_letGo (wpAny_pure ⟨_, rfl, k a7 e7 ?_ ?_ ?_ ?_⟩))
  · exact ((i4.extBut sa5.extBut (Ne.symm ne)).extBut sa6.extBut (Ne.symm ne)).extBut sa7.extBut (Ne.symm ne)
  · exact sa7.extBut _ _ nz (sa6.extBut _ _ nz (sa5.extBut _ _ nz t4))
  · rw [sa7.1, sa6.1, sa5.1, z4]
  · exact fun b o h1 h2 h3 => sa7.extBut b o h1 (sa6.extBut b o h1 (sa5.extBut b o h1 (k4 b o h1 h2 h3)))
theorem pyNext_enumT {Q : Option Value → Shared → Prop} (he : IsEnum s.heap e I i old) (it : IsTupIter s.heap I T i) (ht : IsTup s.heap T xs) (hx : xs[i]? = some x) (ne : e ≠ I)
    (k : ∀ h', IsEnumOut h' e I ((i : Int) + 1) x s.heap.objs.size → IsTupIter h' I T (i + 1) →
      h'.get? s.heap.objs.size = some { cls := .type "tuple", data := .seq #[.int i s.toks, x] } → h'.objs.size = s.heap.objs.size + 1 →
      (∀ b o, b ≠ e → b ≠ I → s.heap.get? b = some o → h'.get? b = some o) → Q (some (.ref s.heap.objs.size)) { s with heap := h', toks := s.toks + 1 }) :
    wpAny (model prog w) A (pyNext (.ref e)) Q E s := by
  have ty : s.TypeIs (.ref e) "enumerate" := ⟨_, he, rfl⟩
  unfold pyNext
  refine wpAny_bind (wpAny_attempt (wpAny_callSpecial?_slot (name := Str.ofString "__next__") ty F.slot_enumerate_next ?_))
  refine wpAny_call_entry F.slot_enumerate_next ty F.entry_enumerate_next ?_ (F.args_enumerate_next_1 _)
  exact enumT_item he it ht hx ne fun h' q1 q2 q3 q4 q5 => wpAny_pure (k h' q1 q2 q3 q4 q5)
theorem pyNext_enumT_end {Q : Option Value → Shared → Prop} (hh : A.handled = none) (he : IsEnum s.heap e I i old) (it : IsTupIter s.heap I T i) (ht : IsTup s.heap T xs) (hx : xs[i]? = none)
    (k : ∀ h', Heap.ExtBut I s.heap h' → Q none { s with heap := h' }) : wpAny (model prog w) A (pyNext (.ref e)) Q E s := by
  have ty : s.TypeIs (.ref e) "enumerate" := ⟨_, he, rfl⟩
  unfold pyNext
  refine wpAny_bind (wpAny_attempt (wpAny_callSpecial?_slot (name := Str.ofString "__next__") ty F.slot_enumerate_next ?_))
  refine wpAny_call_entry F.slot_enumerate_next ty F.entry_enumerate_next ?_ (F.args_enumerate_next_1 _)
  show wpAny _ _ (field (.ref e) 2 >>= _) _ _ s
  refine wpAny_bind (wpAny_field he rfl (x := .ref I) rfl (wpAny_bind (nextOf_tup_end hh it ht hx ?_)))
  rintro h' c q ⟨o, ho, hc⟩
  exact wpAny_bind (wpAny_isInstance (T := "StopIteration") (b := true) ⟨o, ho, hc⟩ isSubtype_stop (wpAny_pure (k _ q)))
/-- enumerate(t) -/
theorem call_enumT {Q : Value → Shared → Prop} (ht : IsTup s.heap T xs)
    (k : ∀ h', IsEnum h' (s.heap.objs.size + 1) s.heap.objs.size 0 .none → IsTupIter h' s.heap.objs.size T 0 →
      (∀ b o, s.heap.get? b = some o → h'.get? b = some o) → Q (.ref (s.heap.objs.size + 1)) { s with heap := h' }) :
    wpAny (model prog w) A (call (.type "enumerate") [.ref T]) Q E s := by
  obtain ⟨o, ho, hc, n, hd⟩ := id ht
  let mid := s.heap.push { cls := .type "tuple_iterator", data := .fields #[.ref T, .int 0 0] }
  let fin := mid.push { cls := .type "enumerate", data := .fields #[.none, .bool false, .ref s.heap.objs.size, rawInt 0, .none, .none] }
  have meets : Meets (Builtin.«enumerate.__new__» ⟨[.type "enumerate", .ref T], []⟩) (fun _ R s' => (∃ o, s'.heap.get? T = some o ∧ o.cls = .type "tuple" ∧ ∃ n, o.data = .seq xs n) ∧
      R (.ok (.ret (.ref (s'.heap.push { cls := .type "tuple_iterator", data := .fields #[.ref T, .int 0 0] }).objs.size)))
        { s' with heap := (s'.heap.push { cls := .type "tuple_iterator", data := .fields #[.ref T, .int 0 0] }).push { cls := .type "enumerate", data := .fields #[.none, .bool false, .ref s'.heap.objs.size, rawInt 0, .none, .none] } }) :=
    .of_wp fun prog w A R s' h => by
      obtain ⟨hp, g, d, tk, os⟩ := s'
      obtain ⟨hT, h⟩ := h
      obtain ⟨o', ho', _⟩ := id hT
      have sub := sub_enumerate
      have tu : IsTup (Shared.heap ⟨hp, g, d, tk, os⟩) T xs := hT
      wp_walk using wpAny_loadPart' ho'
      refine wpAny_stack_any fun st => wpAny_pure ?_
      split
      · rename_i c _ _ _ _ _
        cases (c == Value.type "enumerate") <;> (wp_walk using wpAny_loadPart' ho', iter_tuple tu; exact ⟨_, rfl, h⟩)
      · wp_walk using wpAny_loadPart' ho', iter_tuple tu
        exact ⟨_, rfl, h⟩
  have z : mid.objs.size = s.heap.objs.size + 1 := Heap.size_push ..
  have he : IsEnum fin (s.heap.objs.size + 1) s.heap.objs.size 0 .none := by
    have q := Heap.get?_push_size mid (o := { cls := .type "enumerate", data := .fields #[.none, .bool false, .ref s.heap.objs.size, rawInt 0, .none, .none] }) rfl
    rw [z] at q
    exact q
  refine callType_new F.called_enumerate (by decide) (F.typeCall_enumerate_1 _) (F.newCall_enumerate_1 _) (fun obj => F.args_object_init_2 obj _) F.entry_enumerate_new meets ⟨ht, ?_⟩
  show _ ∧ _
  rw [show (s.heap.push { cls := .type "tuple_iterator", data := .fields #[.ref T, .int 0 0] }).objs.size = s.heap.objs.size + 1 from z]
  exact ⟨⟨_, he, rfl⟩, k fin he ⟨_, Heap.get?_push_of_some _ (Heap.get?_push_size _ rfl), rfl, rfl⟩ fun b o q => Heap.get?_push_of_some _ (Heap.get?_push_of_some _ q)⟩
end
end PyProof.Rows

namespace L2.Gd
open PySem PySem.Spec PyProof.Rows
/-- the tuple at a: each item in a new pair -/
def IteT (K : PySem.W.Frag) (a : Addr) : It where
  go := fun i H => ∃ (xs : List V) (x : V), SqT K H a xs ∧ xs[i]? = some x
  yld := fun i H v H' => ∃ T x, v = .ref T ∧ H T = none ∧ H' = upd H T (.tup [.int (i : Nat), x]) ∧ ∀ xs, SqT K H a xs → xs[i]? = some x
  stop := fun i H => ∃ xs : List V, SqT K H a xs ∧ xs.length ≤ i
theorem turn_enumT {P : Program} {w : World} {K : PySem.W.Frag} {elts : List Expr} {kk : Nat} {tpos : Pos} (a e I : Addr) :
    Turn P w K (.Tuple elts kk tpos) (IteT K a) [e, I] e (fun i h => (∃ old, IsEnum h e I ((i : Nat) : Int) old) ∧ IsTupIter h I a i ∧ e ≠ I) where
  mem := List.mem_cons_self
  obj := by
    rintro i h ⟨⟨old, he⟩, ⟨o, ho, hc, hd⟩, _⟩ b hb
    rcases List.mem_cons.mp hb with rfl | hb
    · exact ⟨_, he, fun v q => nomatch q⟩
    · obtain rfl := List.mem_singleton.mp hb
      exact ⟨o, ho, fun v q => by rw [hd] at q; exact nomatch q⟩
  keep := by
    rintro i h h' ⟨⟨old, he⟩, ⟨o, ho, r⟩, ne⟩ k
    exact ⟨⟨old, k e (by simp) _ he⟩, ⟨o, k I (by simp) _ ho, r⟩, ne⟩
  item := by
    rintro X hP hw hK hc i pins s σ H E J hf ⟨⟨old, he⟩, it, ne⟩ ⟨xs, x, hq, hx⟩
    subst hP hw hK
    obtain ⟨its, rv, tu, _⟩ := J.tuple hq
    obtain ⟨u, hu, ru⟩ := rv.get hx
    have le : e < s.heap.objs.size := Heap.lt_size he
    have li : I < s.heap.objs.size := let ⟨_, q, _⟩ := it; Heap.lt_size q
    refine pyNext_enumT he it tu (x := u) (by simpa using hu) ne ?_
    intro h1 out it1 tup1 z1 k1
    refine ⟨_, rfl, wpAny_letOwnedTupleGo_enum (s := { s with heap := h1, toks := s.toks + 1 }) out ?_⟩
    intro h2 he2 sb
    have tup2 : h2.get? s.heap.objs.size = some { cls := .type "tuple", data := .seq #[.int i s.toks, u] } := (sb.2 _ (Nat.ne_of_gt le)).trans tup1
    have new : ObjOk X.prog X.w (upd H s.heap.objs.size (.tup [.int (i : Nat), x])) h2 s.heap.objs.size (.tup [.int (i : Nat), x]) :=
      ⟨by show 2 ≤ sizeLine; decide, [.int i s.toks, u], .cons ⟨_, rfl⟩ (.cons ru .nil), ⟨_, tup2, rfl, _, rfl⟩⟩
    have J1 : Inv X pins σ (upd H s.heap.objs.size (.tup [.int (i : Nat), x])) { s with heap := h2, toks := s.toks + 1 } := by
      refine J.turnedNew (ch := [e, I]) (fun b o hb q => ?_) hf (Nat.le_refl _) new
      have b1 : b ≠ e := fun z => hb (by simp [z])
      have b2 : b ≠ I := fun z => hb (by simp [z])
      exact (sb.2 b b1).trans (k1 b o b1 b2 q)
    refine ⟨.ref s.heap.objs.size, _, J1, rfl, ⟨_, x, rfl, J.hok.fresh (Nat.le_refl _), rfl, fun ys hy => by rw [J.tuple_inj hy hq]; exact hx⟩, ⟨⟨u, ?_⟩, ?_, ne⟩, ?_⟩
    · rw [show ((i + 1 : Nat) : Int) = (i : Int) + 1 by omega]
      exact he2
    · obtain ⟨o, ho, r⟩ := it1
      exact ⟨o, (sb.2 I (Ne.symm ne)).trans ho, r⟩
    · intro b hb
      have lb : b < s.heap.objs.size := by
        rcases List.mem_cons.mp hb with rfl | q
        · exact le
        · obtain rfl := List.mem_singleton.mp q
          exact li
      rw [upd_ne (Nat.ne_of_lt lb)]
      exact (hf b hb).1
  done := by
    rintro X hP hw hK hc i pins s σ H E J hf ⟨⟨old, he⟩, it, ne⟩ ⟨xs, hq, hx⟩
    subst hP hw hK
    obtain ⟨its, rv, tu, _⟩ := J.tuple hq
    obtain ⟨f0, f1, f2, f3, f4, f5⟩ := hf I (by simp)
    have hl := rv.length
    refine pyNext_enumT_end (J.ok.hd hc) he it tu (by simp; omega) ?_
    intro h1 eb
    exact ⟨rfl, J.turned (t' := s.toks) (fun b o hb q => eb b o hb q) f0 f1 f3 f4 f5⟩
  self := by
    rintro A i s Q E ⟨⟨_, he⟩, _⟩ h
    exact wpAny_pyIter_enum he h
/-- enumerate of a list or of a tuple -/
def iEnumA (K : PySem.W.Frag) (ta : TA) : TI := fun σ H R => ta σ H fun vs H1 => ∃ a xs, vs = [.ref a] ∧
  ((SqL K H1 a xs ∧ R (Ite K a) H1) ∨ (SqT K H1 a xs ∧ R (IteT K a) H1))
theorem pi_enumA {X : Cx} {e : Expr} {ta : TA} {p pos tpos : Pos} {elts : List Expr} {kk : Nat} (hg : Gl X "enumerate") (hm : X.mg "enumerate" = none) (ha : PA X [e] ta)
    (hs : starEach [e] X.env = [(false, eval e X.env)] := by rfl) :
    PI X (.Tuple elts kk tpos) (.Call (.Name "enumerate" p) [e] [] pos) (iEnumA X.K ta) := by
  constructor
  intro pins s σ H R J h
  refine Call_ (ld_blt J hg hm boot_enumerate (PyProof.Rows.callWith_type1 (thn (ha.run pos pins s σ H _ J h) ?_) hs rfl))
  rintro us s1 ⟨vs, H1, J1, r1, a, xs, rfl, q⟩
  cases r1 with
  | cons r rr =>
    cases rr
    cases r
    have fp : ∀ b ∈ [s1.heap.objs.size + 1, s1.heap.objs.size], FpOk X pins H1 b := by
      intro b hb
      have le : s1.heap.objs.size ≤ b := by
        rcases List.mem_cons.mp hb with rfl | q
        · omega
        · obtain rfl := List.mem_singleton.mp q
          exact Nat.le_refl _
      exact J1.fpOk le (J1.hok.fresh le)
    rcases q with ⟨hq, q⟩ | ⟨hq, q⟩
    · obtain ⟨its, rv, pl, _⟩ := J1.list hq
      refine call_enumerate_list pl.isList ?_
      intro h' he it z k
      exact wpAny_pyIter_enum he ⟨_, _, _, _, H1, rfl, J1.kept (t' := s1.toks) k, turn_enum a (s1.heap.objs.size + 1) s1.heap.objs.size,
        ⟨⟨.none, he⟩, it, Nat.succ_ne_self _⟩, fp, q⟩
    · obtain ⟨its, rv, tu, _⟩ := J1.tuple hq
      refine call_enumT tu ?_
      intro h' he it k
      exact wpAny_pyIter_enum he ⟨_, _, _, _, H1, rfl, J1.kept (t' := s1.toks) k, turn_enumT a (s1.heap.objs.size + 1) s1.heap.objs.size,
        ⟨⟨.none, he⟩, it, Nat.succ_ne_self _⟩, fp, q⟩
end L2.Gd
end

section
set_option Elab.async false
set_option linter.all false
set_option maxRecDepth 100000
set_option maxHeartbeats 2000000
/-! len of an instance of an own class that has a __len__. -/
namespace L2.Gd
open PySem PySem.Spec PyProof.Rows
section
variable {X : Cx} {C f N : Addr} {n : Nat} {fd : FuncData} {ps : List Str} {sp : Sp}
theorem call_lenOwn (hr : Room (n + 1) X.A) (F : FnOk X.prog X.w X.K X.mg X.base CX0 n f fd ps sp) (hb : Binds X.K fd ps [])
    (hs : PySem.W.findIn X.K (.ref C) "__len__" = some (some (.ref f))) (hf : PySem.W.isFn X.K (.ref f) = true) :
    CallR X (.builtin "len") (fun xs H Q => ∃ (a dx : Addr) (fs : List (Str × V)), xs = [.ref a] ∧ H a = some (.ins C dx fs) ∧
      sp [.ref a] H (fun v H' => (∃ k : Nat, v = .int k ∧ k < 1000000) ∧ Q v H') E0) := by
  rintro pins s σ H xs us Q I r ⟨a, dx, fs, rfl, ha, h⟩
  rw [Vals.ref1 r]
  obtain ⟨mA, J, _⟩ := ins_get I.hok ha
  obtain ⟨od, J, _⟩ := J.look
  obtain ⟨m, fr⟩ := I.fr
  refine PySem.W.len_K fr I.ok.mod.kin J hs hf ?_
  refine thn (run_at (us := [.ref a]) (vs := [.ref a]) F hb (A := X.A.in1) ⟨hr.in1, rfl⟩ I (.cons rfl .nil) h) ?_
  rintro r s' ⟨z, H', I', rz, ⟨k, rfl, hk⟩, q⟩
  obtain ⟨tk, rfl⟩ := rz
  exact ⟨⟨by omega, by omega⟩, .int k, H', I'.tok _, ⟨_, rfl⟩, q⟩
end
end L2.Gd
end

section
set_option Elab.async false
set_option linter.all false
set_option maxRecDepth 100000
set_option maxHeartbeats 2000000
/-! sorted of a tuple of ints -/
namespace L2.Gd
open PySem PySem.Spec PyProof.Rows SrtO
section
variable {prog : Program} {w : World} {A : Around} {E : Value → Shared → Prop} {s : Shared}
theorem gather_tup {it : Addr} {o : Obj} {its : Array Value} {n : Nat} {Q : List Value → Shared → Prop} (ho : s.heap.get? it = some o) (hc : o.cls = .type "tuple") (hd : o.data = .seq its n) (hz : its.size ≤ sizeLine)
    (k : Q its.toList { s with heap := (s.heap.push (seqObj "list" #[] 0)).update s.heap.objs.size (Obj.mapSeq (· ++ its)) }) : wpAny (model prog w) A (collect (.ref it)) Q E s := by
  have h0 : (s.heap.push (seqObj "list" #[] 0)).get? s.heap.objs.size = some (seqObj "list" #[] 0) := Heap.get?_push_size _ rfl
  have h1 := Heap.get?_update_self (Obj.mapSeq (· ++ its)) h0 rfl
  have tail : wpAny (model prog w) A (do
      let o ← load s.heap.objs.size
      match o.data with
      | .seq xs _ => pure xs.toList
      | _ => unsupported "internal:collect") Q E { s with heap := (s.heap.push (seqObj "list" #[] 0)).update s.heap.objs.size (Obj.mapSeq (· ++ its)) } := by
    refine wpAny_bind (wpAny_load h1 (wpAny_pure ?_))
    have e : ((#[] : Array Value) ++ its).toList = its.toList := by simp
    show Q ((#[] : Array Value) ++ its).toList _
    rw [e] <;> exact k
  unfold collect
  refine wpAny_bind (wpAny_runValue (codeAny_builtin F.entry_proto_collect ?_))
  rw [Around.under_plainId F.plain_proto_collect _]
  show wpAny _ A.in1 (do again (.builtin "list.__iadd__" ⟨[← newList [], .ref it], []⟩)) _ _ s
  refine wpAny_bind (wpAny_newList (wpAny_pure ⟨plainId_quiet F.plain_list_iadd _, codeAny_builtin F.entry_list_iadd ?_⟩))
  rw [Around.under_plainId F.plain_list_iadd _]
  refine wpAny_mono (wpAny_extend_seq (hsz := hz) (A := A) (R := fun r t => r = .ok (.ret (.ref s.heap.objs.size)) ∧ t = { s with heap := (s.heap.push (seqObj "list" #[] 0)).update s.heap.objs.size (Obj.mapSeq (· ++ its)) })
    (s := { s with heap := s.heap.push (seqObj "list" #[] 0) }) _ it _ 0 (.inr rfl) h0 (Heap.get?_push_of_some _ ho) hc hd ⟨rfl, rfl⟩) (fun r t h => ?_) (fun e t h => ?_)
  · cases r with
    | done f =>
      obtain ⟨e, rfl⟩ := h
      cases e
      exact tail
    | again c => exact ⟨h.1, codeAny_mono h.2 fun r t2 hr => by obtain ⟨rfl, rfl⟩ := hr; exact tail⟩
  · exact absurd h.1 (by simp)
theorem sorted_tup {l : Addr} {vs : List Value} {ns : List Int} {Q : Value → Shared → Prop} (hl : IsTup s.heap l vs.toArray) (hI : IntsAre vs ns) (hz : vs.length ≤ sizeLine)
    (h : ∀ (h' : Heap) (p : Addr) (out : List Value) (c : Nat), (∀ b o, s.heap.get? b = some o → h'.get? b = some o) → s.heap.objs.size ≤ p → h'.get? p = some (seqObj "list" out.toArray c) →
      Srtd ltIv out → Stb ltIv out vs → Q (.ref p) { s with heap := h' }) : wpAny (model prog w) A (call (.builtin "sorted") [.ref l]) Q E s := by
  obtain ⟨o, ho, hc, n, hd⟩ := hl
  refine Calls.call_function_entry kind_sorted plain_sorted entry_sorted (args_sorted1 _) ?_
  unfold Builtin.«sorted»
  refine wpAny_bind (m := checkCount "sorted" 1 1 _) (wpAny_pure ?_)
  refine wpAny_bind (gather_tup ho hc hd (by rw [List.size_toArray]; exact hz) ?_)
  have k1 : ∀ b u, s.heap.get? b = some u → ((s.heap.push (seqObj "list" #[] 0)).update s.heap.objs.size (Obj.mapSeq (· ++ vs.toArray))).get? b = some u := fun b u e => by
    rw [Heap.get?_update_ne _ _ _ _ (Nat.ne_of_lt (Heap.lt_size e))]
    exact Heap.get?_push_of_some _ e
  have sz : ((s.heap.push (seqObj "list" #[] 0)).update s.heap.objs.size (Obj.mapSeq (· ++ vs.toArray))).objs.size = s.heap.objs.size + 1 := by
    rw [Heap.size_update, size_push']
  generalize ((s.heap.push (seqObj "list" #[] 0)).update s.heap.objs.size (Obj.mapSeq (· ++ vs.toArray))) = h1 at k1 sz ⊢
  have k0 : ∀ b u, s.heap.get? b = some u → b < h1.objs.size := fun b u e => Heap.lt_size (k1 b u e)
  refine wpAny_bind (wpAny_newList ?_ hz)
  have hoL : (h1.push (seqObj "list" vs.toArray 0)).get? h1.objs.size = some (seqObj "list" vs.toArray 0) := Heap.get?_push_size _ rfl
  refine wpAny_bind (wpAny_holding (wpAny_call_entry slot_list_sort ⟨_, hoL, rfl⟩ entry_list_sort (list_sort_ord swo_int hoL hz (fun h2 => ints_sortable hI h2) fun out hs hb => ⟨_, rfl, ?_⟩) (args_list_sort _)))
  obtain ⟨ep, he⟩ := sortedHeap_at (vs := vs) (out := out.toArray) hoL
  refine wpAny_pure ⟨_, rfl, h _ _ out ep (fun b u e => ?_) ?_ he hs hb⟩
  · rw [sortedHeap_old (Nat.ne_of_lt (k0 b u e)) (Nat.lt_of_lt_of_le (k0 b u e) (by rw [size_push']; exact Nat.le_succ _))]
    exact Heap.get?_push_of_some _ (k1 b u e)
  · show _ ≤ h1.objs.size
    rw [sz]
    exact Nat.le_succ _
end
/-- sorted(t), a tuple of ints -/
def rSortedTI (K : PySem.W.Frag) : List V → Hp → VK → Prop := fun vs H Q => ∃ (a : Addr) (ns : List Int), vs = [V.ref a] ∧ SqT K H a (ns.map V.int) ∧
  ∀ (ns' : List Int) (p : Addr), ns'.Perm ns → ns'.Pairwise (· ≤ ·) → H p = none → Q (.ref p) (upd H p (.lst (ns'.map V.int)))
theorem cr_sortedTI {X : Cx} : CallR X (.builtin "sorted") (rSortedTI X.K) := by
  intro pins s σ H vs us Q I r h
  obtain ⟨a, ns, rfl, hs, q⟩ := h
  obtain ⟨its, rv, hl, hz⟩ := I.tuple hs
  have hlen := rv.length
  rw [Vals.ref1 r]
  have hi := rv.ints
  refine sorted_tup hl hi (by rw [← hlen]; exact hz) fun h' p out c hk hp ho h1 h2 => ?_
  obtain ⟨k1, k2, k3⟩ := ints_out hi h1 h2
  have z : ((out.map iv).map V.int).length ≤ sizeLine := by
    rw [List.length_map, k2.length_eq]
    rw [List.length_map] at hz
    exact hz
  exact ⟨.ref p, upd H p (.lst ((out.map iv).map V.int)), I.laid (t' := s.toks) hk hp ⟨z, out, c, vals_of_ints k1, ho⟩, rfl, q _ _ k2 k3 (I.hok.fresh hp)⟩
end L2.Gd
end

section
set_option Elab.async false
set_option linter.all false
set_option maxRecDepth 100000
set_option maxHeartbeats 2000000
/-! [f(x) for x in xs if p(x)], xs a list or a tuple: what is made of each element -/
namespace L2.Gd
open PySem PySem.Spec PyProof.Rows
/-- all that stood, but for the list that is being made -/
def ButD (D : Addr) (H H' : Hp) : Prop := ∀ b o, b ≠ D → H b = some o → H' b = some o
theorem ButD.new {D : Addr} {H H' : Hp} (h : H D = none) (b : ButD D H H') : Same H H' := fun a o e => b a o (ne_of_none e h) e
theorem ButD.put {D : Addr} {H H' : Hp} {o : HO} (b : ButD D H H') : ButD D H (L2.upd H' D o) := fun a u ne e => by
  rw [upd_ne ne]
  exact b a u ne e
theorem ButD.more {D : Addr} {H H' H2 : Hp} (b : ButD D H H') (s : Same H' H2) : ButD D H H2 := fun a u ne e => s _ _ (b a u ne e)
theorem ButD.start {D : Addr} {H : Hp} {o : HO} : ButD D H (L2.upd H D o) := fun a u ne e => by
  rw [upd_ne ne]
  exact e
theorem filt_take {α β : Type} (f : α → Option β) {l : List α} {i : Nat} {x : α} (h : l[i]? = some x) : (l.take (i + 1)).filterMap f = (l.take i).filterMap f ++ (f x).toList := by
  rw [List.take_succ, h, List.filterMap_append]
  congr 1
theorem pair_at {α β : Type} {R : α → β → Prop} : ∀ {xs : List α} {ys : List β} {i : Nat} {x : α}, Paired R xs ys → xs[i]? = some x → ∃ y, ys[i]? = some y ∧ R x y
  | _, _, _, _, .nil, e => by simp at e
  | _, _, 0, _, .cons r _, e => by simp at e; subst e; exact ⟨_, rfl, r⟩
  | _, _, i + 1, x, .cons _ t, e => by
    obtain ⟨u, h1, h2⟩ := pair_at (i := i) (x := x) t (by simpa using e)
    exact ⟨u, by simpa using h1, h2⟩
section
variable {α β : Type} {K : PySem.W.Frag} {a : Addr} {xs : List V} {es : List α} {g : TG} {tt : TT} {te : TE} {vs : List Nat} {σ : L2.St} {H1 : Hp} {D : Addr} {Qd : Hp → Prop}
/-- what is promised of one turn -/
def StepOk (F : Hp → V → α → Prop) (G : Hp → V → β → Prop) (f : α → Option β) (g : TG) (tt : TT) (te : TE) (vs : List Nat) (σ : L2.St) (H1 : Hp) (D : Addr) (es : List α) : Prop :=
  ∀ (x : V) (e : α) (H : Hp) (A : V → Hp → Prop) (B : Hp → Prop), e ∈ es → F H1 x e → ButD D H1 H → (∃ zs, H D = some (.lst zs)) →
    (∀ b y H4, f e = some b → Same H H4 → G H4 y b → A y H4) → (∀ H3, f e = none → Same H H3 → B H3) →
    g x (wipe σ vs) H fun σ2 H2 => wipe σ2 vs = wipe σ vs ∧ tt σ2 H2 fun b H3 => if b = true then te σ2 H3 A else B H3
def Stab (G : Hp → V → β → Prop) (D : Addr) : Prop := ∀ (H H' : Hp) (y : V) (b : β), ButD D H H' → (∃ zs, H D = some (.lst zs)) → G H y b → G H' y b
def LcInv (G : Hp → V → β → Prop) (f : α → Option β) (H1 : Hp) (D : Addr) (es : List α) (i : Nat) (H : Hp) : Prop :=
  ∃ ys, H D = some (.lst ys) ∧ ys.length ≤ i ∧ Paired (G H) ys ((es.take i).filterMap f) ∧ ButD D H1 H
variable {F : Hp → V → α → Prop} {G : Hp → V → β → Prop} {f : α → Option β}
theorem lc_turn (st : Stab G D) (h1000 : xs.length ≤ 1000) (pa : Paired (F H1) xs es) (step : StepOk F G f g tt te vs σ H1 D es) {i : Nat} {x : V} {H : Hp} (hx : xs[i]? = some x) (h : LcInv G f H1 D es i H) :
    g x (wipe σ vs) H fun σ2 H2 => wipe σ2 vs = wipe σ vs ∧ tt σ2 H2 fun b H3 =>
      if b = true then te σ2 H3 fun y H4 => ∃ acc, H4 D = some (.lst acc) ∧ acc.length < sizeLine ∧ LcInv G f H1 D es (i + 1) (L2.upd H4 D (.lst (acc ++ [y]))) else LcInv G f H1 D es (i + 1) H3 := by
  obtain ⟨ys, h1, h2, h3, h4⟩ := h
  obtain ⟨e, he, hF⟩ := pair_at pa hx
  have hi : i < xs.length := (List.getElem?_eq_some_iff.mp hx).1
  refine step x e H _ _ (List.mem_of_getElem? he) hF h4 ⟨ys, h1⟩ (fun b y H4 hf s hg => ?_) (fun H3 hf s => ?_)
  · refine ⟨ys, s _ _ h1, by rw [sizeLine_eq]; omega, ys ++ [y], upd_same, by simp; omega, ?_, (h4.more s).put⟩
    rw [filt_take f he, hf]
    have bt : ButD D H4 (L2.upd H4 D (.lst (ys ++ [y]))) := ButD.start
    have hd : ∃ zs, H4 D = some (.lst zs) := ⟨ys, s _ _ h1⟩
    have o1 : Paired (G (L2.upd H4 D (.lst (ys ++ [y])))) ys ((es.take i).filterMap f) := Paired.mapP h3 fun u v q => st _ _ _ _ (show ButD D H _ from fun c o ne z => bt c o ne (s _ _ z)) ⟨ys, h1⟩ q
    exact PySem.Paired.snoc o1 (st _ _ _ _ bt hd hg)
  · refine ⟨ys, s _ _ h1, by omega, ?_, h4.more s⟩
    rw [filt_take f he, hf]
    simp only [Option.toList, List.append_nil]
    exact Paired.mapP h3 fun u v q => st _ _ _ _ (fun c o _ z => s _ _ z) ⟨ys, h1⟩ q
theorem lc_mapL (st : Stab G D) (hl : H1 a = some (.lst xs)) (hD : H1 D = none) (h1000 : xs.length ≤ 1000) (pa : Paired (F H1) xs es) (step : StepOk F G f g tt te vs σ H1 D es)
    (fin : ∀ ys H, H D = some (.lst ys) → Paired (G H) ys (es.filterMap f) → ButD D H1 H → Qd H) :
    ∃ W : Nat → Nat → Hp → Prop, (∃ m, W 0 m (L2.upd H1 D (.lst []))) ∧ ∀ i m H, W i m H →
      ((Itl K a).stop i H ∧ Qd H) ∨ ((Itl K a).go i H ∧ ∃ Nx : Hp → Prop, (∀ H', Nx H' → ∃ m', m' < m ∧ W (i + 1) m' H') ∧ ∀ x H', (Itl K a).yld i H x H' → g x (wipe σ vs) H' fun σ2 H2 => wipe σ2 vs = wipe σ vs ∧ tt σ2 H2 fun b H3 =>
        if b = true then te σ2 H3 fun y H4 => ∃ acc, H4 D = some (.lst acc) ∧ acc.length < sizeLine ∧ Nx (L2.upd H4 D (.lst (acc ++ [y]))) else Nx H3) := by
  refine lc_list (xs := xs) (LcInv G f H1 D es) ⟨[], upd_same, Nat.le_refl _, .nil, .start⟩ (fun i H _ ⟨ys, _, _, _, h4⟩ => .inl (.inl (h4.new hD _ _ hl))) (fun i x H hx h => lc_turn st h1000 pa step hx h) ?_
  rintro H ⟨ys, h1, _, h3, h4⟩
  rw [PySem.Paired.length pa, List.take_length] at h3
  exact fin ys H h1 h3 h4
theorem lc_mapT (st : Stab G D) (hl : H1 a = some (.tup xs)) (hD : H1 D = none) (h1000 : xs.length ≤ 1000) (pa : Paired (F H1) xs es) (step : StepOk F G f g tt te vs σ H1 D es)
    (fin : ∀ ys H, H D = some (.lst ys) → Paired (G H) ys (es.filterMap f) → ButD D H1 H → Qd H) :
    ∃ W : Nat → Nat → Hp → Prop, (∃ m, W 0 m (L2.upd H1 D (.lst []))) ∧ ∀ i m H, W i m H →
      ((Itt K a).stop i H ∧ Qd H) ∨ ((Itt K a).go i H ∧ ∃ Nx : Hp → Prop, (∀ H', Nx H' → ∃ m', m' < m ∧ W (i + 1) m' H') ∧ ∀ x H', (Itt K a).yld i H x H' → g x (wipe σ vs) H' fun σ2 H2 => wipe σ2 vs = wipe σ vs ∧ tt σ2 H2 fun b H3 =>
        if b = true then te σ2 H3 fun y H4 => ∃ acc, H4 D = some (.lst acc) ∧ acc.length < sizeLine ∧ Nx (L2.upd H4 D (.lst (acc ++ [y]))) else Nx H3) := by
  refine lc_tup (xs := xs) (LcInv G f H1 D es) ⟨[], upd_same, Nat.le_refl _, .nil, .start⟩ (fun i H _ ⟨ys, _, _, _, h4⟩ => .inl (.inl (h4.new hD _ _ hl))) (fun i x H hx h => lc_turn st h1000 pa step hx h) ?_
  rintro H ⟨ys, h1, _, h3, h4⟩
  rw [PySem.Paired.length pa, List.take_length] at h3
  exact fin ys H h1 h3 h4
end
end L2.Gd
end

section
set_option Elab.async false
set_option linter.all false
set_option maxRecDepth 100000
set_option maxHeartbeats 2000000
/-! [f(i) for i in range(..)] -/
namespace L2.Gd
open PySem PySem.Spec PyProof.Rows
def rgI (lo : Int) (n : Nat) : List Int := (List.range n).map fun i : Nat => lo + (i : Int)
theorem rgI_len (lo : Int) (n : Nat) : (rgI lo n).length = n := by unfold rgI; rw [List.length_map, List.length_range]
theorem paired_int : ∀ ns : List Int, Paired (fun v e => v = V.int e) (ns.map V.int) ns
  | [] => .nil
  | n :: r => .cons rfl (paired_int r)
section
variable {β : Type} {lo : Int} {n : Nat} {g : TG} {tt : TT} {te : TE} {vs : List Nat} {σ : L2.St} {H1 : Hp} {D : Addr} {Qd : Hp → Prop} {G : Hp → V → β → Prop} {f : Int → Option β}
theorem lc_mapR (st : Stab G D) (h1000 : n ≤ 1000) (step : StepOk (fun _ v e => v = V.int e) G f g tt te vs σ H1 D (rgI lo n))
    (fin : ∀ ys H, H D = some (.lst ys) → Paired (G H) ys ((rgI lo n).filterMap f) → ButD D H1 H → Qd H) :
    ∃ W : Nat → Nat → Hp → Prop, (∃ m, W 0 m (L2.upd H1 D (.lst []))) ∧ ∀ i m H, W i m H →
      ((Itr lo n).stop i H ∧ Qd H) ∨ ((Itr lo n).go i H ∧ ∃ Nx : Hp → Prop, (∀ H', Nx H' → ∃ m', m' < m ∧ W (i + 1) m' H') ∧ ∀ x H', (Itr lo n).yld i H x H' → g x (wipe σ vs) H' fun σ2 H2 => wipe σ2 vs = wipe σ vs ∧ tt σ2 H2 fun b H3 =>
        if b = true then te σ2 H3 fun y H4 => ∃ acc, H4 D = some (.lst acc) ∧ acc.length < sizeLine ∧ Nx (L2.upd H4 D (.lst (acc ++ [y]))) else Nx H3) := by
  have pa := paired_int (rgI lo n)
  have len : ((rgI lo n).map V.int).length = n := by rw [List.length_map, rgI_len]
  refine lc_range (LcInv G f H1 D (rgI lo n)) ⟨[], upd_same, Nat.le_refl _, .nil, .start⟩ (fun i H hi h => ?_) ?_
  · refine lc_turn (xs := (rgI lo n).map V.int) (F := fun _ v e => v = V.int e) st (by rw [len]; exact h1000) pa step (i := i) (x := .int (lo + i)) ?_ h
    unfold rgI
    rw [List.getElem?_map, List.getElem?_map, List.getElem?_range hi]
    rfl
  · rintro H ⟨ys, h1, _, h3, h4⟩
    rw [List.take_of_length_le (Nat.le_of_eq (rgI_len lo n))] at h3
    exact fin ys H h1 h3 h4
end
end L2.Gd
end

section
set_option Elab.async false
set_option linter.all false
set_option maxRecDepth 100000
set_option maxHeartbeats 2000000
/-! repr of data of any kind -/
namespace L2.Gd
open PySem PySem.Spec PyProof.Rows
section
variable {X : Cx}
theorem call_reprAny (hg : X.A.guards = some []) (hu : X.A.units + 64 < cLine) :
    CallR X (.builtin "repr") (fun xs H Q => ∃ x d, xs = [x] ∧ Dp X.K H x d ∧ Showy d ∧ Q (.str d.shown) H) := by
  rintro pins s σ H xs us Q I r ⟨x, d, rfl, hd, sh, q⟩
  obtain ⟨u, rfl, ru⟩ := vals1 r
  cases hd with
  | non =>
    obtain rfl := ru
    exact PySem.P.repr_of_none ⟨.str _, H, I.tok _, ⟨_, rfl⟩, q⟩
  | bl b =>
    obtain rfl := ru
    refine PySem.P.repr_of_bool ⟨.str _, H, I.tok _, ⟨_, rfl⟩, ?_⟩
    cases b <;> exact q
  | int i =>
    obtain ⟨t, rfl⟩ := ru
    have hz : i.natAbs.log2 < 1920 := by
      have := sh.1
      simpa only [PyData.showable, decide_eq_true_eq] using this
    exact PySem.P.repr_of_int hz ⟨.str _, H, I.tok _, ⟨_, rfl⟩, q⟩
  | str z =>
    obtain ⟨t, rfl⟩ := ru
    have hz := sh.2.2.2
    exact PySem.P.repr_of_str ⟨.str _, H, I.tok _, ⟨_, rfl⟩, q⟩ (by simpa only [PyData.shown] using hz)
  | lst h t => exact call_reprD hg hu pins s σ H _ _ Q I (.cons ru .nil) ⟨_, _, rfl, .lst h t, sh, q⟩
  | tup h t => exact call_reprD hg hu pins s σ H _ _ Q I (.cons ru .nil) ⟨_, _, rfl, .tup h t, sh, q⟩
end
end L2.Gd
namespace L2.Gd
open PySem PySem.Spec PyProof.Rows
/-- a dict of ints by ints -/
def dI (ps : List (Int × Int)) : List (Key × V) := ps.map fun p => (.inl p.1, .int p.2)
def dP (ps : List (Int × Int)) : PyData := .dict (ps.map fun p => (.int p.1, .int p.2))
theorem reads_ints {h : Heap} {P : Program} {w : World} : ∀ (ps : List (Int × Int)) (es : List DictEntry) (vs : List (Key × Value)), KV (dI ps) vs → Pairs (mixKind P w) es vs →
    ReadsAll h (es.map (·.key)) (ps.map fun p => PyData.int p.1) [] ∧ ReadsAll h (es.map (·.val)) (ps.map fun p => PyData.int p.2) []
  | [], es, vs, kv, pr => by
    cases kv
    cases pr
    exact ⟨.nil, .nil⟩
  | p :: ps, es, vs, kv, pr => by
    cases kv with
    | cons k1 k2 =>
      cases pr with
      | cons e1 e2 e3 =>
        obtain ⟨ke, kr⟩ := k1
        obtain ⟨a, b⟩ := reads_ints (h := h) ps _ _ k2 e3
        obtain ⟨t, ev⟩ := kr
        have e1' : keyIs _ _ = true := e1
        rw [← ke] at e1'
        rcases keyIs_shape e1' with ⟨i, u, h1, h2⟩ | ⟨x, u, h1, h2⟩
        · cases h1
          refine ⟨?_, ?_⟩
          · rw [List.map_cons, List.map_cons, h2]
            exact ReadsAll.cons (as := []) (bs := []) (.int _ _) a
          · rw [List.map_cons, List.map_cons, e2, ev]
            exact ReadsAll.cons (as := []) (bs := []) (.int _ _) b
        · exact nomatch h1
section
variable {X : Cx}
/-- repr of such -/
theorem call_reprDI (hg : X.A.guards = some []) (hu : X.A.units + 64 < cLine) :
    CallR X (.builtin "repr") (fun xs H Q => ∃ a ps, xs = [.ref a] ∧ H a = some (.dK (dI ps)) ∧ (dP ps).showable = true ∧ (dP ps).depth ≤ 20 ∧ (dP ps).shown.length ≤ sizeLine ∧ Q (.str (dP ps).shown) H) := by
  rintro pins s σ H xs us Q I r ⟨a, ps, rfl, ha, h1, h2, h3, q⟩
  rw [Vals.ref1 r]
  obtain ⟨hz, ns, vs, kv, o, es, ep, ho, ex, hd, _, prs, _⟩ := (show ObjOk X.prog X.w H s.heap a (.dK (dI ps)) from I.hok a _ ha)
  obtain ⟨r1, r2⟩ := reads_ints (h := s.heap) ps _ _ kv prs
  have rd : Reads s.heap (.ref a) (dP ps) (a :: [] ++ []) := .dict ho ex.1 hd (by rw [List.map_map]; exact r1) (by rw [List.map_map]; exact r2)
  refine repr_of_reads' rd h1 (fun _ hm => ?_) hg (by omega) (fun _ _ q => q) ?_ h3
  · have e : sysModules = a := by simpa using hm
    rw [e] at ns
    simp at ns
  · intro h' u tk k
    exact ⟨.str _, H, I.kept k, ⟨_, rfl⟩, q⟩
end
end L2.Gd
end

section
set_option Elab.async false
set_option linter.all false
set_option maxRecDepth 100000
set_option maxHeartbeats 2000000
/-! a comprehension by an invariant, whatever is walked -/
namespace L2.Gd
open PySem PySem.Spec PyProof.Rows
theorem lc_gen {J : It} {n : Nat} {g : TG} {tt : TT} {te : TE} {vs : List Nat} {σ : L2.St} {H1 : Hp} {D : Addr} {Qd : Hp → Prop} (Iv : Nat → Hp → Prop) (h0 : Iv 0 (L2.upd H1 D (.lst []))) (hd : ∀ H, Iv n H → J.stop n H ∧ Qd H)
    (hs : ∀ i H, i < n → Iv i H → J.go i H ∧ ∀ x H', J.yld i H x H' → g x (wipe σ vs) H' fun σ2 H2 => wipe σ2 vs = wipe σ vs ∧ tt σ2 H2 fun b H3 =>
      if b = true then te σ2 H3 fun y H4 => ∃ acc, H4 D = some (.lst acc) ∧ acc.length < sizeLine ∧ Iv (i + 1) (L2.upd H4 D (.lst (acc ++ [y]))) else Iv (i + 1) H3) :
    ∃ W : Nat → Nat → Hp → Prop, (∃ m, W 0 m (L2.upd H1 D (.lst []))) ∧ ∀ i m H, W i m H →
      (J.stop i H ∧ Qd H) ∨ (J.go i H ∧ ∃ Nx : Hp → Prop, (∀ H', Nx H' → ∃ m', m' < m ∧ W (i + 1) m' H') ∧ ∀ x H', J.yld i H x H' → g x (wipe σ vs) H' fun σ2 H2 => wipe σ2 vs = wipe σ vs ∧ tt σ2 H2 fun b H3 =>
        if b = true then te σ2 H3 fun y H4 => ∃ acc, H4 D = some (.lst acc) ∧ acc.length < sizeLine ∧ Nx (L2.upd H4 D (.lst (acc ++ [y]))) else Nx H3) := by
  refine ⟨fun i m H => m = n - i ∧ i ≤ n ∧ Iv i H, ⟨n, by simp, Nat.zero_le _, h0⟩, ?_⟩
  rintro i m H ⟨rfl, hi, hp⟩
  by_cases e : i < n
  · obtain ⟨go, k⟩ := hs i H e hp
    exact .inr ⟨go, Iv (i + 1), fun H' q => ⟨n - (i + 1), by omega, rfl, e, q⟩, k⟩
  · obtain rfl : i = n := by omega
    exact .inl (hd H hp)
/-! ### [f(i) for i in range(..)], long ones -/
section
variable {β : Type} {lo : Int} {n : Nat} {g : TG} {tt : TT} {te : TE} {vs : List Nat} {σ : L2.St} {H1 : Hp} {D : Addr} {Qd : Hp → Prop} {G : Hp → V → β → Prop} {f : Int → Option β}
theorem lc_mapRL (st : Stab G D) (hn : n ≤ 1000000) (step : StepOk (fun _ v e => v = V.int e) G f g tt te vs σ H1 D (rgI lo n))
    (fin : ∀ ys H, H D = some (.lst ys) → Paired (G H) ys ((rgI lo n).filterMap f) → ButD D H1 H → Qd H) :
    ∃ W : Nat → Nat → Hp → Prop, (∃ m, W 0 m (L2.upd H1 D (.lst []))) ∧ ∀ i m H, W i m H →
      ((Itr lo n).stop i H ∧ Qd H) ∨ ((Itr lo n).go i H ∧ ∃ Nx : Hp → Prop, (∀ H', Nx H' → ∃ m', m' < m ∧ W (i + 1) m' H') ∧ ∀ x H', (Itr lo n).yld i H x H' → g x (wipe σ vs) H' fun σ2 H2 => wipe σ2 vs = wipe σ vs ∧ tt σ2 H2 fun b H3 =>
        if b = true then te σ2 H3 fun y H4 => ∃ acc, H4 D = some (.lst acc) ∧ acc.length < sizeLine ∧ Nx (L2.upd H4 D (.lst (acc ++ [y]))) else Nx H3) := by
  refine lc_range (LcInv G f H1 D (rgI lo n)) ⟨[], upd_same, Nat.le_refl _, .nil, .start⟩ (fun i H hi h => ?_) ?_
  · obtain ⟨ys, h1, h2, h3, h4⟩ := h
    have he : (rgI lo n)[i]? = some (lo + (i : Int)) := by
      unfold rgI
      rw [List.getElem?_map, List.getElem?_range hi]
      rfl
    refine step (.int (lo + i)) (lo + i) H _ _ (List.mem_of_getElem? he) rfl h4 ⟨ys, h1⟩ (fun b y H4 hf s hg => ?_) (fun H3 hf s => ?_)
    · refine ⟨ys, s _ _ h1, by rw [sizeLine_eq]; omega, ys ++ [y], upd_same, by simp; omega, ?_, (h4.more s).put⟩
      rw [filt_take f he, hf]
      have bt : ButD D H4 (L2.upd H4 D (.lst (ys ++ [y]))) := ButD.start
      have hd : ∃ zs, H4 D = some (.lst zs) := ⟨ys, s _ _ h1⟩
      have o1 : Paired (G (L2.upd H4 D (.lst (ys ++ [y])))) ys (((rgI lo n).take i).filterMap f) := Paired.mapP h3 fun u v q => st _ _ _ _ (show ButD D H _ from fun c o ne z => bt c o ne (s _ _ z)) ⟨ys, h1⟩ q
      exact PySem.Paired.snoc o1 (st _ _ _ _ bt hd hg)
    · refine ⟨ys, s _ _ h1, by omega, ?_, h4.more s⟩
      rw [filt_take f he, hf]
      simp only [Option.toList, List.append_nil]
      exact Paired.mapP h3 fun u v q => st _ _ _ _ (fun c o _ z => s _ _ z) ⟨ys, h1⟩ q
  · rintro H ⟨ys, h1, _, h3, h4⟩
    rw [List.take_of_length_le (Nat.le_of_eq (rgI_len lo n))] at h3
    exact fin ys H h1 h3 h4
end
end L2.Gd
end

section
set_option Elab.async false
set_option linter.all false
set_option maxRecDepth 100000
set_option maxHeartbeats 2000000
namespace L2.K22
open PySem PySem.Spec PyProof.Rows
def top (i : Nat) : Stmt := PySem.Challenge.pw_lonetill_k22_any_value_as_going.main.body.getD i (.Pass ⟨0, 0, 0, 0⟩)
abbrev sIsInt : Stmt := top 2
abbrev sIsCount : Stmt := top 3
abbrev sIsList : Stmt := top 4
abbrev sIsDeed : Stmt := top 32
abbrev sCheck : Stmt := top 33
abbrev cHouse (i : Nat) : Stmt := inClass (top 34) i

/-- built-in names that the module leaves alone -/
structure Nm (mg : Str → Option Value) : Prop where
  isi : mg "isinstance" = none
  int : mg "int" = none
  bool : mg "bool" = none
  list : mg "list" = none
  tuple : mg "tuple" = none
  str : mg "str" = none
  len : mg "len" = none
  all : mg "all" = none
  any : mg "any" = none
  enumerate : mg "enumerate" = none
  range : mg "range" = none
  sorted : mg "sorted" = none
  abs : mg "abs" = none
  max : mg "max" = none
  min : mg "min" = none
  repr : mg "repr" = none
  divmod : mg "divmod" = none
  ni : mg "NotImplemented" = none

/-! ### deeds -/
structure Dd where
  p : Int
  c : Int
  g : Int
  w : Str
  deriving DecidableEq
def Dd.vs (x : Dd) : List V := [.int x.p, .int x.c, .int x.g, .str x.w]
def Dd.d (x : Dd) : PyData := .tuple [.int x.p, .int x.c, .int x.g, .str x.w]
structure Dd.Ok (n : Int) (x : Dd) : Prop where
  p0 : 0 ≤ x.p
  pn : x.p < n
  g0 : 0 ≤ x.g
  gn : x.g < n
  w : (x.w = "any" ∧ -1 ≤ x.c ∧ x.c ≤ 1) ∨ (x.w = "empty" ∧ 0 ≤ x.c ∧ x.c ≤ 1)
def DdAt (H : Hp) (v : V) (x : Dd) : Prop := ∃ t, v = .ref t ∧ H t = some (.tup x.vs)

section
variable {P : Program} {w : World} {K : PySem.W.Frag} {mg : Str → Option Value} {base : Heap}

/-- what isinstance(x, T) asks, T a built-in type -/
theorem isi_mk {H : Hp} {v : V} {t T : String} {b : Bool} {Q : VK} (h : TyX K H v (.type t)) (e : kitB t T = some b) (q : Q (.bl b) H) :
    rIsi K [v, .ty T] H Q := ⟨_, _, _, _, b, rfl, .ty _, h, kit_ty e, q⟩
def tIsi (K : PySem.W.Frag) (te : TE) (T : String) : TE := fun σ H Q => te σ H fun v H1 => rIsi K [v, .ty T] H1 Q
theorem blT {p : Prop} [Decidable p] {Q : VK} {H : Hp} (h : p) (k : Q (.bl true) H) : Q (.bl (decide p)) H := by
  rw [decide_eq_true h]
  exact k
theorem blF {p : Prop} [Decidable p] {Q : VK} {H : Hp} (h : ¬ p) (k : Q (.bl false) H) : Q (.bl (decide p)) H := by
  rw [decide_eq_false h]
  exact k
theorem blNT {p : Prop} [Decidable p] {Q : VK} {H : Hp} (h : ¬ p) (k : Q (.bl true) H) : Q (.bl (!decide p)) H := by
  rw [decide_eq_false h]
  exact k
theorem blNF {p : Prop} [Decidable p] {Q : VK} {H : Hp} (h : p) (k : Q (.bl false) H) : Q (.bl (!decide p)) H := by
  rw [decide_eq_true h]
  exact k
section
variable {X : Cx} {e : Expr} {te : TE} {p q pos : Pos}
theorem pe_isInt (n : Nm X.mg) (he : PE X e te) (g1 : Gl X "isinstance" := by rfl) (g2 : Gl X "int" := by rfl)
    (s1 : starEach [e, .Name "int" q] X.env = (false, eval e X.env) :: starEach [.Name "int" q] X.env := by rfl)
    (s2 : starEach [.Name "int" q] X.env = (false, eval (.Name "int" q) X.env) :: starEach [] X.env := by rfl)
    (hpl : (backTo pos (starEach [.Name "int" q] X.env)).any (·.1) = false := by rfl) :
    PE X (.Call (.Name "isinstance" p) [e, .Name "int" q] [] pos) (tIsi X.K te "int") :=
  pe_callB call_isi g1 n.isi (by decide +kernel) (pa_cons he (pa_cons (pe_bltn (v := .ty "int") g2 n.int (by decide +kernel) rfl) pa_nil s2) s1) (he := s1) (hpl := hpl)
theorem pe_isBool (n : Nm X.mg) (he : PE X e te) (g1 : Gl X "isinstance" := by rfl) (g2 : Gl X "bool" := by rfl)
    (s1 : starEach [e, .Name "bool" q] X.env = (false, eval e X.env) :: starEach [.Name "bool" q] X.env := by rfl)
    (s2 : starEach [.Name "bool" q] X.env = (false, eval (.Name "bool" q) X.env) :: starEach [] X.env := by rfl)
    (hpl : (backTo pos (starEach [.Name "bool" q] X.env)).any (·.1) = false := by rfl) :
    PE X (.Call (.Name "isinstance" p) [e, .Name "bool" q] [] pos) (tIsi X.K te "bool") :=
  pe_callB call_isi g1 n.isi (by decide +kernel) (pa_cons he (pa_cons (pe_bltn (v := .ty "bool") g2 n.bool (by decide +kernel) rfl) pa_nil s2) s1) (he := s1) (hpl := hpl)
theorem pe_isTuple (n : Nm X.mg) (he : PE X e te) (g1 : Gl X "isinstance" := by rfl) (g2 : Gl X "tuple" := by rfl)
    (s1 : starEach [e, .Name "tuple" q] X.env = (false, eval e X.env) :: starEach [.Name "tuple" q] X.env := by rfl)
    (s2 : starEach [.Name "tuple" q] X.env = (false, eval (.Name "tuple" q) X.env) :: starEach [] X.env := by rfl)
    (hpl : (backTo pos (starEach [.Name "tuple" q] X.env)).any (·.1) = false := by rfl) :
    PE X (.Call (.Name "isinstance" p) [e, .Name "tuple" q] [] pos) (tIsi X.K te "tuple") :=
  pe_callB call_isi g1 n.isi (by decide +kernel) (pa_cons he (pa_cons (pe_bltn (v := .ty "tuple") g2 n.tuple (by decide +kernel) rfl) pa_nil s2) s1) (he := s1) (hpl := hpl)
theorem pe_isStr (n : Nm X.mg) (he : PE X e te) (g1 : Gl X "isinstance" := by rfl) (g2 : Gl X "str" := by rfl)
    (s1 : starEach [e, .Name "str" q] X.env = (false, eval e X.env) :: starEach [.Name "str" q] X.env := by rfl)
    (s2 : starEach [.Name "str" q] X.env = (false, eval (.Name "str" q) X.env) :: starEach [] X.env := by rfl)
    (hpl : (backTo pos (starEach [.Name "str" q] X.env)).any (·.1) = false := by rfl) :
    PE X (.Call (.Name "isinstance" p) [e, .Name "str" q] [] pos) (tIsi X.K te "str") :=
  pe_callB call_isi g1 n.isi (by decide +kernel) (pa_cons he (pa_cons (pe_bltn (v := .ty "str") g2 n.str (by decide +kernel) rfl) pa_nil s2) s1) (he := s1) (hpl := hpl)
end

theorem yes_ite {σ : L2.St} {H : Hp} {A B : Hp → Prop} (h : A H) : tYes σ H (fun b H3 => if b = true then A H3 else B H3) := by
  show if true = true then A H else B H
  exact iteT h
def spIsInt : Sp := fun vs H Q _ => ∃ i, vs = [.int i] ∧ Q (.bl true) H
theorem scI : FnScope ["value"] ["value"] (defScope sIsInt) := ⟨rfl, rfl, rfl, by decide +kernel, rfl, by decide +kernel, by decide +kernel⟩
theorem ok_isInt {f : Addr} {fd : FuncData} (F : Fun K "is_integer" "is_integer" sIsInt f fd) (n : Nm mg) : FnOk P w K mg base CX0 1 f fd ["value"] spIsInt := by
  refine F.ok scI (fun vs H Q E h => ?_) (fun cdv A outer s H vs Q E hr h => ?_)
  · obtain ⟨i, rfl, _⟩ := h
    rfl
  · obtain ⟨i, rfl, k⟩ := h
    refine ⟨_, pss_one (ps_ret (pe_and (pe_isInt n (pv 0)) (pe_one (pe_not (pe_isBool n (pv 0)))))), ?_⟩
    refine ⟨_, rfl, isi_mk (t := "int") (b := true) (.base (.int _)) (by decide +kernel) ⟨true, rfl, iteT ?_⟩⟩
    exact ⟨_, rfl, isi_mk (t := "int") (b := false) (.base (.int _)) (by decide +kernel) ⟨false, rfl, k⟩⟩

/-- a def called by its name: what a caller needs of it -/
structure Fn (P : Program) (w : World) (K : PySem.W.Frag) (mg : Str → Option Value) (base : Heap) (k : Nat) (x : Str) (ps : List Str) (sp : Sp) : Prop where
  ex : ∃ f fd, mg x = some (.ref f) ∧ PySem.W.keepIn K (.ref f) = true ∧ Binds K fd ps [] ∧ FnOk P w K mg base CX0 k f fd ps sp
theorem pe_fn {X : Cx} {k : Nat} {x : Str} {ps : List Str} {sp : Sp} {e : Expr} {es : List Expr} {t : TA} {p pos : Pos}
    (F : Fn X.prog X.w X.K X.mg X.base k x ps sp) (hr : Room k X.A) (ha : PA X (e :: es) t) (gl : Gl X x := by rfl) (hdb : (x == ("__debug__" : Str)) = false := by decide)
    (he : starEach (e :: es) X.env = (false, eval e X.env) :: starEach es X.env := by rfl)
    (hpl : (backTo pos (starEach es X.env)).any (·.1) = false := by rfl) :
    PE X (.Call (.Name x p) (e :: es) [] pos) (tCall sp [] E0 t) := by
  obtain ⟨f, fd, m, kp, b, G⟩ := F.ex
  exact pe_call G hr gl m kp b .nil pass0 ha hdb he hpl

def spIsCount : Sp := fun vs H Q _ => ∃ i, vs = [.int i] ∧ 0 ≤ i ∧ Q (.bl true) H
theorem scC : FnScope ["value"] ["value"] (defScope sIsCount) := ⟨rfl, rfl, rfl, by decide +kernel, rfl, by decide +kernel, by decide +kernel⟩
theorem ok_isCount {f : Addr} {fd : FuncData} (F : Fun K "is_count" "is_count" sIsCount f fd) (G : Fn P w K mg base 1 "is_integer" ["value"] spIsInt) : FnOk P w K mg base CX0 2 f fd ["value"] spIsCount := by
  refine F.ok scC (fun vs H Q E h => ?_) (fun cdv A outer s H vs Q E hr h => ?_)
  · obtain ⟨i, rfl, _⟩ := h
    rfl
  · obtain ⟨i, rfl, h0, k⟩ := h
    refine ⟨_, pss_one (ps_ret (pe_and (pe_fn G hr (pa_cons (pv 0) pa_nil)) (pe_one (pe_cmpR op_ge (pv 0) pe_int (nomark _))))), ?_⟩
    refine ⟨_, rfl, _, rfl, true, rfl, iteT ?_⟩
    refine ⟨_, rfl, _, _, rfl, rfl, ?_⟩
    exact blT (Q := Q) h0 k

theorem same_upd {H : Hp} {p : Addr} {o : HO} (h : H p = none) : Same H (upd H p o) := fun a u e => by
  rw [upd_ne (ne_of_none e h)]
  exact e
/-- a list or a tuple of these -/
def Seq (K : PySem.W.Frag) (H : Hp) (a : Addr) (xs : List V) : Prop := H a = some (.lst xs) ∨ H a = some (.tup xs)
def spIsList (K : PySem.W.Frag) : Sp := fun vs H Q _ => ∃ a xs, vs = [.ref a] ∧ Seq K H a xs ∧ ∀ H', Same H H' → Q (.bl true) H'
theorem scL : FnScope ["value"] ["value"] (defScope sIsList) := ⟨rfl, rfl, rfl, by decide +kernel, rfl, by decide +kernel, by decide +kernel⟩
theorem ok_isList {f : Addr} {fd : FuncData} (F : Fun K "is_list" "is_list" sIsList f fd) (n : Nm mg) : FnOk P w K mg base CX0 1 f fd ["value"] (spIsList K) := by
  refine F.ok scL (fun vs H Q E h => ?_) (fun cdv A outer s H vs Q E hr h => ?_)
  · obtain ⟨i, _, rfl, _⟩ := h
    rfl
  · obtain ⟨a, xs, rfl, hs, k⟩ := h
    refine ⟨_, pss_one (ps_ret (pe_callB call_isiT (by rfl) n.isi (by decide +kernel) (pa_cons (pv 0) (pa_cons (pe_tup (pa_cons (pe_bltn (v := .ty "list") (by rfl) n.list (by decide +kernel) rfl) (pa_cons (pe_bltn (v := .ty "tuple") (by rfl) n.tuple (by decide +kernel) rfl) pa_nil))) pa_nil)))), ?_⟩
    refine ⟨_, rfl, (by show 2 ≤ sizeLine; decide), fun p hp => ?_⟩
    have cs : Paired ClsV [V.ty "list", V.ty "tuple"] [Value.type "list", Value.type "tuple"] := .cons (.ty _) (.cons (.ty _) .nil)
    rcases hs with hs | hs
    · refine ⟨_, p, _, _, _, true, rfl, upd_same, cs, .base (.lst (by rw [upd_ne (ne_of_none hs hp)]; exact hs)), ?_, k _ (same_upd hp)⟩
      exact kitAny_cons (kit_ty (b := "list") (r := true) (by decide +kernel)) (fun z => nomatch z) (fun _ => rfl)
    · refine ⟨_, p, _, _, _, true, rfl, upd_same, cs, .base (.tup (by rw [upd_ne (ne_of_none hs hp)]; exact hs)), ?_, k _ (same_upd hp)⟩
      exact kitAny_cons (kit_ty (b := "list") (r := false) (by decide +kernel)) (fun _ => kitAny_cons (kit_ty (b := "tuple") (r := true) (by decide +kernel)) (fun z => nomatch z) (fun _ => rfl)) (fun z => nomatch z)

/-! ### is_deed: asked of deeds alone -/
def spIsDeed : Sp := fun vs H Q _ => ∃ (t : Addr) (x : Dd) (n : Int), vs = [.ref t, .int n] ∧ H t = some (.tup x.vs) ∧ x.Ok n ∧ ∀ H', Same H H' → Q (.bl true) H'
theorem scD : FnScope ["value", "places", "place", "change", "goal", "when", "end"] ["value", "places"] (defScope sIsDeed) := ⟨rfl, rfl, rfl, by decide +kernel, rfl, by decide +kernel, by decide +kernel⟩
theorem ok_isDeed {f : Addr} {fd : FuncData} (F : Fun K "is_deed" "is_deed" sIsDeed f fd) (n : Nm mg)
    (GI : Fn P w K mg base 1 "is_integer" ["value"] spIsInt) (GC : Fn P w K mg base 2 "is_count" ["value"] spIsCount) :
    FnOk P w K mg base CX0 3 f fd ["value", "places"] spIsDeed := by
  refine F.ok scD (fun vs H Q E h => ?_) (fun cdv A outer s H vs Q E hr h => ?_)
  · obtain ⟨t, x, m, rfl, _⟩ := h
    rfl
  · obtain ⟨t, x, m, rfl, ht, ok, k⟩ := h
    have nd := scD.nd
    refine ⟨_, pss_cons (ps_if (pw_or (pt_not (pt_val (pe_isTuple n (pv 0))))
          (pw_or1 (pt_cmpR op_ne (pe_callB call_len_seq (by rfl) n.len PySem.boot_len (pa_cons (pv 0) pa_nil)) pe_int (nomark _)))).pt pss_never pss_nil)
      (pss_cons (ps_asg (pv 0) (pg_tup rfl (pgs_cons (pg_name (i := 2) nd rfl (.inl rfl)) (pgs_cons (pg_name (i := 3) nd rfl (.inl rfl)) (pgs_cons (pg_name (i := 4) nd rfl (.inl rfl)) (pgs_cons (pg_name (i := 5) nd rfl (.inl rfl)) pgs_nil))))))
      (pss_cons (ps_if (pt_not (pt_val (pe_callB (cr_all rfl) (by rfl) n.all (by decide +kernel) (pa_cons
          (pe_lc (own := [("end", 6)]) (g := gName 6) (tt := tYes) rfl nd (pi_tup (pe_tup (pa_cons (pv 2) (pa_cons (pv 4) pa_nil)))) (blkOk_by (N := ["value", "places", "place", "change", "goal", "when", "end"]) (sc := defScope sIsDeed) (by decide +kernel))
            (fun _ _ _ _ _ => pg_name (i := 6) nd rfl (.inl rfl)) (fun _ _ _ _ _ => pts_nil)
            (fun _ _ _ _ _ => pe_and (pe_fn GC hr (pa_cons (pv 6) pa_nil)) (pe_one (pe_cmpR op_lt (pv 6) (pv 1) (nomark _))))) pa_nil)))) pss_never pss_nil)
      (pss_cons (ps_if (pw_or (pt_not (pt_val (pe_fn GI (hr.mono (by decide)) (pa_cons (pv 3) pa_nil)))) (pw_or1 (pt_not (pt_val (pe_isStr n (pv 5)))))).pt pss_never pss_nil)
      (pss_one (ps_ret (pe_or (pe_and (pe_cmpR op_eq (pv 5) pe_str (nomark _)) (pe_one (pe_chain op_le op_le (pe_un un_neg pe_int) (pv 3) pe_int)))
        (pe_one (pe_and (pe_cmpR op_eq (pv 5) pe_str (nomark _)) (pe_one (pe_chain op_le op_le pe_int (pv 3) pe_int))))))))) ), ?_⟩
    -- the first test: a tuple, of four
    refine ⟨_, rfl, isi_mk (t := "tuple") (b := true) (.base (.tup ht)) (by decide +kernel) ⟨true, rfl, iteF ?_⟩⟩
    refine ⟨_, rfl, t, x.vs, rfl, .inr (.inl (.inl ht)), rfl, false, rfl, iteF ?_⟩
    refine ⟨_, rfl, t, x.vs, rfl, .inl (.inl ht), rfl, _, _, rfl, _, _, rfl, _, _, rfl, _, _, rfl, rfl, ?_⟩
    -- all([is_count(end) and end < places for end in (place, goal)])
    refine ⟨_, rfl, _, rfl, (by show 2 ≤ sizeLine; decide), fun q hq => ⟨q, rfl, ⟨_, .inl (.inl upd_same)⟩, fun D hD => ?_⟩⟩
    have s1 := same_upd (o := .tup [V.int x.p, V.int x.g]) hq
    have nqD : q ≠ D := ne_of_none upd_same hD
    refine lc_tup (xs := [V.int x.p, V.int x.g]) (fun i H' => H' D = some (.lst (List.replicate i (.bl true))) ∧ ∀ b o, b ≠ D → upd H q (.tup [V.int x.p, V.int x.g]) b = some o → H' b = some o) ⟨upd_same, fun b o hb e => by rw [upd_ne hb]; exact e⟩ (fun i H' _ hI => .inl (.inl (hI.2 _ _ nqD upd_same))) ?_ ?_
    · intro i y H' hi hI
      have hy : ∃ z, y = V.int z ∧ 0 ≤ z ∧ z < m := by
        match i, hi with
        | 0, hi => cases hi; exact ⟨_, rfl, ok.p0, ok.pn⟩
        | 1, hi => cases hi; exact ⟨_, rfl, ok.g0, ok.gn⟩
      obtain ⟨z, rfl, z0, zn⟩ := hy
      refine ⟨rfl, yes_ite ?_⟩
      refine ⟨_, rfl, _, rfl, z0, true, rfl, iteT ?_⟩
      refine ⟨_, rfl, _, rfl, _, _, rfl, rfl, ?_⟩
      have hl : i < 2 := (List.getElem?_eq_some_iff.mp hi).1
      refine ⟨_, hI.1, (by rw [List.length_replicate]; exact small1000 (by omega)), ?_, fun b o hb e => by rw [upd_ne hb]; exact hI.2 b o hb e⟩
      rw [upd_same, List.replicate_succ']
      show some (HO.lst (List.replicate i (V.bl true) ++ [V.bl (decide (z < m))])) = _
      rw [decide_eq_true zn]
    · intro H' ⟨hD', hK'⟩
      have s2 : Same H H' := fun b o e => hK' b o (ne_of_none (s1 b o e) hD) (s1 b o e)
      have ht' : H' t = some (.tup x.vs) := s2 _ _ ht
      refine ⟨D, [true, true], rfl, .inl (.inl hD'), true, rfl, ?_⟩
      refine iteF ?_
      refine ⟨_, rfl, _, rfl, true, rfl, ?_⟩
      refine iteF ?_
      refine ⟨_, rfl, isi_mk (t := "str") (b := true) (.base (.str _)) (by decide +kernel) ⟨true, rfl, ?_⟩⟩
      refine iteF ?_
      have fin := k H' s2
      rcases ok.w with ⟨e, l, u⟩ | ⟨e, l, u⟩
      · refine ⟨_, rfl, rfl, true, congrArg V.bl (decide_eq_true (by rw [e])), ?_⟩
        refine iteT ?_
        refine ⟨1, rfl, _, rfl, _, _, rfl, rfl, true, congrArg V.bl (decide_eq_true l), ?_⟩
        refine iteT ?_
        refine ⟨_, _, rfl, rfl, true, congrArg V.bl (decide_eq_true u), ?_⟩
        exact iteT fin
      · have ne : ¬ V.str x.w = V.str "any" := by
          rw [e]
          decide +kernel
        refine ⟨_, rfl, rfl, false, congrArg V.bl (decide_eq_false ne), ?_⟩
        refine iteF ?_
        refine ⟨false, rfl, ?_⟩
        refine iteF ?_
        refine ⟨_, rfl, rfl, true, congrArg V.bl (decide_eq_true (by rw [e])), ?_⟩
        refine iteT ?_
        refine ⟨_, rfl, _, _, rfl, rfl, true, congrArg V.bl (decide_eq_true l), ?_⟩
        refine iteT ?_
        exact ⟨_, _, rfl, rfl, blT (Q := Q) u fin⟩
end
end L2.K22
end

section
set_option Elab.async false
set_option linter.all false
set_option maxRecDepth 100000
set_option maxHeartbeats 2000000
namespace L2.K22
open PySem PySem.Spec PyProof.Rows L2.Gd

/-! ### deeds as data -/
theorem DdAt.dp {K : PySem.W.Frag} {H : Hp} {v : V} {x : Dd} (h : DdAt H v x) : Dp K H v x.d := by
  obtain ⟨t, rfl, ht⟩ := h
  exact .tup (.inl (.inl ht)) (.cons (.int _) (.cons (.int _) (.cons (.int _) (.cons (.str _) .nil))))
abbrev DdAll (H : Hp) : List V → List Dd → Prop := Paired (DdAt H)
theorem DdAll.dps {K : PySem.W.Frag} {H : Hp} : ∀ {vs : List V} {ds : List Dd}, DdAll H vs ds → DpAll K H vs (ds.map Dd.d)
  | _, _, .nil => .nil
  | _, _, .cons h t => .cons (DdAt.dp h) (DdAll.dps t)
def Dd.Wd (x : Dd) : Prop := x.w = "any" ∨ x.w = "empty"
theorem Dd.Ok.wd {n : Int} {x : Dd} (h : x.Ok n) : x.Wd := h.w.elim (fun q => .inl q.1) (fun q => .inr q.1)
theorem Dd.lay {x : Dd} (h : x.Wd) : x.d.canLay0 = true := by
  have e : PyData.strOk x.w = true := by
    rcases h with e | e <;> (rw [e]; decide +kernel)
  simp [Dd.d, PyData.canLay0, PyData.canLayAll0, e]
theorem Dd.dep (x : Dd) : x.d.depth = 1 := by simp [Dd.d, PyData.depth, PyData.depthAll]
theorem lays : ∀ {ds : List Dd}, (∀ x ∈ ds, x.Wd) → PyData.canLayAll0 (ds.map Dd.d) = true
  | [], _ => by simp [PyData.canLayAll0]
  | x :: r, h => by simp [PyData.canLayAll0, Dd.lay (h x List.mem_cons_self), lays (ds := r) fun y hy => h y (List.mem_cons_of_mem _ hy)]
theorem deps : ∀ ds : List Dd, PyData.depthAll (ds.map Dd.d) ≤ 1
  | [] => by simp [PyData.depthAll]
  | x :: r => by
    have h1 := deps r
    have h2 := x.dep
    simp only [List.map_cons, PyData.depthAll]
    omega
theorem Dd.shaped {x : Dd} (hx : x.Wd) : SeqAt.shaped x.d = true := by
  have h := x.dep
  show (x.d.canLay0 && decide (x.d.depth ≤ 64)) = true
  rw [Dd.lay hx, decide_eq_true (by omega)]
  rfl
theorem shapedL {ds : List Dd} (hd : ∀ x ∈ ds, x.Wd) : SeqAt.shaped (.list (ds.map Dd.d)) = true := by
  have h := deps ds
  have h2 : PyData.depth (.list (ds.map Dd.d)) ≤ 64 := by
    simp only [PyData.depth]
    omega
  show (PyData.canLay0 (.list (ds.map Dd.d)) && decide (PyData.depth (.list (ds.map Dd.d)) ≤ 64)) = true
  rw [Bool.and_eq_true]
  exact ⟨by simp only [PyData.canLay0]; exact lays hd, decide_eq_true h2⟩
theorem shapedT {ds : List Dd} (hd : ∀ x ∈ ds, x.Wd) : SeqAt.shaped (.tuple (ds.map Dd.d)) = true := by
  have h := deps ds
  have h2 : PyData.depth (.tuple (ds.map Dd.d)) ≤ 64 := by
    simp only [PyData.depth]
    omega
  show (PyData.canLay0 (.tuple (ds.map Dd.d)) && decide (PyData.depth (.tuple (ds.map Dd.d)) ≤ 64)) = true
  rw [Bool.and_eq_true]
  exact ⟨by simp only [PyData.canLay0]; exact lays hd, decide_eq_true h2⟩
theorem Dd.eqv (x y : Dd) : PyData.eqv x.d y.d = decide (x = y) := by
  obtain ⟨p, c, g, w⟩ := x
  obtain ⟨p', c', g', w'⟩ := y
  have e : PyData.eqv (Dd.d ⟨p, c, g, w⟩) (Dd.d ⟨p', c', g', w'⟩) = ((p == p') && ((c == c') && ((g == g') && ((w == w') && true)))) := by
    simp only [Dd.d, PyData.eqv, PyData.eqvAll]
  rw [e, Bool.eq_iff_iff]
  simp
theorem eqvs : ∀ xs ys : List Dd, PyData.eqvAll (xs.map Dd.d) (ys.map Dd.d) = decide (xs = ys)
  | [], [] => by simp [PyData.eqvAll]
  | [], y :: ys => by simp [PyData.eqvAll]
  | x :: xs, [] => by simp [PyData.eqvAll]
  | x :: xs, y :: ys => by
    simp only [List.map_cons, PyData.eqvAll, x.eqv y, eqvs xs ys]
    rw [Bool.eq_iff_iff]
    simp
theorem any_in (x : Dd) (ds : List Dd) : (ds.map Dd.d).any (fun z => PyData.eqv z x.d) = decide (x ∈ ds) := by
  rw [List.any_map, Bool.eq_iff_iff, List.any_eq_true, decide_eq_true_eq]
  constructor
  · rintro ⟨y, hy, e⟩
    have e2 : PyData.eqv y.d x.d = true := e
    rw [y.eqv x, decide_eq_true_eq] at e2
    exact e2 ▸ hy
  · intro h
    refine ⟨x, h, ?_⟩
    show PyData.eqv x.d x.d = true
    rw [x.eqv x]
    simp
theorem DdAt.same {H H' : Hp} {v : V} {x : Dd} (s : Same H H') (h : DdAt H v x) : DdAt H' v x := let ⟨t, e, q⟩ := h; ⟨t, e, s _ _ q⟩
theorem DdAll.same {H H' : Hp} {vs : List V} {ds : List Dd} (s : Same H H') (h : DdAll H vs ds) : DdAll H' vs ds := Paired.mapP h fun _ _ q => q.same s

theorem cutV_take (xs : List V) {i : Nat} (h : i ≤ xs.length) : cutV xs none (some (i : Int)) = xs.take i := by
  have e0 : HT.sIx xs.length 0 none = 0 := by simp [HT.sIx]
  have e1 : HT.sIx xs.length xs.length (some (i : Int)) = i := by
    simp only [HT.sIx]
    split <;> omega
  unfold cutV
  rw [e0, e1, List.drop_zero, Nat.sub_zero]
theorem Paired.at {α β : Type} {R : α → β → Prop} : ∀ {xs : List α} {ys : List β} {i : Nat} {x : α}, Paired R xs ys → xs[i]? = some x → ∃ y, ys[i]? = some y ∧ R x y
  | _, _, _, _, .nil, e => by simp at e
  | _, _, 0, _, .cons r _, e => by simp at e; subst e; exact ⟨_, rfl, r⟩
  | _, _, i + 1, x, .cons _ t, e => by
    obtain ⟨u, h1, h2⟩ := Paired.at (i := i) (x := x) t (by simpa using e)
    exact ⟨u, by simpa using h1, h2⟩
theorem Paired.takeP {α β : Type} {R : α → β → Prop} : ∀ {xs : List α} {ys : List β} (n : Nat), Paired R xs ys → Paired R (xs.take n) (ys.take n)
  | _, _, 0, _ => .nil
  | _, _, _ + 1, .nil => .nil
  | _, _, n + 1, .cons r t => .cons r (Paired.takeP n t)
theorem not_ahead {α : Type} {l : List α} {i : Nat} {x : α} (nd : l.Nodup) (h : l[i]? = some x) : x ∉ l.take i := by
  intro hm
  obtain ⟨j, hj⟩ := List.mem_iff_getElem?.mp hm
  obtain ⟨lt, e⟩ := List.getElem?_eq_some_iff.mp hj
  rw [List.length_take] at lt
  have e2 : l[j]? = some x := by
    rw [List.getElem?_take_of_lt (by omega)] at hj
    exact hj
  obtain ⟨l1, q1⟩ := List.getElem?_eq_some_iff.mp h
  obtain ⟨l2, q2⟩ := List.getElem?_eq_some_iff.mp e2
  exact (List.pairwise_iff_getElem.mp nd) j i l2 l1 (by omega) (q2.trans q1.symm)
theorem hu65 {k : Nat} {A : Around} (hr : Room k A) : A.units + 65 < cLine := by
  have := hr.un
  omega
/-- a for by an invariant, whatever is walked -/
theorem loop_of {J : It} {n : Nat} {g : TG} {tb : TS} {D : Ends} {σ : L2.St} {H : Hp} (Pv : Nat → L2.St → Hp → Prop) (h0 : Pv 0 σ H)
    (hd : ∀ σ H, Pv n σ H → J.stop n H ∧ D.nx σ H)
    (hs : ∀ i σ H, i < n → Pv i σ H → J.go i H ∧ ∀ x H', J.yld i H x H' → g x σ H' fun σ2 H2 => tb { D with nx := Pv (i + 1), ct := Pv (i + 1), bk := D.nx } σ2 H2) :
    ∃ W : Nat → Nat → L2.St → Hp → Prop, (∃ m, W 0 m σ H) ∧ ∀ i m σ H, W i m σ H → (J.stop i H ∧ D.nx σ H) ∨
      (J.go i H ∧ ∃ N : L2.St → Hp → Prop, (∀ σ' H', N σ' H' → ∃ m', m' < m ∧ W (i + 1) m' σ' H') ∧
        ∀ x H', J.yld i H x H' → g x σ H' fun σ2 H2 => tb { D with nx := N, ct := N, bk := D.nx } σ2 H2) := by
  refine ⟨fun i m σ H => m = n - i ∧ i ≤ n ∧ Pv i σ H, ⟨n, by simp, Nat.zero_le _, h0⟩, ?_⟩
  rintro i m σ H ⟨rfl, hi, hp⟩
  by_cases e : i < n
  · obtain ⟨go, k⟩ := hs i σ H e hp
    exact .inr ⟨go, Pv (i + 1), fun σ' H' q => ⟨n - (i + 1), by omega, rfl, e, q⟩, k⟩
  · obtain rfl : i = n := by omega
    exact .inl (hd σ H hp)
/-- x in s, s a list or a tuple -/
theorem op_inDT {X : Cx} (hu : X.A.units + 65 < cLine) : OpR X (compareOp .In) (fun x y H Q => ∃ d ds, Dp X.K H x d ∧ Dp X.K H y (.tuple ds) ∧ SeqAt.shaped d = true ∧ SeqAt.shaped (.tuple ds) = true ∧ Q (.bl (ds.any fun z => PyData.eqv z d)) H) := by
  rintro pins s σ H x y v u Q I rx ry ⟨d, ds, hd, he, sd, se, q⟩
  obtain ⟨as, r1⟩ := Dp.reads I d x v hd rx
  obtain ⟨bs, r2⟩ := Dp.reads I (.tuple ds) y u he ry
  refine SeqAt.in_tuple_reads r2 r1 (SeqAt.canLay_of_shaped se) (SeqAt.canLay_of_shaped sd) ?_ ⟨.bl _, H, I, rfl, q⟩
  exact room_in_shaped sd hu

section
variable {P : Program} {w : World} {K : PySem.W.Frag} {mg : Str → Option Value} {base : Heap}
theorem Seq.len {H : Hp} {a : Addr} {xs : List V} (h : Seq K H a xs) : SqL K H a xs ∨ SqT K H a xs := h.elim (fun q => .inl (.inl (.inl q))) (fun q => .inr (.inl (.inl q)))
theorem Seq.same {H H' : Hp} {a : Addr} {xs : List V} (s : Same H H') (h : Seq K H a xs) : Seq K H' a xs := h.elim (fun q => .inl (s _ _ q)) (fun q => .inr (s _ _ q))
def spCheck (K : PySem.W.Frag) : Sp := fun vs H Q _ => ∃ (m : Int) (a : Addr) (xs : List V) (ds : List Dd), vs = [.int m, .ref a] ∧ Seq K H a xs ∧ DdAll H xs ds ∧
  (∀ d ∈ ds, d.Ok m) ∧ ds.Nodup ∧ ds.length ≤ 60 ∧ ∀ H', Same H H' → Q .non H'
theorem scCk : FnScope ["places", "deeds", "position", "deed"] ["places", "deeds"] (defScope sCheck) := ⟨rfl, rfl, rfl, by decide +kernel, rfl, by decide +kernel, by decide +kernel⟩
theorem ok_check {f : Addr} {fd : FuncData} (F : Fun K "check_deeds" "check_deeds" sCheck f fd) (n : Nm mg)
    (GL : Fn P w K mg base 1 "is_list" ["value"] (spIsList K)) (GD : Fn P w K mg base 3 "is_deed" ["value", "places"] spIsDeed) {tk : Tok} (mm : mg "MOST_DEEDS" = some (.int 60 tk)) :
    FnOk P w K mg base CX0 4 f fd ["places", "deeds"] (spCheck K) := by
  refine F.ok scCk (fun vs H Q E h => ?_) (fun cdv A outer s H vs Q E hr h => ?_)
  · obtain ⟨m, a, xs, ds, rfl, _⟩ := h
    rfl
  · obtain ⟨m, a, xs, ds, rfl, hs, hd, ok, nd, hl, k⟩ := h
    have N := scCk.nd
    have lx : xs.length = ds.length := Paired.length hd
    refine ⟨_, pss_cons (ps_if (pt_not (pt_val (pe_fn GL (hr.mono (by decide)) (pa_cons (pv 1) pa_nil)))) pss_never pss_nil)
      (pss_cons (ps_for PassesOwn.never rfl (pi_enumA (by rfl) n.enumerate (pa_cons (pv 1) pa_nil)) (pg_tup rfl (pgs_cons (pg_name (i := 2) N rfl (.inl rfl)) (pgs_cons (pg_name (i := 3) N rfl (.inl rfl)) pgs_nil)))
        (pss_one (ps_if (pw_or (pt_not (pt_val (pe_fn GD hr (pa_cons (pv 3) (pa_cons (pv 0) pa_nil)))))
          (pw_or1 (pt_cmpR (OpR.or (op_inD (hu65 hr)) (op_inDT (hu65 hr))) (pv 3) (pe_slice (SlR.or sl_list sl_tupA) (pv 1) po_none (po_some (pv 2))) (by rfl)))).pt pss_never pss_nil)))
      (pss_one (ps_if (pt_cmpR op_gt (pe_callB call_len_seq (by rfl) n.len PySem.boot_len (pa_cons (pv 1) pa_nil)) (pe_glob (v := .int 60) (by rfl) mm ⟨_, rfl⟩) (nomark _)) pss_never pss_nil))), ?_⟩
    refine ⟨_, rfl, a, xs, rfl, hs, fun H1 s1 => ⟨true, rfl, ?_⟩⟩
    refine iteF ?_
    have hs1 := hs.same s1
    -- the loop: nothing but new things
    let Pv : Nat → L2.St → Hp → Prop := fun i σ H2 => ∃ v2 v3 : Option V, σ = [some (.int m), some (.ref a), v2, v3] ∧ Same H1 H2
    have body : ∀ (D : Ends) (i : Nat) (T : Addr) (y : V) (H2 : Hp) (v2 v3 : Option V), D.nx = Pv (i + 1) → Same H1 H2 → H2 T = none → xs[i]? = some y →
        (gTup K 2 (gCons (gName 2) (gCons (gName 3) gNil))) (.ref T) [some (.int m), some (.ref a), v2, v3] (upd H2 T (.tup [.int (i : Nat), y])) fun σ3 H3 => (tIfS
          (tOr (tNot (tB (tCall spIsDeed [] E0 (tCons (tVar 3) (tCons (tVar 0) tNil)))))
            (tTest (tOp (fun x y H Q => rInD K x y H Q ∨ ∃ d ds, Dp K H x d ∧ Dp K H y (.tuple ds) ∧ SeqAt.shaped d = true ∧ SeqAt.shaped (.tuple ds) = true ∧ Q (.bl (ds.any fun z => PyData.eqv z d)) H) (tVar 3)
              (tSl (fun x lo hi H Q => rSlL K x lo hi H Q ∨ rSlA K x lo hi H Q) (tVar 1) tNoPart (tPart (tVar 2)))))) tNever tNext) D σ3 H3 := by
      intro D i T y H2 v2 v3 hD s2 hT hy
      have ii : i < xs.length := (List.getElem?_eq_some_iff.mp hy).1
      have s3 : Same H1 (upd H2 T (.tup [.int (i : Nat), y])) := s2.trans (same_upd hT)
      obtain ⟨d, hdi, hdy⟩ := Paired.at hd hy
      have okd := ok d (List.mem_of_getElem? hdi)
      obtain ⟨t, rfl, ht⟩ := hdy
      refine ⟨T, _, rfl, .inl (.inl upd_same), rfl, _, _, rfl, _, _, rfl, rfl, ?_⟩
      refine ⟨_, rfl, _, rfl, t, d, m, rfl, s3 _ _ (s1 _ _ ht), okd, fun H4 s4 => ⟨true, rfl, ?_⟩⟩
      refine iteF ?_
      have sa : Same H H4 := s1.trans (s3.trans s4)
      refine ⟨_, rfl, _, rfl, _, rfl, i, rfl, ?_⟩
      have no : decide (d ∈ ds.take i) = false := decide_eq_false (not_ahead nd hdi)
      have dd : Dp K H4 (.ref t) d.d := DdAt.dp ⟨t, rfl, sa _ _ ht⟩
      have wd : ∀ x ∈ ds.take i, x.Wd := fun x hx => (ok x (List.mem_of_mem_take hx)).wd
      have dl : ∀ {H5 : Hp}, Same H4 H5 → DpAll K H5 (xs.take i) ((ds.take i).map Dd.d) := fun s5 => DdAll.dps (DdAll.same (sa.trans s5) (Paired.takeP i hd))
      rcases hs.same sa with h4 | h4
      · refine .inl ⟨a, xs, rfl, .inl (.inl h4), fun p hp => ?_⟩
        rw [cutV_take xs (Nat.le_of_lt ii)]
        have s5 : Same H4 (upd H4 p (.lst (xs.take i))) := same_upd hp
        refine .inl ⟨_, _, DdAt.dp ⟨t, rfl, s5 _ _ (sa _ _ ht)⟩, .lst (.inl (.inl upd_same)) (dl s5), Dd.shaped okd.wd, shapedL wd, false, ?_, ?_⟩
        · rw [any_in, no]
        · refine iteF ?_
          show D.nx _ _
          rw [hD]
          exact ⟨_, _, rfl, s3.trans (s4.trans s5)⟩
      · refine .inr ⟨a, xs, rfl, .inl (.inl h4), fun q => ?_, fun _ p hp => ?_⟩
        · exfalso
          have e1 : HT.sIx xs.length xs.length (some (i : Int)) = i := by
            simp only [HT.sIx]
            split <;> omega
          omega
        · rw [cutV_take xs (Nat.le_of_lt ii)]
          have s5 : Same H4 (upd H4 p (.tup (xs.take i))) := same_upd hp
          refine .inr ⟨_, _, DdAt.dp ⟨t, rfl, s5 _ _ (sa _ _ ht)⟩, .tup (.inl (.inl upd_same)) (dl s5), Dd.shaped okd.wd, shapedT wd, false, ?_, ?_⟩
          · rw [any_in, no]
          · refine iteF ?_
            show D.nx _ _
            rw [hD]
            exact ⟨_, _, rfl, s3.trans (s4.trans s5)⟩
    refine ⟨_, rfl, a, xs, rfl, ?_⟩
    have after : ∀ σ H2, Pv xs.length σ H2 → tIfS (tTest (tOp (rI0 fun i j => .bl (decide (j < i))) (tCB (fun xs H Q => ∃ p ys, xs = [.ref p] ∧ (SqL K H p ys ∨ SqT K H p ys) ∧ Q (.int ys.length) H) (tCons (tVar 1) tNil)) (tC (.int 60)))) tNever tNext { nx := fun _ H' => Q .non H', rt := Q } σ H2 := by
      rintro σ H2 ⟨v2, v3, rfl, s2⟩
      refine ⟨_, rfl, a, xs, rfl, (hs.same (s1.trans s2)).len, _, _, rfl, rfl, false, congrArg V.bl (decide_eq_false (by omega)), ?_⟩
      exact iteF (k _ (s1.trans s2))
    rcases hs1 with h1 | h1
    · refine .inl ⟨.inl (.inl h1), loop_of (n := xs.length) Pv ⟨none, none, rfl, fun _ _ q => q⟩ (fun σ H2 hp => ?_) ?_⟩
      · obtain ⟨v2, v3, e, s2⟩ := id hp
        exact ⟨⟨xs, .inl (.inl (s2 _ _ h1)), Nat.le_refl _⟩, after σ H2 hp⟩
      · rintro i σ H2 hi ⟨v2, v3, rfl, s2⟩
        refine ⟨⟨xs, _, .inl (.inl (s2 _ _ h1)), List.getElem?_eq_getElem hi⟩, ?_⟩
        rintro x H' ⟨T, y, rfl, hT, rfl, hy⟩
        exact body _ i T y H2 v2 v3 rfl s2 hT (hy xs (.inl (.inl (s2 _ _ h1))))
    · refine .inr ⟨.inl (.inl h1), loop_of (n := xs.length) Pv ⟨none, none, rfl, fun _ _ q => q⟩ (fun σ H2 hp => ?_) ?_⟩
      · obtain ⟨v2, v3, e, s2⟩ := id hp
        exact ⟨⟨xs, .inl (.inl (s2 _ _ h1)), Nat.le_refl _⟩, after σ H2 hp⟩
      · rintro i σ H2 hi ⟨v2, v3, rfl, s2⟩
        refine ⟨⟨xs, _, .inl (.inl (s2 _ _ h1)), List.getElem?_eq_getElem hi⟩, ?_⟩
        rintro x H' ⟨T, y, rfl, hT, rfl, hy⟩
        exact body _ i T y H2 v2 v3 rfl s2 hT (hy xs (.inl (.inl (s2 _ _ h1))))
end
end L2.K22
end

section
set_option Elab.async false
set_option linter.all false
set_option maxRecDepth 100000
set_option maxHeartbeats 2000000
namespace L2.K22
open PySem PySem.Spec PyProof.Rows L2.Gd

/-! ### a house: its attributes, its list -/
theorem kpd : ¬ (("_places" : Str) = "_deeds") := by decide +kernel
def flds (m : Int) (l : Addr) : List (Str × V) := putF "_deeds" (.ref l) (putF "_places" (.int m) [])
theorem flds_eq (m : Int) (l : Addr) : flds m l = ([("_places", V.int m), ("_deeds", V.ref l)] : List (Str × V)) := by
  show (if ("_places" : Str) = "_deeds" then [(("_places" : Str), V.ref l)] else (("_places" : Str), V.int m) :: putF "_deeds" (V.ref l) []) = ([("_places", V.int m), ("_deeds", V.ref l)] : List (Str × V))
  rw [if_neg kpd]
  all_goals rfl
theorem flds_p (m : Int) (l : Addr) : (flds m l).lookup ("_places" : Str) = some (.int m) := by
  unfold flds
  rw [lookup_putF, if_neg kpd, lookup_putF, if_pos rfl]
theorem flds_d (m : Int) (l : Addr) : (flds m l).lookup ("_deeds" : Str) = some (.ref l) := by
  unfold flds
  rw [lookup_putF, if_pos rfl]
theorem flds_no (m : Int) (l : Addr) {x : Str} (h1 : ¬ x = "_deeds") (h2 : ¬ x = "_places") : (flds m l).lookup x = none := by
  unfold flds
  rw [lookup_putF, if_neg h1, lookup_putF, if_neg h2]
  all_goals rfl
/-- a house at h with m places, its own list of the deeds ds at l -/
structure HouseL (C : Addr) (H : Hp) (h l : Addr) (m : Int) (xs : List V) (ds : List Dd) : Prop where
  ob : ∃ dx, H h = some (.ins C dx (flds m l))
  ls : H l = some (.lst xs)
  dd : DdAll H xs ds
structure WF (m : Int) (ds : List Dd) : Prop where
  m1 : 1 ≤ m
  m16 : m ≤ 16
  ok : ∀ d ∈ ds, d.Ok m
  nd : ds.Nodup
  len : ds.length ≤ 60
theorem WF.wd {m : Int} {ds : List Dd} (w : WF m ds) : ∀ d ∈ ds, d.Wd := fun d hd => (w.ok d hd).wd
theorem HouseL.same {C : Addr} {H H' : Hp} {h l : Addr} {m : Int} {xs : List V} {ds : List Dd} (s : Same H H') (x : HouseL C H h l m xs ds) : HouseL C H' h l m xs ds :=
  ⟨let ⟨dx, e⟩ := x.ob; ⟨dx, s _ _ e⟩, s _ _ x.ls, x.dd.same s⟩
theorem HouseL.lenE {C : Addr} {H : Hp} {h l : Addr} {m : Int} {xs : List V} {ds : List Dd} (x : HouseL C H h l m xs ds) : xs.length = ds.length := Paired.length x.dd

/-- what is known of the class -/
structure ClsT (K : PySem.W.Frag) (mg : Str → Option Value) (C : Addr) : Prop where
  isc : C8.InsC K C
  nP : NoAttr K C "_places"
  nD : NoAttr K C "_deeds"
  mgC : mg "House" = some (.ref C)
section
variable {P : Program} {w : World} {K : PySem.W.Frag} {mg : Str → Option Value} {base : Heap} {C : Addr}

/-! ### __init__ -/
def spInit (K : PySem.W.Frag) (C : Addr) : Sp := fun vs H Q _ => ∃ (x dx a : Addr) (m : Int) (xs : List V) (ds : List Dd), vs = [.ref x, .int m, .ref a] ∧ H x = some (.ins C dx []) ∧
  Seq K H a xs ∧ DdAll H xs ds ∧ WF m ds ∧
  ∀ (l : Addr) (H' : Hp), H l = none → H' x = some (.ins C dx (flds m l)) → H' l = some (.lst xs) → (∀ b o, b ≠ x → H b = some o → H' b = some o) → Q .non H'
theorem scIn : FnScope ["self", "places", "deeds"] ["self", "places", "deeds"] (defScope (cHouse 0)) := ⟨rfl, rfl, rfl, by decide +kernel, rfl, by decide +kernel, by decide +kernel⟩
theorem ok_init {f : Addr} {fd : FuncData} (F : Fun K "__init__" "House.__init__" (cHouse 0) f fd) (n : Nm mg) (T : ClsT K mg C)
    (GI : Fn P w K mg base 1 "is_integer" ["value"] spIsInt) (GC : Fn P w K mg base 4 "check_deeds" ["places", "deeds"] (spCheck K))
    {tk : Tok} (mm : mg "MOST_PLACES" = some (.int 16 tk)) : FnOk P w K mg base CX0 5 f fd ["self", "places", "deeds"] (spInit K C) := by
  refine F.ok scIn (fun vs H Q E h => ?_) (fun cdv A outer s H vs Q E hr h => ?_)
  · obtain ⟨x, dx, a, m, xs, ds, rfl, _⟩ := h
    rfl
  · obtain ⟨x, dx, a, m, xs, ds, rfl, hx, hs, hd, wf, k⟩ := h
    refine ⟨_, pss_cons (ps_if (pw_or (pt_not (pt_val (pe_fn GI (hr.mono (by decide)) (pa_cons (pv 1) pa_nil))))
          (pw_or1 (pt_not (pt_chain op_le op_le pe_int (pv 1) (pe_glob (v := .int 16) (by rfl) mm ⟨_, rfl⟩))))).pt pss_never pss_nil)
      (pss_cons (ps_expr (pe_fn GC hr (pa_cons (pv 1) (pa_cons (pv 2) pa_nil))))
      (pss_cons (ps_fld (pv 0) (pv 1) rfl)
      (pss_one (ps_fld (pv 0) (pe_callTy call_list_of (by rfl) n.list (by decide +kernel) (pa_cons (pv 2) pa_nil)) rfl)))), ?_⟩
    refine ⟨_, rfl, _, rfl, true, rfl, ?_⟩
    refine iteF ?_
    refine ⟨_, rfl, _, _, rfl, rfl, true, congrArg V.bl (decide_eq_true wf.m1), ?_⟩
    refine iteT ?_
    refine ⟨_, _, rfl, rfl, true, congrArg V.bl (decide_eq_true wf.m16), ?_⟩
    refine iteF ?_
    refine ⟨_, rfl, _, rfl, m, a, xs, ds, rfl, hs, hd, wf.ok, wf.nd, wf.len, fun H1 s1 => ?_⟩
    refine ⟨_, rfl, _, rfl, x, C, dx, [], rfl, s1 _ _ hx, T.isc.cl, T.nP, (by show 0 < 1000; decide), ?_⟩
    have nxa : ∀ {b : Addr} {ys : List V}, Seq K H b ys → b ≠ x := fun {b ys} q z => by
      subst z
      rcases q with q | q <;> (rw [hx] at q; exact nomatch q)
    have hs1 : Seq K (upd H1 x (.ins C dx (putF "_places" (.int m) []))) a xs := by
      rcases hs with q | q
      · exact .inl (by rw [upd_ne (nxa (.inl q))]; exact s1 _ _ q)
      · exact .inr (by rw [upd_ne (nxa (.inr q))]; exact s1 _ _ q)
    refine ⟨_, rfl, a, xs, rfl, hs1.len, fun l hl => ?_⟩
    have nl : x ≠ l := ne_of_none upd_same hl
    have hl0 : H l = none := by
      rw [upd_ne nl.symm] at hl
      exact s1.free hl
    refine ⟨_, rfl, x, C, dx, _, rfl, (by rw [upd_ne nl]; exact upd_same), T.isc.cl, T.nD, (by show 1 < 1000; decide), ?_⟩
    refine k l _ hl0 upd_same ?_ ?_
    · rw [upd_ne nl.symm, upd_same]
    · intro b o hb e
      rw [upd_ne hb, upd_ne (ne_of_none e hl0), upd_ne hb]
      exact s1 _ _ e
/-- C(..), a house: what the maker's promise wants -/
theorem init_read {H : Hp} {x dx a : Addr} {m : Int} {xs : List V} {ds : List Dd} {Q : VK} {E : XK} (nx : H x = none) (ndx : H dx = none) (ne : dx ≠ x)
    (hs : Seq K H a xs) (hd : DdAll H xs ds) (wf : WF m ds)
    (k : ∀ (l : Addr) (H' : Hp), H l = none → Same H H' → HouseL C H' x l m xs ds → Q (.ref x) H') :
    spInit K C [.ref x, .int m, .ref a] (upd (upd H dx (.own x)) x (.ins C dx [])) (fun v H2 => v = .non ∧ Q (.ref x) H2) E := by
  have s0 : Same H (upd (upd H dx (.own x)) x (.ins C dx [])) := fun b o e => by
    rw [upd_ne (ne_of_none e nx), upd_ne (ne_of_none e ndx)]
    exact e
  refine ⟨x, dx, a, m, xs, ds, rfl, upd_same, hs.same s0, hd.same s0, wf, fun l H' nl hx hl kp => ⟨rfl, ?_⟩⟩
  have s1 : Same H H' := fun b o e => kp b o (ne_of_none e nx) (s0 b o e)
  exact k l H' (s0.free nl) s1 ⟨⟨dx, hx⟩, hl, hd.same s1⟩
structure MkH (P : Program) (w : World) (K : PySem.W.Frag) (mg : Str → Option Value) (base : Heap) (C : Addr) : Prop where
  ex : ∃ f fd, Mk K C f ∧ Binds K fd ["self", "places", "deeds"] [] ∧ FnOk P w K mg base CX0 5 f fd ["self", "places", "deeds"] (spInit K C)
theorem pe_house {X : Cx} {e : Expr} {es : List Expr} {t : TA} {p pos : Pos} (M : MkH X.prog X.w X.K X.mg X.base C) (T : ClsT X.K X.mg C) (hr : Room 6 X.A) (ha : PA X (e :: es) t)
    (hg : Gl X "House" := by rfl) (he : starEach (e :: es) X.env = (false, eval e X.env) :: starEach es X.env := by rfl)
    (hpl : (backTo pos (starEach es X.env)).any (·.1) = false := by rfl) :
    PE X (.Call (.Name "House" p) (e :: es) [] pos) (tMake C (spInit X.K C) [] E0 t) := by
  obtain ⟨f, fd, mk, b, F⟩ := M.ex
  exact pe_make mk F hr hg T.mgC b .nil pass0 ha (by decide) he hpl

/-! ### places, deeds, len, is_plain -/
def spPlaces (C : Addr) : Sp := fun vs H Q _ => ∃ (h dx l : Addr) (m : Int), vs = [.ref h] ∧ H h = some (.ins C dx (flds m l)) ∧ Q (.int m) H
theorem scPl : FnScope ["self"] ["self"] (defScope (cHouse 1)) := ⟨rfl, rfl, rfl, by decide +kernel, rfl, by decide +kernel, by decide +kernel⟩
theorem ok_places {f : Addr} {fd : FuncData} (F : Fun K "places" "House.places" (cHouse 1) f fd) (T : ClsT K mg C) : FnOk P w K mg base CX0 1 f fd ["self"] (spPlaces C) := by
  refine F.ok scPl (fun vs H Q E h => ?_) (fun cdv A outer s H vs Q E hr h => ?_)
  · obtain ⟨h, dx, l, m, rfl, _⟩ := h
    rfl
  · obtain ⟨h, dx, l, m, rfl, hh, k⟩ := h
    refine ⟨_, pss_one (ps_ret (pe_fld (pv 0) rfl)), ?_⟩
    exact ⟨_, rfl, h, C, dx, _, _, rfl, hh, T.isc.cl, T.nP, flds_p _ _, k⟩
def spDeeds (C : Addr) : Sp := fun vs H Q _ => ∃ (h l : Addr) (m : Int) (xs : List V) (ds : List Dd), vs = [.ref h] ∧ HouseL C H h l m xs ds ∧ ∀ p, H p = none → Q (.ref p) (upd H p (.lst xs))
theorem scDe : FnScope ["self"] ["self"] (defScope (cHouse 3)) := ⟨rfl, rfl, rfl, by decide +kernel, rfl, by decide +kernel, by decide +kernel⟩
theorem ok_deeds {f : Addr} {fd : FuncData} (F : Fun K "deeds" "House.deeds" (cHouse 3) f fd) (n : Nm mg) (T : ClsT K mg C) : FnOk P w K mg base CX0 1 f fd ["self"] (spDeeds C) := by
  refine F.ok scDe (fun vs H Q E h => ?_) (fun cdv A outer s H vs Q E hr h => ?_)
  · obtain ⟨h, l, m, xs, ds, rfl, _⟩ := h
    rfl
  · obtain ⟨h, l, m, xs, ds, rfl, hh, k⟩ := h
    obtain ⟨dx, ob⟩ := hh.ob
    refine ⟨_, pss_one (ps_ret (pe_callTy call_list_of (by rfl) n.list (by decide +kernel) (pa_cons (pe_fld (pv 0) rfl) pa_nil))), ?_⟩
    exact ⟨_, rfl, h, C, dx, _, _, rfl, ob, T.isc.cl, T.nD, flds_d _ _, l, xs, rfl, .inl (.inl (.inl hh.ls)), k⟩
def spLen (C : Addr) : Sp := fun vs H Q _ => ∃ (h l : Addr) (m : Int) (xs : List V) (ds : List Dd), vs = [.ref h] ∧ HouseL C H h l m xs ds ∧ Q (.int ds.length) H
theorem scLe : FnScope ["self"] ["self"] (defScope (cHouse 4)) := ⟨rfl, rfl, rfl, by decide +kernel, rfl, by decide +kernel, by decide +kernel⟩
theorem ok_len {f : Addr} {fd : FuncData} (F : Fun K "__len__" "House.__len__" (cHouse 4) f fd) (n : Nm mg) (T : ClsT K mg C) : FnOk P w K mg base CX0 1 f fd ["self"] (spLen C) := by
  refine F.ok scLe (fun vs H Q E h => ?_) (fun cdv A outer s H vs Q E hr h => ?_)
  · obtain ⟨h, l, m, xs, ds, rfl, _⟩ := h
    rfl
  · obtain ⟨h, l, m, xs, ds, rfl, hh, k⟩ := h
    obtain ⟨dx, ob⟩ := hh.ob
    refine ⟨_, pss_one (ps_ret (pe_callB call_len_seq (by rfl) n.len PySem.boot_len (pa_cons (pe_fld (pv 0) rfl) pa_nil))), ?_⟩
    refine ⟨_, rfl, h, C, dx, _, _, rfl, ob, T.isc.cl, T.nD, flds_d _ _, l, xs, rfl, .inl (.inl (.inl hh.ls)), ?_⟩
    have e : ((xs.length : Nat) : Int) = (ds.length : Int) := by rw [hh.lenE]
    show Q (.int (xs.length : Int)) H
    rw [e]
    exact k
end
end L2.K22
end

section
set_option Elab.async false
set_option linter.all false
set_option maxRecDepth 100000
set_option maxHeartbeats 4000000
namespace L2.K22
open PySem PySem.Spec PyProof.Rows L2.Gd
section
variable {P : Program} {w : World} {K : PySem.W.Frag} {mg : Str → Option Value} {base : Heap} {C : Addr}
theorem small_le {n k : Nat} (h : n ≤ k) (hk : k ≤ 1000 := by decide) : n ≤ sizeLine := by
  rw [sizeLine_eq]
  omega
theorem Paired.app {α β : Type} {R : α → β → Prop} : ∀ {xs xs' : List α} {ys ys' : List β}, Paired R xs ys → Paired R xs' ys' → Paired R (xs ++ xs') (ys ++ ys')
  | _, _, _, _, .nil, h => h
  | _, _, _, _, .cons r t, h => .cons r (Paired.app t h)
theorem cutV_drop (xs : List V) {i : Nat} (h : i ≤ xs.length) : cutV xs (some (i : Int)) none = xs.drop i := by
  have e0 : HT.sIx xs.length 0 (some (i : Int)) = i := by
    simp only [HT.sIx]
    split <;> omega
  have e1 : HT.sIx xs.length xs.length none = xs.length := by simp [HT.sIx]
  unfold cutV
  rw [e0, e1]
  exact List.take_of_length_le (by rw [List.length_drop]; omega)
theorem Paired.dropP {α β : Type} {R : α → β → Prop} : ∀ {xs : List α} {ys : List β} (n : Nat), Paired R xs ys → Paired R (xs.drop n) (ys.drop n)
  | _, _, 0, h => h
  | _, _, _ + 1, .nil => .nil
  | _, _, n + 1, .cons r t => Paired.dropP n t
theorem stabD (D : Addr) : Stab DdAt D := fun H H' y d b ⟨zs, hD⟩ ⟨t, e, ht⟩ => ⟨t, e, b _ _ (fun z => by subst z; rw [hD] at ht; exact nomatch ht) ht⟩
theorem stabF (D : Addr) {H1 H : Hp} {t : Addr} {xs ys : List V} (b : ButD D H1 H) (hD : H D = some (.lst ys)) (h : H1 t = some (.tup xs)) (hD1 : H1 D = none) : H t = some (.tup xs) := b.new hD1 _ _ h
def keepD (p : Dd → Bool) (d : Dd) : Option Dd := if p d = true then some d else none
theorem keepD_filter (p : Dd → Bool) (ds : List Dd) : ds.filterMap (keepD p) = ds.filter p := by
  induction ds with
  | nil => rfl
  | cons d r ih =>
    by_cases h : p d = true
    · rw [List.filterMap_cons_some (show keepD p d = some d from if_pos h), List.filter_cons_of_pos h, ih]
    · rw [List.filterMap_cons_none (show keepD p d = none from if_neg h), List.filter_cons_of_neg h, ih]
theorem mapD (f : Dd → Dd) (ds : List Dd) : ds.filterMap (fun d => some (f d)) = ds.map f := by rw [List.filterMap_eq_map']

structure PrH (P : Program) (w : World) (K : PySem.W.Frag) (mg : Str → Option Value) (base : Heap) (C : Addr) (x : Str) (sp : Sp) : Prop where
  ex : ∃ p g fd, PropOf K C x p g ∧ Binds K fd ["self"] [] ∧ FnOk P w K mg base CX0 1 g fd ["self"] sp
theorem pe_prH {X : Cx} {x : Str} {sp : Sp} {e : Expr} {te : TE} {pos : Pos} (G : PrH X.prog X.w X.K X.mg X.base C x sp) (T : ClsT X.K X.mg C) (hr : Room 2 X.A) (he : PE X e te)
    (hab : attributeBase e x X.env (eval e X.env) = eval e X.env := by rfl) : PE X (.Attribute e x pos) (tProp C sp [] E0 te) := by
  obtain ⟨p, g, fd, hp, b, F⟩ := G.ex
  exact pe_prop he T.isc.cl hp F hr b .nil pass0 hab
theorem mapE {α β : Type} (f : α → β) (ds : List α) : ds.filterMap (fun d => some (f d)) = ds.map f := by rw [List.filterMap_eq_map']
theorem bls_of : ∀ {zs : List V} {bs : List Bool}, Paired (fun v b => v = V.bl b) zs bs → zs = bs.map V.bl
  | _, _, .nil => rfl
  | _, _, .cons h t => by rw [h, bls_of t]; rfl
/-! ### the pot -/
abbrev sPot : Stmt := top 36
abbrev sDraw : Stmt := top 37
def PotAt (H : Hp) (p : Addr) : Prop := ∃ a b : Int, H p = some (.lst [.int a, .int b]) ∧ 0 ≤ a ∧ 0 ≤ b ∧ b < 2147483587
def spPot (K : PySem.W.Frag) : Sp := fun vs H Q _ => ∃ (s : Addr) (k : Nat) (ns : List Int), vs = [.ref s, .int k] ∧ SqL K H s (ns.map V.int) ∧ (ns.length ≤ 100000) ∧
  ∀ p H', H p = none → Same H H' → PotAt H' p → Q (.ref p) H'
theorem scPot : FnScope ["_law_script", "_law_k", "_law_cell"] ["_law_script", "_law_k"] (defScope sPot) := ⟨rfl, rfl, rfl, by decide +kernel, rfl, by decide +kernel, by decide +kernel⟩
def tailPot : TE := tLst (tCons (tCB (fun xs H Q => ∃ i j, xs = [V.int i, V.int j] ∧ Q (.int (if j > i then j else i)) H) (tCons (tC (.int 0)) (tCons (tOp (rI0 fun i j => .int (i - j)) (tVar 2) (tOp (rI CPow fun i j => .int (i ^ j.toNat)) (tC (.int 10)) (tC (.int 18)))) tNil)))
  (tCons (tOp (rI0 fun i j => .int (i + j)) (tOp (rI (fun _ j => 0 < j) fun i j => .int (i % j)) (tCB (fun xs H Q => (∃ i, xs = [V.int i] ∧ Q (.int i) H) ∨ ∃ k, xs = [V.bl k] ∧ Q (.int (if k then 1 else 0)) H) (tCons
    (tOp (rI0 fun i j => .int (i + j)) (tOp (rI0 fun i j => .int (i + j)) (tOp (rI CMul fun i j => .int (i * j)) (tOp (rI (fun _ j => 0 < j) fun i j => .int (i % j)) (tCB (fun xs H Q => (∃ i, xs = [V.int i] ∧ Q (.int i) H) ∨ ∃ k, xs = [V.bl k] ∧ Q (.int (if k then 1 else 0)) H) (tCons (tVar 2) tNil)) (tC (.int 2147483549))) (tC (.int 48271)))
      (tOp (rI CMul fun i j => .int (i * j)) (tC (.int 4001)) (tVar 1))) (tC (.int 53))) tNil)) (tC (.int 2147483563))) (tC (.int 1))) tNil))
theorem ok_pot {f : Addr} {fd : FuncData} (F : Fun K "_law_pot" "_law_pot" sPot f fd) (n : Nm mg) : FnOk P w K mg base CX0 1 f fd ["_law_script", "_law_k"] (spPot K) := by
  refine F.ok scPot (fun vs H Q E h => ?_) (fun cdv A outer s H vs Q E hr h => ?_)
  · obtain ⟨s, k, ns, rfl, _⟩ := h
    rfl
  · obtain ⟨s, k, ns, rfl, hs, hz, q⟩ := h
    have N := scPot.nd
    refine ⟨_, pss_cons (ps_set (i := 2) N rfl (.inl rfl) (pe_op op_add (pe_op op_mul pe_int (pv 1)) pe_int))
      (pss_cons (ps_if (pt_cmpR op_lt (pv 1) (pe_callB call_len_seq (by rfl) n.len PySem.boot_len (pa_cons (pv 0) pa_nil)) (nomark _))
        (pss_one (ps_set (i := 2) N rfl (.inl rfl) (pe_callB call_abs (by rfl) n.abs (by decide +kernel) (pa_cons (pe_ix ix_list (pv 0) (pv 1) (fun _ _ => rfl)) pa_nil)))) pss_nil)
      (pss_one (ps_ret (pe_lst (pa_cons (pe_callB (call_max2 rfl) (by rfl) n.max (by decide +kernel) (pa_cons pe_int (pa_cons (pe_op op_sub (pv 2) (pe_op op_pow pe_int pe_int)) pa_nil)))
        (pa_cons (pe_op op_add (pe_op op_mod (pe_callTy call_int1 (by rfl) n.int (by decide +kernel) (pa_cons (pe_op op_add (pe_op op_add (pe_op op_mul (pe_op op_mod (pe_callTy call_int1 (by rfl) n.int (by decide +kernel) (pa_cons (pv 2) pa_nil)) pe_int) pe_int) (pe_op op_mul pe_int (pv 1))) pe_int) pa_nil)) pe_int) pe_int) pa_nil)))))), ?_⟩
    refine ⟨_, rfl, _, _, rfl, rfl, .inl (by decide), _, _, rfl, rfl, ?_⟩
    have tail : ∀ c : Int, tailPot [some (.ref s), some (.int k), some (.int c)] H Q := by
      intro c
      refine ⟨_, rfl, _, _, rfl, rfl, ⟨by decide, by decide, by decide⟩, _, _, rfl, rfl, _, _, rfl, ?_⟩
      refine ⟨_, rfl, .inl ⟨_, rfl, _, _, rfl, rfl, (by show (0 : Int) < 2147483549; decide), _, _, rfl, rfl, .inr (by decide), _, rfl, _, _, rfl, rfl, .inl (by decide), _, _, rfl, rfl, _, _, rfl, rfl, .inl ⟨_, rfl, ?_⟩⟩⟩
      refine ⟨_, _, rfl, rfl, (by show (0 : Int) < 2147483563; decide), _, _, rfl, rfl, (by show 2 ≤ sizeLine; decide), fun p hp => ?_⟩
      refine q p _ hp (same_upd hp) ⟨_, _, upd_same, ?_, ?_, ?_⟩
      · split <;> omega
      · omega
      · omega
    by_cases hk : k < ns.length
    all_goals
      refine ⟨_, rfl, _, rfl, s, _, rfl, .inl hs, _, _, rfl, rfl, decide ((k : Int) < (ns.map V.int).length), rfl, ?_⟩
      rw [List.length_map]
    · rw [decide_eq_true (by omega)]
      refine iteT ?_
      refine ⟨_, rfl, _, rfl, s, _, _, _, rfl, rfl, hs, atI_nat (by rw [List.getElem?_map, List.getElem?_eq_getElem hk]; rfl), _, rfl, ?_⟩
      exact tail _
    · rw [decide_eq_false (by omega)]
      refine iteF ?_
      exact tail _

/-! ### a digit of the pot -/
theorem PotAt.same {H H' : Hp} {p : Addr} (s : Same H H') (h : PotAt H p) : PotAt H' p := let ⟨a, b, e, r⟩ := h; ⟨a, b, s _ _ e, r⟩
def spDraw : Sp := fun vs H Q _ => ∃ (p : Addr) (n : Int), vs = [.ref p, .int n] ∧ PotAt H p ∧ 1 ≤ n ∧ n < 1000000 ∧ ∀ d H', 0 ≤ d → d < n → PotAt H' p → ButD p H H' → Q (.int d) H'
theorem scDr : FnScope ["_law_pot_here", "_law_many", "_law_digit"] ["_law_pot_here", "_law_many"] (defScope sDraw) := ⟨rfl, rfl, rfl, by decide +kernel, rfl, by decide +kernel, by decide +kernel⟩
theorem ok_draw {f : Addr} {fd : FuncData} (F : Fun K "_law_draw" "_law_draw" sDraw f fd) (n : Nm mg) : FnOk P w K mg base CX0 1 f fd ["_law_pot_here", "_law_many"] spDraw := by
  refine F.ok scDr (fun vs H Q E h => ?_) (fun cdv A outer s H vs Q E hr h => ?_)
  · obtain ⟨p, m, rfl, _⟩ := h
    rfl
  · obtain ⟨p, m, rfl, ⟨a, b, hp, a0, b0, bu⟩, m1, mu, q⟩ := h
    have N := scDr.nd
    refine ⟨_, pss_cons (ps_if (pt_cmpR op_gt (pe_ix ix_list (pv 0) pe_int (fun _ _ => rfl)) pe_int (nomark _))
        (pss_cons (ps_asg (pe_callB call_divmod (by rfl) n.divmod (by decide +kernel) (pa_cons (pe_ix ix_list (pv 0) pe_int (fun _ _ => rfl)) (pa_cons (pv 1) pa_nil)))
            (pg_tup rfl (pgs_cons (pg_sub (pv 0) pe_int set_list) (pgs_cons (pg_name (i := 2) N rfl (.inl rfl)) pgs_nil))))
          (pss_one (ps_ret (pv 2)))) pss_nil)
      (pss_cons (ps_asg (pe_op op_mod (pe_callTy call_int1 (by rfl) n.int (by decide +kernel) (pa_cons (pe_op op_add (pe_op op_mul (pe_ix ix_list (pv 0) pe_int (fun _ _ => rfl)) pe_int) pe_int) pa_nil)) pe_int) (pg_sub (pv 0) pe_int set_list))
      (pss_one (ps_ret (pe_op op_mod (pe_callTy call_int1 (by rfl) n.int (by decide +kernel) (pa_cons (pe_op op_fdiv (pe_op op_mod (pe_callTy call_int1 (by rfl) n.int (by decide +kernel) (pa_cons
        (pe_op op_mul (pe_ix ix_list (pv 0) pe_int (fun _ _ => rfl)) (pe_ix ix_list (pv 0) pe_int (fun _ _ => rfl))) pa_nil)) pe_int) pe_int) pa_nil)) (pv 1))))), ?_⟩
    refine ⟨_, rfl, p, _, _, _, rfl, rfl, .inl (.inl hp), rfl, _, _, rfl, rfl, decide (a > 0), rfl, ?_⟩
    by_cases ha : a > 0
    · rw [decide_eq_true ha]
      refine iteT ?_
      refine ⟨_, rfl, p, _, _, _, rfl, rfl, .inl (.inl hp), rfl, _, rfl, _, _, rfl, ⟨by omega, by omega⟩, fun t ht => ?_⟩
      have hpt : upd H t (.tup [.int (a / m), .int (a % m)]) p = some (.lst [.int a, .int b]) := same_upd ht _ _ hp
      refine ⟨t, _, rfl, .inl (.inl upd_same), rfl, ?_⟩
      refine ⟨_, _, rfl, _, rfl, p, _, _, 0, rfl, rfl, hpt, rfl, _, _, rfl, rfl, ?_⟩
      refine ⟨_, rfl, q _ _ (Int.emod_nonneg _ (by omega)) (Int.emod_lt_of_pos _ (by omega)) ⟨_, _, upd_same, Int.ediv_nonneg a0 (by omega), b0, bu⟩ ?_⟩
      intro c o ne e
      rw [upd_ne ne]
      exact same_upd ht _ _ e
    · rw [decide_eq_false ha]
      refine iteF ?_
      refine ⟨_, rfl, p, _, _, _, rfl, rfl, .inl (.inl hp), rfl, _, _, rfl, rfl, .inr (by decide), _, _, rfl, rfl, .inl ⟨_, rfl, _, _, rfl, rfl, (by show (0 : Int) < 2147483587; decide), ?_⟩⟩
      refine ⟨_, rfl, p, _, _, 1, rfl, rfl, hp, rfl, ?_⟩
      have c0 : 0 ≤ (b * 39373 + 53) % 2147483587 := by omega
      have cu : (b * 39373 + 53) % 2147483587 < 2147483587 := by omega
      have hc : upd H p (.lst ([V.int a, V.int b].set 1 ((fun i j => V.int (i % j)) (b * 39373 + 53) 2147483587))) p = some (.lst [.int a, .int ((b * 39373 + 53) % 2147483587)]) := upd_same
      refine ⟨_, rfl, p, _, _, _, rfl, rfl, .inl (.inl hc), rfl, _, rfl, p, _, _, _, rfl, rfl, .inl (.inl hc), rfl, _, _, rfl, rfl, .inl ⟨by omega, by omega⟩, ?_⟩
      refine .inl ⟨_, rfl, _, _, rfl, rfl, (by show (0 : Int) < 2147483563; decide), _, _, rfl, rfl, ⟨by decide, by decide⟩, .inl ⟨_, rfl, _, rfl, _, _, rfl, rfl, (by show (0 : Int) < m; omega), ?_⟩⟩
      refine q _ _ (Int.emod_nonneg _ (by omega)) (Int.emod_lt_of_pos _ (by omega)) ⟨_, _, hc, a0, c0, cu⟩ ?_
      intro k o ne e
      rw [upd_ne ne]
      exact e
theorem ButD.refl {D : Addr} {H : Hp} : ButD D H H := fun _ _ _ e => e
theorem ButD.trans {D : Addr} {H1 H2 H3 : Hp} (a : ButD D H1 H2) (b : ButD D H2 H3) : ButD D H1 H3 := fun c o ne e => b c o ne (a c o ne e)
theorem Same.but {D : Addr} {H1 H2 : Hp} (a : Same H1 H2) : ButD D H1 H2 := fun c o _ e => a c o e
/-- tuples stay, the pot is a list -/
theorem pot_ne {H : Hp} {p t : Addr} {xs : List V} (hp : PotAt H p) (ht : H t = some (.tup xs)) : t ≠ p := by
  rintro rfl
  obtain ⟨a, b, e, _⟩ := hp
  rw [ht] at e
  exact nomatch e
theorem DdAll.pot {H H' : Hp} {p : Addr} {vs : List V} {ds : List Dd} (hp : PotAt H p) (b : ButD p H H') (h : DdAll H vs ds) : DdAll H' vs ds :=
  Paired.mapP h fun _ _ ⟨t, e, q⟩ => ⟨t, e, b _ _ (pot_ne hp q) q⟩

/-! ### deeds of the pot -/
abbrev sDeeds : Stmt := top 39
def spDeedsL : Sp := fun vs H Q _ => ∃ (p : Addr) (m : Int) (k : Nat), vs = [.ref p, .int m, .int k, .bl true] ∧ PotAt H p ∧ 1 ≤ m ∧ m ≤ 100 ∧ k ≤ 60 ∧
  ∀ l xs ds H', H l = none → H' l = some (.lst xs) → PotAt H' p → ButD p H H' → DdAll H' xs ds → (∀ d ∈ ds, d.Ok m) → ds.Nodup → ds.length ≤ k → (1 ≤ k → ds ≠ []) → Q (.ref l) H'
def NDe : List Str := ["_law_pot_here", "_law_places", "_law_many", "_law_has_empty", "_law_found", "_law_turn", "_law_place", "_law_goal", "_law_deed"]
theorem scDs : FnScope NDe ["_law_pot_here", "_law_places", "_law_many", "_law_has_empty"] (defScope sDeeds) := ⟨rfl, rfl, rfl, by decide +kernel, rfl, by decide +kernel, by decide +kernel⟩
theorem ok_deedsL {f : Addr} {fd : FuncData} (F : Fun K "_law_deeds" "_law_deeds" sDeeds f fd) (n : Nm mg) (GD : Fn P w K mg base 1 "_law_draw" ["_law_pot_here", "_law_many"] spDraw) :
    FnOk P w K mg base CX0 2 f fd ["_law_pot_here", "_law_places", "_law_many", "_law_has_empty"] spDeedsL := by
  refine F.ok scDs (fun vs H Q E h => ?_) (fun cdv A outer s H vs Q E hr h => ?_)
  · obtain ⟨p, m, k, rfl, _⟩ := h
    rfl
  · obtain ⟨p, m, k, rfl, hp, m1, mu, ku, q⟩ := h
    have N := scDs.nd
    refine ⟨_, pss_cons (ps_set (i := 4) N rfl (.inl rfl) (pe_lst pa_nil))
      (pss_cons (ps_for PassesOwn.never rfl (pi_range1 (by rfl) n.range (pa_cons (pv 2) pa_nil)) (pg_name (i := 5) N rfl (.inl rfl))
        (pss_cons (ps_par (i := 6) (j := 7) rfl N rfl rfl (by decide) rfl rfl (pa_cons (pe_fn GD hr (pa_cons (pv 0) (pa_cons (pv 1) pa_nil))) (pa_cons (pe_fn GD hr (pa_cons (pv 0) (pa_cons (pv 1) pa_nil))) pa_nil)) (by rfl))
        (pss_cons (ps_set (i := 8) N rfl (.inl rfl) (pe_tup (pa_cons (pv 6) (pa_cons (pe_op op_sub (pe_fn GD hr (pa_cons (pv 0) (pa_cons pe_int pa_nil))) pe_int) (pa_cons (pv 7) (pa_cons pe_str pa_nil))))))
        (pss_cons (ps_if (pw_and (pt_val (pv 3)) (pw_and1 (pt_cmpR op_eq (pe_fn GD hr (pa_cons (pv 0) (pa_cons pe_int pa_nil))) pe_int (nomark _)))).pt
          (pss_one (ps_set (i := 8) N rfl (.inl rfl) (pe_tup (pa_cons (pv 6) (pa_cons (pe_fn GD hr (pa_cons (pv 0) (pa_cons pe_int pa_nil))) (pa_cons (pv 7) (pa_cons pe_str pa_nil))))))) pss_nil)
        (pss_one (ps_if (pt_cmpR (op_notInD (hu65 hr)) (pv 8) (pv 4) (by rfl))
          (pss_one (ps_expr (pe_bm PySem.F.plainAttrs_list PySem.F.slot_list_append PySem.F.type_list_append mt_append (pv 4) (pa_cons (pv 8) pa_nil)))) pss_nil))))))
      (pss_one (ps_ret (pv 4)))), ?_⟩
    refine ⟨(by show 0 ≤ sizeLine; decide), fun l hl => ?_⟩
    have nlp : l ≠ p := by
      rintro rfl
      obtain ⟨a, b, e, _⟩ := hp
      rw [hl] at e
      exact nomatch e
    refine ⟨_, rfl, k, rfl, by omega, by omega, for_range (lo := 0) (n := (k : Int).toNat) (fun i σ H2 => ∃ (a5 a6 a7 a8 : Option V) (xs : List V) (ds : List Dd),
      σ = [some (.ref p), some (.int m), some (.int k), some (.bl true), some (.ref l), a5, a6, a7, a8] ∧ PotAt H2 p ∧ ButD p H H2 ∧ H2 l = some (.lst xs) ∧ DdAll H2 xs ds ∧ (∀ d ∈ ds, d.Ok m) ∧ ds.Nodup ∧ ds.length ≤ i ∧ (1 ≤ i → ds ≠ []))
      ⟨none, none, none, none, [], [], rfl, hp.same (same_upd hl), Same.but (same_upd hl), upd_same, .nil, (by simp), List.nodup_nil, Nat.le_refl _, (fun h => absurd h (by decide))⟩ ?_ ?_⟩
    · rintro i σ H2 hi ⟨a5, a6, a7, a8, xs, ds, rfl, hp2, b2, hl2, dd, ok, nd, len, nn⟩
      refine ⟨_, rfl, _, rfl, p, m, rfl, hp2, m1, by omega, fun pl H3 pl0 pln hp3 b3 => ?_⟩
      refine ⟨_, rfl, _, rfl, p, m, rfl, hp3, m1, by omega, fun gl H4 gl0 gln hp4 b4 => ⟨_, _, rfl, ?_⟩⟩
      refine ⟨_, rfl, _, rfl, p, 3, rfl, hp4, by decide, by decide, fun ch H5 c0 cn hp5 b5 => ⟨_, _, rfl, rfl, _, rfl, (by show 4 ≤ sizeLine; decide), fun t1 ht1 => ?_⟩⟩
      have s5 := same_upd (o := .tup [.int pl, .int (ch - 1), .int gl, .str "any"]) ht1
      have hp6 := hp5.same s5
      refine ⟨_, rfl, true, rfl, iteT ?_⟩
      refine ⟨_, rfl, p, 4, rfl, hp6, by decide, by decide, fun z H7 z0 zn hp7 b7 => ?_⟩
      have b27 : ButD p H2 H7 := ButD.trans b3 (ButD.trans b4 (ButD.trans b5 (ButD.trans (Same.but s5) b7)))
      have ht7 : H7 t1 = some (.tup [.int pl, .int (ch - 1), .int gl, .str "any"]) := b7 _ _ (pot_ne hp6 upd_same) upd_same
      refine ⟨rfl, decide (V.int z = V.int 0), rfl, ?_⟩
      have e1 : Dd.vs ⟨pl, ch - 1, gl, "any"⟩ = [.int pl, .int (ch - 1), .int gl, .str "any"] := rfl
      by_cases hz : z = 0
      · subst hz
        rw [decide_eq_true rfl]
        refine iteT ?_
        refine ⟨_, rfl, _, rfl, p, 2, rfl, hp7, by decide, by decide, fun c2 H9 c20 c2n hp9 b9 => ⟨_, rfl, (by show 4 ≤ sizeLine; decide), fun t2 ht2 => ?_⟩⟩
        have s9 := same_upd (o := .tup [.int pl, .int c2, .int gl, .str "empty"]) ht2
        have e2 : Dd.vs ⟨pl, c2, gl, "empty"⟩ = [.int pl, .int c2, .int gl, .str "empty"] := rfl
        have okd : Dd.Ok m ⟨pl, c2, gl, "empty"⟩ := ⟨pl0, pln, gl0, gln, .inr ⟨rfl, c20, by show c2 ≤ 1; omega⟩⟩
        have hpn := hp9.same s9
        have bn : ButD p H2 _ := ButD.trans b27 (ButD.trans b9 (Same.but s9))
        have htn : (upd H9 t2 (.tup [.int pl, .int c2, .int gl, .str "empty"])) t2 = some (.tup (Dd.vs ⟨pl, c2, gl, "empty"⟩)) := upd_same
        generalize upd H9 t2 (.tup [.int pl, .int c2, .int gl, .str "empty"]) = Hn at hpn bn htn ⊢
        clear e1 e2
        generalize (⟨pl, c2, gl, "empty"⟩ : Dd) = dn at okd htn ⊢
        have hln := bn _ _ nlp hl2
        have ddn := DdAll.pot hp2 bn dd
        refine ⟨_, rfl, _, rfl, dn.d, ds.map Dd.d, DdAt.dp ⟨_, rfl, htn⟩, .lst (.inl (.inl hln)) ddn.dps, Dd.shaped okd.wd, shapedL (fun x hx => (ok x hx).wd), _, rfl, ?_⟩
        rw [any_in]
        by_cases hin : dn ∈ ds
        · rw [decide_eq_true hin]
          refine iteF ?_
          exact ⟨_, _, _, _, xs, ds, rfl, hpn, ButD.trans b2 bn, hln, ddn, ok, nd, Nat.le_succ_of_le len, fun _ z => by rw [z] at hin; exact absurd hin (by simp)⟩
        · rw [decide_eq_false hin]
          refine iteT ?_
          have xl := Paired.length ddn
          refine ⟨_, rfl, .inl ⟨rfl, _, .inl (.inl hln)⟩, _, rfl, l, _, _, rfl, rfl, hln, by rw [sizeLine_eq]; omega, ?_⟩
          refine ⟨_, _, _, _, xs ++ [.ref t2], ds ++ [dn], rfl, ?_, ?_, upd_same, ?_, ?_, ?_, by simp; omega, fun _ => by simp⟩
          · obtain ⟨a, b, e, r⟩ := hpn
            exact ⟨a, b, by rw [upd_ne nlp.symm]; exact e, r⟩
          · intro c o ne e
            rw [upd_ne (ne_of_none e hl)]
            exact bn _ _ ne (b2 _ _ ne e)
          · have st : ∀ {y d}, DdAt Hn y d → DdAt (upd Hn l (.lst (xs ++ [.ref t2]))) y d := fun {y d} ⟨t, e, q⟩ => ⟨t, e, by
              rw [upd_ne (fun z => by subst z; rw [hln] at q; exact nomatch q)]
              exact q⟩
            exact PySem.Paired.snoc (Paired.mapP ddn fun _ _ q => st q) (st ⟨_, rfl, htn⟩)
          · intro d hd
            rcases List.mem_append.mp hd with hd | hd
            · exact ok d hd
            · rw [List.mem_singleton.mp hd]
              exact okd
          · rw [List.nodup_append]
            exact ⟨nd, by simp, fun a ha b hb => by rw [List.mem_singleton.mp hb]; exact fun z => hin (z ▸ ha)⟩
      · have okd : Dd.Ok m ⟨pl, ch - 1, gl, "any"⟩ := ⟨pl0, pln, gl0, gln, .inl ⟨rfl, by show -1 ≤ ch - 1; omega, by show ch - 1 ≤ 1; omega⟩⟩
        rw [decide_eq_false (by simpa using hz)]
        refine iteF ?_
        have htn : H7 t1 = some (.tup (Dd.vs ⟨pl, ch - 1, gl, "any"⟩)) := ht7
        have hpn := hp7
        have bn := b27
        generalize H7 = Hn at hpn bn htn ⊢
        clear e1
        generalize (⟨pl, ch - 1, gl, "any"⟩ : Dd) = dn at okd htn ⊢
        have hln := bn _ _ nlp hl2
        have ddn := DdAll.pot hp2 bn dd
        refine ⟨_, rfl, _, rfl, dn.d, ds.map Dd.d, DdAt.dp ⟨_, rfl, htn⟩, .lst (.inl (.inl hln)) ddn.dps, Dd.shaped okd.wd, shapedL (fun x hx => (ok x hx).wd), _, rfl, ?_⟩
        rw [any_in]
        by_cases hin : dn ∈ ds
        · rw [decide_eq_true hin]
          refine iteF ?_
          exact ⟨_, _, _, _, xs, ds, rfl, hpn, ButD.trans b2 bn, hln, ddn, ok, nd, Nat.le_succ_of_le len, fun _ z => by rw [z] at hin; exact absurd hin (by simp)⟩
        · rw [decide_eq_false hin]
          refine iteT ?_
          have xl := Paired.length ddn
          refine ⟨_, rfl, .inl ⟨rfl, _, .inl (.inl hln)⟩, _, rfl, l, _, _, rfl, rfl, hln, by rw [sizeLine_eq]; omega, ?_⟩
          refine ⟨_, _, _, _, xs ++ [.ref t1], ds ++ [dn], rfl, ?_, ?_, upd_same, ?_, ?_, ?_, by simp; omega, fun _ => by simp⟩
          · obtain ⟨a, b, e, r⟩ := hpn
            exact ⟨a, b, by rw [upd_ne nlp.symm]; exact e, r⟩
          · intro c o ne e
            rw [upd_ne (ne_of_none e hl)]
            exact bn _ _ ne (b2 _ _ ne e)
          · have st : ∀ {y d}, DdAt Hn y d → DdAt (upd Hn l (.lst (xs ++ [.ref t1]))) y d := fun {y d} ⟨t, e, q⟩ => ⟨t, e, by
              rw [upd_ne (fun z => by subst z; rw [hln] at q; exact nomatch q)]
              exact q⟩
            exact PySem.Paired.snoc (Paired.mapP ddn fun _ _ q => st q) (st ⟨_, rfl, htn⟩)
          · intro d hd
            rcases List.mem_append.mp hd with hd | hd
            · exact ok d hd
            · rw [List.mem_singleton.mp hd]
              exact okd
          · rw [List.nodup_append]
            exact ⟨nd, by simp, fun a ha b hb => by rw [List.mem_singleton.mp hb]; exact fun z => hin (z ▸ ha)⟩
    · rintro σ H2 ⟨a5, a6, a7, a8, xs, ds, rfl, hp2, b2, hl2, dd, ok, nd, len, nn⟩
      have hlk : ds.length ≤ k := by omega
      exact ⟨_, rfl, q l xs ds H2 hl hl2 hp2 b2 dd ok nd hlk (fun h => nn (by omega))⟩

end
end L2.K22
end

section
set_option Elab.async false
set_option linter.all false
set_option maxRecDepth 100000
set_option maxHeartbeats 4000000
namespace L2.K22
open PySem PySem.Spec PyProof.Rows L2.Gd

/-! ### values of any kind (p: the pot, that is none of them) -/
mutual
inductive DV (p : Addr) (H : Hp) : V → PyData → Prop
  | non : DV p H .non .none
  | bl (b : Bool) : DV p H (.bl b) (.bool b)
  | int (i : Int) : DV p H (.int i) (.int i)
  | str (x : Str) : DV p H (.str x) (.str x)
  | lst {a : Addr} {xs : List V} {ds : List PyData} : a ≠ p → H a = some (.lst xs) → DVs p H xs ds → DV p H (.ref a) (.list ds)
  | tup {a : Addr} {xs : List V} {ds : List PyData} : H a = some (.tup xs) → DVs p H xs ds → DV p H (.ref a) (.tuple ds)
  | dct {a : Addr} {kvs : List (Key × V)} : H a = some (.dK kvs) → DV p H (.ref a) (.dict [])
inductive DVs (p : Addr) (H : Hp) : List V → List PyData → Prop
  | nil : DVs p H [] []
  | cons {v : V} {vs : List V} {d : PyData} {ds : List PyData} : DV p H v d → DVs p H vs ds → DVs p H (v :: vs) (d :: ds)
end
mutual
theorem DV.but {p : Addr} {H H' : Hp} (hp : PotAt H p) (b : ButD p H H') : ∀ {v : V} {d : PyData}, DV p H v d → DV p H' v d
  | _, _, .non => .non
  | _, _, .bl b => .bl b
  | _, _, .int i => .int i
  | _, _, .str x => .str x
  | _, _, .lst ne h t => .lst ne (b _ _ ne h) (DVs.but hp b t)
  | _, _, .tup h t => .tup (b _ _ (pot_ne hp h) h) (DVs.but hp b t)
  | _, _, .dct h => .dct (b _ _ (fun z => by
      subst z
      obtain ⟨x, y, e, _⟩ := hp
      rw [h] at e
      exact nomatch e) h)
theorem DVs.but {p : Addr} {H H' : Hp} (hp : PotAt H p) (b : ButD p H H') : ∀ {vs : List V} {ds : List PyData}, DVs p H vs ds → DVs p H' vs ds
  | _, _, .nil => .nil
  | _, _, .cons h t => .cons (DV.but hp b h) (DVs.but hp b t)
end
mutual
theorem DV.same {p : Addr} {H H' : Hp} (s : Same H H') : ∀ {v : V} {d : PyData}, DV p H v d → DV p H' v d
  | _, _, .non => .non
  | _, _, .bl b => .bl b
  | _, _, .int i => .int i
  | _, _, .str x => .str x
  | _, _, .lst ne h t => .lst ne (s _ _ h) (DVs.same s t)
  | _, _, .tup h t => .tup (s _ _ h) (DVs.same s t)
  | _, _, .dct h => .dct (s _ _ h)
theorem DVs.same {p : Addr} {H H' : Hp} (s : Same H H') : ∀ {vs : List V} {ds : List PyData}, DVs p H vs ds → DVs p H' vs ds
  | _, _, .nil => .nil
  | _, _, .cons h t => .cons (DV.same s h) (DVs.same s t)
end
theorem DVs.len {p : Addr} {H : Hp} : ∀ {vs : List V} {ds : List PyData}, DVs p H vs ds → vs.length = ds.length
  | _, _, .nil => rfl
  | _, _, .cons _ t => congrArg Nat.succ (DVs.len t)
theorem DVs.at {p : Addr} {H : Hp} : ∀ {vs : List V} {ds : List PyData} {i : Nat} {v : V}, DVs p H vs ds → vs[i]? = some v → ∃ d, ds[i]? = some d ∧ DV p H v d
  | _, _, _, _, .nil, e => by simp at e
  | _, _, 0, _, .cons h _, e => by simp at e; subst e; exact ⟨_, rfl, h⟩
  | _, _, i + 1, _, .cons _ t, e => by
    obtain ⟨d, h1, h2⟩ := DVs.at (i := i) t (by simpa using e)
    exact ⟨d, by simpa using h1, h2⟩
def kindT : PyData → String
  | .none => "NoneType"
  | .bool _ => "bool"
  | .int _ => "int"
  | .str _ => "str"
  | .list _ => "list"
  | .tuple _ => "tuple"
  | .dict _ => "dict"
theorem DV.ty {K : PySem.W.Frag} {p : Addr} {H : Hp} {v : V} {d : PyData} (h : DV p H v d) : TyX K H v (.type (kindT d)) := by
  cases h with
  | non => exact .base .non
  | bl b => exact .base (.bl _)
  | int i => exact .base (.int _)
  | str x => exact .base (.str _)
  | lst _ e _ => exact .base (.lst e)
  | tup e _ => exact .base (.tup e)
  | dct e => exact .base (.dK e)
def isI : PyData → Bool | .int _ => true | _ => false
def isB : PyData → Bool | .bool _ => true | _ => false
def isT : PyData → Bool | .tuple _ => true | _ => false
def isLT : PyData → Bool | .list _ => true | .tuple _ => true | _ => false
def isC : PyData → Bool | .int i => decide (0 ≤ i) | _ => false
theorem kit_int : ∀ d : PyData, kitB (kindT d) "int" = some (isI d || isB d)
  | .none => (by decide +kernel : kitB "NoneType" "int" = some false)
  | .bool _ => (by decide +kernel : kitB "bool" "int" = some true)
  | .int _ => (by decide +kernel : kitB "int" "int" = some true)
  | .str _ => (by decide +kernel : kitB "str" "int" = some false)
  | .list _ => (by decide +kernel : kitB "list" "int" = some false)
  | .tuple _ => (by decide +kernel : kitB "tuple" "int" = some false)
  | .dict _ => (by decide +kernel : kitB "dict" "int" = some false)
theorem kit_bool : ∀ d : PyData, kitB (kindT d) "bool" = some (isB d)
  | .none => (by decide +kernel : kitB "NoneType" "bool" = some false)
  | .bool _ => (by decide +kernel : kitB "bool" "bool" = some true)
  | .int _ => (by decide +kernel : kitB "int" "bool" = some false)
  | .str _ => (by decide +kernel : kitB "str" "bool" = some false)
  | .list _ => (by decide +kernel : kitB "list" "bool" = some false)
  | .tuple _ => (by decide +kernel : kitB "tuple" "bool" = some false)
  | .dict _ => (by decide +kernel : kitB "dict" "bool" = some false)
theorem kit_tuple : ∀ d : PyData, kitB (kindT d) "tuple" = some (isT d)
  | .none => (by decide +kernel : kitB "NoneType" "tuple" = some false)
  | .bool _ => (by decide +kernel : kitB "bool" "tuple" = some false)
  | .int _ => (by decide +kernel : kitB "int" "tuple" = some false)
  | .str _ => (by decide +kernel : kitB "str" "tuple" = some false)
  | .list _ => (by decide +kernel : kitB "list" "tuple" = some false)
  | .tuple _ => (by decide +kernel : kitB "tuple" "tuple" = some true)
  | .dict _ => (by decide +kernel : kitB "dict" "tuple" = some false)
theorem kit_list : ∀ d : PyData, kitB (kindT d) "list" = some (isLT d && !isT d)
  | .none => (by decide +kernel : kitB "NoneType" "list" = some false)
  | .bool _ => (by decide +kernel : kitB "bool" "list" = some false)
  | .int _ => (by decide +kernel : kitB "int" "list" = some false)
  | .str _ => (by decide +kernel : kitB "str" "list" = some false)
  | .list _ => (by decide +kernel : kitB "list" "list" = some true)
  | .tuple _ => (by decide +kernel : kitB "tuple" "list" = some false)
  | .dict _ => (by decide +kernel : kitB "dict" "list" = some false)
section
variable {P : Program} {w : World} {K : PySem.W.Frag} {mg : Str → Option Value} {base : Heap} {C : Addr}
def spInt2 : Sp := fun vs H Q _ => ∃ (p : Addr) (v : V) (d : PyData), vs = [v] ∧ DV p H v d ∧ Q (.bl (isI d)) H
theorem ok_int2 {f : Addr} {fd : FuncData} (F : Fun K "is_integer" "is_integer" sIsInt f fd) (n : Nm mg) : FnOk P w K mg base CX0 1 f fd ["value"] spInt2 := by
  refine F.ok scI (fun vs H Q E h => ?_) (fun cdv A outer s H vs Q E hr h => ?_)
  · obtain ⟨p, v, d, rfl, _⟩ := h
    rfl
  · obtain ⟨p, v, d, rfl, hd, k⟩ := h
    refine ⟨_, pss_one (ps_ret (pe_and (pe_isInt n (pv 0)) (pe_one (pe_not (pe_isBool n (pv 0)))))), ?_⟩
    refine ⟨_, rfl, isi_mk hd.ty (kit_int d) ⟨_, rfl, ?_⟩⟩
    have e : isI d = ((isI d || isB d) && !isB d) := by cases d <;> rfl
    cases q : (isI d || isB d) with
    | true =>
      refine iteT ⟨_, rfl, isi_mk hd.ty (kit_bool d) ⟨_, rfl, ?_⟩⟩
      rw [q, Bool.true_and] at e
      rw [← e]
      exact k
    | false =>
      rw [q, Bool.false_and] at e
      rw [e] at k
      exact iteF k
def spCnt2 : Sp := fun vs H Q _ => ∃ (p : Addr) (v : V) (d : PyData), vs = [v] ∧ DV p H v d ∧ Q (.bl (isC d)) H
theorem ok_cnt2 {f : Addr} {fd : FuncData} (F : Fun K "is_count" "is_count" sIsCount f fd) (G : Fn P w K mg base 1 "is_integer" ["value"] spInt2) : FnOk P w K mg base CX0 2 f fd ["value"] spCnt2 := by
  refine F.ok scC (fun vs H Q E h => ?_) (fun cdv A outer s H vs Q E hr h => ?_)
  · obtain ⟨p, v, d, rfl, _⟩ := h
    rfl
  · obtain ⟨p, v, d, rfl, hd, k⟩ := h
    refine ⟨_, pss_one (ps_ret (pe_and (pe_fn G hr (pa_cons (pv 0) pa_nil)) (pe_one (pe_cmpR op_ge (pv 0) pe_int (nomark _))))), ?_⟩
    refine ⟨_, rfl, p, v, d, rfl, hd, _, rfl, ?_⟩
    cases hd with
    | int i =>
      refine iteT ⟨_, rfl, _, _, rfl, rfl, ?_⟩
      exact k
    | non => exact iteF k
    | bl b => exact iteF k
    | str x => exact iteF k
    | lst _ _ _ => exact iteF k
    | tup _ _ => exact iteF k
    | dct _ => exact iteF k
def spLst2 : Sp := fun vs H Q _ => ∃ (p : Addr) (v : V) (d : PyData), vs = [v] ∧ DV p H v d ∧ ∀ H', Same H H' → Q (.bl (isLT d)) H'
theorem ok_lst2 {f : Addr} {fd : FuncData} (F : Fun K "is_list" "is_list" sIsList f fd) (n : Nm mg) : FnOk P w K mg base CX0 1 f fd ["value"] spLst2 := by
  refine F.ok scL (fun vs H Q E h => ?_) (fun cdv A outer s H vs Q E hr h => ?_)
  · obtain ⟨p, v, d, rfl, _⟩ := h
    rfl
  · obtain ⟨p, v, d, rfl, hd, k⟩ := h
    refine ⟨_, pss_one (ps_ret (pe_callB call_isiT (by rfl) n.isi (by decide +kernel) (pa_cons (pv 0) (pa_cons (pe_tup (pa_cons (pe_bltn (v := .ty "list") (by rfl) n.list (by decide +kernel) rfl) (pa_cons (pe_bltn (v := .ty "tuple") (by rfl) n.tuple (by decide +kernel) rfl) pa_nil))) pa_nil)))), ?_⟩
    refine ⟨_, rfl, (by show 2 ≤ sizeLine; decide), fun q hq => ?_⟩
    have cs : Paired ClsV [V.ty "list", V.ty "tuple"] [Value.type "list", Value.type "tuple"] := .cons (.ty _) (.cons (.ty _) .nil)
    refine ⟨_, q, _, _, _, isLT d, rfl, upd_same, cs, (hd.same (same_upd hq)).ty, ?_, k _ (same_upd hq)⟩
    refine kitAny_cons (kit_ty (kit_list d)) (fun e1 => kitAny_cons (kit_ty (kit_tuple d)) (fun e2 => ?_) (fun e2 => ?_)) (fun e1 => ?_)
    · have : isLT d = false := by
        cases d <;> first | rfl | exact absurd (show true = false from e1) (by decide) | exact absurd (show true = false from e2) (by decide)
      rw [this]
      rfl
    · cases d <;> first | rfl | exact absurd (show false = true from e2) (by decide)
    · cases d <;> first | rfl | exact absurd (show false = true from e1) (by decide)
end
end L2.K22
end

section
set_option Elab.async false
set_option linter.all false
set_option maxRecDepth 100000
set_option maxHeartbeats 4000000
namespace L2.K22
open PySem PySem.Spec PyProof.Rows L2.Gd
abbrev cCrs (i : Nat) : Stmt := inClass (top 18) i
/-- what is known of a going: where it begins and ends, its deeds, gain and need -/
structure Crs where
  b : Option Int
  f : Option Int
  n : Int
  g : Int
  e : Int
  o : Bool
  v : Bool
def oV : Option Int → V | none => .non | some i => .int i
def cf (c : Crs) : List (Str × V) := putF "vain" (.bl c.v) (putF "only" (.bl c.o) (putF "need" (.int c.e) (putF "gain" (.int c.g) (putF "many" (.int c.n) (putF "finish" (oV c.f) (putF "begin" (oV c.b) []))))))
theorem putF_le {f : Str} {v : V} {l : List (Str × V)} {n : Nat} (h : l.length ≤ n) : (putF f v l).length ≤ n + 1 := Nat.le_trans (length_putF f v l) (Nat.succ_le_succ h)
theorem lt_of20 {l : List (Str × V)} {n : Nat} (h : l.length ≤ n) (hn : n ≤ 20 := by decide) : l.length < 1000 := by omega
theorem cf_b (c : Crs) : (cf c).lookup ("begin" : Str) = some (oV c.b) := by
  unfold cf
  rw [lookup_putF, if_neg (by decide +kernel), lookup_putF, if_neg (by decide +kernel), lookup_putF, if_neg (by decide +kernel), lookup_putF, if_neg (by decide +kernel), lookup_putF, if_neg (by decide +kernel), lookup_putF, if_neg (by decide +kernel), lookup_putF, if_pos rfl]
theorem cf_f (c : Crs) : (cf c).lookup ("finish" : Str) = some (oV c.f) := by
  unfold cf
  rw [lookup_putF, if_neg (by decide +kernel), lookup_putF, if_neg (by decide +kernel), lookup_putF, if_neg (by decide +kernel), lookup_putF, if_neg (by decide +kernel), lookup_putF, if_neg (by decide +kernel), lookup_putF, if_pos rfl]
theorem cf_n (c : Crs) : (cf c).lookup ("many" : Str) = some (.int c.n) := by
  unfold cf
  rw [lookup_putF, if_neg (by decide +kernel), lookup_putF, if_neg (by decide +kernel), lookup_putF, if_neg (by decide +kernel), lookup_putF, if_neg (by decide +kernel), lookup_putF, if_pos rfl]
theorem cf_g (c : Crs) : (cf c).lookup ("gain" : Str) = some (.int c.g) := by
  unfold cf
  rw [lookup_putF, if_neg (by decide +kernel), lookup_putF, if_neg (by decide +kernel), lookup_putF, if_neg (by decide +kernel), lookup_putF, if_pos rfl]
theorem cf_e (c : Crs) : (cf c).lookup ("need" : Str) = some (.int c.e) := by
  unfold cf
  rw [lookup_putF, if_neg (by decide +kernel), lookup_putF, if_neg (by decide +kernel), lookup_putF, if_pos rfl]
theorem cf_o (c : Crs) : (cf c).lookup ("only" : Str) = some (.bl c.o) := by
  unfold cf
  rw [lookup_putF, if_neg (by decide +kernel), lookup_putF, if_pos rfl]
theorem cf_v (c : Crs) : (cf c).lookup ("vain" : Str) = some (.bl c.v) := by
  unfold cf
  rw [lookup_putF, if_pos rfl]
theorem cf_fits (c : Crs) : (cf c).lookup ("fits" : Str) = none := by
  unfold cf
  rw [lookup_putF, if_neg (by decide +kernel), lookup_putF, if_neg (by decide +kernel), lookup_putF, if_neg (by decide +kernel), lookup_putF, if_neg (by decide +kernel), lookup_putF, if_neg (by decide +kernel), lookup_putF, if_neg (by decide +kernel), lookup_putF, if_neg (by decide +kernel)]
  rfl
def CrsAt (C : Addr) (H : Hp) (x : Addr) (c : Crs) : Prop := ∃ dx, H x = some (.ins C dx (cf c))
theorem CrsAt.same {C : Addr} {H H' : Hp} {x : Addr} {c : Crs} (s : Same H H') (h : CrsAt C H x c) : CrsAt C H' x c := let ⟨dx, e⟩ := h; ⟨dx, s _ _ e⟩
structure ClsC (K : PySem.W.Frag) (mg : Str → Option Value) (C : Addr) : Prop where
  cl : Cls K C
  nb : NoAttr K C "begin"
  nf : NoAttr K C "finish"
  nn : NoAttr K C "many"
  ng : NoAttr K C "gain"
  ne : NoAttr K C "need"
  no : NoAttr K C "only"
  nv : NoAttr K C "vain"
  mgC : mg "Course" = some (.ref C)
section
variable {P : Program} {w : World} {K : PySem.W.Frag} {mg : Str → Option Value} {base : Heap} {C : Addr}
def Crs.vs (c : Crs) : List V := [oV c.b, oV c.f, .int c.n, .int c.g, .int c.e, .bl c.o, .bl c.v]
def spCI (C : Addr) : Sp := fun vs H Q _ => ∃ (x dx : Addr) (c : Crs), vs = .ref x :: c.vs ∧ H x = some (.ins C dx []) ∧ ∀ H', H' x = some (.ins C dx (cf c)) → (∀ b o, b ≠ x → H b = some o → H' b = some o) → Q .non H'
def NCi : List Str := ["self", "begin", "finish", "many", "gain", "need", "only", "vain"]
theorem scCi : FnScope NCi NCi (defScope (cCrs 0)) := ⟨rfl, rfl, rfl, by decide +kernel, rfl, by decide +kernel, by decide +kernel⟩
theorem ok_ci {f : Addr} {fd : FuncData} (F : Fun K "__init__" "Course.__init__" (cCrs 0) f fd) (T : ClsC K mg C) : FnOk P w K mg base CX0 1 f fd NCi (spCI C) := by
  refine F.ok scCi (fun vs H Q E h => ?_) (fun cdv A outer s H vs Q E hr h => ?_)
  · obtain ⟨x, dx, c, rfl, _⟩ := h
    rfl
  · obtain ⟨x, dx, c, rfl, hx, k⟩ := h
    refine ⟨_, pss_cons (ps_fld (pv 0) (pv 1) rfl) (pss_cons (ps_fld (pv 0) (pv 2) rfl) (pss_cons (ps_fld (pv 0) (pv 3) rfl) (pss_cons (ps_fld (pv 0) (pv 4) rfl) (pss_cons (ps_fld (pv 0) (pv 5) rfl) (pss_cons (ps_fld (pv 0) (pv 6) rfl) (pss_one (ps_fld (pv 0) (pv 7) rfl))))))), ?_⟩
    refine ⟨_, rfl, _, rfl, x, C, dx, _, rfl, hx, T.cl, T.nb, lt_of20 (show ([] : List (Str × V)).length ≤ 0 from Nat.le_refl _), ?_⟩
    refine ⟨_, rfl, _, rfl, x, C, dx, _, rfl, upd_same, T.cl, T.nf, lt_of20 (putF_le (show ([] : List (Str × V)).length ≤ 0 from Nat.le_refl _)), ?_⟩
    refine ⟨_, rfl, _, rfl, x, C, dx, _, rfl, upd_same, T.cl, T.nn, lt_of20 (putF_le (putF_le (show ([] : List (Str × V)).length ≤ 0 from Nat.le_refl _))), ?_⟩
    refine ⟨_, rfl, _, rfl, x, C, dx, _, rfl, upd_same, T.cl, T.ng, lt_of20 (putF_le (putF_le (putF_le (show ([] : List (Str × V)).length ≤ 0 from Nat.le_refl _)))), ?_⟩
    refine ⟨_, rfl, _, rfl, x, C, dx, _, rfl, upd_same, T.cl, T.ne, lt_of20 (putF_le (putF_le (putF_le (putF_le (show ([] : List (Str × V)).length ≤ 0 from Nat.le_refl _))))), ?_⟩
    refine ⟨_, rfl, _, rfl, x, C, dx, _, rfl, upd_same, T.cl, T.no, lt_of20 (putF_le (putF_le (putF_le (putF_le (putF_le (show ([] : List (Str × V)).length ≤ 0 from Nat.le_refl _)))))), ?_⟩
    refine ⟨_, rfl, _, rfl, x, C, dx, _, rfl, upd_same, T.cl, T.nv, lt_of20 (putF_le (putF_le (putF_le (putF_le (putF_le (putF_le (show ([] : List (Str × V)).length ≤ 0 from Nat.le_refl _))))))), ?_⟩
    refine k _ upd_same fun b o hb e => ?_
    rw [upd_ne hb, upd_ne hb, upd_ne hb, upd_ne hb, upd_ne hb, upd_ne hb, upd_ne hb]
    exact e
/-- Course(..) -/
structure MkC (P : Program) (w : World) (K : PySem.W.Frag) (mg : Str → Option Value) (base : Heap) (C : Addr) : Prop where
  ex : ∃ f fd, Mk K C f ∧ Binds K fd NCi [] ∧ FnOk P w K mg base CX0 1 f fd NCi (spCI C)
theorem pe_crs {X : Cx} {e : Expr} {es : List Expr} {t : TA} {p pos : Pos} (M : MkC X.prog X.w X.K X.mg X.base C) (T : ClsC X.K X.mg C) (hr : Room 2 X.A) (ha : PA X (e :: es) t)
    (hg : Gl X "Course" := by rfl) (he : starEach (e :: es) X.env = (false, eval e X.env) :: starEach es X.env := by rfl)
    (hpl : (backTo pos (starEach es X.env)).any (·.1) = false := by rfl) :
    PE X (.Call (.Name "Course" p) (e :: es) [] pos) (tMake C (spCI C) [] E0 t) := by
  obtain ⟨f, fd, mk, b, F⟩ := M.ex
  exact pe_make mk F hr hg T.mgC b .nil pass0 ha (by decide) he hpl
theorem crs_any {R : Addr → VK} {H : Hp} {E : XK} (c : Crs) (k : ∀ (x : Addr) (H' : Hp), H x = none → Same H H' → CrsAt C H' x c → R x .non H') :
    ∀ x dx, H x = none → H dx = none → dx ≠ x → spCI C (.ref x :: (c.vs ++ [])) (upd (upd H dx (.own x)) x (.ins C dx [])) (R x) E := by
  intro x dx nx ndx ne
  have s0 : Same H (upd (upd H dx (.own x)) x (.ins C dx [])) := fun b o e => by
    rw [upd_ne (ne_of_none e nx), upd_ne (ne_of_none e ndx)]
    exact e
  refine ⟨x, dx, c, by rw [List.append_nil], upd_same, fun H' hx kp => ?_⟩
  exact k x H' nx (fun b o e => kp b o (ne_of_none e nx) (s0 b o e)) ⟨dx, hx⟩

/-! ### fits -/
def fitsC (c : Crs) (p s : Int) : Bool := if c.n = 0 then true else if c.v = true ∨ c.b ≠ some p then false else if c.o = true then decide (s = c.e) else decide (s ≥ c.e)
def spFits (C : Addr) : Sp := fun vs H Q _ => ∃ (x : Addr) (c : Crs) (p s : Int), vs = [.ref x, .int p, .int s] ∧ CrsAt C H x c ∧ Q (.bl (fitsC c p s)) H
theorem scFi : FnScope ["self", "place", "start"] ["self", "place", "start"] (defScope (cCrs 1)) := ⟨rfl, rfl, rfl, by decide +kernel, rfl, by decide +kernel, by decide +kernel⟩
theorem oV_scal (o : Option Int) (p : Int) : scal (oV o) (.int p) = true := by cases o <;> rfl
theorem oV_dec (o : Option Int) (p : Int) : decide (oV o = V.int p) = decide (o = some p) := by
  cases o with
  | none => simp [oV]
  | some i => simp [oV]
theorem ok_fits {f : Addr} {fd : FuncData} (F : Fun K "fits" "Course.fits" (cCrs 1) f fd) (T : ClsC K mg C) : FnOk P w K mg base CX0 1 f fd ["self", "place", "start"] (spFits C) := by
  refine F.ok scFi (fun vs H Q E h => ?_) (fun cdv A outer s H vs Q E hr h => ?_)
  · obtain ⟨x, c, p, s, rfl, _⟩ := h
    rfl
  · obtain ⟨x, c, p, st, rfl, ⟨dx, hx⟩, k⟩ := h
    refine ⟨_, pss_cons (ps_if (pt_cmpR op_eq (pe_fld (pv 0) rfl) pe_int (nomark _)) (pss_one (ps_ret pe_bl)) pss_nil)
      (pss_cons (ps_if (pw_or (pt_val (pe_fld (pv 0) rfl)) (pw_or1 (pt_cmpR op_ne (pe_fld (pv 0) rfl) (pv 1) (nomark _)))).pt (pss_one (ps_ret pe_bl)) pss_nil)
      (pss_one (ps_ret (pe_ifExp (pt_val (pe_fld (pv 0) rfl)) (pe_cmpR op_eq (pv 2) (pe_fld (pv 0) rfl) (nomark _)) (pe_cmpR op_ge (pv 2) (pe_fld (pv 0) rfl) (nomark _)))))), ?_⟩
    refine ⟨_, rfl, x, C, dx, _, _, rfl, hx, T.cl, T.nn, cf_n c, rfl, decide (V.int c.n = V.int 0), rfl, ?_⟩
    unfold fitsC at k
    by_cases h0 : c.n = 0
    · rw [if_pos h0] at k
      rw [decide_eq_true (by rw [h0])]
      exact iteT k
    · rw [if_neg h0] at k
      rw [decide_eq_false (by simpa using h0)]
      refine iteF ?_
      refine ⟨_, rfl, x, C, dx, _, _, rfl, hx, T.cl, T.nv, cf_v c, c.v, rfl, ?_⟩
      cases hv : c.v with
      | true =>
        rw [if_pos (.inl hv)] at k
        exact iteT k
      | false =>
        refine iteF ⟨_, rfl, x, C, dx, _, _, rfl, hx, T.cl, T.nb, cf_b c, _, rfl, oV_scal _ _, !decide (c.b = some p), congrArg (fun b => V.bl (!b)) (oV_dec _ _), ?_⟩
        by_cases hb : c.b = some p
        · rw [if_neg (by rw [hv]; simp [hb])] at k
          rw [decide_eq_true hb]
          refine iteF ⟨_, rfl, x, C, dx, _, _, rfl, hx, T.cl, T.no, cf_o c, c.o, rfl, ?_⟩
          cases ho : c.o with
          | true =>
            rw [if_pos ho] at k
            refine iteT ⟨_, rfl, _, rfl, x, C, dx, _, _, rfl, hx, T.cl, T.ne, cf_e c, rfl, ?_⟩
            have e : decide (V.int st = V.int c.e) = decide (st = c.e) := by simp
            rw [e]
            exact k
          | false =>
            rw [if_neg (by rw [ho]; decide)] at k
            exact iteF ⟨_, rfl, _, rfl, x, C, dx, _, _, rfl, hx, T.cl, T.ne, cf_e c, _, _, rfl, rfl, k⟩
        · rw [if_pos (.inr hb)] at k
          rw [decide_eq_false hb]
          exact iteT k

/-! ### no_course, deed_course -/
def noC : Crs := ⟨none, none, 0, 0, 0, false, false⟩
def deedC (d : Dd) : Crs := ⟨some d.p, some d.g, 1, d.c, if 0 - d.c > 0 then 0 - d.c else 0, decide (d.w = "empty"), false⟩
def spNo (C : Addr) : Sp := fun vs H Q _ => vs = [] ∧ ∀ x H', H x = none → Same H H' → CrsAt C H' x noC → Q (.ref x) H'
theorem scNo : FnScope [] [] (defScope (top 19)) := ⟨rfl, rfl, rfl, by decide +kernel, rfl, by decide +kernel, by decide +kernel⟩
theorem ok_no {f : Addr} {fd : FuncData} (F : Fun K "no_course" "no_course" (top 19) f fd) (T : ClsC K mg C) (M : MkC P w K mg base C) : FnOk P w K mg base CX0 3 f fd [] (spNo C) := by
  refine F.ok scNo (fun vs H Q E h => ?_) (fun cdv A outer s H vs Q E hr h => ?_)
  · obtain ⟨rfl, _⟩ := h
    rfl
  · obtain ⟨rfl, k⟩ := h
    refine ⟨_, pss_one (ps_ret (pe_crs M T hr (pa_cons pe_non (pa_cons pe_non (pa_cons pe_int (pa_cons pe_int (pa_cons pe_int (pa_cons pe_bl (pa_cons pe_bl pa_nil))))))))), ?_⟩
    exact crs_any noC fun x H' nx s hc => ⟨rfl, k x H' nx s hc⟩
def spDC (C : Addr) : Sp := fun vs H Q _ => ∃ (t : Addr) (d : Dd), vs = [.ref t] ∧ H t = some (.tup d.vs) ∧ ∀ x H', H x = none → Same H H' → CrsAt C H' x (deedC d) → Q (.ref x) H'
theorem scDC : FnScope ["deed", "place", "change", "goal", "when"] ["deed"] (defScope (top 20)) := ⟨rfl, rfl, rfl, by decide +kernel, rfl, by decide +kernel, by decide +kernel⟩
theorem ok_dc {f : Addr} {fd : FuncData} (F : Fun K "deed_course" "deed_course" (top 20) f fd) (n : Nm mg) (T : ClsC K mg C) (M : MkC P w K mg base C) : FnOk P w K mg base CX0 3 f fd ["deed"] (spDC C) := by
  refine F.ok scDC (fun vs H Q E h => ?_) (fun cdv A outer s H vs Q E hr h => ?_)
  · obtain ⟨t, d, rfl, _⟩ := h
    rfl
  · obtain ⟨t, d, rfl, ht, k⟩ := h
    have N := scDC.nd
    refine ⟨_, pss_cons (ps_asg (pv 0) (pg_tup rfl (pgs_cons (pg_name (i := 1) N rfl (.inl rfl)) (pgs_cons (pg_name (i := 2) N rfl (.inl rfl)) (pgs_cons (pg_name (i := 3) N rfl (.inl rfl)) (pgs_cons (pg_name (i := 4) N rfl (.inl rfl)) pgs_nil))))))
      (pss_one (ps_ret (pe_crs M T hr (pa_cons (pv 1) (pa_cons (pv 3) (pa_cons pe_int (pa_cons (pv 2) (pa_cons (pe_callB (call_max2 rfl) (by rfl) n.max (by decide +kernel) (pa_cons pe_int (pa_cons (pe_op op_sub pe_int (pv 2)) pa_nil)))
        (pa_cons (pe_cmpR op_eq (pv 4) pe_str (nomark _)) (pa_cons pe_bl pa_nil)))))))))), ?_⟩
    refine ⟨_, rfl, t, _, rfl, .inl (.inl ht), rfl, _, _, rfl, _, _, rfl, _, _, rfl, _, _, rfl, rfl, ?_⟩
    refine ⟨_, rfl, _, rfl, _, rfl, _, rfl, _, _, rfl, rfl, _, _, rfl, _, rfl, rfl, ?_⟩
    have e : decide (V.str d.w = V.str "empty") = decide (d.w = "empty") := by simp
    rw [e]
    exact crs_any (deedC d) fun x H' nx s hc => ⟨rfl, k x H' nx s hc⟩
end
end L2.K22
end

section
set_option Elab.async false
set_option linter.all false
set_option maxRecDepth 100000
set_option maxHeartbeats 4000000
namespace L2.K22
open PySem PySem.Spec PyProof.Rows L2.Gd
section
variable {P : Program} {w : World} {K : PySem.W.Frag} {mg : Str → Option Value} {base : Heap} {C : Addr}

theorem seqV {Good : L2.St → Hp → Prop} {t u : TS} {D : Ends} {σ : L2.St} {H : Hp} (h : ∀ nx : L2.St → Hp → Prop, (∀ σ2 H2, Good σ2 H2 → nx σ2 H2) → t { D with nx := nx } σ H)
    (hk : ∀ σ2 H2, Good σ2 H2 → u D σ2 H2) : tSeq t u D σ H := h (u D) hk
/-! ### one going behind another -/
def vainB (a b : Crs) : Bool := if a.o = true then (if b.o = true then !decide (a.e + a.g = b.e) else decide (a.e + a.g < b.e)) else b.o && decide (b.e - a.g < a.e)
def needB (a b : Crs) : Int := if a.o = true then a.e else if b.o = true then b.e - a.g else if b.e - a.g > a.e then b.e - a.g else a.e
def behC (a b : Crs) : Option Crs := if a.n = 0 then some b else if b.n = 0 then some a else if a.f ≠ b.b then none else
  some ⟨a.b, b.f, a.n + b.n, a.g + b.g, needB a b, a.o || b.o, a.v || (b.v || vainB a b)⟩
def spVB (C : Addr) : Sp := fun vs H Q _ => ∃ (x y : Addr) (a b : Crs), vs = [.ref x, .ref y] ∧ CrsAt C H x a ∧ CrsAt C H y b ∧ Q (.bl (vainB a b)) H
theorem scVB : FnScope ["one", "two", "end"] ["one", "two"] (defScope (top 21)) := ⟨rfl, rfl, rfl, by decide +kernel, rfl, by decide +kernel, by decide +kernel⟩
theorem ok_vb {f : Addr} {fd : FuncData} (F : Fun K "is_vain_behind" "is_vain_behind" (top 21) f fd) (T : ClsC K mg C) : FnOk P w K mg base CX0 1 f fd ["one", "two"] (spVB C) := by
  refine F.ok scVB (fun vs H Q E h => ?_) (fun cdv A outer s H vs Q E hr h => ?_)
  · obtain ⟨x, y, a, b, rfl, _⟩ := h
    rfl
  · obtain ⟨x, y, a, b, rfl, ⟨dx, hx⟩, ⟨dy, hy⟩, k⟩ := h
    have N := scVB.nd
    refine ⟨_, pss_cons (ps_if (pt_not (pt_val (pe_fld (pv 0) rfl))) (pss_one (ps_ret (pe_and (pe_fld (pv 1) rfl) (pe_one (pe_cmpR op_lt (pe_op op_sub (pe_fld (pv 1) rfl) (pe_fld (pv 0) rfl)) (pe_fld (pv 0) rfl) (nomark _)))))) pss_nil)
      (pss_cons (ps_set (i := 2) N rfl (.inl rfl) (pe_op op_add (pe_fld (pv 0) rfl) (pe_fld (pv 0) rfl)))
      (pss_one (ps_ret (pe_ifExp (pt_val (pe_fld (pv 1) rfl)) (pe_cmpR op_ne (pv 2) (pe_fld (pv 1) rfl) (nomark _)) (pe_cmpR op_lt (pv 2) (pe_fld (pv 1) rfl) (nomark _)))))), ?_⟩
    unfold vainB at k
    refine ⟨_, rfl, x, C, dx, _, _, rfl, hx, T.cl, T.no, cf_o a, a.o, rfl, ?_⟩
    cases ho : a.o with
    | false =>
      rw [if_neg (by rw [ho]; decide)] at k
      refine iteT ⟨_, rfl, y, C, dy, _, _, rfl, hy, T.cl, T.no, cf_o b, b.o, rfl, ?_⟩
      cases hb : b.o with
      | true =>
        rw [hb, Bool.true_and] at k
        exact iteT ⟨_, rfl, y, C, dy, _, _, rfl, hy, T.cl, T.ne, cf_e b, _, rfl, x, C, dx, _, _, rfl, hx, T.cl, T.ng, cf_g a, _, _, rfl, rfl, _, rfl, x, C, dx, _, _, rfl, hx, T.cl, T.ne, cf_e a, _, _, rfl, rfl, k⟩
      | false =>
        rw [hb, Bool.false_and] at k
        exact iteF k
    | true =>
      rw [if_pos ho] at k
      refine iteF ⟨_, rfl, x, C, dx, _, _, rfl, hx, T.cl, T.ne, cf_e a, _, rfl, x, C, dx, _, _, rfl, hx, T.cl, T.ng, cf_g a, _, _, rfl, rfl, ?_⟩
      refine ⟨_, rfl, y, C, dy, _, _, rfl, hy, T.cl, T.no, cf_o b, b.o, rfl, ?_⟩
      cases hb : b.o with
      | true =>
        rw [if_pos hb] at k
        refine iteT ⟨_, rfl, _, rfl, y, C, dy, _, _, rfl, hy, T.cl, T.ne, cf_e b, rfl, ?_⟩
        have e : decide (V.int (a.e + a.g) = V.int b.e) = decide (a.e + a.g = b.e) := by simp
        show Q (.bl (!decide (V.int (a.e + a.g) = V.int b.e))) H
        rw [e]
        exact k
      | false =>
        rw [if_neg (by rw [hb]; decide)] at k
        exact iteF ⟨_, rfl, _, rfl, y, C, dy, _, _, rfl, hy, T.cl, T.ne, cf_e b, _, _, rfl, rfl, k⟩
/-- a going or nothing -/
def CV (C : Addr) (H : Hp) : V → Option Crs → Prop
  | v, none => v = .non
  | v, some c => ∃ x, v = .ref x ∧ CrsAt C H x c
theorem CV.same {C : Addr} {H H' : Hp} {v : V} {c : Option Crs} (s : Same H H') (h : CV C H v c) : CV C H' v c := by
  cases c with
  | none => exact h
  | some c => exact let ⟨x, e, q⟩ := h; ⟨x, e, q.same s⟩
/-- where something was done there are a begin and an end -/
def Crs.Wf (c : Crs) : Prop := (c.n = 0 ∧ c.b = none ∧ c.f = none) ∨ (0 < c.n ∧ c.b.isSome = true ∧ c.f.isSome = true)
theorem oV_scal2 {o o' : Option Int} : scal (oV o) (oV o') = true := by cases o <;> cases o' <;> rfl
theorem oV_dec2 (o o' : Option Int) : decide (oV o = oV o') = decide (o = o') := by
  cases o <;> cases o' <;> simp [oV]
def spBA (C : Addr) : Sp := fun vs H Q _ => ∃ (x y : Addr) (a b : Crs), vs = [.ref x, .ref y] ∧ CrsAt C H x a ∧ CrsAt C H y b ∧ ∀ v H', Same H H' → CV C H' v (behC a b) → Q v H'
def NBA : List Str := ["one", "two", "need", "vain"]
theorem scBA : FnScope NBA ["one", "two"] (defScope (top 22)) := ⟨rfl, rfl, rfl, by decide +kernel, rfl, by decide +kernel, by decide +kernel⟩
theorem ok_ba {f : Addr} {fd : FuncData} (F : Fun K "behind_another" "behind_another" (top 22) f fd) (n : Nm mg) (T : ClsC K mg C) (M : MkC P w K mg base C) (GV : Fn P w K mg base 1 "is_vain_behind" ["one", "two"] (spVB C)) :
    FnOk P w K mg base CX0 3 f fd ["one", "two"] (spBA C) := by
  refine F.ok scBA (fun vs H Q E h => ?_) (fun cdv A outer s H vs Q E hr h => ?_)
  · obtain ⟨x, y, a, b, rfl, _⟩ := h
    rfl
  · obtain ⟨x, y, a, b, rfl, ca, cb, k⟩ := h
    obtain ⟨dx, hx⟩ := id ca
    obtain ⟨dy, hy⟩ := id cb
    have N := scBA.nd
    refine ⟨_, pss_cons (ps_if (pw_or (pt_cmpR op_eq (pe_fld (pv 0) rfl) pe_int (nomark _)) (pw_or1 (pt_cmpR op_eq (pe_fld (pv 1) rfl) pe_int (nomark _)))).pt
        (pss_one (ps_ret (pe_ifExp (pt_cmpR op_eq (pe_fld (pv 0) rfl) pe_int (nomark _)) (pv 1) (pv 0)))) pss_nil)
      (pss_cons (ps_if (pt_cmpR op_ne (pe_fld (pv 0) rfl) (pe_fld (pv 1) rfl) (nomark _)) (pss_one (ps_ret pe_non)) pss_nil)
      (pss_cons (ps_set (i := 2) N rfl (.inl rfl) (pe_fld (pv 0) rfl))
      (pss_cons (ps_if (pt_not (pt_val (pe_fld (pv 0) rfl))) (pss_one (ps_set (i := 2) N rfl (.inl rfl) (pe_ifExp (pt_val (pe_fld (pv 1) rfl)) (pe_op op_sub (pe_fld (pv 1) rfl) (pe_fld (pv 0) rfl))
          (pe_callB (call_max2 rfl) (by rfl) n.max (by decide +kernel) (pa_cons (pe_fld (pv 0) rfl) (pa_cons (pe_op op_sub (pe_fld (pv 1) rfl) (pe_fld (pv 0) rfl)) pa_nil)))))) pss_nil)
      (pss_cons (ps_set (i := 3) N rfl (.inl rfl) (pe_or (pe_fld (pv 0) rfl) (pe_or (pe_fld (pv 1) rfl) (pe_one (pe_fn GV (hr.mono (by decide)) (pa_cons (pv 0) (pa_cons (pv 1) pa_nil)))))))
      (pss_one (ps_ret (pe_crs M T hr (pa_cons (pe_fld (pv 0) rfl) (pa_cons (pe_fld (pv 1) rfl) (pa_cons (pe_op op_add (pe_fld (pv 0) rfl) (pe_fld (pv 1) rfl)) (pa_cons (pe_op op_add (pe_fld (pv 0) rfl) (pe_fld (pv 1) rfl)) (pa_cons (pv 2)
        (pa_cons (pe_or (pe_fld (pv 0) rfl) (pe_one (pe_fld (pv 1) rfl))) (pa_cons (pv 3) pa_nil)))))))))))))), ?_⟩
    unfold behC at k
    refine seqV (Good := fun σ2 H2 => a.n ≠ 0 ∧ b.n ≠ 0 ∧ σ2 = [some (.ref x), some (.ref y), none, none] ∧ H = H2) ?_ ?_
    · intro nx hnx
      refine ⟨_, rfl, x, C, dx, _, _, rfl, hx, T.cl, T.nn, cf_n a, rfl, decide (V.int a.n = V.int 0), rfl, ?_⟩
      by_cases ha0 : a.n = 0
      · rw [if_pos ha0] at k
        rw [decide_eq_true (by rw [ha0])]
        refine iteT ⟨_, rfl, x, C, dx, _, _, rfl, hx, T.cl, T.nn, cf_n a, rfl, decide (V.int a.n = V.int 0), rfl, ?_⟩
        rw [decide_eq_true (by rw [ha0])]
        exact iteT ⟨_, rfl, k _ H (fun _ _ z => z) ⟨y, rfl, cb⟩⟩
      · rw [if_neg ha0] at k
        rw [decide_eq_false (by simpa using ha0)]
        refine iteF ⟨_, rfl, y, C, dy, _, _, rfl, hy, T.cl, T.nn, cf_n b, rfl, decide (V.int b.n = V.int 0), rfl, ?_⟩
        by_cases hb0 : b.n = 0
        · rw [if_pos hb0] at k
          rw [decide_eq_true (by rw [hb0])]
          refine iteT ⟨_, rfl, x, C, dx, _, _, rfl, hx, T.cl, T.nn, cf_n a, rfl, decide (V.int a.n = V.int 0), rfl, ?_⟩
          rw [decide_eq_false (by simpa using ha0)]
          exact iteF ⟨_, rfl, k _ H (fun _ _ z => z) ⟨x, rfl, ca⟩⟩
        · rw [decide_eq_false (by simpa using hb0)]
          exact iteF (hnx _ _ ⟨ha0, hb0, rfl, rfl⟩)
    rintro _ _ ⟨ha0, hb0, rfl, rfl⟩
    rw [if_neg ha0, if_neg hb0] at k
    refine seqV (Good := fun σ2 H2 => a.f = b.b ∧ σ2 = [some (.ref x), some (.ref y), none, none] ∧ H = H2) ?_ ?_
    · intro nx hnx
      refine ⟨_, rfl, x, C, dx, _, _, rfl, hx, T.cl, T.nf, cf_f a, _, rfl, y, C, dy, _, _, rfl, hy, T.cl, T.nb, cf_b b, oV_scal2, !decide (a.f = b.b), congrArg (fun b => V.bl (!b)) (oV_dec2 _ _), ?_⟩
      by_cases hf : a.f = b.b
      · rw [decide_eq_true hf]
        exact iteF (hnx _ _ ⟨hf, rfl, rfl⟩)
      · rw [if_pos hf] at k
        rw [decide_eq_false hf]
        exact iteT (k .non H (fun _ _ z => z) rfl)
    rintro _ _ ⟨hf, rfl, rfl⟩
    rw [if_neg (by simpa using hf)] at k
    refine seqV (Good := fun σ2 H2 => σ2 = [some (.ref x), some (.ref y), some (.int a.e), none] ∧ H = H2) (fun nx hnx => ⟨_, rfl, x, C, dx, _, _, rfl, hx, T.cl, T.ne, cf_e a, hnx _ _ ⟨rfl, rfl⟩⟩) ?_
    rintro _ _ ⟨rfl, rfl⟩
    refine seqV (Good := fun σ2 H2 => σ2 = [some (.ref x), some (.ref y), some (.int (needB a b)), none] ∧ H = H2) ?_ ?_
    · intro nx hnx
      refine ⟨_, rfl, x, C, dx, _, _, rfl, hx, T.cl, T.no, cf_o a, a.o, rfl, ?_⟩
      cases ho : a.o with
      | true =>
        have e : needB a b = a.e := by unfold needB; rw [if_pos ho]
        exact iteF (hnx _ _ ⟨by rw [e], rfl⟩)
      | false =>
        refine iteT ⟨_, rfl, y, C, dy, _, _, rfl, hy, T.cl, T.no, cf_o b, b.o, rfl, ?_⟩
        cases hb : b.o with
        | true =>
          have e : needB a b = b.e - a.g := by unfold needB; rw [if_neg (by rw [ho]; decide), if_pos hb]
          exact iteT ⟨_, rfl, y, C, dy, _, _, rfl, hy, T.cl, T.ne, cf_e b, _, rfl, x, C, dx, _, _, rfl, hx, T.cl, T.ng, cf_g a, _, _, rfl, rfl, hnx _ _ ⟨by rw [e]; rfl, rfl⟩⟩
        | false =>
          have e : needB a b = if b.e - a.g > a.e then b.e - a.g else a.e := by unfold needB; rw [if_neg (by rw [ho]; decide), if_neg (by rw [hb]; decide)]
          exact iteF ⟨_, rfl, x, C, dx, _, _, rfl, hx, T.cl, T.ne, cf_e a, _, rfl, y, C, dy, _, _, rfl, hy, T.cl, T.ne, cf_e b, _, rfl, x, C, dx, _, _, rfl, hx, T.cl, T.ng, cf_g a, _, _, rfl, rfl, _, _, rfl, hnx _ _ ⟨by rw [e]; rfl, rfl⟩⟩
    rintro _ _ ⟨rfl, rfl⟩
    refine seqV (Good := fun σ2 H2 => σ2 = [some (.ref x), some (.ref y), some (.int (needB a b)), some (.bl (a.v || (b.v || vainB a b)))] ∧ H = H2) ?_ ?_
    · intro nx hnx
      refine ⟨_, rfl, x, C, dx, _, _, rfl, hx, T.cl, T.nv, cf_v a, a.v, rfl, ?_⟩
      cases hva : a.v with
      | true => exact iteT (hnx _ _ ⟨by rw [hva]; rfl, rfl⟩)
      | false =>
        refine iteF ⟨_, rfl, y, C, dy, _, _, rfl, hy, T.cl, T.nv, cf_v b, b.v, rfl, ?_⟩
        cases hvb : b.v with
        | true => exact iteT (hnx _ _ ⟨by rw [hva, hvb]; rfl, rfl⟩)
        | false => exact iteF ⟨_, rfl, _, rfl, x, y, a, b, rfl, ca, cb, hnx _ _ ⟨by rw [hva, hvb]; rfl, rfl⟩⟩
    rintro _ _ ⟨rfl, rfl⟩
    refine ⟨_, rfl, x, C, dx, _, _, rfl, hx, T.cl, T.nb, cf_b a, _, rfl, y, C, dy, _, _, rfl, hy, T.cl, T.nf, cf_f b, _, rfl, x, C, dx, _, _, rfl, hx, T.cl, T.nn, cf_n a, _, rfl, y, C, dy, _, _, rfl, hy, T.cl, T.nn, cf_n b, _, _, rfl, rfl,
      _, rfl, x, C, dx, _, _, rfl, hx, T.cl, T.ng, cf_g a, _, rfl, y, C, dy, _, _, rfl, hy, T.cl, T.ng, cf_g b, _, _, rfl, rfl, _, rfl, _, rfl, x, C, dx, _, _, rfl, hx, T.cl, T.no, cf_o a, a.o, rfl, ?_⟩
    have fin : ∀ u : Bool, u = (a.o || b.o) → ∀ x2 dx2, H x2 = none → H dx2 = none → dx2 ≠ x2 → spCI C (.ref x2 :: ([oV a.b, oV b.f, .int (a.n + b.n), .int (a.g + b.g), .int (needB a b), .bl u, .bl (a.v || (b.v || vainB a b))] ++ [])) (upd (upd H dx2 (.own x2)) x2 (.ins C dx2 [])) (fun v H3 => v = .non ∧ Q (.ref x2) H3) E0 := by
      rintro _ rfl
      exact crs_any ⟨a.b, b.f, a.n + b.n, a.g + b.g, needB a b, a.o || b.o, a.v || (b.v || vainB a b)⟩ fun x2 H' nx s hc => ⟨rfl, k _ H' s ⟨x2, rfl, hc⟩⟩
    cases ho : a.o with
    | true => exact iteT ⟨_, rfl, fin true (by rw [ho]; rfl)⟩
    | false => exact iteF ⟨_, rfl, y, C, dy, _, _, rfl, hy, T.cl, T.no, cf_o b, _, rfl, fin b.o (by rw [ho]; rfl)⟩

/-! ### done often -/
def oftC (c : Crs) (t : Int) : Option Crs := if t = 1 then some c else if c.b ≠ c.f then none else
  some ⟨c.b, c.f, c.n * t, c.g * t, if c.o = true then c.e else if c.g < 0 then c.e - (t - 1) * c.g else c.e, c.o, if c.o = true then (c.v || !decide (c.g = 0)) else c.v⟩
def spOf (C : Addr) : Sp := fun vs H Q _ => ∃ (x : Addr) (c : Crs) (t : Int), vs = [.ref x, .int t] ∧ CrsAt C H x c ∧ -1000 < t ∧ t < 1000000 ∧ ∀ v H', Same H H' → CV C H' v (oftC c t) → Q v H'
def NOf : List Str := ["course", "times", "need", "vain"]
theorem scOf : FnScope NOf ["course", "times"] (defScope (top 23)) := ⟨rfl, rfl, rfl, by decide +kernel, rfl, by decide +kernel, by decide +kernel⟩
theorem ok_of {f : Addr} {fd : FuncData} (F : Fun K "done_often" "done_often" (top 23) f fd) (T : ClsC K mg C) (M : MkC P w K mg base C) : FnOk P w K mg base CX0 3 f fd ["course", "times"] (spOf C) := by
  refine F.ok scOf (fun vs H Q E h => ?_) (fun cdv A outer s H vs Q E hr h => ?_)
  · obtain ⟨x, c, t, rfl, _⟩ := h
    rfl
  · obtain ⟨x, c, t, rfl, cc, t0, t1, k⟩ := h
    obtain ⟨dx, hx⟩ := id cc
    have N := scOf.nd
    refine ⟨_, pss_cons (ps_if (pt_cmpR op_eq (pv 1) pe_int (nomark _)) (pss_one (ps_ret (pv 0))) pss_nil)
      (pss_cons (ps_if (pt_cmpR op_ne (pe_fld (pv 0) rfl) (pe_fld (pv 0) rfl) (nomark _)) (pss_one (ps_ret pe_non)) pss_nil)
      (pss_cons (ps_par (i := 2) (j := 3) rfl N rfl rfl (by decide) rfl rfl (pa_cons (pe_fld (pv 0) rfl) (pa_cons (pe_fld (pv 0) rfl) pa_nil)) (by rfl))
      (pss_cons (ps_if (pt_val (pe_fld (pv 0) rfl)) (pss_one (ps_set (i := 3) N rfl (.inl rfl) (pe_or (pv 3) (pe_one (pe_cmpR op_ne (pe_fld (pv 0) rfl) pe_int (nomark _))))))
        (pss_one (ps_if (pt_cmpR op_lt (pe_fld (pv 0) rfl) pe_int (nomark _)) (pss_one (ps_set (i := 2) N rfl (.inl rfl) (pe_op op_sub (pv 2) (pe_op op_mul (pe_op op_sub (pv 1) pe_int) (pe_fld (pv 0) rfl))))) pss_nil)))
      (pss_one (ps_ret (pe_crs M T hr (pa_cons (pe_fld (pv 0) rfl) (pa_cons (pe_fld (pv 0) rfl) (pa_cons (pe_op op_mul (pe_fld (pv 0) rfl) (pv 1)) (pa_cons (pe_op op_mul (pe_fld (pv 0) rfl) (pv 1)) (pa_cons (pv 2) (pa_cons (pe_fld (pv 0) rfl) (pa_cons (pv 3) pa_nil))))))))))))), ?_⟩
    unfold oftC at k
    refine seqV (Good := fun σ2 H2 => t ≠ 1 ∧ σ2 = [some (.ref x), some (.int t), none, none] ∧ H = H2) ?_ ?_
    · intro nx hnx
      refine ⟨_, rfl, rfl, decide (V.int t = V.int 1), rfl, ?_⟩
      by_cases h1 : t = 1
      · rw [if_pos h1] at k
        rw [decide_eq_true (by rw [h1])]
        exact iteT ⟨_, rfl, k _ H (fun _ _ z => z) ⟨x, rfl, cc⟩⟩
      · rw [decide_eq_false (by simpa using h1)]
        exact iteF (hnx _ _ ⟨h1, rfl, rfl⟩)
    rintro _ _ ⟨h1, rfl, rfl⟩
    rw [if_neg h1] at k
    refine seqV (Good := fun σ2 H2 => c.b = c.f ∧ σ2 = [some (.ref x), some (.int t), none, none] ∧ H = H2) ?_ ?_
    · intro nx hnx
      refine ⟨_, rfl, x, C, dx, _, _, rfl, hx, T.cl, T.nb, cf_b c, _, rfl, x, C, dx, _, _, rfl, hx, T.cl, T.nf, cf_f c, oV_scal2, !decide (c.b = c.f), congrArg (fun b => V.bl (!b)) (oV_dec2 _ _), ?_⟩
      by_cases hf : c.b = c.f
      · rw [decide_eq_true hf]
        exact iteF (hnx _ _ ⟨hf, rfl, rfl⟩)
      · rw [if_pos hf] at k
        rw [decide_eq_false hf]
        exact iteT (k .non H (fun _ _ z => z) rfl)
    rintro _ _ ⟨hf, rfl, rfl⟩
    rw [if_neg (by simpa using hf)] at k
    refine seqV (Good := fun σ2 H2 => σ2 = [some (.ref x), some (.int t), some (.int c.e), some (.bl c.v)] ∧ H = H2)
      (fun nx hnx => ⟨_, rfl, x, C, dx, _, _, rfl, hx, T.cl, T.ne, cf_e c, _, rfl, x, C, dx, _, _, rfl, hx, T.cl, T.nv, cf_v c, _, _, rfl, hnx _ _ ⟨rfl, rfl⟩⟩) ?_
    rintro _ _ ⟨rfl, rfl⟩
    refine seqV (Good := fun σ2 H2 => σ2 = [some (.ref x), some (.int t), some (.int (if c.o = true then c.e else if c.g < 0 then c.e - (t - 1) * c.g else c.e)), some (.bl (if c.o = true then (c.v || !decide (c.g = 0)) else c.v))] ∧ H = H2) ?_ ?_
    · intro nx hnx
      refine ⟨_, rfl, x, C, dx, _, _, rfl, hx, T.cl, T.no, cf_o c, c.o, rfl, ?_⟩
      cases ho : c.o with
      | true =>
        have e1 : (if c.o = true then c.e else if c.g < 0 then c.e - (t - 1) * c.g else c.e) = c.e := if_pos ho
        have e2 : (if c.o = true then (c.v || !decide (c.g = 0)) else c.v) = (c.v || !decide (c.g = 0)) := if_pos ho
        refine iteT ⟨_, rfl, c.v, rfl, ?_⟩
        cases hv : c.v with
        | true => exact iteT (hnx _ _ ⟨by rw [e1, e2, hv]; rfl, rfl⟩)
        | false =>
          refine iteF ⟨_, rfl, x, C, dx, _, _, rfl, hx, T.cl, T.ng, cf_g c, rfl, ?_⟩
          refine hnx _ _ ⟨?_, rfl⟩
          rw [e1, e2, hv]
          show [some (V.ref x), some (V.int t), some (V.int c.e), some (V.bl (!decide (V.int c.g = V.int 0)))] = _
          have e : decide (V.int c.g = V.int 0) = decide (c.g = 0) := by simp
          rw [e, Bool.false_or]
      | false =>
        have e1 : (if c.o = true then c.e else if c.g < 0 then c.e - (t - 1) * c.g else c.e) = if c.g < 0 then c.e - (t - 1) * c.g else c.e := if_neg (by rw [ho]; decide)
        have e2 : (if c.o = true then (c.v || !decide (c.g = 0)) else c.v) = c.v := if_neg (by rw [ho]; decide)
        refine iteF ⟨_, rfl, x, C, dx, _, _, rfl, hx, T.cl, T.ng, cf_g c, _, _, rfl, rfl, decide (c.g < 0), rfl, ?_⟩
        by_cases hg : c.g < 0
        · rw [decide_eq_true hg]
          refine iteT ⟨_, rfl, _, rfl, _, _, rfl, rfl, _, rfl, x, C, dx, _, _, rfl, hx, T.cl, T.ng, cf_g c, _, _, rfl, rfl, .inl ⟨by omega, by omega⟩, _, _, rfl, rfl, ?_⟩
          exact hnx _ _ ⟨by rw [e1, e2, if_pos hg]; rfl, rfl⟩
        · rw [decide_eq_false hg]
          exact iteF (hnx _ _ ⟨by rw [e1, e2, if_neg hg], rfl⟩)
    rintro _ _ ⟨rfl, rfl⟩
    refine ⟨_, rfl, x, C, dx, _, _, rfl, hx, T.cl, T.nb, cf_b c, _, rfl, x, C, dx, _, _, rfl, hx, T.cl, T.nf, cf_f c, _, rfl, x, C, dx, _, _, rfl, hx, T.cl, T.nn, cf_n c, _, rfl, _, _, rfl, rfl, .inr ⟨by omega, by omega⟩,
      _, rfl, x, C, dx, _, _, rfl, hx, T.cl, T.ng, cf_g c, _, rfl, _, _, rfl, rfl, .inr ⟨by omega, by omega⟩, _, rfl, _, rfl, x, C, dx, _, _, rfl, hx, T.cl, T.no, cf_o c, _, rfl, ?_⟩
    exact crs_any ⟨c.b, c.f, c.n * t, c.g * t, if c.o = true then c.e else if c.g < 0 then c.e - (t - 1) * c.g else c.e, c.o, if c.o = true then (c.v || !decide (c.g = 0)) else c.v⟩ fun x2 H' nx s hc => ⟨rfl, k _ H' s ⟨x2, rfl, hc⟩⟩
end
end L2.K22
end

section
set_option Elab.async false
set_option linter.all false
set_option maxRecDepth 100000
set_option maxHeartbeats 4000000
namespace L2.K22
open PySem PySem.Spec PyProof.Rows L2.Gd
/-! ### the form of a going -/
def itemF (hf : PyData → Bool) (m : Int) : PyData → Bool
  | .tuple [x, y] => isC y && hf x
  | .tuple _ => false
  | .int i => decide (0 ≤ i) && decide (i < m)
  | _ => false
def seqOf : PyData → Option (List PyData)
  | .list ds => some ds
  | .tuple ds => some ds
  | _ => none
def hasF : Nat → Int → PyData → Bool
  | 0, _, _ => false
  | k + 1, m, d => match seqOf d with
    | some ds => ds.all (itemF (hasF k m) m)
    | none => false
section
variable {P : Program} {w : World} {K : PySem.W.Frag} {mg : Str → Option Value} {base : Heap} {C : Addr}
def spHF (k : Nat) : Sp := fun vs H Q _ => ∃ (p : Addr) (m : Int) (v : V) (d : PyData), vs = [.int m, v, .int k] ∧ DV p H v d ∧ ∀ H', Same H H' → Q (.bl (hasF k m d)) H'
def NHf : List Str := ["many", "value", "lists", "item"]
theorem scHf : FnScope NHf ["many", "value", "lists"] (defScope (top 24)) := ⟨rfl, rfl, rfl, by decide +kernel, rfl, by decide +kernel, by decide +kernel⟩
theorem ok_hf0 {f : Addr} {fd : FuncData} (F : Fun K "has_going_form" "has_going_form" (top 24) f fd) (GL : Fn P w K mg base 1 "is_list" ["value"] spLst2) : FnOk P w K mg base CX0 3 f fd ["many", "value", "lists"] (spHF 0) := by
  refine F.ok scHf (fun vs H Q E h => ?_) (fun cdv A outer s H vs Q E hr h => ?_)
  · obtain ⟨p, m, v, d, rfl, _⟩ := h
    rfl
  · obtain ⟨p, m, v, d, rfl, hd, k⟩ := h
    refine ⟨_, pss_cons (ps_if (pw_or (pt_cmpR op_eq (pv 2) pe_int (nomark _)) (pw_or1 (pt_not (pt_val (pe_fn GL (hr.mono (by decide)) (pa_cons (pv 1) pa_nil)))))).pt (pss_one (ps_ret pe_bl)) pss_nil) pss_never, ?_⟩
    refine ⟨_, rfl, rfl, true, rfl, ?_⟩
    exact iteT (k H fun _ _ z => z)
theorem ok_hfS {j : Nat} {f : Addr} {fd : FuncData} (F : Fun K "has_going_form" "has_going_form" (top 24) f fd) (n : Nm mg) (GL : Fn P w K mg base 1 "is_list" ["value"] spLst2) (GC : Fn P w K mg base 2 "is_count" ["value"] spCnt2)
    (GH : Fn P w K mg base (3 + j) "has_going_form" ["many", "value", "lists"] (spHF j)) : FnOk P w K mg base CX0 (3 + j + 1) f fd ["many", "value", "lists"] (spHF (j + 1)) := by
  refine F.ok scHf (fun vs H Q E h => ?_) (fun cdv A outer s H vs Q E hr h => ?_)
  · obtain ⟨p, m, v, d, rfl, _⟩ := h
    rfl
  · obtain ⟨p, m, v, d, rfl, hd, q⟩ := h
    have N := scHf.nd
    have r1 := hr.mono (k := 3 + j) (j := 1) (by omega)
    have r2 := hr.mono (k := 3 + j) (j := 2) (by omega)
    have jn : ¬ ((j : Int) + 1 = 0) := by omega
    have j1 : ((j : Int) + 1) - 1 = j := by omega
    have start_ : ∀ (tb : TS) (D : Ends), True := fun _ _ => trivial
    cases hd with
    | lst nep hx ts =>
      rename_i a xs ds
      refine ⟨_, pss_cons (ps_if (pw_or (pt_cmpR op_eq (pv 2) pe_int (nomark _)) (pw_or1 (pt_not (pt_val (pe_fn GL r1 (pa_cons (pv 1) pa_nil)))))).pt (pss_one (ps_ret pe_bl)) pss_nil)
        (pss_cons (ps_for PassesOwn.never rfl (pi_list (pv 1)) (pg_name (i := 3) N rfl (.inl rfl))
          (pss_one (ps_if (pt_val (pe_isTuple n (pv 3)))
            (pss_one (ps_if (pw_or (pt_cmpR op_ne (pe_callB call_len_seq (by rfl) n.len PySem.boot_len (pa_cons (pv 3) pa_nil)) pe_int (nomark _)) (pw_or (pt_not (pt_val (pe_fn GC r2 (pa_cons (pe_ix ix_tup (pv 3) pe_int (fun _ _ => rfl)) pa_nil))))
              (pw_or1 (pt_not (pt_val (pe_fn GH hr (pa_cons (pv 0) (pa_cons (pe_ix ix_tup (pv 3) pe_int (fun _ _ => rfl)) (pa_cons (pe_op op_sub (pv 2) pe_int) pa_nil))))))))).pt (pss_one (ps_ret pe_bl)) pss_nil))
            (pss_one (ps_if (pw_or (pt_not (pt_val (pe_fn GC r2 (pa_cons (pv 3) pa_nil)))) (pw_or1 (PW.pt (pw_and (pt_cmp (pc_notN (pv 0))) (pw_and1 (pt_cmpR op_ge (pv 3) (pv 0) (nomark _))))))).pt (pss_one (ps_ret pe_bl)) pss_nil)))))
        (pss_one (ps_ret pe_bl))), ?_⟩
      refine ⟨_, rfl, rfl, false, congrArg V.bl (decide_eq_false (by simpa using jn)), ?_⟩
      refine iteF ?_
      refine ⟨_, rfl, p, _, _, rfl, .lst nep hx ts, fun H1 s1 => ⟨true, rfl, ?_⟩⟩
      refine iteF ?_
      have hx1 := s1 _ _ hx
      refine ⟨_, rfl, a, rfl, ⟨_, .inl (.inl hx1)⟩, ?_⟩
      refine loop_of (n := xs.length) (fun i σ H2 => ∃ v3 : Option V, σ = [some (.int m), some (.ref a), some (.int ((j : Int) + 1)), v3] ∧ Same H1 H2 ∧ ∀ i2, i2 < i → ∀ d, ds[i2]? = some d → itemF (hasF j m) m d = true) ⟨none, rfl, fun _ _ z => z, fun i2 h => absurd h (by omega)⟩ ?_ ?_
      · rintro σ H2 ⟨v3, rfl, s2, all⟩
        refine ⟨⟨xs, .inl (.inl (s2 _ _ hx1)), Nat.le_refl _⟩, ?_⟩
        have e : hasF (j + 1) m (.list ds) = true := by
          show ds.all (itemF (hasF j m) m) = true
          rw [List.all_eq_true]
          intro d hd
          obtain ⟨i, hi⟩ := List.mem_iff_getElem?.mp hd
          exact all i (by rw [ts.len]; exact (List.getElem?_eq_some_iff.mp hi).1) d hi
        have := q H2 (s1.trans s2)
        rw [e] at this
        exact this
      · rintro i σ H2 hi ⟨v3, rfl, s2, all⟩
        refine ⟨⟨xs, _, .inl (.inl (s2 _ _ hx1)), List.getElem?_eq_getElem hi⟩, ?_⟩
        rintro x H' ⟨rfl, hy⟩
        have hxi := hy xs (.inl (.inl (s2 _ _ hx1)))
        obtain ⟨d, hdi, hdx⟩ := ts.at hxi
        have hdx2 : DV p H' x d := hdx.same (s1.trans s2)
        have no : itemF (hasF j m) m d = false → ∀ H3, Same H' H3 → Q (.bl false) H3 := fun e H3 s3 => by
          have e2 : hasF (j + 1) m (.list ds) = false := by
            show ds.all (itemF (hasF j m) m) = false
            rw [List.all_eq_false]
            exact ⟨d, List.mem_of_getElem? hdi, by rw [e]; decide⟩
          have := q H3 (s1.trans (s2.trans s3))
          rw [e2] at this
          exact this
        have yes : itemF (hasF j m) m d = true → ∀ i2, i2 < i + 1 → ∀ d, ds[i2]? = some d → itemF (hasF j m) m d = true := fun e i2 h2 d2 h3 => by
          by_cases z : i2 = i
          · subst z
            rw [hdi] at h3
            rw [← Option.some.inj h3]
            exact e
          · exact all i2 (by omega) d2 h3
        refine ⟨_, rfl, isi_mk hdx2.ty (kit_tuple d) ⟨_, rfl, ?_⟩⟩
        cases hT : isT d with
        | false =>
          have eI : itemF (hasF j m) m d = (isC d && (match d with | .int i => decide (i < m) | _ => false)) := by
            cases d <;> first | rfl | exact absurd (show true = false from hT) (by decide)
          refine iteF ?_
          refine ⟨_, rfl, p, x, d, rfl, hdx2, isC d, rfl, ?_⟩
          cases hC : isC d with
          | false => exact iteT (no (by rw [eI, hC]; rfl) _ fun _ _ z => z)
          | true =>
            refine iteF ?_
            cases hdx2 with
            | int z =>
              refine ⟨_, rfl, true, rfl, iteT ⟨_, rfl, _, rfl, _, _, rfl, rfl, decide (z ≥ m), rfl, ?_⟩⟩
              by_cases hz : z ≥ m
              · rw [decide_eq_true hz]
                exact iteT (no (by rw [eI, hC]; exact decide_eq_false (by omega)) _ fun _ _ z => z)
              · rw [decide_eq_false hz]
                exact iteF ⟨_, rfl, s2, yes (by rw [eI, hC]; exact decide_eq_true (by omega))⟩
            | non => exact absurd (show false = true from hC) (by decide)
            | bl b => exact absurd (show false = true from hC) (by decide)
            | str z => exact absurd (show false = true from hC) (by decide)
            | lst _ _ _ => exact absurd (show false = true from hC) (by decide)
            | tup _ _ => exact absurd (show false = true from hC) (by decide)
            | dct _ => exact absurd (show false = true from hC) (by decide)
        | true =>
          refine iteT ?_
          cases hdx2 with
          | tup ht tt =>
            rename_i t ts2 us
            refine ⟨_, rfl, t, ts2, rfl, .inr (.inl (.inl ht)), rfl, !decide (V.int (ts2.length : Int) = V.int 2), rfl, ?_⟩
            by_cases h2 : ts2.length = 2
            · rw [decide_eq_true (by rw [h2]; rfl)]
              refine iteF ?_
              match ts2, us, tt, h2 with
              | [y1, y2], _, .cons (d := d1) k1 (.cons (d := d2) k2 .nil), _ =>
                refine ⟨_, rfl, t, _, _, _, rfl, rfl, .inl (.inl ht), rfl, p, y2, d2, rfl, k2, isC d2, rfl, ?_⟩
                have eI : itemF (hasF j m) m (.tuple [d1, d2]) = (isC d2 && hasF j m d1) := rfl
                cases hC : isC d2 with
                | false => exact iteT (no (by rw [eI, hC]; rfl) _ fun _ _ z => z)
                | true =>
                  refine iteF ?_
                  refine ⟨_, rfl, _, rfl, t, _, _, _, rfl, rfl, .inl (.inl ht), rfl, _, rfl, _, _, rfl, rfl, p, m, y1, d1, by show [V.int m, y1, V.int ((j : Int) + 1 - 1)] ++ [] = _; rw [j1]; rfl, k1, fun H3 s3 => ⟨hasF j m d1, rfl, ?_⟩⟩
                  cases hF : hasF j m d1 with
                  | false => exact iteT (no (by rw [eI, hC, hF]; rfl) _ s3)
                  | true => exact iteF ⟨_, rfl, s2.trans s3, yes (by rw [eI, hC, hF]; rfl)⟩
            · rw [decide_eq_false (by simp; omega)]
              refine iteT (no ?_ _ fun _ _ z => z)
              have l2 := tt.len
              match us, l2 with
              | [], _ => rfl
              | [_], _ => rfl
              | [_, _], l2 => exact absurd l2 h2
              | _ :: _ :: _ :: _, _ => rfl
          | non => exact absurd (show false = true from hT) (by decide)
          | bl b => exact absurd (show false = true from hT) (by decide)
          | int z => exact absurd (show false = true from hT) (by decide)
          | str z => exact absurd (show false = true from hT) (by decide)
          | lst _ _ _ => exact absurd (show false = true from hT) (by decide)
          | dct _ => exact absurd (show false = true from hT) (by decide)
    | tup hx ts =>
      rename_i a xs ds
      refine ⟨_, pss_cons (ps_if (pw_or (pt_cmpR op_eq (pv 2) pe_int (nomark _)) (pw_or1 (pt_not (pt_val (pe_fn GL r1 (pa_cons (pv 1) pa_nil)))))).pt (pss_one (ps_ret pe_bl)) pss_nil)
        (pss_cons (ps_for PassesOwn.never rfl (pi_tup (pv 1)) (pg_name (i := 3) N rfl (.inl rfl))
          (pss_one (ps_if (pt_val (pe_isTuple n (pv 3)))
            (pss_one (ps_if (pw_or (pt_cmpR op_ne (pe_callB call_len_seq (by rfl) n.len PySem.boot_len (pa_cons (pv 3) pa_nil)) pe_int (nomark _)) (pw_or (pt_not (pt_val (pe_fn GC r2 (pa_cons (pe_ix ix_tup (pv 3) pe_int (fun _ _ => rfl)) pa_nil))))
              (pw_or1 (pt_not (pt_val (pe_fn GH hr (pa_cons (pv 0) (pa_cons (pe_ix ix_tup (pv 3) pe_int (fun _ _ => rfl)) (pa_cons (pe_op op_sub (pv 2) pe_int) pa_nil))))))))).pt (pss_one (ps_ret pe_bl)) pss_nil))
            (pss_one (ps_if (pw_or (pt_not (pt_val (pe_fn GC r2 (pa_cons (pv 3) pa_nil)))) (pw_or1 (PW.pt (pw_and (pt_cmp (pc_notN (pv 0))) (pw_and1 (pt_cmpR op_ge (pv 3) (pv 0) (nomark _))))))).pt (pss_one (ps_ret pe_bl)) pss_nil)))))
        (pss_one (ps_ret pe_bl))), ?_⟩
      refine ⟨_, rfl, rfl, false, congrArg V.bl (decide_eq_false (by simpa using jn)), ?_⟩
      refine iteF ?_
      refine ⟨_, rfl, p, _, _, rfl, .tup hx ts, fun H1 s1 => ⟨true, rfl, ?_⟩⟩
      refine iteF ?_
      have hx1 := s1 _ _ hx
      refine ⟨_, rfl, a, rfl, ⟨_, .inl (.inl hx1)⟩, ?_⟩
      refine loop_of (n := xs.length) (fun i σ H2 => ∃ v3 : Option V, σ = [some (.int m), some (.ref a), some (.int ((j : Int) + 1)), v3] ∧ Same H1 H2 ∧ ∀ i2, i2 < i → ∀ d, ds[i2]? = some d → itemF (hasF j m) m d = true) ⟨none, rfl, fun _ _ z => z, fun i2 h => absurd h (by omega)⟩ ?_ ?_
      · rintro σ H2 ⟨v3, rfl, s2, all⟩
        refine ⟨⟨xs, .inl (.inl (s2 _ _ hx1)), Nat.le_refl _⟩, ?_⟩
        have e : hasF (j + 1) m (.tuple ds) = true := by
          show ds.all (itemF (hasF j m) m) = true
          rw [List.all_eq_true]
          intro d hd
          obtain ⟨i, hi⟩ := List.mem_iff_getElem?.mp hd
          exact all i (by rw [ts.len]; exact (List.getElem?_eq_some_iff.mp hi).1) d hi
        have := q H2 (s1.trans s2)
        rw [e] at this
        exact this
      · rintro i σ H2 hi ⟨v3, rfl, s2, all⟩
        refine ⟨⟨xs, _, .inl (.inl (s2 _ _ hx1)), List.getElem?_eq_getElem hi⟩, ?_⟩
        rintro x H' ⟨rfl, hy⟩
        have hxi := hy xs (.inl (.inl (s2 _ _ hx1)))
        obtain ⟨d, hdi, hdx⟩ := ts.at hxi
        have hdx2 : DV p H' x d := hdx.same (s1.trans s2)
        have no : itemF (hasF j m) m d = false → ∀ H3, Same H' H3 → Q (.bl false) H3 := fun e H3 s3 => by
          have e2 : hasF (j + 1) m (.tuple ds) = false := by
            show ds.all (itemF (hasF j m) m) = false
            rw [List.all_eq_false]
            exact ⟨d, List.mem_of_getElem? hdi, by rw [e]; decide⟩
          have := q H3 (s1.trans (s2.trans s3))
          rw [e2] at this
          exact this
        have yes : itemF (hasF j m) m d = true → ∀ i2, i2 < i + 1 → ∀ d, ds[i2]? = some d → itemF (hasF j m) m d = true := fun e i2 h2 d2 h3 => by
          by_cases z : i2 = i
          · subst z
            rw [hdi] at h3
            rw [← Option.some.inj h3]
            exact e
          · exact all i2 (by omega) d2 h3
        refine ⟨_, rfl, isi_mk hdx2.ty (kit_tuple d) ⟨_, rfl, ?_⟩⟩
        cases hT : isT d with
        | false =>
          have eI : itemF (hasF j m) m d = (isC d && (match d with | .int i => decide (i < m) | _ => false)) := by
            cases d <;> first | rfl | exact absurd (show true = false from hT) (by decide)
          refine iteF ?_
          refine ⟨_, rfl, p, x, d, rfl, hdx2, isC d, rfl, ?_⟩
          cases hC : isC d with
          | false => exact iteT (no (by rw [eI, hC]; rfl) _ fun _ _ z => z)
          | true =>
            refine iteF ?_
            cases hdx2 with
            | int z =>
              refine ⟨_, rfl, true, rfl, iteT ⟨_, rfl, _, rfl, _, _, rfl, rfl, decide (z ≥ m), rfl, ?_⟩⟩
              by_cases hz : z ≥ m
              · rw [decide_eq_true hz]
                exact iteT (no (by rw [eI, hC]; exact decide_eq_false (by omega)) _ fun _ _ z => z)
              · rw [decide_eq_false hz]
                exact iteF ⟨_, rfl, s2, yes (by rw [eI, hC]; exact decide_eq_true (by omega))⟩
            | non => exact absurd (show false = true from hC) (by decide)
            | bl b => exact absurd (show false = true from hC) (by decide)
            | str z => exact absurd (show false = true from hC) (by decide)
            | lst _ _ _ => exact absurd (show false = true from hC) (by decide)
            | tup _ _ => exact absurd (show false = true from hC) (by decide)
            | dct _ => exact absurd (show false = true from hC) (by decide)
        | true =>
          refine iteT ?_
          cases hdx2 with
          | tup ht tt =>
            rename_i t ts2 us
            refine ⟨_, rfl, t, ts2, rfl, .inr (.inl (.inl ht)), rfl, !decide (V.int (ts2.length : Int) = V.int 2), rfl, ?_⟩
            by_cases h2 : ts2.length = 2
            · rw [decide_eq_true (by rw [h2]; rfl)]
              refine iteF ?_
              match ts2, us, tt, h2 with
              | [y1, y2], _, .cons (d := d1) k1 (.cons (d := d2) k2 .nil), _ =>
                refine ⟨_, rfl, t, _, _, _, rfl, rfl, .inl (.inl ht), rfl, p, y2, d2, rfl, k2, isC d2, rfl, ?_⟩
                have eI : itemF (hasF j m) m (.tuple [d1, d2]) = (isC d2 && hasF j m d1) := rfl
                cases hC : isC d2 with
                | false => exact iteT (no (by rw [eI, hC]; rfl) _ fun _ _ z => z)
                | true =>
                  refine iteF ?_
                  refine ⟨_, rfl, _, rfl, t, _, _, _, rfl, rfl, .inl (.inl ht), rfl, _, rfl, _, _, rfl, rfl, p, m, y1, d1, by show [V.int m, y1, V.int ((j : Int) + 1 - 1)] ++ [] = _; rw [j1]; rfl, k1, fun H3 s3 => ⟨hasF j m d1, rfl, ?_⟩⟩
                  cases hF : hasF j m d1 with
                  | false => exact iteT (no (by rw [eI, hC, hF]; rfl) _ s3)
                  | true => exact iteF ⟨_, rfl, s2.trans s3, yes (by rw [eI, hC, hF]; rfl)⟩
            · rw [decide_eq_false (by simp; omega)]
              refine iteT (no ?_ _ fun _ _ z => z)
              have l2 := tt.len
              match us, l2 with
              | [], _ => rfl
              | [_], _ => rfl
              | [_, _], l2 => exact absurd l2 h2
              | _ :: _ :: _ :: _, _ => rfl
          | non => exact absurd (show false = true from hT) (by decide)
          | bl b => exact absurd (show false = true from hT) (by decide)
          | int z => exact absurd (show false = true from hT) (by decide)
          | str z => exact absurd (show false = true from hT) (by decide)
          | lst _ _ _ => exact absurd (show false = true from hT) (by decide)
          | dct _ => exact absurd (show false = true from hT) (by decide)
    | non =>
      refine ⟨_, pss_cons (ps_if (pw_or (pt_cmpR op_eq (pv 2) pe_int (nomark _)) (pw_or1 (pt_not (pt_val (pe_fn GL r1 (pa_cons (pv 1) pa_nil)))))).pt (pss_one (ps_ret pe_bl)) pss_nil)
        (pss_cons (ps_for PassesOwn.never rfl (pi_list (pv 1)) (pg_name (i := 3) N rfl (.inl rfl))
          (pss_one (ps_if (pt_val (pe_isTuple n (pv 3)))
            (pss_one (ps_if (pw_or (pt_cmpR op_ne (pe_callB call_len_seq (by rfl) n.len PySem.boot_len (pa_cons (pv 3) pa_nil)) pe_int (nomark _)) (pw_or (pt_not (pt_val (pe_fn GC r2 (pa_cons (pe_ix ix_tup (pv 3) pe_int (fun _ _ => rfl)) pa_nil))))
              (pw_or1 (pt_not (pt_val (pe_fn GH hr (pa_cons (pv 0) (pa_cons (pe_ix ix_tup (pv 3) pe_int (fun _ _ => rfl)) (pa_cons (pe_op op_sub (pv 2) pe_int) pa_nil))))))))).pt (pss_one (ps_ret pe_bl)) pss_nil))
            (pss_one (ps_if (pw_or (pt_not (pt_val (pe_fn GC r2 (pa_cons (pv 3) pa_nil)))) (pw_or1 (PW.pt (pw_and (pt_cmp (pc_notN (pv 0))) (pw_and1 (pt_cmpR op_ge (pv 3) (pv 0) (nomark _))))))).pt (pss_one (ps_ret pe_bl)) pss_nil)))))
        (pss_one (ps_ret pe_bl))), ?_⟩
      refine ⟨_, rfl, rfl, false, congrArg V.bl (decide_eq_false (by simpa using jn)), ?_⟩
      refine iteF ?_
      refine ⟨_, rfl, p, _, _, rfl, .non, fun H1 s1 => ⟨false, rfl, ?_⟩⟩
      exact iteT (q H1 s1)
    | bl b =>
      refine ⟨_, pss_cons (ps_if (pw_or (pt_cmpR op_eq (pv 2) pe_int (nomark _)) (pw_or1 (pt_not (pt_val (pe_fn GL r1 (pa_cons (pv 1) pa_nil)))))).pt (pss_one (ps_ret pe_bl)) pss_nil)
        (pss_cons (ps_for PassesOwn.never rfl (pi_list (pv 1)) (pg_name (i := 3) N rfl (.inl rfl))
          (pss_one (ps_if (pt_val (pe_isTuple n (pv 3)))
            (pss_one (ps_if (pw_or (pt_cmpR op_ne (pe_callB call_len_seq (by rfl) n.len PySem.boot_len (pa_cons (pv 3) pa_nil)) pe_int (nomark _)) (pw_or (pt_not (pt_val (pe_fn GC r2 (pa_cons (pe_ix ix_tup (pv 3) pe_int (fun _ _ => rfl)) pa_nil))))
              (pw_or1 (pt_not (pt_val (pe_fn GH hr (pa_cons (pv 0) (pa_cons (pe_ix ix_tup (pv 3) pe_int (fun _ _ => rfl)) (pa_cons (pe_op op_sub (pv 2) pe_int) pa_nil))))))))).pt (pss_one (ps_ret pe_bl)) pss_nil))
            (pss_one (ps_if (pw_or (pt_not (pt_val (pe_fn GC r2 (pa_cons (pv 3) pa_nil)))) (pw_or1 (PW.pt (pw_and (pt_cmp (pc_notN (pv 0))) (pw_and1 (pt_cmpR op_ge (pv 3) (pv 0) (nomark _))))))).pt (pss_one (ps_ret pe_bl)) pss_nil)))))
        (pss_one (ps_ret pe_bl))), ?_⟩
      refine ⟨_, rfl, rfl, false, congrArg V.bl (decide_eq_false (by simpa using jn)), ?_⟩
      refine iteF ?_
      refine ⟨_, rfl, p, _, _, rfl, .bl b, fun H1 s1 => ⟨false, rfl, ?_⟩⟩
      exact iteT (q H1 s1)
    | int i =>
      refine ⟨_, pss_cons (ps_if (pw_or (pt_cmpR op_eq (pv 2) pe_int (nomark _)) (pw_or1 (pt_not (pt_val (pe_fn GL r1 (pa_cons (pv 1) pa_nil)))))).pt (pss_one (ps_ret pe_bl)) pss_nil)
        (pss_cons (ps_for PassesOwn.never rfl (pi_list (pv 1)) (pg_name (i := 3) N rfl (.inl rfl))
          (pss_one (ps_if (pt_val (pe_isTuple n (pv 3)))
            (pss_one (ps_if (pw_or (pt_cmpR op_ne (pe_callB call_len_seq (by rfl) n.len PySem.boot_len (pa_cons (pv 3) pa_nil)) pe_int (nomark _)) (pw_or (pt_not (pt_val (pe_fn GC r2 (pa_cons (pe_ix ix_tup (pv 3) pe_int (fun _ _ => rfl)) pa_nil))))
              (pw_or1 (pt_not (pt_val (pe_fn GH hr (pa_cons (pv 0) (pa_cons (pe_ix ix_tup (pv 3) pe_int (fun _ _ => rfl)) (pa_cons (pe_op op_sub (pv 2) pe_int) pa_nil))))))))).pt (pss_one (ps_ret pe_bl)) pss_nil))
            (pss_one (ps_if (pw_or (pt_not (pt_val (pe_fn GC r2 (pa_cons (pv 3) pa_nil)))) (pw_or1 (PW.pt (pw_and (pt_cmp (pc_notN (pv 0))) (pw_and1 (pt_cmpR op_ge (pv 3) (pv 0) (nomark _))))))).pt (pss_one (ps_ret pe_bl)) pss_nil)))))
        (pss_one (ps_ret pe_bl))), ?_⟩
      refine ⟨_, rfl, rfl, false, congrArg V.bl (decide_eq_false (by simpa using jn)), ?_⟩
      refine iteF ?_
      refine ⟨_, rfl, p, _, _, rfl, .int i, fun H1 s1 => ⟨false, rfl, ?_⟩⟩
      exact iteT (q H1 s1)
    | str z =>
      refine ⟨_, pss_cons (ps_if (pw_or (pt_cmpR op_eq (pv 2) pe_int (nomark _)) (pw_or1 (pt_not (pt_val (pe_fn GL r1 (pa_cons (pv 1) pa_nil)))))).pt (pss_one (ps_ret pe_bl)) pss_nil)
        (pss_cons (ps_for PassesOwn.never rfl (pi_list (pv 1)) (pg_name (i := 3) N rfl (.inl rfl))
          (pss_one (ps_if (pt_val (pe_isTuple n (pv 3)))
            (pss_one (ps_if (pw_or (pt_cmpR op_ne (pe_callB call_len_seq (by rfl) n.len PySem.boot_len (pa_cons (pv 3) pa_nil)) pe_int (nomark _)) (pw_or (pt_not (pt_val (pe_fn GC r2 (pa_cons (pe_ix ix_tup (pv 3) pe_int (fun _ _ => rfl)) pa_nil))))
              (pw_or1 (pt_not (pt_val (pe_fn GH hr (pa_cons (pv 0) (pa_cons (pe_ix ix_tup (pv 3) pe_int (fun _ _ => rfl)) (pa_cons (pe_op op_sub (pv 2) pe_int) pa_nil))))))))).pt (pss_one (ps_ret pe_bl)) pss_nil))
            (pss_one (ps_if (pw_or (pt_not (pt_val (pe_fn GC r2 (pa_cons (pv 3) pa_nil)))) (pw_or1 (PW.pt (pw_and (pt_cmp (pc_notN (pv 0))) (pw_and1 (pt_cmpR op_ge (pv 3) (pv 0) (nomark _))))))).pt (pss_one (ps_ret pe_bl)) pss_nil)))))
        (pss_one (ps_ret pe_bl))), ?_⟩
      refine ⟨_, rfl, rfl, false, congrArg V.bl (decide_eq_false (by simpa using jn)), ?_⟩
      refine iteF ?_
      refine ⟨_, rfl, p, _, _, rfl, .str z, fun H1 s1 => ⟨false, rfl, ?_⟩⟩
      exact iteT (q H1 s1)
    | dct hx =>
      refine ⟨_, pss_cons (ps_if (pw_or (pt_cmpR op_eq (pv 2) pe_int (nomark _)) (pw_or1 (pt_not (pt_val (pe_fn GL r1 (pa_cons (pv 1) pa_nil)))))).pt (pss_one (ps_ret pe_bl)) pss_nil)
        (pss_cons (ps_for PassesOwn.never rfl (pi_list (pv 1)) (pg_name (i := 3) N rfl (.inl rfl))
          (pss_one (ps_if (pt_val (pe_isTuple n (pv 3)))
            (pss_one (ps_if (pw_or (pt_cmpR op_ne (pe_callB call_len_seq (by rfl) n.len PySem.boot_len (pa_cons (pv 3) pa_nil)) pe_int (nomark _)) (pw_or (pt_not (pt_val (pe_fn GC r2 (pa_cons (pe_ix ix_tup (pv 3) pe_int (fun _ _ => rfl)) pa_nil))))
              (pw_or1 (pt_not (pt_val (pe_fn GH hr (pa_cons (pv 0) (pa_cons (pe_ix ix_tup (pv 3) pe_int (fun _ _ => rfl)) (pa_cons (pe_op op_sub (pv 2) pe_int) pa_nil))))))))).pt (pss_one (ps_ret pe_bl)) pss_nil))
            (pss_one (ps_if (pw_or (pt_not (pt_val (pe_fn GC r2 (pa_cons (pv 3) pa_nil)))) (pw_or1 (PW.pt (pw_and (pt_cmp (pc_notN (pv 0))) (pw_and1 (pt_cmpR op_ge (pv 3) (pv 0) (nomark _))))))).pt (pss_one (ps_ret pe_bl)) pss_nil)))))
        (pss_one (ps_ret pe_bl))), ?_⟩
      refine ⟨_, rfl, rfl, false, congrArg V.bl (decide_eq_false (by simpa using jn)), ?_⟩
      refine iteF ?_
      refine ⟨_, rfl, p, _, _, rfl, .dct hx, fun H1 s1 => ⟨false, rfl, ?_⟩⟩
      exact iteT (q H1 s1)
theorem fn_hf {f : Addr} {fd : FuncData} (F : Fun K "has_going_form" "has_going_form" (top 24) f fd) (m : mg "has_going_form" = some (.ref f)) (b : Binds K fd ["many", "value", "lists"] []) (n : Nm mg) (GL : Fn P w K mg base 1 "is_list" ["value"] spLst2) (GC : Fn P w K mg base 2 "is_count" ["value"] spCnt2) :
    ∀ j : Nat, Fn P w K mg base (3 + j) "has_going_form" ["many", "value", "lists"] (spHF j)
  | 0 => ⟨f, fd, m, F.kp, b, ok_hf0 F GL⟩
  | j + 1 => ⟨f, fd, m, F.kp, b, ok_hfS F n GL GC (fn_hf F m b n GL GC j)⟩
end
end L2.K22
end

section
set_option Elab.async false
set_option linter.all false
set_option maxRecDepth 100000
set_option maxHeartbeats 4000000
namespace L2.K22
open PySem PySem.Spec PyProof.Rows L2.Gd
theorem pe_fn0 {X : Cx} {k : Nat} {x : Str} {sp : Sp} {p pos : Pos}
    (F : Fn X.prog X.w X.K X.mg X.base k x [] sp) (hr : Room k X.A) (gl : Gl X x := by rfl) (hdb : (x == ("__debug__" : Str)) = false := by decide) :
    PE X (.Call (.Name x p) [] [] pos) (tCall sp [] E0 tNil) := by
  obtain ⟨f, fd, m, kp, b, G⟩ := F.ex
  exact pe_call0 G hr gl m kp b .nil pass0 hdb
theorem gn {i : Nat} {v : V} {σ : L2.St} {H : Hp} {Q : L2.St → Hp → Prop} (h : Q (σ.set i (some v)) H) : gName i v σ H Q := h
/-! ### the course of a going -/
def itemC (g : PyData → Option Crs) (ds : List Dd) : PyData → Option Crs
  | .tuple [x, .int t] => (if t > 0 then g x else some noC).bind fun c => oftC c t
  | .int i => (ds[i.toNat]?).map deedC
  | _ => none
def cwL (g : PyData → Option Crs) : List PyData → Crs → Option Crs
  | [], c => some c
  | it :: r, c => match (g it).bind (behC c) with
    | none => none
    | some c' => cwL g r c'
def cwC : Nat → List Dd → PyData → Option Crs
  | 0, _, _ => none
  | k + 1, ds, d => match seqOf d with
    | some its => cwL (itemC (cwC k ds) ds) its noC
    | none => none
/-- no lap is done a million times -/
def few : Nat → PyData → Prop
  | 0, _ => True
  | k + 1, d => ∀ its, seqOf d = some its → ∀ it ∈ its, ∀ x t, it = .tuple [x, .int t] → t < 1000000 ∧ few k x
section
variable {P : Program} {w : World} {K : PySem.W.Frag} {mg : Str → Option Value} {base : Heap} {C : Addr}
def spCW (C : Addr) (k : Nat) : Sp := fun vs H Q _ => ∃ (p D a : Addr) (ys : List V) (ds : List Dd) (d : PyData), vs = [.ref D, .ref a] ∧ H D = some (.lst ys) ∧ DdAll H ys ds ∧ DV p H (.ref a) d ∧ hasF k ds.length d = true ∧ few k d ∧
  ∀ v H', Same H H' → CV C H' v (cwC k ds d) → Q v H'
def NCw : List Str := ["deeds", "going", "course", "item", "more"]
theorem scCw : FnScope NCw ["deeds", "going"] (defScope (top 25)) := ⟨rfl, rfl, rfl, by decide +kernel, rfl, by decide +kernel, by decide +kernel⟩
theorem ok_cw0 {f : Addr} {fd : FuncData} (F : Fun K "course_within" "course_within" (top 25) f fd) : FnOk P w K mg base CX0 4 f fd ["deeds", "going"] (spCW C 0) := by
  refine F.ok scCw (fun vs H Q E h => ?_) (fun cdv A outer s H vs Q E hr h => ?_)
  · obtain ⟨p, D, a, ys, ds, d, rfl, _⟩ := h
    rfl
  · obtain ⟨p, D, a, ys, ds, d, rfl, _, _, _, hf, _⟩ := h
    exact absurd (show false = true from hf) (by decide)
theorem ok_cwS {j : Nat} {f : Addr} {fd : FuncData} (F : Fun K "course_within" "course_within" (top 25) f fd) (n : Nm mg) (GN : Fn P w K mg base 3 "no_course" [] (spNo C)) (GD : Fn P w K mg base 3 "deed_course" ["deed"] (spDC C))
    (GO : Fn P w K mg base 3 "done_often" ["course", "times"] (spOf C)) (GB : Fn P w K mg base 3 "behind_another" ["one", "two"] (spBA C))
    (GW : Fn P w K mg base (4 + j) "course_within" ["deeds", "going"] (spCW C j)) : FnOk P w K mg base CX0 (4 + j + 1) f fd ["deeds", "going"] (spCW C (j + 1)) := by
  refine F.ok scCw (fun vs H Q E h => ?_) (fun cdv A outer s H vs Q E hr h => ?_)
  · obtain ⟨p, D, a, ys, ds, d, rfl, _⟩ := h
    rfl
  · obtain ⟨p, D, a, ys, ds, d, rfl, hD, dd, hd, hf, hb, q⟩ := h
    have N := scCw.nd
    have r3 := hr.mono (k := 4 + j) (j := 3) (by omega)
    cases hd with
    | lst nep hx ts =>
      rename_i xs its
      refine ⟨_, pss_cons (ps_set (i := 2) N rfl (.inl rfl) (pe_fn0 GN r3))
        (pss_cons (ps_for PassesOwn.never rfl (pi_list (pv 1)) (pg_name (i := 3) N rfl (.inl rfl))
          (pss_cons (ps_if (pt_val (pe_isTuple n (pv 3)))
            (pss_cons (ps_set (i := 4) N rfl (.inl rfl) (pe_ifExp (pt_cmpR op_gt (pe_ix ix_tup (pv 3) pe_int (fun _ _ => rfl)) pe_int (nomark _)) (pe_fn GW hr (pa_cons (pv 0) (pa_cons (pe_ix ix_tup (pv 3) pe_int (fun _ _ => rfl)) pa_nil))) (pe_fn0 GN r3)))
            (pss_one (ps_set (i := 4) N rfl (.inl rfl) (pe_ifExp (pt_cmp (pc_isN (pv 4))) pe_non (pe_fn GO r3 (pa_cons (pv 4) (pa_cons (pe_ix ix_tup (pv 3) pe_int (fun _ _ => rfl)) pa_nil)))))))
            (pss_one (ps_set (i := 4) N rfl (.inl rfl) (pe_fn GD r3 (pa_cons (pe_ix ix_list (pv 0) (pv 3) (fun _ _ => rfl)) pa_nil)))))
          (pss_cons (ps_set (i := 2) N rfl (.inl rfl) (pe_ifExp (pt_cmp (pc_isN (pv 4))) pe_non (pe_fn GB r3 (pa_cons (pv 2) (pa_cons (pv 4) pa_nil)))))
          (pss_one (ps_if (pt_cmp (pc_isN (pv 2))) (pss_one (ps_ret pe_non)) pss_nil)))))
        (pss_one (ps_ret (pv 2)))), ?_⟩
      refine seqV (Good := fun σ2 H2 => ∃ x, CrsAt C H2 x noC ∧ Same H H2 ∧ σ2 = [some (.ref D), some (.ref a), some (.ref x), none, none])
        (fun nx hnx => ⟨rfl, fun x H2 _ s2 hc => hnx _ _ ⟨x, hc, s2, rfl⟩⟩) ?_
      rintro _ H1 ⟨x0, hc0, s1, rfl⟩
      have hx1 := s1 _ _ hx
      have lts := ts.len
      have whole : cwC (j + 1) ds (.list its) = cwL (itemC (cwC j ds) ds) its noC := rfl
      refine ⟨_, rfl, a, rfl, ⟨_, .inl (.inl hx1)⟩, ?_⟩
      refine loop_of (n := xs.length) (fun i σ H2 => ∃ (v3 v4 : Option V) (x : Addr) (c : Crs), σ = [some (.ref D), some (.ref a), some (.ref x), v3, v4] ∧ CrsAt C H2 x c ∧ Same H1 H2 ∧ cwL (itemC (cwC j ds) ds) (its.drop i) c = cwL (itemC (cwC j ds) ds) its noC)
        ⟨none, none, x0, noC, rfl, hc0, fun _ _ z => z, rfl⟩ ?_ ?_
      · rintro σ H2 ⟨v3, v4, x, c, rfl, hc, s2, e⟩
        refine ⟨⟨xs, .inl (.inl (s2 _ _ hx1)), Nat.le_refl _⟩, ?_⟩
        rw [lts, List.drop_length] at e
        exact ⟨_, rfl, q _ H2 (s1.trans s2) (by rw [whole, ← e]; exact ⟨x, rfl, hc⟩)⟩
      · rintro i σ H2 hi ⟨v3, v4, x, c, rfl, hc, s2, e⟩
        refine ⟨⟨xs, _, .inl (.inl (s2 _ _ hx1)), List.getElem?_eq_getElem hi⟩, ?_⟩
        rintro v H' ⟨rfl, hy⟩
        have hvi := hy xs (.inl (.inl (s2 _ _ hx1)))
        obtain ⟨it, hit, hdx⟩ := ts.at hvi
        have s01 := s1.trans s2
        have hdx2 : DV p H' v it := hdx.same s01
        have hmem := List.mem_of_getElem? hit
        have hiF : itemF (hasF j ds.length) ds.length it = true := List.all_eq_true.mp hf it hmem
        have hfew := hb its rfl it hmem
        have hil : i < its.length := by rw [← lts]; exact hi
        have dr : its.drop i = it :: its.drop (i + 1) := by
          rw [List.drop_eq_getElem_cons hil]
          congr 1
          rw [List.getElem?_eq_getElem hil] at hit
          exact Option.some.inj hit
        rw [dr] at e
        have hD' := s01 _ _ hD
        have dd' := DdAll.same s01 dd
        refine gn ?_
        -- more
        refine seqV (Good := fun σ2 H3 => ∃ vm, CV C H3 vm (itemC (cwC j ds) ds it) ∧ Same H' H3 ∧ σ2 = [some (.ref D), some (.ref a), some (.ref x), some v, some vm]) ?_ ?_
        · intro nx hnx
          refine ⟨_, rfl, isi_mk hdx2.ty (kit_tuple it) ⟨_, rfl, ?_⟩⟩
          cases hdx2 with
          | int z =>
            have zz : (decide (0 ≤ z) && decide (z < (ds.length : Int))) = true := hiF
            rw [Bool.and_eq_true, decide_eq_true_eq, decide_eq_true_eq] at zz
            obtain ⟨k, rfl⟩ : ∃ k : Nat, z = k := ⟨z.toNat, by omega⟩
            have hk : k < ds.length := by omega
            have yl := Paired.length dd'
            have hyk : ys[k]? = some ys[k] := List.getElem?_eq_getElem (by omega)
            obtain ⟨d1, hd1, t, et, ht⟩ := Paired.at dd' hyk
            refine iteF ⟨_, rfl, _, rfl, D, ys, _, _, rfl, rfl, .inl (.inl hD'), atI_nat hyk, t, d1, by rw [et]; rfl, ht, fun x2 H3 _ s3 hc3 => ?_⟩
            exact hnx _ _ ⟨.ref x2, by show CV C H3 (.ref x2) ((ds[((k : Nat) : Int).toNat]?).map deedC); rw [Int.toNat_natCast, hd1]; exact ⟨x2, rfl, hc3⟩, s3, rfl⟩
          | tup ht tt =>
            rename_i t ts2 us
            refine iteT ?_
            match ts2, us, tt with
            | [y1, y2], _, .cons (d := d1) k1 (.cons (d := d2) k2 .nil) =>
              have zz : (isC d2 && hasF j ds.length d1) = true := hiF
              rw [Bool.and_eq_true] at zz
              obtain ⟨zc, zf⟩ := zz
              cases k2 with
              | int t0 =>
                have t0p : 0 ≤ t0 := of_decide_eq_true zc
                obtain ⟨tl, fw⟩ := hfew d1 t0 rfl
                have ra : ∃ a2, y1 = .ref a2 := by
                  cases k1 with
                  | lst _ _ _ => exact ⟨_, rfl⟩
                  | tup _ _ => exact ⟨_, rfl⟩
                  | dct _ => exact ⟨_, rfl⟩
                  | non => cases j <;> exact absurd (show false = true from zf) (by decide)
                  | bl _ => cases j <;> exact absurd (show false = true from zf) (by decide)
                  | int _ => cases j <;> exact absurd (show false = true from zf) (by decide)
                  | str _ => cases j <;> exact absurd (show false = true from zf) (by decide)
                obtain ⟨a2, rfl⟩ := ra
                refine seqV (Good := fun σ2 H3 => ∃ v1, CV C H3 v1 (if t0 > 0 then cwC j ds d1 else some noC) ∧ Same H' H3 ∧ σ2 = [some (.ref D), some (.ref a), some (.ref x), some (.ref t), some v1]) ?_ ?_
                · intro nx2 hnx2
                  refine ⟨_, rfl, t, _, _, _, rfl, rfl, .inl (.inl ht), rfl, _, _, rfl, rfl, decide (t0 > 0), rfl, ?_⟩
                  by_cases hp0 : t0 > 0
                  · rw [decide_eq_true hp0]
                    refine iteT ⟨_, rfl, _, rfl, t, _, _, _, rfl, rfl, .inl (.inl ht), rfl, p, D, a2, ys, ds, d1, rfl, hD', dd', k1, zf, fw, fun v1 H3 s3 cv => ?_⟩
                    exact hnx2 _ _ ⟨v1, by rw [if_pos hp0]; exact cv, s3, rfl⟩
                  · rw [decide_eq_false hp0]
                    exact iteF ⟨rfl, fun x2 H3 _ s3 hc3 => hnx2 _ _ ⟨.ref x2, by rw [if_neg hp0]; exact ⟨x2, rfl, hc3⟩, s3, rfl⟩⟩
                rintro _ H3 ⟨v1, cv1, s3, rfl⟩
                have eI : itemC (cwC j ds) ds (.tuple [d1, .int t0]) = (if t0 > 0 then cwC j ds d1 else some noC).bind fun c => oftC c t0 := rfl
                refine ⟨_, rfl, decide (v1 = .non), rfl, ?_⟩
                cases hcw : (if t0 > 0 then cwC j ds d1 else some noC) with
                | none =>
                  rw [hcw] at cv1 eI
                  obtain rfl : v1 = .non := cv1
                  rw [decide_eq_true rfl]
                  exact iteT (hnx _ _ ⟨.non, by rw [eI]; rfl, s3, rfl⟩)
                | some c1 =>
                  rw [hcw] at cv1 eI
                  obtain ⟨x1, rfl, hc1⟩ := cv1
                  rw [decide_eq_false (by simp)]
                  refine iteF ⟨_, rfl, _, rfl, t, _, _, _, rfl, rfl, .inl (.inl (s3 _ _ ht)), rfl, x1, c1, t0, rfl, hc1, by omega, tl, fun v2 H4 s4 cv2 => ?_⟩
                  exact hnx _ _ ⟨v2, by rw [eI]; exact cv2, s3.trans s4, rfl⟩
              | non => exact absurd (show false = true from zc) (by decide)
              | bl _ => exact absurd (show false = true from zc) (by decide)
              | str _ => exact absurd (show false = true from zc) (by decide)
              | lst _ _ _ => exact absurd (show false = true from zc) (by decide)
              | tup _ _ => exact absurd (show false = true from zc) (by decide)
              | dct _ => exact absurd (show false = true from zc) (by decide)
            | [], _, .nil => exact absurd (show false = true from hiF) (by decide)
            | [_], _, .cons _ .nil => exact absurd (show false = true from hiF) (by decide)
            | _ :: _ :: _ :: _, _, .cons _ (.cons _ (.cons _ _)) => exact absurd (show false = true from hiF) (by decide)
          | non => exact absurd (show false = true from hiF) (by decide)
          | bl _ => exact absurd (show false = true from hiF) (by decide)
          | str _ => exact absurd (show false = true from hiF) (by decide)
          | lst _ _ _ => exact absurd (show false = true from hiF) (by decide)
          | dct _ => exact absurd (show false = true from hiF) (by decide)
        rintro _ H3 ⟨vm, cvm, s3, rfl⟩
        have hc3 := hc.same s3
        -- course
        refine seqV (Good := fun σ2 H4 => ∃ vc, CV C H4 vc ((itemC (cwC j ds) ds it).bind (behC c)) ∧ Same H3 H4 ∧ σ2 = [some (.ref D), some (.ref a), some vc, some v, some vm]) ?_ ?_
        · intro nx hnx
          refine ⟨_, rfl, decide (vm = .non), rfl, ?_⟩
          cases hci : itemC (cwC j ds) ds it with
          | none =>
            rw [hci] at cvm
            obtain rfl : vm = .non := cvm
            rw [decide_eq_true rfl]
            exact iteT (hnx _ _ ⟨.non, by rw [hci]; rfl, fun _ _ z => z, rfl⟩)
          | some cm =>
            rw [hci] at cvm
            obtain ⟨xm, rfl, hcm⟩ := cvm
            rw [decide_eq_false (by simp)]
            exact iteF ⟨_, rfl, _, rfl, x, xm, c, cm, rfl, hc3, hcm, fun v2 H4 s4 cv2 => hnx _ _ ⟨v2, by rw [hci]; exact cv2, s4, rfl⟩⟩
        rintro _ H4 ⟨vc, cvc, s4, rfl⟩
        have s04 := s01.trans (s3.trans s4)
        have eL : cwL (itemC (cwC j ds) ds) (it :: its.drop (i + 1)) c = match (itemC (cwC j ds) ds it).bind (behC c) with
            | none => none
            | some c' => cwL (itemC (cwC j ds) ds) (its.drop (i + 1)) c' := rfl
        refine ⟨_, rfl, decide (vc = .non), rfl, ?_⟩
        cases hcb : (itemC (cwC j ds) ds it).bind (behC c) with
        | none =>
          rw [hcb] at cvc eL
          obtain rfl : vc = .non := cvc
          rw [decide_eq_true rfl]
          exact iteT (q .non H4 s04 (by rw [whole, ← e, eL]; rfl))
        | some c' =>
          rw [hcb] at cvc eL
          obtain ⟨xc, rfl, hcc⟩ := cvc
          rw [decide_eq_false (by simp)]
          exact iteF ⟨_, _, xc, c', rfl, hcc, s2.trans (s3.trans s4), by rw [← e, eL]⟩
    | tup hx ts =>
      rename_i xs its
      refine ⟨_, pss_cons (ps_set (i := 2) N rfl (.inl rfl) (pe_fn0 GN r3))
        (pss_cons (ps_for PassesOwn.never rfl (pi_tup (pv 1)) (pg_name (i := 3) N rfl (.inl rfl))
          (pss_cons (ps_if (pt_val (pe_isTuple n (pv 3)))
            (pss_cons (ps_set (i := 4) N rfl (.inl rfl) (pe_ifExp (pt_cmpR op_gt (pe_ix ix_tup (pv 3) pe_int (fun _ _ => rfl)) pe_int (nomark _)) (pe_fn GW hr (pa_cons (pv 0) (pa_cons (pe_ix ix_tup (pv 3) pe_int (fun _ _ => rfl)) pa_nil))) (pe_fn0 GN r3)))
            (pss_one (ps_set (i := 4) N rfl (.inl rfl) (pe_ifExp (pt_cmp (pc_isN (pv 4))) pe_non (pe_fn GO r3 (pa_cons (pv 4) (pa_cons (pe_ix ix_tup (pv 3) pe_int (fun _ _ => rfl)) pa_nil)))))))
            (pss_one (ps_set (i := 4) N rfl (.inl rfl) (pe_fn GD r3 (pa_cons (pe_ix ix_list (pv 0) (pv 3) (fun _ _ => rfl)) pa_nil)))))
          (pss_cons (ps_set (i := 2) N rfl (.inl rfl) (pe_ifExp (pt_cmp (pc_isN (pv 4))) pe_non (pe_fn GB r3 (pa_cons (pv 2) (pa_cons (pv 4) pa_nil)))))
          (pss_one (ps_if (pt_cmp (pc_isN (pv 2))) (pss_one (ps_ret pe_non)) pss_nil)))))
        (pss_one (ps_ret (pv 2)))), ?_⟩
      refine seqV (Good := fun σ2 H2 => ∃ x, CrsAt C H2 x noC ∧ Same H H2 ∧ σ2 = [some (.ref D), some (.ref a), some (.ref x), none, none])
        (fun nx hnx => ⟨rfl, fun x H2 _ s2 hc => hnx _ _ ⟨x, hc, s2, rfl⟩⟩) ?_
      rintro _ H1 ⟨x0, hc0, s1, rfl⟩
      have hx1 := s1 _ _ hx
      have lts := ts.len
      have whole : cwC (j + 1) ds (.tuple its) = cwL (itemC (cwC j ds) ds) its noC := rfl
      refine ⟨_, rfl, a, rfl, ⟨_, .inl (.inl hx1)⟩, ?_⟩
      refine loop_of (n := xs.length) (fun i σ H2 => ∃ (v3 v4 : Option V) (x : Addr) (c : Crs), σ = [some (.ref D), some (.ref a), some (.ref x), v3, v4] ∧ CrsAt C H2 x c ∧ Same H1 H2 ∧ cwL (itemC (cwC j ds) ds) (its.drop i) c = cwL (itemC (cwC j ds) ds) its noC)
        ⟨none, none, x0, noC, rfl, hc0, fun _ _ z => z, rfl⟩ ?_ ?_
      · rintro σ H2 ⟨v3, v4, x, c, rfl, hc, s2, e⟩
        refine ⟨⟨xs, .inl (.inl (s2 _ _ hx1)), Nat.le_refl _⟩, ?_⟩
        rw [lts, List.drop_length] at e
        exact ⟨_, rfl, q _ H2 (s1.trans s2) (by rw [whole, ← e]; exact ⟨x, rfl, hc⟩)⟩
      · rintro i σ H2 hi ⟨v3, v4, x, c, rfl, hc, s2, e⟩
        refine ⟨⟨xs, _, .inl (.inl (s2 _ _ hx1)), List.getElem?_eq_getElem hi⟩, ?_⟩
        rintro v H' ⟨rfl, hy⟩
        have hvi := hy xs (.inl (.inl (s2 _ _ hx1)))
        obtain ⟨it, hit, hdx⟩ := ts.at hvi
        have s01 := s1.trans s2
        have hdx2 : DV p H' v it := hdx.same s01
        have hmem := List.mem_of_getElem? hit
        have hiF : itemF (hasF j ds.length) ds.length it = true := List.all_eq_true.mp hf it hmem
        have hfew := hb its rfl it hmem
        have hil : i < its.length := by rw [← lts]; exact hi
        have dr : its.drop i = it :: its.drop (i + 1) := by
          rw [List.drop_eq_getElem_cons hil]
          congr 1
          rw [List.getElem?_eq_getElem hil] at hit
          exact Option.some.inj hit
        rw [dr] at e
        have hD' := s01 _ _ hD
        have dd' := DdAll.same s01 dd
        refine gn ?_
        -- more
        refine seqV (Good := fun σ2 H3 => ∃ vm, CV C H3 vm (itemC (cwC j ds) ds it) ∧ Same H' H3 ∧ σ2 = [some (.ref D), some (.ref a), some (.ref x), some v, some vm]) ?_ ?_
        · intro nx hnx
          refine ⟨_, rfl, isi_mk hdx2.ty (kit_tuple it) ⟨_, rfl, ?_⟩⟩
          cases hdx2 with
          | int z =>
            have zz : (decide (0 ≤ z) && decide (z < (ds.length : Int))) = true := hiF
            rw [Bool.and_eq_true, decide_eq_true_eq, decide_eq_true_eq] at zz
            obtain ⟨k, rfl⟩ : ∃ k : Nat, z = k := ⟨z.toNat, by omega⟩
            have hk : k < ds.length := by omega
            have yl := Paired.length dd'
            have hyk : ys[k]? = some ys[k] := List.getElem?_eq_getElem (by omega)
            obtain ⟨d1, hd1, t, et, ht⟩ := Paired.at dd' hyk
            refine iteF ⟨_, rfl, _, rfl, D, ys, _, _, rfl, rfl, .inl (.inl hD'), atI_nat hyk, t, d1, by rw [et]; rfl, ht, fun x2 H3 _ s3 hc3 => ?_⟩
            exact hnx _ _ ⟨.ref x2, by show CV C H3 (.ref x2) ((ds[((k : Nat) : Int).toNat]?).map deedC); rw [Int.toNat_natCast, hd1]; exact ⟨x2, rfl, hc3⟩, s3, rfl⟩
          | tup ht tt =>
            rename_i t ts2 us
            refine iteT ?_
            match ts2, us, tt with
            | [y1, y2], _, .cons (d := d1) k1 (.cons (d := d2) k2 .nil) =>
              have zz : (isC d2 && hasF j ds.length d1) = true := hiF
              rw [Bool.and_eq_true] at zz
              obtain ⟨zc, zf⟩ := zz
              cases k2 with
              | int t0 =>
                have t0p : 0 ≤ t0 := of_decide_eq_true zc
                obtain ⟨tl, fw⟩ := hfew d1 t0 rfl
                have ra : ∃ a2, y1 = .ref a2 := by
                  cases k1 with
                  | lst _ _ _ => exact ⟨_, rfl⟩
                  | tup _ _ => exact ⟨_, rfl⟩
                  | dct _ => exact ⟨_, rfl⟩
                  | non => cases j <;> exact absurd (show false = true from zf) (by decide)
                  | bl _ => cases j <;> exact absurd (show false = true from zf) (by decide)
                  | int _ => cases j <;> exact absurd (show false = true from zf) (by decide)
                  | str _ => cases j <;> exact absurd (show false = true from zf) (by decide)
                obtain ⟨a2, rfl⟩ := ra
                refine seqV (Good := fun σ2 H3 => ∃ v1, CV C H3 v1 (if t0 > 0 then cwC j ds d1 else some noC) ∧ Same H' H3 ∧ σ2 = [some (.ref D), some (.ref a), some (.ref x), some (.ref t), some v1]) ?_ ?_
                · intro nx2 hnx2
                  refine ⟨_, rfl, t, _, _, _, rfl, rfl, .inl (.inl ht), rfl, _, _, rfl, rfl, decide (t0 > 0), rfl, ?_⟩
                  by_cases hp0 : t0 > 0
                  · rw [decide_eq_true hp0]
                    refine iteT ⟨_, rfl, _, rfl, t, _, _, _, rfl, rfl, .inl (.inl ht), rfl, p, D, a2, ys, ds, d1, rfl, hD', dd', k1, zf, fw, fun v1 H3 s3 cv => ?_⟩
                    exact hnx2 _ _ ⟨v1, by rw [if_pos hp0]; exact cv, s3, rfl⟩
                  · rw [decide_eq_false hp0]
                    exact iteF ⟨rfl, fun x2 H3 _ s3 hc3 => hnx2 _ _ ⟨.ref x2, by rw [if_neg hp0]; exact ⟨x2, rfl, hc3⟩, s3, rfl⟩⟩
                rintro _ H3 ⟨v1, cv1, s3, rfl⟩
                have eI : itemC (cwC j ds) ds (.tuple [d1, .int t0]) = (if t0 > 0 then cwC j ds d1 else some noC).bind fun c => oftC c t0 := rfl
                refine ⟨_, rfl, decide (v1 = .non), rfl, ?_⟩
                cases hcw : (if t0 > 0 then cwC j ds d1 else some noC) with
                | none =>
                  rw [hcw] at cv1 eI
                  obtain rfl : v1 = .non := cv1
                  rw [decide_eq_true rfl]
                  exact iteT (hnx _ _ ⟨.non, by rw [eI]; rfl, s3, rfl⟩)
                | some c1 =>
                  rw [hcw] at cv1 eI
                  obtain ⟨x1, rfl, hc1⟩ := cv1
                  rw [decide_eq_false (by simp)]
                  refine iteF ⟨_, rfl, _, rfl, t, _, _, _, rfl, rfl, .inl (.inl (s3 _ _ ht)), rfl, x1, c1, t0, rfl, hc1, by omega, tl, fun v2 H4 s4 cv2 => ?_⟩
                  exact hnx _ _ ⟨v2, by rw [eI]; exact cv2, s3.trans s4, rfl⟩
              | non => exact absurd (show false = true from zc) (by decide)
              | bl _ => exact absurd (show false = true from zc) (by decide)
              | str _ => exact absurd (show false = true from zc) (by decide)
              | lst _ _ _ => exact absurd (show false = true from zc) (by decide)
              | tup _ _ => exact absurd (show false = true from zc) (by decide)
              | dct _ => exact absurd (show false = true from zc) (by decide)
            | [], _, .nil => exact absurd (show false = true from hiF) (by decide)
            | [_], _, .cons _ .nil => exact absurd (show false = true from hiF) (by decide)
            | _ :: _ :: _ :: _, _, .cons _ (.cons _ (.cons _ _)) => exact absurd (show false = true from hiF) (by decide)
          | non => exact absurd (show false = true from hiF) (by decide)
          | bl _ => exact absurd (show false = true from hiF) (by decide)
          | str _ => exact absurd (show false = true from hiF) (by decide)
          | lst _ _ _ => exact absurd (show false = true from hiF) (by decide)
          | dct _ => exact absurd (show false = true from hiF) (by decide)
        rintro _ H3 ⟨vm, cvm, s3, rfl⟩
        have hc3 := hc.same s3
        -- course
        refine seqV (Good := fun σ2 H4 => ∃ vc, CV C H4 vc ((itemC (cwC j ds) ds it).bind (behC c)) ∧ Same H3 H4 ∧ σ2 = [some (.ref D), some (.ref a), some vc, some v, some vm]) ?_ ?_
        · intro nx hnx
          refine ⟨_, rfl, decide (vm = .non), rfl, ?_⟩
          cases hci : itemC (cwC j ds) ds it with
          | none =>
            rw [hci] at cvm
            obtain rfl : vm = .non := cvm
            rw [decide_eq_true rfl]
            exact iteT (hnx _ _ ⟨.non, by rw [hci]; rfl, fun _ _ z => z, rfl⟩)
          | some cm =>
            rw [hci] at cvm
            obtain ⟨xm, rfl, hcm⟩ := cvm
            rw [decide_eq_false (by simp)]
            exact iteF ⟨_, rfl, _, rfl, x, xm, c, cm, rfl, hc3, hcm, fun v2 H4 s4 cv2 => hnx _ _ ⟨v2, by rw [hci]; exact cv2, s4, rfl⟩⟩
        rintro _ H4 ⟨vc, cvc, s4, rfl⟩
        have s04 := s01.trans (s3.trans s4)
        have eL : cwL (itemC (cwC j ds) ds) (it :: its.drop (i + 1)) c = match (itemC (cwC j ds) ds it).bind (behC c) with
            | none => none
            | some c' => cwL (itemC (cwC j ds) ds) (its.drop (i + 1)) c' := rfl
        refine ⟨_, rfl, decide (vc = .non), rfl, ?_⟩
        cases hcb : (itemC (cwC j ds) ds it).bind (behC c) with
        | none =>
          rw [hcb] at cvc eL
          obtain rfl : vc = .non := cvc
          rw [decide_eq_true rfl]
          exact iteT (q .non H4 s04 (by rw [whole, ← e, eL]; rfl))
        | some c' =>
          rw [hcb] at cvc eL
          obtain ⟨xc, rfl, hcc⟩ := cvc
          rw [decide_eq_false (by simp)]
          exact iteF ⟨_, _, xc, c', rfl, hcc, s2.trans (s3.trans s4), by rw [← e, eL]⟩
    | dct hx => exact absurd (show false = true from hf) (by decide)
end
end L2.K22
end

section
set_option Elab.async false
set_option linter.all false
set_option maxRecDepth 100000
set_option maxHeartbeats 4000000
namespace L2.K22
open PySem PySem.Spec PyProof.Rows L2.Gd
/-- a method -/
structure MeH (P : Program) (w : World) (K : PySem.W.Frag) (mg : Str → Option Value) (base : Heap) (C : Addr) (x : Str) (k : Nat) (ps : List Str) (sp : Sp) : Prop where
  ex : ∃ f fd, Meth K C x f ∧ Binds K fd ps [] ∧ FnOk P w K mg base CX0 k f fd ps sp
section
variable {X : Cx} {C : Addr} {x : Str} {k : Nat} {ps : List Str} {sp : Sp} {o : Expr} {ta : TE} {apos pos : Pos}
theorem pe_mH0 {pl : Sem Bool} (M : MeH X.prog X.w X.K X.mg X.base C x k ps sp) (T : Cls X.K C) (hr : Room k X.A) (he : PE X o ta)
    (ht : eval (.Call (.Attribute o x apos) [] [] pos) X.env = (do
      let ov ← eval o X.env
      standAt apos.atName
      let (f, first) ← holding [ov] (getMethod ov x pl)
      callWith pos f first (backTo pos (starEach [] X.env)) (backToKw pos (keywordEach [] X.env))) := by rfl) :
    PE X (.Call (.Attribute o x apos) [] [] pos) (tMeth C x sp [] E0 ta tNil) := by
  obtain ⟨f, fd, hm, b, F⟩ := M.ex
  exact pe_meth0 he T hm F hr b .nil pass0 ht
end
section
variable {X : Cx} {C : Addr} {x : Str} {k : Nat} {ps : List Str} {sp : Sp} {o e : Expr} {es : List Expr} {ta : TE} {t : TA} {apos pos : Pos}
theorem pe_mH {pl : Sem Bool} (M : MeH X.prog X.w X.K X.mg X.base C x k ps sp) (T : Cls X.K C) (hr : Room k X.A) (he : PE X o ta) (ha : PA X (e :: es) t)
    (hst : starEach (e :: es) X.env = (false, eval e X.env) :: starEach es X.env := by rfl) (hpl : (backTo pos (starEach es X.env)).any (·.1) = false := by rfl)
    (ht : eval (.Call (.Attribute o x apos) (e :: es) [] pos) X.env = (do
      let ov ← eval o X.env
      standAt apos.atName
      let (f, first) ← holding [ov] (getMethod ov x pl)
      callWith pos f first (backTo pos (starEach (e :: es) X.env)) (backToKw pos (keywordEach [] X.env))) := by rfl) :
    PE X (.Call (.Attribute o x apos) (e :: es) [] pos) (tMeth C x sp [] E0 ta t) := by
  obtain ⟨f, fd, hm, b, F⟩ := M.ex
  exact pe_meth he T hm F hr b .nil pass0 ha hst hpl ht
end
structure LenH (P : Program) (w : World) (K : PySem.W.Frag) (mg : Str → Option Value) (base : Heap) (C : Addr) : Prop where
  ex : ∃ f fd, PySem.W.findIn K (.ref C) "__len__" = some (some (.ref f)) ∧ PySem.W.isFn K (.ref f) = true ∧ Binds K fd ["self"] [] ∧ FnOk P w K mg base CX0 1 f fd ["self"] (spLen C)
theorem call_lenH {X : Cx} {C : Addr} (L : LenH X.prog X.w X.K X.mg X.base C) (hr : Room 2 X.A) : CallR X (.builtin "len") (fun xs H Q => ∃ (h l : Addr) (m : Int) (ys : List V) (ds : List Dd), xs = [.ref h] ∧ HouseL C H h l m ys ds ∧ ds.length ≤ 60 ∧ Q (.int ds.length) H) := by
  obtain ⟨f, fd, hs, hf, b, F⟩ := L.ex
  rintro pins s σ H xs us Q I r ⟨h, l, m, ys, ds, rfl, hh, h60, q⟩
  obtain ⟨dx, ob⟩ := hh.ob
  exact call_lenOwn hr F b hs hf pins s σ H _ us Q I r ⟨h, dx, _, rfl, ob, h, l, m, ys, ds, rfl, hh, ⟨ds.length, rfl, by omega⟩, q⟩
section
variable {P : Program} {w : World} {K : PySem.W.Frag} {mg : Str → Option Value} {base : Heap} {C C2 : Addr}
theorem fn_cw {f : Addr} {fd : FuncData} (F : Fun K "course_within" "course_within" (top 25) f fd) (m : mg "course_within" = some (.ref f)) (b : Binds K fd ["deeds", "going"] []) (n : Nm mg) (GN : Fn P w K mg base 3 "no_course" [] (spNo C)) (GD : Fn P w K mg base 3 "deed_course" ["deed"] (spDC C))
    (GO : Fn P w K mg base 3 "done_often" ["course", "times"] (spOf C)) (GB : Fn P w K mg base 3 "behind_another" ["one", "two"] (spBA C)) :
    ∀ j : Nat, Fn P w K mg base (4 + j) "course_within" ["deeds", "going"] (spCW C j)
  | 0 => ⟨f, fd, m, F.kp, b, ok_cw0 F⟩
  | j + 1 => ⟨f, fd, m, F.kp, b, ok_cwS F n GN GD GO GB (fn_cw F m b n GN GD GO GB j)⟩
/-! ### checks -/
def spCP (C2 : Addr) : Sp := fun vs H Q _ => ∃ (h l : Addr) (m p : Int) (xs : List V) (ds : List Dd), vs = [.ref h, .int p] ∧ HouseL C2 H h l m xs ds ∧ 0 ≤ p ∧ p < m ∧ Q .non H
theorem scCP : FnScope ["house", "place"] ["house", "place"] (defScope (top 15)) := ⟨rfl, rfl, rfl, by decide +kernel, rfl, by decide +kernel, by decide +kernel⟩
theorem ok_cp {f : Addr} {fd : FuncData} (F : Fun K "check_place" "check_place" (top 15) f fd) (T : ClsT K mg C2) (GC : Fn P w K mg base 2 "is_count" ["value"] spIsCount) (PL : PrH P w K mg base C2 "places" (spPlaces C2)) : FnOk P w K mg base CX0 3 f fd ["house", "place"] (spCP C2) := by
  refine F.ok scCP (fun vs H Q E h => ?_) (fun cdv A outer s H vs Q E hr h => ?_)
  · obtain ⟨h, l, m, p, xs, ds, rfl, _⟩ := h
    rfl
  · obtain ⟨h, l, m, p, xs, ds, rfl, hh, p0, pm, k⟩ := h
    obtain ⟨dx, ob⟩ := hh.ob
    refine ⟨_, pss_one (ps_if (pw_or (pt_not (pt_val (pe_fn GC hr (pa_cons (pv 1) pa_nil)))) (pw_or1 (pt_cmpR op_ge (pv 1) (pe_prH PL T hr (pv 0)) (nomark _)))).pt pss_never pss_nil), ?_⟩
    refine ⟨_, rfl, p, rfl, p0, true, rfl, iteF ?_⟩
    refine ⟨_, rfl, _, rfl, h, dx, _, rfl, ob, h, dx, l, m, rfl, ob, _, _, rfl, rfl, false, congrArg V.bl (decide_eq_false (by omega)), ?_⟩
    exact iteF k
def spCM : Sp := fun vs H Q _ => ∃ p : Int, vs = [.int p] ∧ 0 ≤ p ∧ Q .non H
theorem scCM : FnScope ["many"] ["many"] (defScope (top 14)) := ⟨rfl, rfl, rfl, by decide +kernel, rfl, by decide +kernel, by decide +kernel⟩
theorem ok_cm {f : Addr} {fd : FuncData} (F : Fun K "check_many" "check_many" (top 14) f fd) (GC : Fn P w K mg base 2 "is_count" ["value"] spIsCount) : FnOk P w K mg base CX0 3 f fd ["many"] spCM := by
  refine F.ok scCM (fun vs H Q E h => ?_) (fun cdv A outer s H vs Q E hr h => ?_)
  · obtain ⟨p, rfl, _⟩ := h
    rfl
  · obtain ⟨p, rfl, p0, k⟩ := h
    refine ⟨_, pss_one (ps_if (pt_not (pt_val (pe_fn GC hr (pa_cons (pv 0) pa_nil)))) pss_never pss_nil), ?_⟩
    exact ⟨_, rfl, p, rfl, p0, true, rfl, iteF k⟩
/-! ### is_going -/
def wholeC (ds : List Dd) (d : PyData) : Option Crs := if hasF 4 ds.length d = true then cwC 4 ds d else none
def goingB (ds : List Dd) (p s : Int) (d : PyData) : Bool := match wholeC ds d with
  | some c => fitsC c p s
  | none => false
def spCN (C C2 : Addr) : Sp := fun vs H Q _ => ∃ (q h l : Addr) (m : Int) (xs : List V) (ds : List Dd) (v : V) (d : PyData), vs = [.ref h, v] ∧ HouseL C2 H h l m xs ds ∧ ds.length ≤ 60 ∧ DV q H v d ∧ (hasF 4 ds.length d = true → few 4 d) ∧
  ∀ v' H', Same H H' → CV C H' v' (wholeC ds d) → Q v' H'
theorem scCN : FnScope ["house", "value"] ["house", "value"] (defScope (top 26)) := ⟨rfl, rfl, rfl, by decide +kernel, rfl, by decide +kernel, by decide +kernel⟩
theorem hasF_ref {p : Addr} {H : Hp} {v : V} {d : PyData} {j : Nat} {m : Int} (h : DV p H v d) (e : hasF j m d = true) : ∃ a, v = .ref a := by
  cases h with
  | lst _ _ _ => exact ⟨_, rfl⟩
  | tup _ _ => exact ⟨_, rfl⟩
  | dct _ => exact ⟨_, rfl⟩
  | non => cases j <;> exact absurd (show false = true from e) (by decide)
  | bl _ => cases j <;> exact absurd (show false = true from e) (by decide)
  | int _ => cases j <;> exact absurd (show false = true from e) (by decide)
  | str _ => cases j <;> exact absurd (show false = true from e) (by decide)
theorem ok_cn {f : Addr} {fd : FuncData} {tk : Tok} (F : Fun K "course_or_none" "course_or_none" (top 26) f fd) (n : Nm mg) (T : ClsT K mg C2) (m4 : mg "MOST_LISTS" = some (.int 4 tk)) (L : LenH P w K mg base C2) (DE : MeH P w K mg base C2 "deeds" 1 ["self"] (spDeeds C2))
    (GH : Fn P w K mg base 7 "has_going_form" ["many", "value", "lists"] (spHF 4)) (GW : Fn P w K mg base 8 "course_within" ["deeds", "going"] (spCW C 4)) : FnOk P w K mg base CX0 9 f fd ["house", "value"] (spCN C C2) := by
  refine F.ok scCN (fun vs H Q E h => ?_) (fun cdv A outer s H vs Q E hr h => ?_)
  · obtain ⟨q, h, l, m, xs, ds, v, d, rfl, _⟩ := h
    rfl
  · obtain ⟨p, h, l, m, xs, ds, v, d, rfl, hh, h60, hd, hf, q⟩ := h
    have r1 := hr.mono (k := 8) (j := 1) (by decide)
    have r2 := hr.mono (k := 8) (j := 2) (by decide)
    have r7 := hr.mono (k := 8) (j := 7) (by decide)
    refine ⟨_, pss_cons (ps_if (pt_not (pt_val (pe_fn GH r7 (pa_cons (pe_callB (call_lenH L r2) (by rfl) n.len PySem.boot_len (pa_cons (pv 0) pa_nil)) (pa_cons (pv 1) (pa_cons (pe_glob (v := .int 4) (by rfl) m4 ⟨_, rfl⟩) pa_nil)))))) (pss_one (ps_ret pe_non)) pss_nil)
      (pss_one (ps_ret (pe_fn GW hr (pa_cons (pe_mH0 DE T.isc.cl r1 (pv 0)) (pa_cons (pv 1) pa_nil))))), ?_⟩
    refine ⟨_, rfl, h, l, m, xs, ds, rfl, hh, h60, _, rfl, p, (ds.length : Int), v, d, rfl, hd, fun H1 s1 => ⟨hasF 4 ds.length d, rfl, ?_⟩⟩
    cases hF : hasF 4 ds.length d with
    | false =>
      have e : wholeC ds d = none := if_neg (by rw [hF]; decide)
      exact iteT (q .non H1 s1 (by rw [e]; rfl))
    | true =>
      have e : wholeC ds d = cwC 4 ds d := if_pos hF
      refine iteF ?_
      obtain ⟨a, rfl⟩ := hasF_ref hd hF
      have hh1 := hh.same s1
      obtain ⟨dx, ob⟩ := hh1.ob
      refine ⟨_, rfl, h, dx, _, rfl, ob, flds_no _ _ (by decide +kernel) (by decide +kernel), h, l, m, xs, ds, rfl, hh1, fun D hD => ?_⟩
      have s2 := same_upd (o := .lst xs) hD
      exact ⟨_, rfl, p, D, a, xs, ds, d, rfl, upd_same, (hh1.same s2).dd, hd.same (s1.trans s2), hF, hf hF, fun v' H' s3 cv => q v' H' (s1.trans (s2.trans s3)) (by rw [e]; exact cv)⟩
def spIG (C2 : Addr) : Sp := fun vs H Q _ => ∃ (q h l : Addr) (m p s : Int) (xs : List V) (ds : List Dd) (v : V) (d : PyData), vs = [.ref h, .int p, .int s, v] ∧ HouseL C2 H h l m xs ds ∧ ds.length ≤ 60 ∧ DV q H v d ∧ (hasF 4 ds.length d = true → few 4 d) ∧ 0 ≤ p ∧ p < m ∧ 0 ≤ s ∧
  ∀ H', Same H H' → Q (.bl (goingB ds p s d)) H'
def NIg : List Str := ["house", "place", "start", "value", "course"]
theorem scIG : FnScope NIg ["house", "place", "start", "value"] (defScope (top 28)) := ⟨rfl, rfl, rfl, by decide +kernel, rfl, by decide +kernel, by decide +kernel⟩
theorem ok_ig {f : Addr} {fd : FuncData} (F : Fun K "is_going" "is_going" (top 28) f fd) (T2 : ClsC K mg C) (GP : Fn P w K mg base 3 "check_place" ["house", "place"] (spCP C2)) (GM : Fn P w K mg base 3 "check_many" ["many"] spCM)
    (GN : Fn P w K mg base 9 "course_or_none" ["house", "value"] (spCN C C2)) (FI : MeH P w K mg base C "fits" 1 ["self", "place", "start"] (spFits C)) : FnOk P w K mg base CX0 10 f fd ["house", "place", "start", "value"] (spIG C2) := by
  refine F.ok scIG (fun vs H Q E h => ?_) (fun cdv A outer s H vs Q E hr h => ?_)
  · obtain ⟨q, h, l, m, p, s, xs, ds, v, d, rfl, _⟩ := h
    rfl
  · obtain ⟨q, h, l, m, p, st, xs, ds, v, d, rfl, hh, h60, hd, hf, p0, pm, s0, k⟩ := h
    have N := scIG.nd
    have r1 := hr.mono (k := 9) (j := 1) (by decide)
    have r3 := hr.mono (k := 9) (j := 3) (by decide)
    refine ⟨_, pss_cons (ps_expr (pe_fn GP r3 (pa_cons (pv 0) (pa_cons (pv 1) pa_nil)))) (pss_cons (ps_expr (pe_fn GM r3 (pa_cons (pv 2) pa_nil)))
      (pss_cons (ps_set (i := 4) N rfl (.inl rfl) (pe_fn GN hr (pa_cons (pv 0) (pa_cons (pv 3) pa_nil))))
      (pss_one (ps_ret (pe_and (pe_cmp (pc_notN (pv 4)) rfl) (pe_one (pe_mH FI T2.cl r1 (pv 4) (pa_cons (pv 1) (pa_cons (pv 2) pa_nil))))))))), ?_⟩
    refine ⟨_, rfl, _, rfl, h, l, m, p, xs, ds, rfl, hh, p0, pm, ?_⟩
    refine ⟨_, rfl, st, rfl, s0, ?_⟩
    refine ⟨_, rfl, _, rfl, q, h, l, m, xs, ds, v, d, rfl, hh, h60, hd, hf, fun v' H1 s1 cv => ?_⟩
    refine ⟨_, rfl, !decide (v' = .non), rfl, ?_⟩
    have kk := k
    unfold goingB at kk
    cases hw : wholeC ds d with
    | none =>
      rw [hw] at cv
      obtain rfl : v' = .non := cv
      rw [decide_eq_true rfl]
      refine iteF ?_
      have := kk H1 s1
      rw [hw] at this
      exact this
    | some c =>
      rw [hw] at cv
      obtain ⟨x, rfl, dx, hx⟩ := cv
      rw [decide_eq_false (by simp)]
      refine iteT ⟨_, rfl, x, dx, _, rfl, hx, cf_fits c, _, rfl, _, rfl, x, c, p, st, rfl, ⟨dx, hx⟩, ?_⟩
      have := kk H1 s1
      rw [hw] at this
      exact this
end
end L2.K22
end

section
set_option Elab.async false
set_option linter.all false
set_option maxRecDepth 100000
set_option maxHeartbeats 4000000
namespace L2.K22
open PySem PySem.Spec PyProof.Rows L2.Gd
/-! ### deed by deed -/
def runD : List Dd → Int → Int → Option (Int × Int)
  | [], p, s => some (p, s)
  | d :: r, p, s => if d.p ≠ p ∨ s + d.c < 0 ∨ (d.w = "empty" ∧ s ≠ 0) then none else runD r d.g (s + d.c)
theorem runD_app : ∀ (r r' : List Dd) (p s : Int), runD (r ++ r') p s = (runD r p s).bind fun x => runD r' x.1 x.2
  | [], _, _, _ => rfl
  | d :: r, r', p, s => by
    show (if _ then none else runD (r ++ r') d.g (s + d.c)) = (if _ then none else runD r d.g (s + d.c)).bind _
    split
    · rfl
    · exact runD_app r r' _ _
theorem runD_nn : ∀ (r : List Dd) (p s p' s' : Int), 0 ≤ s → runD r p s = some (p', s') → 0 ≤ s'
  | [], _, _, _, _, h, e => by
    have := Option.some.inj e
    rw [← (Prod.mk.inj this).2]
    exact h
  | d :: r, p, s, p', s', h, e => by
    unfold runD at e
    split at e
    · exact nomatch e
    · rename_i q
      refine runD_nn r _ _ _ _ ?_ e
      have : ¬ s + d.c < 0 := fun z => q (.inr (.inl z))
      omega
/-- where it may be done -/
def may (c : Crs) (s : Int) : Prop := c.v = false ∧ (if c.o = true then s = c.e else s ≥ c.e)
instance (c : Crs) (s : Int) : Decidable (may c s) := by unfold may; exact inferInstance
def SpecC (c : Crs) (r : List Dd) : Prop := c.n = r.length ∧ (r = [] → c.b = none ∧ c.f = none) ∧
  (r ≠ [] → ∃ b f : Int, c.b = some b ∧ c.f = some f ∧ ∀ p s, 0 ≤ s → runD r p s = if p = b ∧ may c s then some (f, s + c.g) else none)
def SpecO : Option Crs → List Dd → Prop
  | none, r => ∀ p s, 0 ≤ s → runD r p s = none
  | some c, r => SpecC c r
theorem spec_no : SpecC noC [] := ⟨rfl, fun _ => ⟨rfl, rfl⟩, fun h => absurd rfl h⟩
theorem spec_deed {m : Int} {d : Dd} (ok : d.Ok m) : SpecC (deedC d) [d] := by
  refine ⟨rfl, (fun h => absurd h (by simp)), fun _ => ⟨d.p, d.g, rfl, rfl, fun p s hs => ?_⟩⟩
  have ne : ¬ (("any" : Str) = "empty") := by decide +kernel
  show (if d.p ≠ p ∨ s + d.c < 0 ∨ (d.w = "empty" ∧ s ≠ 0) then none else some (d.g, s + d.c)) = _
  have key : (d.p ≠ p ∨ s + d.c < 0 ∨ (d.w = "empty" ∧ s ≠ 0)) ↔ ¬ (p = d.p ∧ may (deedC d) s) := by
    unfold may deedC
    rcases ok.w with ⟨w, c1, c2⟩ | ⟨w, c1, c2⟩
    · have w2 : ¬ d.w = "empty" := fun z => ne (w.symm.trans z)
      have dw : decide (d.w = "empty") = false := decide_eq_false w2
      simp only [dw]
      by_cases hc : 0 - d.c > 0
      · simp only [hc, if_true]
        constructor
        · rintro (h | h | h) ⟨h1, _, h2⟩
          · exact h h1.symm
          · have h2 : s ≥ 0 - d.c := h2
            omega
          · exact w2 h.1
        · intro h
          by_cases h1 : d.p = p
          · by_cases h2 : s + d.c < 0
            · exact .inr (.inl h2)
            · exact absurd ⟨h1.symm, trivial, (by show s ≥ 0 - d.c; omega)⟩ h
          · exact .inl h1
      · simp only [hc, if_false]
        constructor
        · rintro (h | h | h) ⟨h1, _, h2⟩
          · exact h h1.symm
          · omega
          · exact w2 h.1
        · intro h
          by_cases h1 : d.p = p
          · exact absurd ⟨h1.symm, trivial, (by show s ≥ 0; omega)⟩ h
          · exact .inl h1
    · have dw : decide (d.w = "empty") = true := decide_eq_true w
      simp only [dw, if_true]
      rw [if_neg (show ¬ (0 - d.c > 0) by omega)]
      constructor
      · rintro (h | h | h) ⟨h1, _, h2⟩
        · exact h h1.symm
        · omega
        · exact h.2 h2
      · intro h
        by_cases h1 : d.p = p
        · by_cases h2 : s = 0
          · exact absurd ⟨h1.symm, trivial, h2⟩ h
          · exact .inr (.inr ⟨w, h2⟩)
        · exact .inl h1
  by_cases h : p = d.p ∧ may (deedC d) s
  · rw [if_pos h, if_neg (fun z => key.mp z h)]
    rfl
  · rw [if_neg h, if_pos (key.mpr h)]
theorem spec_beh {a b : Crs} {r r' : List Dd} (ha : SpecC a r) (hb : SpecC b r') : SpecO (behC a b) (r ++ r') := by
  obtain ⟨an, a0, a1⟩ := ha
  obtain ⟨bn, b0, b1⟩ := hb
  unfold behC
  by_cases hr : r = []
  · subst hr
    rw [if_pos (by rw [an]; rfl)]
    exact ⟨bn, b0, b1⟩
  · have hrn : ¬ a.n = 0 := by
      rw [an]
      intro z
      exact hr (List.eq_nil_of_length_eq_zero (by omega))
    rw [if_neg hrn]
    by_cases hr' : r' = []
    · subst hr'
      rw [if_pos (by rw [bn]; rfl), List.append_nil]
      exact ⟨an, a0, a1⟩
    · have hrn' : ¬ b.n = 0 := by
        rw [bn]
        intro z
        exact hr' (List.eq_nil_of_length_eq_zero (by omega))
      rw [if_neg hrn']
      obtain ⟨ab, af, eab, eaf, ra⟩ := a1 hr
      obtain ⟨bb, bf, ebb, ebf, rb⟩ := b1 hr'
      by_cases hf : a.f ≠ b.b
      · rw [if_pos hf]
        intro p s hs
        rw [runD_app, ra p s hs]
        split
        · rename_i h
          have nn := runD_nn r p s af (s + a.g) hs (by rw [ra p s hs, if_pos h])
          show runD r' af (s + a.g) = none
          rw [rb _ _ nn, if_neg]
          rintro ⟨z, _⟩
          exact hf (by rw [eaf, ebb, z])
        · rfl
      · rw [if_neg hf]
        have hfb : af = bb := by
          have : a.f = b.b := Classical.not_not.mp hf
          rw [eaf, ebb] at this
          exact Option.some.inj this
        subst hfb
        refine ⟨by show a.n + b.n = _; rw [an, bn, List.length_append]; omega, fun z => absurd (List.append_eq_nil_iff.mp z).1 hr, fun _ => ⟨ab, bf, eab, ebf, fun p s hs => ?_⟩⟩
        rw [runD_app, ra p s hs]
        have key : may ⟨a.b, b.f, a.n + b.n, a.g + b.g, needB a b, a.o || b.o, a.v || (b.v || vainB a b)⟩ s ↔ (may a s ∧ may b (s + a.g)) := by
          unfold may needB vainB
          cases hao : a.o <;> cases hbo : b.o <;> cases hav : a.v <;> cases hbv : b.v <;> simp <;> (try split) <;> omega
        by_cases h : p = ab ∧ may a s
        · rw [if_pos h]
          have nn := runD_nn r p s af (s + a.g) hs (by rw [ra p s hs, if_pos h])
          show runD r' af (s + a.g) = _
          rw [rb _ _ nn]
          by_cases h2 : may b (s + a.g)
          · rw [if_pos ⟨rfl, h2⟩, if_pos ⟨h.1, key.mpr ⟨h.2, h2⟩⟩]
            show some (bf, s + a.g + b.g) = some (bf, s + (a.g + b.g))
            rw [Int.add_assoc]
          · rw [if_neg (fun z => h2 z.2), if_neg (fun z => h2 (key.mp z.2).2)]
        · rw [if_neg h, if_neg (fun z => h ⟨z.1, (key.mp z.2).1⟩)]
          rfl
end L2.K22
end

section
set_option Elab.async false
set_option linter.all false
set_option maxRecDepth 100000
set_option maxHeartbeats 4000000
namespace L2.K22
open PySem PySem.Spec PyProof.Rows L2.Gd
/-- done t times, a closed one -/
def oft (c : Crs) (t : Nat) : Crs := ⟨c.b, c.f, c.n * t, c.g * t, if c.o = true then c.e else if c.g < 0 then c.e - ((t : Int) - 1) * c.g else c.e, c.o, if c.o = true then (c.v || (decide (2 ≤ t) && !decide (c.g = 0))) else c.v⟩
def rep (t : Nat) (r : List Dd) : List Dd := (List.replicate t r).flatten
theorem rep_succ (t : Nat) (r : List Dd) : rep (t + 1) r = r ++ rep t r := by
  unfold rep
  rw [List.replicate_succ, List.flatten_cons]
theorem rep_nil (t : Nat) : rep t [] = [] := by
  unfold rep
  induction t with
  | zero => rfl
  | succ t ih => rw [List.replicate_succ, List.flatten_cons, ih]; rfl
theorem may_oft {c : Crs} {t : Nat} {s : Int} (ht : 1 ≤ t) : may (oft c (t + 1)) s ↔ (may c s ∧ may (oft c t) (s + c.g)) := by
  unfold may oft
  simp only
  cases ho : c.o with
  | true =>
    simp only [if_true]
    have d2 : decide (2 ≤ t + 1) = true := decide_eq_true (by omega)
    rw [d2, Bool.true_and]
    by_cases hg : c.g = 0
    · simp only [hg, decide_true, Bool.not_true, Bool.or_false, Bool.and_false, Int.add_zero]
      constructor
      · intro h; exact ⟨h, h⟩
      · intro h; exact h.1
    · have dg : decide (c.g = 0) = false := decide_eq_false hg
      rw [dg]
      simp only [Bool.not_false, Bool.or_true, Bool.and_true]
      constructor
      · rintro ⟨h, _⟩; exact nomatch h
      · rintro ⟨⟨_, h1⟩, ⟨_, h2⟩⟩
        omega
  | false =>
    simp only [Bool.false_eq_true, if_false]
    by_cases hg : c.g < 0
    · simp only [hg, if_true]
      have e : (((t + 1 : Nat) : Int) - 1) * c.g = ((t : Int) - 1) * c.g + c.g := by
        have : (((t + 1 : Nat) : Int) - 1) = ((t : Int) - 1) + 1 := by omega
        rw [this, Int.add_mul, Int.one_mul]
      rw [e]
      have h0 : ((t : Int) - 1) * c.g ≤ 0 := Int.mul_nonpos_of_nonneg_of_nonpos (by omega) (by omega)
      generalize ((t : Int) - 1) * c.g = z at h0
      constructor
      · rintro ⟨h1, h2⟩
        exact ⟨⟨h1, by omega⟩, h1, by omega⟩
      · rintro ⟨⟨h1, _⟩, _, h2⟩
        exact ⟨h1, by omega⟩
    · simp only [hg, if_false]
      constructor
      · rintro ⟨h1, h2⟩
        exact ⟨⟨h1, h2⟩, h1, by omega⟩
      · rintro ⟨⟨h1, h2⟩, _⟩
        exact ⟨h1, h2⟩
theorem run_rep {c : Crs} {r : List Dd} {b : Int} (h : ∀ p s, 0 ≤ s → runD r p s = if p = b ∧ may c s then some (b, s + c.g) else none) :
    ∀ t : Nat, 1 ≤ t → ∀ p s, 0 ≤ s → runD (rep t r) p s = if p = b ∧ may (oft c t) s then some (b, s + c.g * t) else none
  | 1, _, p, s, hs => by
    have e : rep 1 r = r := by rw [rep_succ]; unfold rep; simp
    have m : may (oft c 1) s ↔ may c s := by
      unfold may oft
      have d2 : decide (2 ≤ 1) = false := rfl
      simp only [d2, Bool.false_and, Bool.or_false, Int.natCast_one, Int.sub_self, Int.zero_mul, Int.sub_zero]
      cases c.o <;> simp
    rw [e, h p s hs]
    by_cases q : p = b ∧ may c s
    · rw [if_pos q, if_pos ⟨q.1, m.mpr q.2⟩]
      simp
    · rw [if_neg q, if_neg (fun z => q ⟨z.1, m.mp z.2⟩)]
  | t + 2, _, p, s, hs => by
    rw [rep_succ, runD_app, h p s hs]
    have k := may_oft (c := c) (t := t + 1) (s := s) (by omega)
    by_cases q : p = b ∧ may c s
    · rw [if_pos q]
      have nn := runD_nn r p s b (s + c.g) hs (by rw [h p s hs, if_pos q])
      show runD (rep (t + 1) r) b (s + c.g) = _
      rw [run_rep h (t + 1) (by omega) _ _ nn]
      by_cases q2 : may (oft c (t + 1)) (s + c.g)
      · rw [if_pos ⟨rfl, q2⟩, if_pos ⟨q.1, k.mpr ⟨q.2, q2⟩⟩]
        have : c.g * ((t + 1 + 1 : Nat) : Int) = c.g + c.g * ((t + 1 : Nat) : Int) := by
          rw [show ((t + 1 + 1 : Nat) : Int) = 1 + ((t + 1 : Nat) : Int) by omega, Int.mul_add, Int.mul_one]
        rw [this, Int.add_assoc]
      · rw [if_neg (fun z => q2 z.2), if_neg (fun z => q2 (k.mp z.2).2)]
    · rw [if_neg q, if_neg (fun z => q ⟨z.1, (k.mp z.2).1⟩)]
      rfl
theorem spec_oft {c : Crs} {r : List Dd} (hc : SpecC c r) {t : Nat} (ht : 1 ≤ t) : SpecO (oftC c t) (rep t r) := by
  obtain ⟨cn, c0, c1⟩ := hc
  unfold oftC
  by_cases h1 : (t : Int) = 1
  · rw [if_pos h1]
    obtain rfl : t = 1 := by omega
    have e : rep 1 r = r := by rw [rep_succ]; unfold rep; simp
    rw [e]
    exact ⟨cn, c0, c1⟩
  · rw [if_neg h1]
    by_cases hr : r = []
    · subst hr
      obtain ⟨e1, e2⟩ := c0 rfl
      rw [if_neg (by rw [e1, e2]; simp), rep_nil]
      refine ⟨?_, fun _ => ⟨e1, e2⟩, fun z => absurd rfl z⟩
      show c.n * (t : Int) = _
      rw [cn]
      simp
    · obtain ⟨b, f, eb, ef, run⟩ := c1 hr
      by_cases hbf : c.b ≠ c.f
      · rw [if_pos hbf]
        intro p s hs
        obtain ⟨k, rfl⟩ : ∃ k, t = k + 2 := ⟨t - 2, by omega⟩
        rw [rep_succ, rep_succ, runD_app, run p s hs]
        split
        · rename_i q
          have nn := runD_nn r p s f (s + c.g) hs (by rw [run p s hs, if_pos q])
          show runD (r ++ rep k r) f (s + c.g) = none
          rw [runD_app, run _ _ nn, if_neg]
          · rfl
          · rintro ⟨z, _⟩
            exact hbf (by rw [eb, ef, z])
        · rfl
      · rw [if_neg hbf]
        have fb : f = b := by
          have : c.b = c.f := Classical.not_not.mp hbf
          rw [eb, ef] at this
          exact (Option.some.inj this).symm
        subst fb
        have e : (⟨c.b, c.f, c.n * t, c.g * t, if c.o = true then c.e else if c.g < 0 then c.e - ((t : Int) - 1) * c.g else c.e, c.o, if c.o = true then (c.v || !decide (c.g = 0)) else c.v⟩ : Crs) = oft c t := by
          unfold oft
          have d2 : decide (2 ≤ t) = true := decide_eq_true (by omega)
          rw [d2, Bool.true_and]
        show SpecC _ _
        rw [e]
        refine ⟨?_, fun z => ?_, fun _ => ⟨f, f, eb, ef, run_rep run t ht⟩⟩
        · show c.n * (t : Int) = ((rep t r).length : Int)
          have : (rep t r).length = r.length * t := by
            unfold rep
            rw [List.length_flatten, List.map_replicate, List.sum_replicate_nat, Nat.mul_comm]
          rw [this, cn]
          simp
        · exfalso
          obtain ⟨k, rfl⟩ : ∃ k, t = k + 1 := ⟨t - 1, by omega⟩
          rw [rep_succ] at z
          exact hr (List.append_eq_nil_iff.mp z).1
end L2.K22
end

section
set_option Elab.async false
set_option linter.all false
set_option maxRecDepth 100000
set_option maxHeartbeats 4000000
namespace L2.K22
open PySem PySem.Spec PyProof.Rows L2.Gd
/-! ### a going deed by deed, and its course -/
def itemU (g : PyData → Option (List Nat)) (m : Int) : PyData → Option (List Nat)
  | .int i => if 0 ≤ i ∧ i < m then some [i.toNat] else none
  | .tuple [x, .int t] => if t < 0 then none else (g x).map fun r => (List.replicate t.toNat r).flatten
  | _ => none
def unrL (g : PyData → Option (List Nat)) (m : Int) : List PyData → Option (List Nat)
  | [] => some []
  | it :: r => match itemU g m it, unrL g m r with
    | some a, some b => some (a ++ b)
    | _, _ => none
def unr : Nat → Int → PyData → Option (List Nat)
  | 0, _, _ => none
  | k + 1, m, d => match seqOf d with
    | some its => unrL (unr k m) m its
    | none => none
def rowD (ds : List Dd) (r : List Nat) : List Dd := r.map fun i => ds.getD i d00
where d00 : Dd := ⟨0, 0, 0, "any"⟩
def dueB (ds : List Dd) (p s : Int) (d : PyData) : Bool := match unr 4 ds.length d with
  | some r => (runD (rowD ds r) p s).isSome
  | none => false
theorem item_form {k : Nat} {m : Int} (ih : ∀ d, hasF k m d = (unr k m d).isSome) (d : PyData) : itemF (hasF k m) m d = (itemU (unr k m) m d).isSome := by
  match d with
  | .none => rfl
  | .bool _ => rfl
  | .str _ => rfl
  | .list _ => rfl
  | .dict _ => rfl
  | .int i =>
    show (decide (0 ≤ i) && decide (i < m)) = (if 0 ≤ i ∧ i < m then some [i.toNat] else none : Option (List Nat)).isSome
    by_cases h : 0 ≤ i ∧ i < m
    · rw [if_pos h, decide_eq_true h.1, decide_eq_true h.2]
      rfl
    · rw [if_neg h]
      by_cases h1 : 0 ≤ i
      · rw [decide_eq_true h1, decide_eq_false (fun z => h ⟨h1, z⟩)]
        rfl
      · rw [decide_eq_false h1]
        rfl
  | .tuple [] => rfl
  | .tuple [_] => rfl
  | .tuple (_ :: b :: _ :: _) => cases b <;> rfl
  | .tuple [x, .none] => rfl
  | .tuple [x, .bool _] => rfl
  | .tuple [x, .str _] => rfl
  | .tuple [x, .list _] => rfl
  | .tuple [x, .tuple _] => rfl
  | .tuple [x, .dict _] => rfl
  | .tuple [x, .int t] =>
    show (decide (0 ≤ t) && hasF k m x) = (if t < 0 then none else (unr k m x).map fun r => (List.replicate t.toNat r).flatten).isSome
    by_cases h : t < 0
    · rw [if_pos h, decide_eq_false (by omega)]
      rfl
    · rw [if_neg h, decide_eq_true (by omega), Bool.true_and, ih, Option.isSome_map]
theorem has_unr : ∀ (k : Nat) (m : Int) (d : PyData), hasF k m d = (unr k m d).isSome
  | 0, _, _ => rfl
  | k + 1, m, d => by
    unfold hasF unr
    cases seqOf d with
    | none => rfl
    | some its =>
      show its.all (itemF (hasF k m) m) = (unrL (unr k m) m its).isSome
      induction its with
      | nil => rfl
      | cons it r ihr =>
        rw [List.all_cons, ihr, item_form (has_unr k m)]
        show _ = (match itemU (unr k m) m it, unrL (unr k m) m r with | some a, some b => some (a ++ b) | _, _ => none : Option (List Nat)).isSome
        cases itemU (unr k m) m it <;> cases unrL (unr k m) m r <;> rfl
theorem rowD_app (ds : List Dd) (a b : List Nat) : rowD ds (a ++ b) = rowD ds a ++ rowD ds b := by unfold rowD; exact List.map_append
theorem rowD_rep (ds : List Dd) (t : Nat) (a : List Nat) : rowD ds (List.replicate t a).flatten = rep t (rowD ds a) := by
  unfold rowD rep
  rw [List.map_flatten, List.map_replicate]
theorem spec_none_app {r : List Dd} (h : SpecO none r) (r' : List Dd) : SpecO none (r ++ r') := fun p s hs => by
  rw [runD_app, h p s hs]
  rfl
/-- a part that leads nowhere, behind one that has a course -/
theorem spec_some_none {c : Crs} {r r' : List Dd} (hc : SpecC c r) (h : SpecO none r') : SpecO none (r ++ r') := fun p s hs => by
  rw [runD_app]
  cases e : runD r p s with
  | none => rfl
  | some x => exact h _ _ (runD_nn r p s x.1 x.2 hs e)
section
variable {m : Int} {ds : List Dd}
theorem spec_item (ok : ∀ d ∈ ds, d.Ok m) {k : Nat} (ih : ∀ d r, unr k ds.length d = some r → SpecO (cwC k ds d) (rowD ds r)) {d : PyData} {r : List Nat} (e : itemU (unr k ds.length) ds.length d = some r) :
    SpecO (itemC (cwC k ds) ds d) (rowD ds r) := by
  match d, e with
  | .int i, e =>
    have e' : (if 0 ≤ i ∧ i < (ds.length : Int) then some [i.toNat] else none : Option (List Nat)) = some r := e
    by_cases h : 0 ≤ i ∧ i < (ds.length : Int)
    · rw [if_pos h] at e'
      obtain rfl := Option.some.inj e'
      have lt : i.toNat < ds.length := by omega
      have e1 : rowD ds [i.toNat] = [ds[i.toNat]] := by
        unfold rowD
        rw [List.map_cons, List.map_nil, List.getD_eq_getElem?_getD, List.getElem?_eq_getElem lt]
        rfl
      rw [e1]
      show SpecO ((ds[i.toNat]?).map deedC) _
      rw [List.getElem?_eq_getElem lt]
      exact spec_deed (ok _ (List.getElem_mem lt))
    · rw [if_neg h] at e'
      exact nomatch e'
  | .tuple [x, .int t], e =>
    have e' : (if t < 0 then none else (unr k ds.length x).map fun r => (List.replicate t.toNat r).flatten) = some r := e
    by_cases h : t < 0
    · rw [if_pos h] at e'
      exact nomatch e'
    · rw [if_neg h] at e'
      obtain ⟨a, ea, rfl⟩ := Option.map_eq_some_iff.mp e'
      rw [rowD_rep]
      show SpecO ((if t > 0 then cwC k ds x else some noC).bind fun c => oftC c t) _
      by_cases h0 : t > 0
      · rw [if_pos h0]
        have := ih x a ea
        obtain ⟨n, rfl⟩ : ∃ n : Nat, t = n := ⟨t.toNat, by omega⟩
        rw [Int.toNat_natCast]
        cases hc : cwC k ds x with
        | none =>
          rw [hc] at this
          obtain ⟨j, rfl⟩ : ∃ j, n = j + 1 := ⟨n - 1, by omega⟩
          rw [rep_succ]
          exact spec_none_app this _
        | some c =>
          rw [hc] at this
          exact spec_oft this (by omega)
      · rw [if_neg h0]
        obtain rfl : t = 0 := by omega
        exact spec_no
theorem spec_list (ok : ∀ d ∈ ds, d.Ok m) {k : Nat} (ih : ∀ d r, unr k ds.length d = some r → SpecO (cwC k ds d) (rowD ds r)) :
    ∀ (its : List PyData) (c : Crs) (r0 : List Dd) (r : List Nat), SpecC c r0 → unrL (unr k ds.length) ds.length its = some r → SpecO (cwL (itemC (cwC k ds) ds) its c) (r0 ++ rowD ds r)
  | [], c, r0, r, hc, e => by
    obtain rfl := (Option.some.inj e).symm
    show SpecC c (r0 ++ [])
    rw [List.append_nil]
    exact hc
  | it :: its, c, r0, r, hc, e => by
    have e' : (match itemU (unr k ds.length) ds.length it, unrL (unr k ds.length) ds.length its with | some a, some b => some (a ++ b) | _, _ => none : Option (List Nat)) = some r := e
    cases h1 : itemU (unr k ds.length) ds.length it with
    | none => rw [h1] at e'; exact nomatch e'
    | some a =>
      cases h2 : unrL (unr k ds.length) ds.length its with
      | none => rw [h1, h2] at e'; exact nomatch e'
      | some b =>
        rw [h1, h2] at e'
        obtain rfl := (Option.some.inj e').symm
        rw [rowD_app, ← List.append_assoc]
        have si := spec_item ok ih h1
        show SpecO (match (itemC (cwC k ds) ds it).bind (behC c) with | none => none | some c' => cwL (itemC (cwC k ds) ds) its c') _
        cases hi : itemC (cwC k ds) ds it with
        | none =>
          rw [hi] at si
          exact spec_none_app (spec_some_none hc si) _
        | some ci =>
          rw [hi] at si
          have sb := spec_beh hc si
          show SpecO (match behC c ci with | none => none | some c' => cwL (itemC (cwC k ds) ds) its c') _
          cases hb : behC c ci with
          | none =>
            rw [hb] at sb
            exact spec_none_app sb _
          | some c' =>
            rw [hb] at sb
            exact spec_list ok ih its c' _ b sb h2
theorem spec_cw (ok : ∀ d ∈ ds, d.Ok m) : ∀ (k : Nat) (d : PyData) (r : List Nat), unr k ds.length d = some r → SpecO (cwC k ds d) (rowD ds r)
  | 0, _, _, e => nomatch e
  | k + 1, d, r, e => by
    unfold unr at e
    unfold cwC
    cases hs : seqOf d with
    | none => rw [hs] at e; exact nomatch e
    | some its =>
      rw [hs] at e
      exact spec_list ok (spec_cw ok k) its noC [] r spec_no e
/-- the judge says what the single deeds say -/
theorem going_due (ok : ∀ d ∈ ds, d.Ok m) {p s : Int} (hs : 0 ≤ s) (d : PyData) : goingB ds p s d = dueB ds p s d := by
  unfold goingB dueB wholeC
  have hu := has_unr 4 ds.length d
  cases e : unr 4 ds.length d with
  | none =>
    rw [e] at hu
    rw [if_neg (by rw [hu]; decide)]
  | some r =>
    rw [e] at hu
    rw [if_pos (by rw [hu]; rfl)]
    have sp := spec_cw ok 4 d r e
    cases hc : cwC 4 ds d with
    | none =>
      rw [hc] at sp
      show false = (runD (rowD ds r) p s).isSome
      rw [sp p s hs]
      rfl
    | some c =>
      rw [hc] at sp
      obtain ⟨cn, c0, c1⟩ := sp
      show fitsC c p s = (runD (rowD ds r) p s).isSome
      unfold fitsC
      by_cases hr : rowD ds r = []
      · rw [hr] at cn ⊢
        rw [if_pos (by rw [cn]; rfl)]
        rfl
      · have hn : ¬ c.n = 0 := by
          rw [cn]
          intro z
          exact hr (List.eq_nil_of_length_eq_zero (by omega))
        rw [if_neg hn]
        obtain ⟨b, f, eb, ef, run⟩ := c1 hr
        rw [run p s hs]
        by_cases hv : c.v = true ∨ c.b ≠ some p
        · rw [if_pos hv, if_neg]
          · rfl
          · rintro ⟨z, mv, _⟩
            rcases hv with h | h
            · rw [mv] at h
              exact nomatch h
            · exact h (by rw [eb, z])
        · rw [if_neg hv]
          have v0 : c.v = false := by
            cases h : c.v with
            | true => exact absurd (.inl h) hv
            | false => rfl
          have pb : p = b := by
            have : c.b = some p := Classical.not_not.mp fun z => hv (.inr z)
            rw [eb] at this
            exact (Option.some.inj this).symm
          by_cases ho : c.o = true
          · rw [if_pos ho]
            by_cases hse : s = c.e
            · rw [decide_eq_true hse, if_pos ⟨pb, v0, by rw [if_pos ho]; exact hse⟩]
              rfl
            · rw [decide_eq_false hse, if_neg]
              · rfl
              · rintro ⟨_, _, z⟩
                rw [if_pos ho] at z
                exact hse z
          · rw [if_neg ho]
            by_cases hse : s ≥ c.e
            · rw [decide_eq_true hse, if_pos ⟨pb, v0, by rw [if_neg ho]; exact hse⟩]
              rfl
            · rw [decide_eq_false hse, if_neg]
              · rfl
              · rintro ⟨_, _, z⟩
                rw [if_neg ho] at z
                exact hse z
end
end L2.K22
end

section
set_option Elab.async false
set_option linter.all false
set_option maxRecDepth 100000
set_option maxHeartbeats 4000000
namespace L2.K22
open PySem PySem.Spec PyProof.Rows L2.Gd
/-! ### the law's own unrolling -/
def itemW (g : PyData → Nat) : PyData → Nat
  | .tuple [x, .int t] => (t.toNat + 1) * (g x + 1)
  | _ => 1
def wt : Nat → PyData → Nat
  | 0, _ => 0
  | k + 1, d => match seqOf d with
    | some its => (its.map (itemW (wt k))).sum
    | none => 0
def iV (r : List Nat) : List V := r.map fun i : Nat => V.int (i : Int)
def UV (H : Hp) : V → Option (List Nat) → Prop
  | v, none => v = .non
  | v, some r => ∃ u, v = .ref u ∧ H u = some (.lst (iV r))
theorem UV.same {H H' : Hp} {v : V} {o : Option (List Nat)} (s : Same H H') (h : UV H v o) : UV H' v o := by
  cases o with
  | none => exact h
  | some r => exact let ⟨u, e, q⟩ := h; ⟨u, e, s _ _ q⟩
theorem kit_lt {K : PySem.W.Frag} (d : PyData) : PySem.W.kitAny K (.type (kindT d)) [Value.type "list", Value.type "tuple"] = some (isLT d) := by
  refine kitAny_cons (kit_ty (kit_list d)) (fun e1 => kitAny_cons (kit_ty (kit_tuple d)) (fun e2 => ?_) (fun e2 => ?_)) (fun e1 => ?_)
  · have : isLT d = false := by
      cases d <;> first | rfl | exact absurd (show true = false from e1) (by decide) | exact absurd (show true = false from e2) (by decide)
    rw [this]
    rfl
  · cases d <;> first | rfl | exact absurd (show false = true from e2) (by decide)
  · cases d <;> first | rfl | exact absurd (show false = true from e1) (by decide)
theorem itemU_len {k : Nat} {m : Int} (ih : ∀ d r, unr k m d = some r → r.length ≤ wt k d) {d : PyData} {r : List Nat} (e : itemU (unr k m) m d = some r) : r.length ≤ itemW (wt k) d := by
  match d, e with
  | .int i, e =>
    have e' : (if 0 ≤ i ∧ i < m then some [i.toNat] else none : Option (List Nat)) = some r := e
    split at e'
    · obtain rfl := Option.some.inj e'
      exact Nat.le_refl 1
    · exact nomatch e'
  | .tuple [x, .int t], e =>
    have e' : (if t < 0 then none else (unr k m x).map fun r => (List.replicate t.toNat r).flatten) = some r := e
    split at e'
    · exact nomatch e'
    · obtain ⟨a, ea, rfl⟩ := Option.map_eq_some_iff.mp e'
      rw [List.length_flatten, List.map_replicate, List.sum_replicate_nat]
      show t.toNat * a.length ≤ (t.toNat + 1) * (wt k x + 1)
      exact Nat.mul_le_mul (Nat.le_succ _) (Nat.le_succ_of_le (ih x a ea))
theorem unrL_len {k : Nat} {m : Int} (ih : ∀ d r, unr k m d = some r → r.length ≤ wt k d) : ∀ (its : List PyData) (r : List Nat), unrL (unr k m) m its = some r → r.length ≤ (its.map (itemW (wt k))).sum
  | [], r, e => by
    obtain rfl := (Option.some.inj e).symm
    exact Nat.zero_le _
  | it :: its, r, e => by
    have e' : (match itemU (unr k m) m it, unrL (unr k m) m its with | some a, some b => some (a ++ b) | _, _ => none : Option (List Nat)) = some r := e
    cases h1 : itemU (unr k m) m it with
    | none => rw [h1] at e'; exact nomatch e'
    | some a =>
      cases h2 : unrL (unr k m) m its with
      | none => rw [h1, h2] at e'; exact nomatch e'
      | some b =>
        rw [h1, h2] at e'
        obtain rfl := (Option.some.inj e').symm
        rw [List.length_append, List.map_cons, List.sum_cons]
        exact Nat.add_le_add (itemU_len ih h1) (unrL_len ih its b h2)
theorem unr_len : ∀ (k : Nat) (m : Int) (d : PyData) (r : List Nat), unr k m d = some r → r.length ≤ wt k d
  | 0, _, _, _, e => nomatch e
  | k + 1, m, d, r, e => by
    unfold unr at e
    unfold wt
    cases hs : seqOf d with
    | none => rw [hs] at e; exact nomatch e
    | some its =>
      rw [hs] at e
      exact unrL_len (unr_len k m) its r e
section
variable {P : Program} {w : World} {K : PySem.W.Frag} {mg : Str → Option Value} {base : Heap} {C : Addr}
def spIW : Sp := spInt2
theorem scIW : FnScope ["_law_value"] ["_law_value"] (defScope (top 40)) := ⟨rfl, rfl, rfl, by decide +kernel, rfl, by decide +kernel, by decide +kernel⟩
theorem ok_iw {f : Addr} {fd : FuncData} (F : Fun K "_law_is_whole" "_law_is_whole" (top 40) f fd) (n : Nm mg) : FnOk P w K mg base CX0 1 f fd ["_law_value"] spInt2 := by
  refine F.ok scIW (fun vs H Q E h => ?_) (fun cdv A outer s H vs Q E hr h => ?_)
  · obtain ⟨p, v, d, rfl, _⟩ := h
    rfl
  · obtain ⟨p, v, d, rfl, hd, k⟩ := h
    refine ⟨_, pss_one (ps_ret (pe_and (pe_isInt n (pv 0)) (pe_one (pe_not (pe_isBool n (pv 0)))))), ?_⟩
    refine ⟨_, rfl, isi_mk hd.ty (kit_int d) ⟨_, rfl, ?_⟩⟩
    have e : isI d = ((isI d || isB d) && !isB d) := by cases d <;> rfl
    cases q : (isI d || isB d) with
    | true =>
      refine iteT ⟨_, rfl, isi_mk hd.ty (kit_bool d) ⟨_, rfl, ?_⟩⟩
      rw [q, Bool.true_and] at e
      rw [← e]
      exact k
    | false =>
      rw [q, Bool.false_and] at e
      rw [e] at k
      exact iteF k
def spUn (k : Nat) : Sp := fun vs H Q _ => ∃ (p : Addr) (m : Int) (v : V) (d : PyData), vs = [v, .int m, .int k] ∧ DV p H v d ∧ wt k d ≤ 100000 ∧ ∀ v' H', Same H H' → UV H' v' (unr k m d) → Q v' H'
def NUn : List Str := ["_law_value", "_law_many", "_law_lists", "_law_found", "_law_item", "_law_inner", "_law_turn"]
theorem scUn : FnScope NUn ["_law_value", "_law_many", "_law_lists"] (defScope (top 41)) := ⟨rfl, rfl, rfl, by decide +kernel, rfl, by decide +kernel, by decide +kernel⟩
theorem ok_unS {j : Nat} {f : Addr} {fd : FuncData} (F : Fun K "_law_unrolled" "_law_unrolled" (top 41) f fd) (n : Nm mg) (GI : Fn P w K mg base 1 "_law_is_whole" ["_law_value"] spInt2)
    (GU : Fn P w K mg base (2 + j) "_law_unrolled" ["_law_value", "_law_many", "_law_lists"] (spUn j)) : FnOk P w K mg base CX0 (2 + j + 1) f fd ["_law_value", "_law_many", "_law_lists"] (spUn (j + 1)) := by
  refine F.ok scUn (fun vs H Q E h => ?_) (fun cdv A outer s H vs Q E hr h => ?_)
  · obtain ⟨p, m, v, d, rfl, _⟩ := h
    rfl
  · obtain ⟨p, m, v, d, rfl, hd, hw, q⟩ := h
    have N := scUn.nd
    have r1 := hr.mono (k := 2 + j) (j := 1) (by omega)
    have jn : ¬ ((j : Int) + 1 = 0) := by omega
    have j1 : ((j : Int) + 1) - 1 = j := by omega
    have cs : Paired ClsV [V.ty "list", V.ty "tuple"] [Value.type "list", Value.type "tuple"] := .cons (.ty _) (.cons (.ty _) .nil)
    cases hd with
    | lst nep hx ts =>
      rename_i a xs its
      refine ⟨_, pss_cons (ps_if (pw_or (pt_not (pt_val (pe_callB call_isiT (by rfl) n.isi (by decide +kernel) (pa_cons (pv 0) (pa_cons (pe_tup (pa_cons (pe_bltn (v := .ty "list") (by rfl) n.list (by decide +kernel) rfl) (pa_cons (pe_bltn (v := .ty "tuple") (by rfl) n.tuple (by decide +kernel) rfl) pa_nil))) pa_nil)))))
          (pw_or1 (pt_cmpR op_eq (pv 2) pe_int (nomark _)))).pt (pss_one (ps_ret pe_non)) pss_nil)
        (pss_cons (ps_set (i := 3) N rfl (.inl rfl) (pe_lst pa_nil))
        (pss_cons (ps_for PassesOwn.never rfl (pi_list (pv 0)) (pg_name (i := 4) N rfl (.inl rfl))
          (pss_one (ps_if (pt_val (pe_fn GI r1 (pa_cons (pv 4) pa_nil)))
            (pss_cons (ps_if (pt_not (pt_chain op_le op_lt pe_int (pv 4) (pv 1))) (pss_one (ps_ret pe_non)) pss_nil)
            (pss_one (ps_expr (pe_bm PySem.F.plainAttrs_list PySem.F.slot_list_append PySem.F.type_list_append mt_append (pv 3) (pa_cons (pv 4) pa_nil)))))
            (pss_cons (ps_if (pw_or (pt_not (pt_val (pe_isTuple n (pv 4)))) (pw_or (pt_cmpR op_ne (pe_callB call_len_seq (by rfl) n.len PySem.boot_len (pa_cons (pv 4) pa_nil)) pe_int (nomark _)) (pw_or (pt_not (pt_val (pe_fn GI r1 (pa_cons (pe_ix ix_tup (pv 4) pe_int (fun _ _ => rfl)) pa_nil)))) (pw_or1 (pt_cmpR op_lt (pe_ix ix_tup (pv 4) pe_int (fun _ _ => rfl)) pe_int (nomark _)))))).pt (pss_one (ps_ret pe_non)) pss_nil)
            (pss_cons (ps_set (i := 5) N rfl (.inl rfl) (pe_fn GU hr (pa_cons (pe_ix ix_tup (pv 4) pe_int (fun _ _ => rfl)) (pa_cons (pv 1) (pa_cons (pe_op op_sub (pv 2) pe_int) pa_nil)))))
            (pss_cons (ps_if (pt_cmp (pc_isN (pv 5))) (pss_one (ps_ret pe_non)) pss_nil)
            (pss_one (ps_for PassesOwn.never rfl (pi_range1 (by rfl) n.range (pa_cons (pe_ix ix_tup (pv 4) pe_int (fun _ _ => rfl)) pa_nil)) (pg_name (i := 6) N rfl (.inl rfl)) (pss_one (ps_set (i := 3) N rfl (.inl rfl) (pe_op op_cat (pv 3) (pv 5))))))))))))
        (pss_one (ps_ret (pv 3))))), ?_⟩
      refine seqV (Good := fun σ2 H2 => Same H H2 ∧ σ2 = [some (.ref a), some (.int m), some (.int ((j : Int) + 1)), none, none, none, none]) ?_ ?_
      · intro nx hnx
        refine ⟨_, rfl, (by show 2 ≤ sizeLine; decide), fun t ht => ?_⟩
        refine ⟨_, t, _, _, _, _, rfl, upd_same, cs, (DV.same (p := p) (same_upd ht) (.lst nep hx ts)).ty, kit_lt _, true, rfl, ?_⟩
        refine iteF ?_
        refine ⟨_, rfl, rfl, false, congrArg V.bl (decide_eq_false (by simpa using jn)), ?_⟩
        exact iteF (hnx _ _ ⟨same_upd ht, rfl⟩)
      rintro _ H0 ⟨s0, rfl⟩
      refine seqV (Good := fun σ2 H2 => ∃ fo, H fo = none ∧ H2 fo = some (.lst []) ∧ Same H H2 ∧ σ2 = [some (.ref a), some (.int m), some (.int ((j : Int) + 1)), some (.ref fo), none, none, none])
        (fun nx hnx => ⟨(by show 0 ≤ sizeLine; decide), fun fo hfo => hnx _ _ ⟨fo, s0.free hfo, upd_same, s0.trans (same_upd hfo), rfl⟩⟩) ?_
      rintro _ H1 ⟨fo, fo0, hfo, s1, rfl⟩
      have hx1 := s1 _ _ hx
      have lts := ts.len
      have whole : unr (j + 1) m (.list its) = unrL (unr j m) m its := rfl
      have hw' : (its.map (itemW (wt j))).sum ≤ 100000 := hw
      refine ⟨_, rfl, a, rfl, ⟨_, .inl (.inl hx1)⟩, ?_⟩
      refine loop_of (n := xs.length) (fun i σ H2 => ∃ (v4 v5 v6 : Option V) (fo : Addr) (acc : List Nat), σ = [some (.ref a), some (.int m), some (.int ((j : Int) + 1)), some (.ref fo), v4, v5, v6] ∧ H fo = none ∧ H2 fo = some (.lst (iV acc)) ∧ Same H H2 ∧
          unrL (unr j m) m its = (unrL (unr j m) m (its.drop i)).map (acc ++ ·) ∧ acc.length ≤ ((its.take i).map (itemW (wt j))).sum)
        ⟨none, none, none, fo, [], rfl, fo0, hfo, s1, by simp, by simp⟩ ?_ ?_
      · rintro σ H2 ⟨v4, v5, v6, fo, acc, rfl, fo0, hfo, s2, e, _⟩
        refine ⟨⟨xs, .inl (.inl (s2 _ _ hx)), Nat.le_refl _⟩, ?_⟩
        rw [lts, List.drop_length] at e
        have e2 : unrL (unr j m) m its = some acc := by rw [e]; show some (acc ++ []) = _; rw [List.append_nil]
        exact ⟨_, rfl, q _ H2 s2 (by rw [whole, e2]; exact ⟨fo, rfl, hfo⟩)⟩
      · rintro i σ H2 hi ⟨v4, v5, v6, fo, acc, rfl, fo0, hfo, s2, e, hacc⟩
        refine ⟨⟨xs, _, .inl (.inl (s2 _ _ hx)), List.getElem?_eq_getElem hi⟩, ?_⟩
        rintro v H' ⟨rfl, hy⟩
        have hvi := hy xs (.inl (.inl (s2 _ _ hx)))
        obtain ⟨it, hit, hdx⟩ := ts.at hvi
        have hdx2 : DV p H' v it := hdx.same s2
        have hil : i < its.length := by rw [← lts]; exact hi
        have dr : its.drop i = it :: its.drop (i + 1) := by
          rw [List.drop_eq_getElem_cons hil]
          congr 1
          rw [List.getElem?_eq_getElem hil] at hit
          exact Option.some.inj hit
        have tk : ((its.take (i + 1)).map (itemW (wt j))).sum = ((its.take i).map (itemW (wt j))).sum + itemW (wt j) it := by
          rw [List.take_succ, hit, List.map_append, List.sum_append]
          simp
        have tle : ((its.take (i + 1)).map (itemW (wt j))).sum ≤ 100000 := by
          refine Nat.le_trans ?_ hw'
          conv => rhs; rw [← List.take_append_drop (i + 1) its, List.map_append, List.sum_append]
          exact Nat.le_add_right _ _
        rw [tk] at tle
        have eU : unrL (unr j m) m (its.drop i) = match itemU (unr j m) m it, unrL (unr j m) m (its.drop (i + 1)) with | some a, some b => some (a ++ b) | _, _ => none := by
          rw [dr]
          rfl
        have bad : itemU (unr j m) m it = none → ∀ H3, Same H' H3 → Q .non H3 := fun z H3 s3 => by
          refine q .non H3 (s2.trans s3) ?_
          rw [whole, e, eU, z]
          rfl
        have good : ∀ r, itemU (unr j m) m it = some r → unrL (unr j m) m its = (unrL (unr j m) m (its.drop (i + 1))).map ((acc ++ r) ++ ·) := fun r z => by
          rw [e, eU, z]
          cases unrL (unr j m) m (its.drop (i + 1)) with
          | none => rfl
          | some b => show some (acc ++ (r ++ b)) = some (acc ++ r ++ b); rw [List.append_assoc]
        refine gn ?_
        refine ⟨_, rfl, p, v, it, rfl, hdx2, isI it, rfl, ?_⟩
        have sl := sizeLine_eq
        have hty : TyX K H' v (.type (kindT it)) := hdx2.ty
        cases hdx2 with
        | int z =>
          refine iteT ?_
          have eI : itemU (unr j m) m (.int z) = if 0 ≤ z ∧ z < m then some [z.toNat] else none := rfl
          refine seqV (Good := fun σ2 H3 => 0 ≤ z ∧ z < m ∧ H' = H3 ∧ σ2 = [some (.ref a), some (.int m), some (.int ((j : Int) + 1)), some (.ref fo), some (.int z), v5, v6]) ?_ ?_
          · intro nx hnx
            refine ⟨_, rfl, _, _, rfl, rfl, decide (0 ≤ z), rfl, ?_⟩
            by_cases h0 : 0 ≤ z
            · rw [decide_eq_true h0]
              refine iteT ⟨_, rfl, _, _, rfl, rfl, decide (z < m), rfl, ?_⟩
              by_cases h1 : z < m
              · rw [decide_eq_true h1]
                exact iteF (hnx _ _ ⟨h0, h1, rfl, rfl⟩)
              · rw [decide_eq_false h1]
                exact iteT (bad (by rw [eI, if_neg (fun w => h1 w.2)]) _ fun _ _ w => w)
            · rw [decide_eq_false h0]
              exact iteF ⟨false, rfl, iteT (bad (by rw [eI, if_neg (fun w => h0 w.1)]) _ fun _ _ w => w)⟩
          rintro _ _ ⟨h0, h1, rfl, rfl⟩
          have iW : itemW (wt j) (.int z) = 1 := rfl
          rw [iW] at tle tk
          refine ⟨_, rfl, .inl ⟨rfl, _, .inl (.inl hfo)⟩, _, rfl, fo, _, _, rfl, rfl, hfo, by unfold iV; rw [List.length_map]; omega, ?_⟩
          refine ⟨_, _, _, fo, acc ++ [z.toNat], rfl, fo0, ?_, fun b o w => by rw [upd_ne (ne_of_none w fo0)]; exact s2 _ _ w, good [z.toNat] (by rw [eI, if_pos ⟨h0, h1⟩]), ?_⟩
          · rw [upd_same]
            show _ = some (HO.lst (iV (acc ++ [z.toNat])))
            unfold iV
            rw [List.map_append]
            show some (HO.lst (_ ++ [V.int z])) = some (HO.lst (_ ++ [V.int ((z.toNat : Nat) : Int)]))
            rw [show ((z.toNat : Nat) : Int) = z by omega]
          · rw [tk, List.length_append]
            exact Nat.add_le_add hacc (Nat.le_refl 1)
        | tup ht tt =>
          rename_i t ts2 us
          refine iteF ?_
          have l2 := tt.len
          refine seqV (Good := fun σ2 H3 => ∃ (y1 : V) (d1 : PyData) (t0 : Int), 0 ≤ t0 ∧ ts2 = [y1, .int t0] ∧ us = [d1, .int t0] ∧ DV p H' y1 d1 ∧ H' = H3 ∧ σ2 = [some (.ref a), some (.int m), some (.int ((j : Int) + 1)), some (.ref fo), some (.ref t), v5, v6]) ?_ ?_
          · intro nx hnx
            refine ⟨_, rfl, isi_mk hty (kit_tuple _) ⟨true, rfl, iteF ?_⟩⟩
            refine ⟨_, rfl, t, ts2, rfl, .inr (.inl (.inl ht)), rfl, !decide (V.int (ts2.length : Int) = V.int 2), rfl, ?_⟩
            by_cases h2 : ts2.length = 2
            · rw [decide_eq_true (by rw [h2]; rfl)]
              refine iteF ?_
              match ts2, us, tt, h2, ht with
              | [y1, y2], _, .cons (d := d1) k1 (.cons (d := d2) k2 .nil), _, ht =>
                refine ⟨_, rfl, t, _, _, _, rfl, rfl, .inl (.inl ht), rfl, p, y2, d2, rfl, k2, isI d2, rfl, ?_⟩
                cases k2 with
                | int t0 =>
                  refine iteF ⟨_, rfl, t, _, _, _, rfl, rfl, .inl (.inl ht), rfl, _, _, rfl, rfl, decide (t0 < 0), rfl, ?_⟩
                  by_cases h0 : t0 < 0
                  · rw [decide_eq_true h0]
                    refine iteT (bad ?_ _ fun _ _ w => w)
                    show (if t0 < 0 then none else _) = none
                    rw [if_pos h0]
                  · rw [decide_eq_false h0]
                    exact iteF (hnx _ _ ⟨y1, d1, t0, by omega, rfl, rfl, k1, rfl, rfl⟩)
                | non => exact iteT (bad rfl _ fun _ _ w => w)
                | bl b => exact iteT (bad rfl _ fun _ _ w => w)
                | str _ => exact iteT (bad rfl _ fun _ _ w => w)
                | lst _ _ _ => exact iteT (bad rfl _ fun _ _ w => w)
                | tup _ _ => exact iteT (bad rfl _ fun _ _ w => w)
                | dct _ => exact iteT (bad rfl _ fun _ _ w => w)
            · rw [decide_eq_false (by simp; omega)]
              refine iteT (bad ?_ _ fun _ _ w => w)
              match us, l2 with
              | [], _ => rfl
              | [_], _ => rfl
              | [_, _], l2 => exact absurd l2 h2
              | _ :: b :: _ :: _, _ => cases b <;> rfl
          rintro _ _ ⟨y1, d1, t0, t00, rfl, rfl, k1, rfl, rfl⟩
          obtain ⟨n0, rfl⟩ : ∃ n0 : Nat, t0 = n0 := ⟨t0.toNat, by omega⟩
          have iW : itemW (wt j) (.tuple [d1, .int (n0 : Int)]) = (n0 + 1) * (wt j d1 + 1) := rfl
          have eI : itemU (unr j m) m (.tuple [d1, .int (n0 : Int)]) = (unr j m d1).map fun r => (List.replicate n0 r).flatten := by
            show (if (n0 : Int) < 0 then none else (unr j m d1).map fun r => (List.replicate (n0 : Int).toNat r).flatten) = _
            rw [if_neg (by omega), Int.toNat_natCast]
          rw [iW] at tle tk
          have w1 : wt j d1 + 1 ≤ (n0 + 1) * (wt j d1 + 1) := Nat.le_mul_of_pos_left _ (Nat.succ_pos _)
          have w2 : n0 + 1 ≤ (n0 + 1) * (wt j d1 + 1) := Nat.le_mul_of_pos_right _ (Nat.succ_pos _)
          -- inner
          refine seqV (Good := fun σ2 H3 => ∃ vi, UV H3 vi (unr j m d1) ∧ Same H' H3 ∧ σ2 = [some (.ref a), some (.int m), some (.int ((j : Int) + 1)), some (.ref fo), some (.ref t), some vi, v6])
            (fun nx hnx => ⟨_, rfl, t, _, _, _, rfl, rfl, .inl (.inl ht), rfl, _, rfl, _, rfl, _, _, rfl, rfl, p, m, y1, d1, by show [y1, V.int m, V.int ((j : Int) + 1 - 1)] ++ [] = _; rw [j1]; rfl, k1, by omega, fun vi H3 s3 uv => hnx _ _ ⟨vi, uv, s3, rfl⟩⟩) ?_
          rintro _ H3 ⟨vi, uv, s3, rfl⟩
          refine seqV (Good := fun σ2 H4 => ∃ (u : Addr) (r : List Nat), unr j m d1 = some r ∧ H3 u = some (.lst (iV r)) ∧ H3 = H4 ∧ σ2 = [some (.ref a), some (.int m), some (.int ((j : Int) + 1)), some (.ref fo), some (.ref t), some (.ref u), v6]) ?_ ?_
          · intro nx hnx
            refine ⟨_, rfl, decide (vi = .non), rfl, ?_⟩
            cases hr : unr j m d1 with
            | none =>
              rw [hr] at uv
              obtain rfl : vi = .non := uv
              rw [decide_eq_true rfl]
              exact iteT (bad (by rw [eI, hr]; rfl) _ s3)
            | some r =>
              rw [hr] at uv
              obtain ⟨u, rfl, hu⟩ := uv
              rw [decide_eq_false (by simp)]
              exact iteF (hnx _ _ ⟨u, r, hr, hu, rfl, rfl⟩)
          rintro _ _ ⟨u, r, hr, hu, rfl, rfl⟩
          have rl := unr_len j m d1 r hr
          have eR : itemU (unr j m) m (.tuple [d1, .int (n0 : Int)]) = some (List.replicate n0 r).flatten := by rw [eI, hr]; rfl
          have fl : ∀ k, ((List.replicate k r).flatten).length = k * r.length := fun k => by
            rw [List.length_flatten, List.map_replicate, List.sum_replicate_nat]
          refine ⟨_, rfl, t, _, _, _, rfl, rfl, .inl (.inl (s3 _ _ ht)), rfl, _, rfl, by omega, by omega, ?_⟩
          refine for_range (lo := 0) (n := (n0 : Int).toNat) (fun k σ2 H4 => ∃ (fo2 : Addr) (v6 : Option V), σ2 = [some (.ref a), some (.int m), some (.int ((j : Int) + 1)), some (.ref fo2), some (.ref t), some (.ref u), v6] ∧ H fo2 = none ∧ H4 fo2 = some (.lst (iV (acc ++ (List.replicate k r).flatten))) ∧ Same H3 H4)
            ⟨fo, v6, rfl, fo0, by rw [show (List.replicate 0 r).flatten = ([] : List Nat) from rfl, List.append_nil]; exact s3 _ _ hfo, fun _ _ w => w⟩ ?_ ?_
          · rintro k σ2 H4 hk ⟨fo2, v6, rfl, f0, hf2, s4⟩
            have kn : k < n0 := by omega
            have km : k * r.length ≤ n0 * (wt j d1 + 1) := Nat.mul_le_mul (by omega) (by omega)
            have nm : (n0 + 1) * (wt j d1 + 1) = n0 * (wt j d1 + 1) + (wt j d1 + 1) := Nat.succ_mul _ _
            refine ⟨_, rfl, _, rfl, fo2, u, _, _, rfl, rfl, hf2, s4 _ _ hu, ?_, fun p2 hp2 => ?_⟩
            · unfold iV
              rw [List.length_map, List.length_map, List.length_append, fl]
              omega
            · have s5 := same_upd (o := .lst (iV (acc ++ (List.replicate k r).flatten) ++ iV r)) hp2
              refine ⟨p2, _, rfl, (s2.trans (s3.trans s4)).free hp2, ?_, s4.trans s5⟩
              rw [upd_same]
              unfold iV
              rw [← List.map_append, List.append_assoc]
              congr 4
              rw [List.replicate_succ', List.flatten_append]
              simp
          · rintro σ2 H4 ⟨fo2, v6, rfl, f0, hf2, s4⟩
            rw [Int.toNat_natCast] at hf2
            refine ⟨_, _, _, fo2, acc ++ (List.replicate n0 r).flatten, rfl, f0, hf2, s2.trans (s3.trans s4), good _ eR, ?_⟩
            rw [tk, List.length_append, fl]
            have : n0 * r.length ≤ (n0 + 1) * (wt j d1 + 1) := Nat.mul_le_mul (Nat.le_succ _) (by omega)
            omega
        | non => exact iteF ⟨_, rfl, isi_mk hty (kit_tuple _) ⟨false, rfl, iteT (bad rfl _ fun _ _ w => w)⟩⟩
        | bl b => exact iteF ⟨_, rfl, isi_mk hty (kit_tuple _) ⟨false, rfl, iteT (bad rfl _ fun _ _ w => w)⟩⟩
        | str _ => exact iteF ⟨_, rfl, isi_mk hty (kit_tuple _) ⟨false, rfl, iteT (bad rfl _ fun _ _ w => w)⟩⟩
        | lst _ _ _ => exact iteF ⟨_, rfl, isi_mk hty (kit_tuple _) ⟨false, rfl, iteT (bad rfl _ fun _ _ w => w)⟩⟩
        | dct _ => exact iteF ⟨_, rfl, isi_mk hty (kit_tuple _) ⟨false, rfl, iteT (bad rfl _ fun _ _ w => w)⟩⟩
    | tup hx ts =>
      rename_i a xs its
      refine ⟨_, pss_cons (ps_if (pw_or (pt_not (pt_val (pe_callB call_isiT (by rfl) n.isi (by decide +kernel) (pa_cons (pv 0) (pa_cons (pe_tup (pa_cons (pe_bltn (v := .ty "list") (by rfl) n.list (by decide +kernel) rfl) (pa_cons (pe_bltn (v := .ty "tuple") (by rfl) n.tuple (by decide +kernel) rfl) pa_nil))) pa_nil)))))
          (pw_or1 (pt_cmpR op_eq (pv 2) pe_int (nomark _)))).pt (pss_one (ps_ret pe_non)) pss_nil)
        (pss_cons (ps_set (i := 3) N rfl (.inl rfl) (pe_lst pa_nil))
        (pss_cons (ps_for PassesOwn.never rfl (pi_tup (pv 0)) (pg_name (i := 4) N rfl (.inl rfl))
          (pss_one (ps_if (pt_val (pe_fn GI r1 (pa_cons (pv 4) pa_nil)))
            (pss_cons (ps_if (pt_not (pt_chain op_le op_lt pe_int (pv 4) (pv 1))) (pss_one (ps_ret pe_non)) pss_nil)
            (pss_one (ps_expr (pe_bm PySem.F.plainAttrs_list PySem.F.slot_list_append PySem.F.type_list_append mt_append (pv 3) (pa_cons (pv 4) pa_nil)))))
            (pss_cons (ps_if (pw_or (pt_not (pt_val (pe_isTuple n (pv 4)))) (pw_or (pt_cmpR op_ne (pe_callB call_len_seq (by rfl) n.len PySem.boot_len (pa_cons (pv 4) pa_nil)) pe_int (nomark _)) (pw_or (pt_not (pt_val (pe_fn GI r1 (pa_cons (pe_ix ix_tup (pv 4) pe_int (fun _ _ => rfl)) pa_nil)))) (pw_or1 (pt_cmpR op_lt (pe_ix ix_tup (pv 4) pe_int (fun _ _ => rfl)) pe_int (nomark _)))))).pt (pss_one (ps_ret pe_non)) pss_nil)
            (pss_cons (ps_set (i := 5) N rfl (.inl rfl) (pe_fn GU hr (pa_cons (pe_ix ix_tup (pv 4) pe_int (fun _ _ => rfl)) (pa_cons (pv 1) (pa_cons (pe_op op_sub (pv 2) pe_int) pa_nil)))))
            (pss_cons (ps_if (pt_cmp (pc_isN (pv 5))) (pss_one (ps_ret pe_non)) pss_nil)
            (pss_one (ps_for PassesOwn.never rfl (pi_range1 (by rfl) n.range (pa_cons (pe_ix ix_tup (pv 4) pe_int (fun _ _ => rfl)) pa_nil)) (pg_name (i := 6) N rfl (.inl rfl)) (pss_one (ps_set (i := 3) N rfl (.inl rfl) (pe_op op_cat (pv 3) (pv 5))))))))))))
        (pss_one (ps_ret (pv 3))))), ?_⟩
      refine seqV (Good := fun σ2 H2 => Same H H2 ∧ σ2 = [some (.ref a), some (.int m), some (.int ((j : Int) + 1)), none, none, none, none]) ?_ ?_
      · intro nx hnx
        refine ⟨_, rfl, (by show 2 ≤ sizeLine; decide), fun t ht => ?_⟩
        refine ⟨_, t, _, _, _, _, rfl, upd_same, cs, (DV.same (p := p) (same_upd ht) (.tup hx ts)).ty, kit_lt _, true, rfl, ?_⟩
        refine iteF ?_
        refine ⟨_, rfl, rfl, false, congrArg V.bl (decide_eq_false (by simpa using jn)), ?_⟩
        exact iteF (hnx _ _ ⟨same_upd ht, rfl⟩)
      rintro _ H0 ⟨s0, rfl⟩
      refine seqV (Good := fun σ2 H2 => ∃ fo, H fo = none ∧ H2 fo = some (.lst []) ∧ Same H H2 ∧ σ2 = [some (.ref a), some (.int m), some (.int ((j : Int) + 1)), some (.ref fo), none, none, none])
        (fun nx hnx => ⟨(by show 0 ≤ sizeLine; decide), fun fo hfo => hnx _ _ ⟨fo, s0.free hfo, upd_same, s0.trans (same_upd hfo), rfl⟩⟩) ?_
      rintro _ H1 ⟨fo, fo0, hfo, s1, rfl⟩
      have hx1 := s1 _ _ hx
      have lts := ts.len
      have whole : unr (j + 1) m (.tuple its) = unrL (unr j m) m its := rfl
      have hw' : (its.map (itemW (wt j))).sum ≤ 100000 := hw
      refine ⟨_, rfl, a, rfl, ⟨_, .inl (.inl hx1)⟩, ?_⟩
      refine loop_of (n := xs.length) (fun i σ H2 => ∃ (v4 v5 v6 : Option V) (fo : Addr) (acc : List Nat), σ = [some (.ref a), some (.int m), some (.int ((j : Int) + 1)), some (.ref fo), v4, v5, v6] ∧ H fo = none ∧ H2 fo = some (.lst (iV acc)) ∧ Same H H2 ∧
          unrL (unr j m) m its = (unrL (unr j m) m (its.drop i)).map (acc ++ ·) ∧ acc.length ≤ ((its.take i).map (itemW (wt j))).sum)
        ⟨none, none, none, fo, [], rfl, fo0, hfo, s1, by simp, by simp⟩ ?_ ?_
      · rintro σ H2 ⟨v4, v5, v6, fo, acc, rfl, fo0, hfo, s2, e, _⟩
        refine ⟨⟨xs, .inl (.inl (s2 _ _ hx)), Nat.le_refl _⟩, ?_⟩
        rw [lts, List.drop_length] at e
        have e2 : unrL (unr j m) m its = some acc := by rw [e]; show some (acc ++ []) = _; rw [List.append_nil]
        exact ⟨_, rfl, q _ H2 s2 (by rw [whole, e2]; exact ⟨fo, rfl, hfo⟩)⟩
      · rintro i σ H2 hi ⟨v4, v5, v6, fo, acc, rfl, fo0, hfo, s2, e, hacc⟩
        refine ⟨⟨xs, _, .inl (.inl (s2 _ _ hx)), List.getElem?_eq_getElem hi⟩, ?_⟩
        rintro v H' ⟨rfl, hy⟩
        have hvi := hy xs (.inl (.inl (s2 _ _ hx)))
        obtain ⟨it, hit, hdx⟩ := ts.at hvi
        have hdx2 : DV p H' v it := hdx.same s2
        have hil : i < its.length := by rw [← lts]; exact hi
        have dr : its.drop i = it :: its.drop (i + 1) := by
          rw [List.drop_eq_getElem_cons hil]
          congr 1
          rw [List.getElem?_eq_getElem hil] at hit
          exact Option.some.inj hit
        have tk : ((its.take (i + 1)).map (itemW (wt j))).sum = ((its.take i).map (itemW (wt j))).sum + itemW (wt j) it := by
          rw [List.take_succ, hit, List.map_append, List.sum_append]
          simp
        have tle : ((its.take (i + 1)).map (itemW (wt j))).sum ≤ 100000 := by
          refine Nat.le_trans ?_ hw'
          conv => rhs; rw [← List.take_append_drop (i + 1) its, List.map_append, List.sum_append]
          exact Nat.le_add_right _ _
        rw [tk] at tle
        have eU : unrL (unr j m) m (its.drop i) = match itemU (unr j m) m it, unrL (unr j m) m (its.drop (i + 1)) with | some a, some b => some (a ++ b) | _, _ => none := by
          rw [dr]
          rfl
        have bad : itemU (unr j m) m it = none → ∀ H3, Same H' H3 → Q .non H3 := fun z H3 s3 => by
          refine q .non H3 (s2.trans s3) ?_
          rw [whole, e, eU, z]
          rfl
        have good : ∀ r, itemU (unr j m) m it = some r → unrL (unr j m) m its = (unrL (unr j m) m (its.drop (i + 1))).map ((acc ++ r) ++ ·) := fun r z => by
          rw [e, eU, z]
          cases unrL (unr j m) m (its.drop (i + 1)) with
          | none => rfl
          | some b => show some (acc ++ (r ++ b)) = some (acc ++ r ++ b); rw [List.append_assoc]
        refine gn ?_
        refine ⟨_, rfl, p, v, it, rfl, hdx2, isI it, rfl, ?_⟩
        have sl := sizeLine_eq
        have hty : TyX K H' v (.type (kindT it)) := hdx2.ty
        cases hdx2 with
        | int z =>
          refine iteT ?_
          have eI : itemU (unr j m) m (.int z) = if 0 ≤ z ∧ z < m then some [z.toNat] else none := rfl
          refine seqV (Good := fun σ2 H3 => 0 ≤ z ∧ z < m ∧ H' = H3 ∧ σ2 = [some (.ref a), some (.int m), some (.int ((j : Int) + 1)), some (.ref fo), some (.int z), v5, v6]) ?_ ?_
          · intro nx hnx
            refine ⟨_, rfl, _, _, rfl, rfl, decide (0 ≤ z), rfl, ?_⟩
            by_cases h0 : 0 ≤ z
            · rw [decide_eq_true h0]
              refine iteT ⟨_, rfl, _, _, rfl, rfl, decide (z < m), rfl, ?_⟩
              by_cases h1 : z < m
              · rw [decide_eq_true h1]
                exact iteF (hnx _ _ ⟨h0, h1, rfl, rfl⟩)
              · rw [decide_eq_false h1]
                exact iteT (bad (by rw [eI, if_neg (fun w => h1 w.2)]) _ fun _ _ w => w)
            · rw [decide_eq_false h0]
              exact iteF ⟨false, rfl, iteT (bad (by rw [eI, if_neg (fun w => h0 w.1)]) _ fun _ _ w => w)⟩
          rintro _ _ ⟨h0, h1, rfl, rfl⟩
          have iW : itemW (wt j) (.int z) = 1 := rfl
          rw [iW] at tle tk
          refine ⟨_, rfl, .inl ⟨rfl, _, .inl (.inl hfo)⟩, _, rfl, fo, _, _, rfl, rfl, hfo, by unfold iV; rw [List.length_map]; omega, ?_⟩
          refine ⟨_, _, _, fo, acc ++ [z.toNat], rfl, fo0, ?_, fun b o w => by rw [upd_ne (ne_of_none w fo0)]; exact s2 _ _ w, good [z.toNat] (by rw [eI, if_pos ⟨h0, h1⟩]), ?_⟩
          · rw [upd_same]
            show _ = some (HO.lst (iV (acc ++ [z.toNat])))
            unfold iV
            rw [List.map_append]
            show some (HO.lst (_ ++ [V.int z])) = some (HO.lst (_ ++ [V.int ((z.toNat : Nat) : Int)]))
            rw [show ((z.toNat : Nat) : Int) = z by omega]
          · rw [tk, List.length_append]
            exact Nat.add_le_add hacc (Nat.le_refl 1)
        | tup ht tt =>
          rename_i t ts2 us
          refine iteF ?_
          have l2 := tt.len
          refine seqV (Good := fun σ2 H3 => ∃ (y1 : V) (d1 : PyData) (t0 : Int), 0 ≤ t0 ∧ ts2 = [y1, .int t0] ∧ us = [d1, .int t0] ∧ DV p H' y1 d1 ∧ H' = H3 ∧ σ2 = [some (.ref a), some (.int m), some (.int ((j : Int) + 1)), some (.ref fo), some (.ref t), v5, v6]) ?_ ?_
          · intro nx hnx
            refine ⟨_, rfl, isi_mk hty (kit_tuple _) ⟨true, rfl, iteF ?_⟩⟩
            refine ⟨_, rfl, t, ts2, rfl, .inr (.inl (.inl ht)), rfl, !decide (V.int (ts2.length : Int) = V.int 2), rfl, ?_⟩
            by_cases h2 : ts2.length = 2
            · rw [decide_eq_true (by rw [h2]; rfl)]
              refine iteF ?_
              match ts2, us, tt, h2, ht with
              | [y1, y2], _, .cons (d := d1) k1 (.cons (d := d2) k2 .nil), _, ht =>
                refine ⟨_, rfl, t, _, _, _, rfl, rfl, .inl (.inl ht), rfl, p, y2, d2, rfl, k2, isI d2, rfl, ?_⟩
                cases k2 with
                | int t0 =>
                  refine iteF ⟨_, rfl, t, _, _, _, rfl, rfl, .inl (.inl ht), rfl, _, _, rfl, rfl, decide (t0 < 0), rfl, ?_⟩
                  by_cases h0 : t0 < 0
                  · rw [decide_eq_true h0]
                    refine iteT (bad ?_ _ fun _ _ w => w)
                    show (if t0 < 0 then none else _) = none
                    rw [if_pos h0]
                  · rw [decide_eq_false h0]
                    exact iteF (hnx _ _ ⟨y1, d1, t0, by omega, rfl, rfl, k1, rfl, rfl⟩)
                | non => exact iteT (bad rfl _ fun _ _ w => w)
                | bl b => exact iteT (bad rfl _ fun _ _ w => w)
                | str _ => exact iteT (bad rfl _ fun _ _ w => w)
                | lst _ _ _ => exact iteT (bad rfl _ fun _ _ w => w)
                | tup _ _ => exact iteT (bad rfl _ fun _ _ w => w)
                | dct _ => exact iteT (bad rfl _ fun _ _ w => w)
            · rw [decide_eq_false (by simp; omega)]
              refine iteT (bad ?_ _ fun _ _ w => w)
              match us, l2 with
              | [], _ => rfl
              | [_], _ => rfl
              | [_, _], l2 => exact absurd l2 h2
              | _ :: b :: _ :: _, _ => cases b <;> rfl
          rintro _ _ ⟨y1, d1, t0, t00, rfl, rfl, k1, rfl, rfl⟩
          obtain ⟨n0, rfl⟩ : ∃ n0 : Nat, t0 = n0 := ⟨t0.toNat, by omega⟩
          have iW : itemW (wt j) (.tuple [d1, .int (n0 : Int)]) = (n0 + 1) * (wt j d1 + 1) := rfl
          have eI : itemU (unr j m) m (.tuple [d1, .int (n0 : Int)]) = (unr j m d1).map fun r => (List.replicate n0 r).flatten := by
            show (if (n0 : Int) < 0 then none else (unr j m d1).map fun r => (List.replicate (n0 : Int).toNat r).flatten) = _
            rw [if_neg (by omega), Int.toNat_natCast]
          rw [iW] at tle tk
          have w1 : wt j d1 + 1 ≤ (n0 + 1) * (wt j d1 + 1) := Nat.le_mul_of_pos_left _ (Nat.succ_pos _)
          have w2 : n0 + 1 ≤ (n0 + 1) * (wt j d1 + 1) := Nat.le_mul_of_pos_right _ (Nat.succ_pos _)
          -- inner
          refine seqV (Good := fun σ2 H3 => ∃ vi, UV H3 vi (unr j m d1) ∧ Same H' H3 ∧ σ2 = [some (.ref a), some (.int m), some (.int ((j : Int) + 1)), some (.ref fo), some (.ref t), some vi, v6])
            (fun nx hnx => ⟨_, rfl, t, _, _, _, rfl, rfl, .inl (.inl ht), rfl, _, rfl, _, rfl, _, _, rfl, rfl, p, m, y1, d1, by show [y1, V.int m, V.int ((j : Int) + 1 - 1)] ++ [] = _; rw [j1]; rfl, k1, by omega, fun vi H3 s3 uv => hnx _ _ ⟨vi, uv, s3, rfl⟩⟩) ?_
          rintro _ H3 ⟨vi, uv, s3, rfl⟩
          refine seqV (Good := fun σ2 H4 => ∃ (u : Addr) (r : List Nat), unr j m d1 = some r ∧ H3 u = some (.lst (iV r)) ∧ H3 = H4 ∧ σ2 = [some (.ref a), some (.int m), some (.int ((j : Int) + 1)), some (.ref fo), some (.ref t), some (.ref u), v6]) ?_ ?_
          · intro nx hnx
            refine ⟨_, rfl, decide (vi = .non), rfl, ?_⟩
            cases hr : unr j m d1 with
            | none =>
              rw [hr] at uv
              obtain rfl : vi = .non := uv
              rw [decide_eq_true rfl]
              exact iteT (bad (by rw [eI, hr]; rfl) _ s3)
            | some r =>
              rw [hr] at uv
              obtain ⟨u, rfl, hu⟩ := uv
              rw [decide_eq_false (by simp)]
              exact iteF (hnx _ _ ⟨u, r, hr, hu, rfl, rfl⟩)
          rintro _ _ ⟨u, r, hr, hu, rfl, rfl⟩
          have rl := unr_len j m d1 r hr
          have eR : itemU (unr j m) m (.tuple [d1, .int (n0 : Int)]) = some (List.replicate n0 r).flatten := by rw [eI, hr]; rfl
          have fl : ∀ k, ((List.replicate k r).flatten).length = k * r.length := fun k => by
            rw [List.length_flatten, List.map_replicate, List.sum_replicate_nat]
          refine ⟨_, rfl, t, _, _, _, rfl, rfl, .inl (.inl (s3 _ _ ht)), rfl, _, rfl, by omega, by omega, ?_⟩
          refine for_range (lo := 0) (n := (n0 : Int).toNat) (fun k σ2 H4 => ∃ (fo2 : Addr) (v6 : Option V), σ2 = [some (.ref a), some (.int m), some (.int ((j : Int) + 1)), some (.ref fo2), some (.ref t), some (.ref u), v6] ∧ H fo2 = none ∧ H4 fo2 = some (.lst (iV (acc ++ (List.replicate k r).flatten))) ∧ Same H3 H4)
            ⟨fo, v6, rfl, fo0, by rw [show (List.replicate 0 r).flatten = ([] : List Nat) from rfl, List.append_nil]; exact s3 _ _ hfo, fun _ _ w => w⟩ ?_ ?_
          · rintro k σ2 H4 hk ⟨fo2, v6, rfl, f0, hf2, s4⟩
            have kn : k < n0 := by omega
            have km : k * r.length ≤ n0 * (wt j d1 + 1) := Nat.mul_le_mul (by omega) (by omega)
            have nm : (n0 + 1) * (wt j d1 + 1) = n0 * (wt j d1 + 1) + (wt j d1 + 1) := Nat.succ_mul _ _
            refine ⟨_, rfl, _, rfl, fo2, u, _, _, rfl, rfl, hf2, s4 _ _ hu, ?_, fun p2 hp2 => ?_⟩
            · unfold iV
              rw [List.length_map, List.length_map, List.length_append, fl]
              omega
            · have s5 := same_upd (o := .lst (iV (acc ++ (List.replicate k r).flatten) ++ iV r)) hp2
              refine ⟨p2, _, rfl, (s2.trans (s3.trans s4)).free hp2, ?_, s4.trans s5⟩
              rw [upd_same]
              unfold iV
              rw [← List.map_append, List.append_assoc]
              congr 4
              rw [List.replicate_succ', List.flatten_append]
              simp
          · rintro σ2 H4 ⟨fo2, v6, rfl, f0, hf2, s4⟩
            rw [Int.toNat_natCast] at hf2
            refine ⟨_, _, _, fo2, acc ++ (List.replicate n0 r).flatten, rfl, f0, hf2, s2.trans (s3.trans s4), good _ eR, ?_⟩
            rw [tk, List.length_append, fl]
            have : n0 * r.length ≤ (n0 + 1) * (wt j d1 + 1) := Nat.mul_le_mul (Nat.le_succ _) (by omega)
            omega
        | non => exact iteF ⟨_, rfl, isi_mk hty (kit_tuple _) ⟨false, rfl, iteT (bad rfl _ fun _ _ w => w)⟩⟩
        | bl b => exact iteF ⟨_, rfl, isi_mk hty (kit_tuple _) ⟨false, rfl, iteT (bad rfl _ fun _ _ w => w)⟩⟩
        | str _ => exact iteF ⟨_, rfl, isi_mk hty (kit_tuple _) ⟨false, rfl, iteT (bad rfl _ fun _ _ w => w)⟩⟩
        | lst _ _ _ => exact iteF ⟨_, rfl, isi_mk hty (kit_tuple _) ⟨false, rfl, iteT (bad rfl _ fun _ _ w => w)⟩⟩
        | dct _ => exact iteF ⟨_, rfl, isi_mk hty (kit_tuple _) ⟨false, rfl, iteT (bad rfl _ fun _ _ w => w)⟩⟩
    | non =>
      refine ⟨_, pss_cons (ps_if (pw_or (pt_not (pt_val (pe_callB call_isiT (by rfl) n.isi (by decide +kernel) (pa_cons (pv 0) (pa_cons (pe_tup (pa_cons (pe_bltn (v := .ty "list") (by rfl) n.list (by decide +kernel) rfl) (pa_cons (pe_bltn (v := .ty "tuple") (by rfl) n.tuple (by decide +kernel) rfl) pa_nil))) pa_nil)))))
          (pw_or1 (pt_cmpR op_eq (pv 2) pe_int (nomark _)))).pt (pss_one (ps_ret pe_non)) pss_nil)
        (pss_cons (ps_set (i := 3) N rfl (.inl rfl) (pe_lst pa_nil))
        (pss_cons (ps_for PassesOwn.never rfl (pi_list (pv 0)) (pg_name (i := 4) N rfl (.inl rfl))
          (pss_one (ps_if (pt_val (pe_fn GI r1 (pa_cons (pv 4) pa_nil)))
            (pss_cons (ps_if (pt_not (pt_chain op_le op_lt pe_int (pv 4) (pv 1))) (pss_one (ps_ret pe_non)) pss_nil)
            (pss_one (ps_expr (pe_bm PySem.F.plainAttrs_list PySem.F.slot_list_append PySem.F.type_list_append mt_append (pv 3) (pa_cons (pv 4) pa_nil)))))
            (pss_cons (ps_if (pw_or (pt_not (pt_val (pe_isTuple n (pv 4)))) (pw_or (pt_cmpR op_ne (pe_callB call_len_seq (by rfl) n.len PySem.boot_len (pa_cons (pv 4) pa_nil)) pe_int (nomark _)) (pw_or (pt_not (pt_val (pe_fn GI r1 (pa_cons (pe_ix ix_tup (pv 4) pe_int (fun _ _ => rfl)) pa_nil)))) (pw_or1 (pt_cmpR op_lt (pe_ix ix_tup (pv 4) pe_int (fun _ _ => rfl)) pe_int (nomark _)))))).pt (pss_one (ps_ret pe_non)) pss_nil)
            (pss_cons (ps_set (i := 5) N rfl (.inl rfl) (pe_fn GU hr (pa_cons (pe_ix ix_tup (pv 4) pe_int (fun _ _ => rfl)) (pa_cons (pv 1) (pa_cons (pe_op op_sub (pv 2) pe_int) pa_nil)))))
            (pss_cons (ps_if (pt_cmp (pc_isN (pv 5))) (pss_one (ps_ret pe_non)) pss_nil)
            (pss_one (ps_for PassesOwn.never rfl (pi_range1 (by rfl) n.range (pa_cons (pe_ix ix_tup (pv 4) pe_int (fun _ _ => rfl)) pa_nil)) (pg_name (i := 6) N rfl (.inl rfl)) (pss_one (ps_set (i := 3) N rfl (.inl rfl) (pe_op op_cat (pv 3) (pv 5))))))))))))
        (pss_one (ps_ret (pv 3))))), ?_⟩
      refine ⟨_, rfl, (by show 2 ≤ sizeLine; decide), fun t ht => ?_⟩
      refine ⟨_, t, _, _, _, _, rfl, upd_same, cs, (DV.same (p := p) (same_upd ht) (.non)).ty, kit_lt _, false, rfl, ?_⟩
      exact iteT (q .non _ (same_upd ht) rfl)
    | bl b =>
      refine ⟨_, pss_cons (ps_if (pw_or (pt_not (pt_val (pe_callB call_isiT (by rfl) n.isi (by decide +kernel) (pa_cons (pv 0) (pa_cons (pe_tup (pa_cons (pe_bltn (v := .ty "list") (by rfl) n.list (by decide +kernel) rfl) (pa_cons (pe_bltn (v := .ty "tuple") (by rfl) n.tuple (by decide +kernel) rfl) pa_nil))) pa_nil)))))
          (pw_or1 (pt_cmpR op_eq (pv 2) pe_int (nomark _)))).pt (pss_one (ps_ret pe_non)) pss_nil)
        (pss_cons (ps_set (i := 3) N rfl (.inl rfl) (pe_lst pa_nil))
        (pss_cons (ps_for PassesOwn.never rfl (pi_list (pv 0)) (pg_name (i := 4) N rfl (.inl rfl))
          (pss_one (ps_if (pt_val (pe_fn GI r1 (pa_cons (pv 4) pa_nil)))
            (pss_cons (ps_if (pt_not (pt_chain op_le op_lt pe_int (pv 4) (pv 1))) (pss_one (ps_ret pe_non)) pss_nil)
            (pss_one (ps_expr (pe_bm PySem.F.plainAttrs_list PySem.F.slot_list_append PySem.F.type_list_append mt_append (pv 3) (pa_cons (pv 4) pa_nil)))))
            (pss_cons (ps_if (pw_or (pt_not (pt_val (pe_isTuple n (pv 4)))) (pw_or (pt_cmpR op_ne (pe_callB call_len_seq (by rfl) n.len PySem.boot_len (pa_cons (pv 4) pa_nil)) pe_int (nomark _)) (pw_or (pt_not (pt_val (pe_fn GI r1 (pa_cons (pe_ix ix_tup (pv 4) pe_int (fun _ _ => rfl)) pa_nil)))) (pw_or1 (pt_cmpR op_lt (pe_ix ix_tup (pv 4) pe_int (fun _ _ => rfl)) pe_int (nomark _)))))).pt (pss_one (ps_ret pe_non)) pss_nil)
            (pss_cons (ps_set (i := 5) N rfl (.inl rfl) (pe_fn GU hr (pa_cons (pe_ix ix_tup (pv 4) pe_int (fun _ _ => rfl)) (pa_cons (pv 1) (pa_cons (pe_op op_sub (pv 2) pe_int) pa_nil)))))
            (pss_cons (ps_if (pt_cmp (pc_isN (pv 5))) (pss_one (ps_ret pe_non)) pss_nil)
            (pss_one (ps_for PassesOwn.never rfl (pi_range1 (by rfl) n.range (pa_cons (pe_ix ix_tup (pv 4) pe_int (fun _ _ => rfl)) pa_nil)) (pg_name (i := 6) N rfl (.inl rfl)) (pss_one (ps_set (i := 3) N rfl (.inl rfl) (pe_op op_cat (pv 3) (pv 5))))))))))))
        (pss_one (ps_ret (pv 3))))), ?_⟩
      refine ⟨_, rfl, (by show 2 ≤ sizeLine; decide), fun t ht => ?_⟩
      refine ⟨_, t, _, _, _, _, rfl, upd_same, cs, (DV.same (p := p) (same_upd ht) (.bl b)).ty, kit_lt _, false, rfl, ?_⟩
      exact iteT (q .non _ (same_upd ht) rfl)
    | int i =>
      refine ⟨_, pss_cons (ps_if (pw_or (pt_not (pt_val (pe_callB call_isiT (by rfl) n.isi (by decide +kernel) (pa_cons (pv 0) (pa_cons (pe_tup (pa_cons (pe_bltn (v := .ty "list") (by rfl) n.list (by decide +kernel) rfl) (pa_cons (pe_bltn (v := .ty "tuple") (by rfl) n.tuple (by decide +kernel) rfl) pa_nil))) pa_nil)))))
          (pw_or1 (pt_cmpR op_eq (pv 2) pe_int (nomark _)))).pt (pss_one (ps_ret pe_non)) pss_nil)
        (pss_cons (ps_set (i := 3) N rfl (.inl rfl) (pe_lst pa_nil))
        (pss_cons (ps_for PassesOwn.never rfl (pi_list (pv 0)) (pg_name (i := 4) N rfl (.inl rfl))
          (pss_one (ps_if (pt_val (pe_fn GI r1 (pa_cons (pv 4) pa_nil)))
            (pss_cons (ps_if (pt_not (pt_chain op_le op_lt pe_int (pv 4) (pv 1))) (pss_one (ps_ret pe_non)) pss_nil)
            (pss_one (ps_expr (pe_bm PySem.F.plainAttrs_list PySem.F.slot_list_append PySem.F.type_list_append mt_append (pv 3) (pa_cons (pv 4) pa_nil)))))
            (pss_cons (ps_if (pw_or (pt_not (pt_val (pe_isTuple n (pv 4)))) (pw_or (pt_cmpR op_ne (pe_callB call_len_seq (by rfl) n.len PySem.boot_len (pa_cons (pv 4) pa_nil)) pe_int (nomark _)) (pw_or (pt_not (pt_val (pe_fn GI r1 (pa_cons (pe_ix ix_tup (pv 4) pe_int (fun _ _ => rfl)) pa_nil)))) (pw_or1 (pt_cmpR op_lt (pe_ix ix_tup (pv 4) pe_int (fun _ _ => rfl)) pe_int (nomark _)))))).pt (pss_one (ps_ret pe_non)) pss_nil)
            (pss_cons (ps_set (i := 5) N rfl (.inl rfl) (pe_fn GU hr (pa_cons (pe_ix ix_tup (pv 4) pe_int (fun _ _ => rfl)) (pa_cons (pv 1) (pa_cons (pe_op op_sub (pv 2) pe_int) pa_nil)))))
            (pss_cons (ps_if (pt_cmp (pc_isN (pv 5))) (pss_one (ps_ret pe_non)) pss_nil)
            (pss_one (ps_for PassesOwn.never rfl (pi_range1 (by rfl) n.range (pa_cons (pe_ix ix_tup (pv 4) pe_int (fun _ _ => rfl)) pa_nil)) (pg_name (i := 6) N rfl (.inl rfl)) (pss_one (ps_set (i := 3) N rfl (.inl rfl) (pe_op op_cat (pv 3) (pv 5))))))))))))
        (pss_one (ps_ret (pv 3))))), ?_⟩
      refine ⟨_, rfl, (by show 2 ≤ sizeLine; decide), fun t ht => ?_⟩
      refine ⟨_, t, _, _, _, _, rfl, upd_same, cs, (DV.same (p := p) (same_upd ht) (.int i)).ty, kit_lt _, false, rfl, ?_⟩
      exact iteT (q .non _ (same_upd ht) rfl)
    | str z =>
      refine ⟨_, pss_cons (ps_if (pw_or (pt_not (pt_val (pe_callB call_isiT (by rfl) n.isi (by decide +kernel) (pa_cons (pv 0) (pa_cons (pe_tup (pa_cons (pe_bltn (v := .ty "list") (by rfl) n.list (by decide +kernel) rfl) (pa_cons (pe_bltn (v := .ty "tuple") (by rfl) n.tuple (by decide +kernel) rfl) pa_nil))) pa_nil)))))
          (pw_or1 (pt_cmpR op_eq (pv 2) pe_int (nomark _)))).pt (pss_one (ps_ret pe_non)) pss_nil)
        (pss_cons (ps_set (i := 3) N rfl (.inl rfl) (pe_lst pa_nil))
        (pss_cons (ps_for PassesOwn.never rfl (pi_list (pv 0)) (pg_name (i := 4) N rfl (.inl rfl))
          (pss_one (ps_if (pt_val (pe_fn GI r1 (pa_cons (pv 4) pa_nil)))
            (pss_cons (ps_if (pt_not (pt_chain op_le op_lt pe_int (pv 4) (pv 1))) (pss_one (ps_ret pe_non)) pss_nil)
            (pss_one (ps_expr (pe_bm PySem.F.plainAttrs_list PySem.F.slot_list_append PySem.F.type_list_append mt_append (pv 3) (pa_cons (pv 4) pa_nil)))))
            (pss_cons (ps_if (pw_or (pt_not (pt_val (pe_isTuple n (pv 4)))) (pw_or (pt_cmpR op_ne (pe_callB call_len_seq (by rfl) n.len PySem.boot_len (pa_cons (pv 4) pa_nil)) pe_int (nomark _)) (pw_or (pt_not (pt_val (pe_fn GI r1 (pa_cons (pe_ix ix_tup (pv 4) pe_int (fun _ _ => rfl)) pa_nil)))) (pw_or1 (pt_cmpR op_lt (pe_ix ix_tup (pv 4) pe_int (fun _ _ => rfl)) pe_int (nomark _)))))).pt (pss_one (ps_ret pe_non)) pss_nil)
            (pss_cons (ps_set (i := 5) N rfl (.inl rfl) (pe_fn GU hr (pa_cons (pe_ix ix_tup (pv 4) pe_int (fun _ _ => rfl)) (pa_cons (pv 1) (pa_cons (pe_op op_sub (pv 2) pe_int) pa_nil)))))
            (pss_cons (ps_if (pt_cmp (pc_isN (pv 5))) (pss_one (ps_ret pe_non)) pss_nil)
            (pss_one (ps_for PassesOwn.never rfl (pi_range1 (by rfl) n.range (pa_cons (pe_ix ix_tup (pv 4) pe_int (fun _ _ => rfl)) pa_nil)) (pg_name (i := 6) N rfl (.inl rfl)) (pss_one (ps_set (i := 3) N rfl (.inl rfl) (pe_op op_cat (pv 3) (pv 5))))))))))))
        (pss_one (ps_ret (pv 3))))), ?_⟩
      refine ⟨_, rfl, (by show 2 ≤ sizeLine; decide), fun t ht => ?_⟩
      refine ⟨_, t, _, _, _, _, rfl, upd_same, cs, (DV.same (p := p) (same_upd ht) (.str z)).ty, kit_lt _, false, rfl, ?_⟩
      exact iteT (q .non _ (same_upd ht) rfl)
    | dct hx =>
      refine ⟨_, pss_cons (ps_if (pw_or (pt_not (pt_val (pe_callB call_isiT (by rfl) n.isi (by decide +kernel) (pa_cons (pv 0) (pa_cons (pe_tup (pa_cons (pe_bltn (v := .ty "list") (by rfl) n.list (by decide +kernel) rfl) (pa_cons (pe_bltn (v := .ty "tuple") (by rfl) n.tuple (by decide +kernel) rfl) pa_nil))) pa_nil)))))
          (pw_or1 (pt_cmpR op_eq (pv 2) pe_int (nomark _)))).pt (pss_one (ps_ret pe_non)) pss_nil)
        (pss_cons (ps_set (i := 3) N rfl (.inl rfl) (pe_lst pa_nil))
        (pss_cons (ps_for PassesOwn.never rfl (pi_list (pv 0)) (pg_name (i := 4) N rfl (.inl rfl))
          (pss_one (ps_if (pt_val (pe_fn GI r1 (pa_cons (pv 4) pa_nil)))
            (pss_cons (ps_if (pt_not (pt_chain op_le op_lt pe_int (pv 4) (pv 1))) (pss_one (ps_ret pe_non)) pss_nil)
            (pss_one (ps_expr (pe_bm PySem.F.plainAttrs_list PySem.F.slot_list_append PySem.F.type_list_append mt_append (pv 3) (pa_cons (pv 4) pa_nil)))))
            (pss_cons (ps_if (pw_or (pt_not (pt_val (pe_isTuple n (pv 4)))) (pw_or (pt_cmpR op_ne (pe_callB call_len_seq (by rfl) n.len PySem.boot_len (pa_cons (pv 4) pa_nil)) pe_int (nomark _)) (pw_or (pt_not (pt_val (pe_fn GI r1 (pa_cons (pe_ix ix_tup (pv 4) pe_int (fun _ _ => rfl)) pa_nil)))) (pw_or1 (pt_cmpR op_lt (pe_ix ix_tup (pv 4) pe_int (fun _ _ => rfl)) pe_int (nomark _)))))).pt (pss_one (ps_ret pe_non)) pss_nil)
            (pss_cons (ps_set (i := 5) N rfl (.inl rfl) (pe_fn GU hr (pa_cons (pe_ix ix_tup (pv 4) pe_int (fun _ _ => rfl)) (pa_cons (pv 1) (pa_cons (pe_op op_sub (pv 2) pe_int) pa_nil)))))
            (pss_cons (ps_if (pt_cmp (pc_isN (pv 5))) (pss_one (ps_ret pe_non)) pss_nil)
            (pss_one (ps_for PassesOwn.never rfl (pi_range1 (by rfl) n.range (pa_cons (pe_ix ix_tup (pv 4) pe_int (fun _ _ => rfl)) pa_nil)) (pg_name (i := 6) N rfl (.inl rfl)) (pss_one (ps_set (i := 3) N rfl (.inl rfl) (pe_op op_cat (pv 3) (pv 5))))))))))))
        (pss_one (ps_ret (pv 3))))), ?_⟩
      refine ⟨_, rfl, (by show 2 ≤ sizeLine; decide), fun t ht => ?_⟩
      refine ⟨_, t, _, _, _, _, rfl, upd_same, cs, (DV.same (p := p) (same_upd ht) (.dct hx)).ty, kit_lt _, false, rfl, ?_⟩
      exact iteT (q .non _ (same_upd ht) rfl)
end
end L2.K22
end

section
set_option Elab.async false
set_option linter.all false
set_option maxRecDepth 100000
set_option maxHeartbeats 4000000
namespace L2.K22
open PySem PySem.Spec PyProof.Rows L2.Gd
theorem itemU_lt {k : Nat} {m : Int} (ih : ∀ d r, unr k m d = some r → ∀ i ∈ r, ((i : Nat) : Int) < m) {d : PyData} {r : List Nat} (e : itemU (unr k m) m d = some r) : ∀ i ∈ r, ((i : Nat) : Int) < m := by
  match d, e with
  | .int i, e =>
    have e' : (if 0 ≤ i ∧ i < m then some [i.toNat] else none : Option (List Nat)) = some r := e
    split at e'
    · rename_i h
      obtain rfl := Option.some.inj e'
      intro x hx
      rw [List.mem_singleton.mp hx]
      omega
    · exact nomatch e'
  | .tuple [x, .int t], e =>
    have e' : (if t < 0 then none else (unr k m x).map fun r => (List.replicate t.toNat r).flatten) = some r := e
    split at e'
    · exact nomatch e'
    · obtain ⟨a, ea, rfl⟩ := Option.map_eq_some_iff.mp e'
      intro i hi
      obtain ⟨l, hl, hil⟩ := List.mem_flatten.mp hi
      rw [(List.mem_replicate.mp hl).2] at hil
      exact ih x a ea i hil
theorem unrL_lt {k : Nat} {m : Int} (ih : ∀ d r, unr k m d = some r → ∀ i ∈ r, ((i : Nat) : Int) < m) : ∀ (its : List PyData) (r : List Nat), unrL (unr k m) m its = some r → ∀ i ∈ r, ((i : Nat) : Int) < m
  | [], r, e => by
    obtain rfl := (Option.some.inj e).symm
    exact fun i hi => absurd hi (by simp)
  | it :: its, r, e => by
    have e' : (match itemU (unr k m) m it, unrL (unr k m) m its with | some a, some b => some (a ++ b) | _, _ => none : Option (List Nat)) = some r := e
    cases h1 : itemU (unr k m) m it with
    | none => rw [h1] at e'; exact nomatch e'
    | some a =>
      cases h2 : unrL (unr k m) m its with
      | none => rw [h1, h2] at e'; exact nomatch e'
      | some b =>
        rw [h1, h2] at e'
        obtain rfl := (Option.some.inj e').symm
        intro i hi
        rcases List.mem_append.mp hi with hi | hi
        · exact itemU_lt ih h1 i hi
        · exact unrL_lt ih its b h2 i hi
theorem unr_lt : ∀ (k : Nat) (m : Int) (d : PyData) (r : List Nat), unr k m d = some r → ∀ i ∈ r, ((i : Nat) : Int) < m
  | 0, _, _, _, e => nomatch e
  | k + 1, m, d, r, e => by
    unfold unr at e
    cases hs : seqOf d with
    | none => rw [hs] at e; exact nomatch e
    | some its =>
      rw [hs] at e
      exact unrL_lt (unr_lt k m) its r e
def dAt (ds : List Dd) (i : Nat) : Dd := ds.getD i ⟨0, 0, 0, "any"⟩
section
variable {P : Program} {w : World} {K : PySem.W.Frag} {mg : Str → Option Value} {base : Heap} {C : Addr}
theorem ok_un0 {f : Addr} {fd : FuncData} (F : Fun K "_law_unrolled" "_law_unrolled" (top 41) f fd) (n : Nm mg) : FnOk P w K mg base CX0 2 f fd ["_law_value", "_law_many", "_law_lists"] (spUn 0) := by
  refine F.ok scUn (fun vs H Q E h => ?_) (fun cdv A outer s H vs Q E hr h => ?_)
  · obtain ⟨p, m, v, d, rfl, _⟩ := h
    rfl
  · obtain ⟨p, m, v, d, rfl, hd, hw, q⟩ := h
    have cs : Paired ClsV [V.ty "list", V.ty "tuple"] [Value.type "list", Value.type "tuple"] := .cons (.ty _) (.cons (.ty _) .nil)
    refine ⟨_, pss_cons (ps_if (pw_or (pt_not (pt_val (pe_callB call_isiT (by rfl) n.isi (by decide +kernel) (pa_cons (pv 0) (pa_cons (pe_tup (pa_cons (pe_bltn (v := .ty "list") (by rfl) n.list (by decide +kernel) rfl) (pa_cons (pe_bltn (v := .ty "tuple") (by rfl) n.tuple (by decide +kernel) rfl) pa_nil))) pa_nil)))))
          (pw_or1 (pt_cmpR op_eq (pv 2) pe_int (nomark _)))).pt (pss_one (ps_ret pe_non)) pss_nil) pss_never, ?_⟩
    refine ⟨_, rfl, (by show 2 ≤ sizeLine; decide), fun t ht => ?_⟩
    refine ⟨_, t, _, _, _, _, rfl, upd_same, cs, (DV.same (p := p) (same_upd ht) hd).ty, kit_lt _, isLT d, rfl, ?_⟩
    cases isLT d with
    | false => exact iteT (q .non _ (same_upd ht) rfl)
    | true =>
      refine iteF ⟨_, rfl, rfl, true, rfl, ?_⟩
      exact iteT (q .non _ (same_upd ht) rfl)
theorem fn_un {f : Addr} {fd : FuncData} (F : Fun K "_law_unrolled" "_law_unrolled" (top 41) f fd) (m : mg "_law_unrolled" = some (.ref f)) (b : Binds K fd ["_law_value", "_law_many", "_law_lists"] []) (n : Nm mg) (GI : Fn P w K mg base 1 "_law_is_whole" ["_law_value"] spInt2) :
    ∀ j : Nat, Fn P w K mg base (2 + j) "_law_unrolled" ["_law_value", "_law_many", "_law_lists"] (spUn j)
  | 0 => ⟨f, fd, m, F.kp, b, ok_un0 F n⟩
  | j + 1 => ⟨f, fd, m, F.kp, b, ok_unS F n GI (fn_un F m b n GI j)⟩

/-! ### whether a row can be walked -/
def spWk : Sp := fun vs H Q _ => ∃ (D a : Addr) (ys : List V) (ds : List Dd) (r : List Nat) (p s : Int), vs = [.ref D, .ref a, .int p, .int s] ∧ H D = some (.lst ys) ∧ DdAll H ys ds ∧ H a = some (.lst (iV r)) ∧ (∀ i ∈ r, i < ds.length) ∧
  ∀ v' H', Same H H' → (match runD (rowD ds r) p s with | none => v' = .non | some _ => ∃ u, v' = .ref u) → Q v' H'
def NWk : List Str := ["_law_deeds_here", "_law_row", "_law_place", "_law_start", "_law_at", "_law_origin", "_law_change", "_law_goal", "_law_when"]
theorem scWk : FnScope NWk ["_law_deeds_here", "_law_row", "_law_place", "_law_start"] (defScope (top 43)) := ⟨rfl, rfl, rfl, by decide +kernel, rfl, by decide +kernel, by decide +kernel⟩
theorem ok_wk {f : Addr} {fd : FuncData} (F : Fun K "_law_walked" "_law_walked" (top 43) f fd) : FnOk P w K mg base CX0 1 f fd ["_law_deeds_here", "_law_row", "_law_place", "_law_start"] spWk := by
  refine F.ok scWk (fun vs H Q E h => ?_) (fun cdv A outer s H vs Q E hr h => ?_)
  · obtain ⟨D, a, ys, ds, r, p, s, rfl, _⟩ := h
    rfl
  · obtain ⟨D, a, ys, ds, r, p, st, rfl, hD, dd, ha, lt, q⟩ := h
    have N := scWk.nd
    have yl := Paired.length dd
    refine ⟨_, pss_cons (ps_for PassesOwn.never rfl (pi_list (pv 1)) (pg_name (i := 4) N rfl (.inl rfl))
        (pss_cons (ps_asg (pe_ix ix_list (pv 0) (pv 4) (fun _ _ => rfl)) (pg_tup rfl (pgs_cons (pg_name (i := 5) N rfl (.inl rfl)) (pgs_cons (pg_name (i := 6) N rfl (.inl rfl)) (pgs_cons (pg_name (i := 7) N rfl (.inl rfl)) (pgs_cons (pg_name (i := 8) N rfl (.inl rfl)) pgs_nil))))))
        (pss_cons (ps_if (pw_or (pt_cmpR op_ne (pv 5) (pv 2) (nomark _)) (pw_or (pt_cmpR op_lt (pe_op op_add (pv 3) (pv 6)) pe_int (nomark _)) (pw_or1 (pw_and (pt_cmpR op_eq (pv 8) pe_str (nomark _)) (pw_and1 (pt_cmpR op_ne (pv 3) pe_int (nomark _)))).pt))).pt (pss_one (ps_ret pe_non)) pss_nil)
        (pss_one (ps_par (i := 2) (j := 3) rfl N rfl rfl (by decide) rfl rfl (pa_cons (pv 7) (pa_cons (pe_op op_add (pv 3) (pv 6)) pa_nil)) (by rfl))))))
      (pss_one (ps_ret (pe_tup (pa_cons (pv 2) (pa_cons (pv 3) pa_nil))))), ?_⟩
    have ivl : (iV r).length = r.length := List.length_map _
    refine ⟨_, rfl, a, rfl, ⟨_, .inl (.inl ha)⟩, ?_⟩
    refine loop_of (n := (iV r).length) (fun i σ H2 => ∃ (v4 v5 v6 v7 v8 : Option V) (p2 s2 : Int), σ = [some (.ref D), some (.ref a), some (.int p2), some (.int s2), v4, v5, v6, v7, v8] ∧ H = H2 ∧ runD (rowD ds (r.drop i)) p2 s2 = runD (rowD ds r) p st)
      ⟨none, none, none, none, none, p, st, rfl, rfl, rfl⟩ ?_ ?_
    · rintro σ _ ⟨v4, v5, v6, v7, v8, p2, s2, rfl, rfl, e⟩
      refine ⟨⟨_, .inl (.inl ha), Nat.le_refl _⟩, ?_⟩
      rw [ivl, List.drop_length] at e
      refine ⟨_, rfl, _, rfl, (by show 2 ≤ sizeLine; decide), fun t ht => ?_⟩
      refine q _ _ (same_upd ht) ?_
      rw [← e]
      exact ⟨t, rfl⟩
    · rintro i σ _ hi ⟨v4, v5, v6, v7, v8, p2, s2, rfl, rfl, e⟩
      have hir : i < r.length := by rw [← ivl]; exact hi
      refine ⟨⟨_, _, .inl (.inl ha), List.getElem?_eq_getElem hi⟩, ?_⟩
      rintro v H' ⟨rfl, hy⟩
      have hvi := hy _ (.inl (.inl ha))
      have hv : v = .int ((r[i] : Nat) : Int) := by
        unfold iV at hvi
        rw [List.getElem?_map, List.getElem?_eq_getElem hir] at hvi
        exact (Option.some.inj hvi).symm
      subst hv
      have hlt : r[i] < ds.length := lt _ (List.getElem_mem hir)
      have hyk : ys[r[i]]? = some ys[r[i]] := List.getElem?_eq_getElem (by omega)
      obtain ⟨d, hd, t, et, ht⟩ := Paired.at dd hyk
      have dr : rowD ds (r.drop i) = d :: rowD ds (r.drop (i + 1)) := by
        rw [List.drop_eq_getElem_cons hir]
        show ds.getD r[i] _ :: _ = _
        rw [List.getD_eq_getElem?_getD, hd]
        rfl
      rw [dr] at e
      have eR : runD (d :: rowD ds (r.drop (i + 1))) p2 s2 = if d.p ≠ p2 ∨ s2 + d.c < 0 ∨ (d.w = "empty" ∧ s2 ≠ 0) then none else runD (rowD ds (r.drop (i + 1))) d.g (s2 + d.c) := rfl
      have out : (d.p ≠ p2 ∨ s2 + d.c < 0 ∨ (d.w = "empty" ∧ s2 ≠ 0)) → Q .non H' := fun z => by
        refine q .non H' (fun _ _ w => w) ?_
        rw [← e, eR, if_pos z]
      refine gn ?_
      refine seqV (Good := fun σ2 H2 => H' = H2 ∧ σ2 = [some (.ref D), some (.ref a), some (.int p2), some (.int s2), some (.int ((r[i] : Nat) : Int)), some (.int d.p), some (.int d.c), some (.int d.g), some (.str d.w)])
        (fun nx hnx => ⟨_, rfl, _, rfl, D, ys, _, _, rfl, rfl, .inl (.inl hD), atI_nat hyk, t, _, et, .inl (.inl ht), rfl, _, _, rfl, _, _, rfl, _, _, rfl, _, _, rfl, rfl, hnx _ _ ⟨rfl, rfl⟩⟩) ?_
      rintro _ _ ⟨rfl, rfl⟩
      refine seqV (Good := fun σ2 H2 => ¬ (d.p ≠ p2 ∨ s2 + d.c < 0 ∨ (d.w = "empty" ∧ s2 ≠ 0)) ∧ H' = H2 ∧ σ2 = [some (.ref D), some (.ref a), some (.int p2), some (.int s2), some (.int ((r[i] : Nat) : Int)), some (.int d.p), some (.int d.c), some (.int d.g), some (.str d.w)]) ?_ ?_
      · intro nx hnx
        refine ⟨_, rfl, _, rfl, rfl, !decide (V.int d.p = V.int p2), rfl, ?_⟩
        by_cases h1 : d.p = p2
        · rw [decide_eq_true (by rw [h1])]
          refine iteF ⟨_, rfl, _, rfl, _, _, rfl, rfl, _, _, rfl, rfl, decide (s2 + d.c < 0), rfl, ?_⟩
          by_cases h2 : s2 + d.c < 0
          · rw [decide_eq_true h2]
            exact iteT (out (.inr (.inl h2)))
          · rw [decide_eq_false h2]
            refine iteF ⟨_, rfl, rfl, decide (V.str d.w = V.str "empty"), rfl, ?_⟩
            by_cases h3 : d.w = "empty"
            · rw [decide_eq_true (by rw [h3])]
              refine iteT ⟨_, rfl, rfl, !decide (V.int s2 = V.int 0), rfl, ?_⟩
              by_cases h4 : s2 = 0
              · rw [decide_eq_true (by rw [h4])]
                exact iteF (hnx _ _ ⟨fun z => by rcases z with z | z | z; exact z h1; exact h2 z; exact z.2 h4, rfl, rfl⟩)
              · rw [decide_eq_false (by simpa using h4)]
                exact iteT (out (.inr (.inr ⟨h3, h4⟩)))
            · rw [decide_eq_false (by simpa using h3)]
              exact iteF (iteF (hnx _ _ ⟨fun z => by rcases z with z | z | z; exact z h1; exact h2 z; exact h3 z.1, rfl, rfl⟩))
        · rw [decide_eq_false (by simpa using h1)]
          exact iteT (out (.inl h1))
      rintro _ _ ⟨hn, rfl, rfl⟩
      rw [eR, if_neg hn] at e
      exact ⟨_, rfl, _, rfl, _, rfl, _, _, rfl, rfl, _, _, rfl, _, _, _, _, _, d.g, s2 + d.c, rfl, rfl, e⟩
end
end L2.K22
end

section
set_option Elab.async false
set_option linter.all false
set_option maxRecDepth 100000
set_option maxHeartbeats 4000000
namespace L2.K22
open PySem PySem.Spec PyProof.Rows L2.Gd
/-! ### whether a row hangs together -/
def partAt (ds : List Dd) (r : List Nat) (i : Nat) : Prop := (dAt ds (r.getD (i - 1) 0)).g ≠ (dAt ds (r.getD i 0)).p
instance (ds : List Dd) (r : List Nat) (i : Nat) : Decidable (partAt ds r i) := by unfold partAt; exact inferInstance
def partF (ds : List Dd) (r : List Nat) (i : Int) : Option Int := if partAt ds r i.toNat then some i else none
def hangsB (ds : List Dd) (r : List Nat) : Bool := decide ((rgI 1 (r.length - 1)).filterMap (partF ds r) = [])
theorem run_hangs : ∀ (ds : List Dd) (r : List Nat) (p s : Int), (runD (rowD ds r) p s).isSome = true → ∀ i, i + 1 < r.length → (dAt ds (r.getD i 0)).g = (dAt ds (r.getD (i + 1) 0)).p
  | _, [], _, _, _, i, h => absurd h (by simp)
  | _, [_], _, _, _, i, h => absurd h (by simp)
  | ds, a :: b :: r, p, s, e, i, h => by
    have e1 : runD (rowD ds (a :: b :: r)) p s = if (dAt ds a).p ≠ p ∨ s + (dAt ds a).c < 0 ∨ ((dAt ds a).w = "empty" ∧ s ≠ 0) then none else runD (rowD ds (b :: r)) (dAt ds a).g (s + (dAt ds a).c) := rfl
    rw [e1] at e
    split at e
    · exact absurd e (by simp)
    · match i with
      | i + 1 => exact run_hangs ds (b :: r) _ _ e i (by simpa using h)
      | 0 =>
        have e2 : runD (rowD ds (b :: r)) (dAt ds a).g (s + (dAt ds a).c) = if (dAt ds b).p ≠ (dAt ds a).g ∨ s + (dAt ds a).c + (dAt ds b).c < 0 ∨ ((dAt ds b).w = "empty" ∧ s + (dAt ds a).c ≠ 0) then none else runD (rowD ds r) (dAt ds b).g (s + (dAt ds a).c + (dAt ds b).c) := rfl
        rw [e2] at e
        split at e
        · exact absurd e (by simp)
        · rename_i q
          show (dAt ds a).g = (dAt ds b).p
          exact (Classical.not_not.mp fun z => q (.inl z)).symm
theorem run_hangsB {ds : List Dd} {r : List Nat} {p s : Int} (e : (runD (rowD ds r) p s).isSome = true) : hangsB ds r = true := by
  refine decide_eq_true (List.filterMap_eq_nil_iff.mpr fun x hx => ?_)
  unfold rgI at hx
  obtain ⟨i, hi, rfl⟩ := List.mem_map.mp hx
  have hi2 := List.mem_range.mp hi
  have := run_hangs ds r p s e i (by omega)
  unfold partF
  rw [if_neg]
  unfold partAt
  rw [show ((1 : Int) + (i : Int)).toNat = i + 1 by omega]
  show ¬ (dAt ds (r.getD (i + 1 - 1) 0)).g ≠ _
  rw [Nat.add_sub_cancel]
  exact fun z => z this
section
variable {P : Program} {w : World} {K : PySem.W.Frag} {mg : Str → Option Value} {base : Heap} {C : Addr}
def spHg : Sp := fun vs H Q _ => ∃ (D a : Addr) (ys : List V) (ds : List Dd) (r : List Nat), vs = [.ref D, .ref a] ∧ H D = some (.lst ys) ∧ DdAll H ys ds ∧ H a = some (.lst (iV r)) ∧ (∀ i ∈ r, i < ds.length) ∧ r.length ≤ 100000 ∧
  ∀ H', Same H H' → Q (.bl (hangsB ds r)) H'
def NHg : List Str := ["_law_deeds_here", "_law_row", "_law_at"]
theorem scHg : FnScope NHg ["_law_deeds_here", "_law_row"] (defScope (top 42)) := ⟨rfl, rfl, rfl, by decide +kernel, rfl, by decide +kernel, by decide +kernel⟩
theorem dps_ints {H : Hp} : ∀ ns : List Int, DpAll K H (ns.map V.int) (ns.map PyData.int)
  | [] => .nil
  | n :: r => .cons (.int n) (dps_ints r)
theorem ints_lay : ∀ ns : List Int, PyData.canLayAll0 (ns.map PyData.int) = true
  | [] => by simp [PyData.canLayAll0]
  | x :: r => by simp [PyData.canLayAll0, PyData.canLay0, ints_lay r]
theorem ints_dep : ∀ ns : List Int, PyData.depthAll (ns.map PyData.int) = 0
  | [] => by simp [PyData.depthAll]
  | x :: r => by simp [PyData.depthAll, PyData.depth, ints_dep r]
theorem ints_shaped (ns : List Int) : SeqAt.shaped (.list (ns.map PyData.int)) = true := by
  show (PyData.canLay0 (.list (ns.map PyData.int)) && decide (PyData.depth (.list (ns.map PyData.int)) ≤ 64)) = true
  rw [Bool.and_eq_true]
  refine ⟨by simp only [PyData.canLay0]; exact ints_lay ns, decide_eq_true ?_⟩
  simp only [PyData.depth, ints_dep]
  decide
theorem ints_nil (ns : List Int) : PyData.eqv (.list (ns.map PyData.int)) (.list []) = decide (ns = []) := by
  cases ns with
  | nil => simp [PyData.eqv, PyData.eqvAll]
  | cons x r => simp [PyData.eqv, PyData.eqvAll]
theorem ints_of : ∀ {zs : List V} {bs : List Int}, Paired (fun v b => v = V.int b) zs bs → zs = bs.map V.int
  | _, _, .nil => rfl
  | _, _, .cons h t => by rw [h, ints_of t]; rfl
theorem iV_at {r : List Nat} {i : Nat} (h : i < r.length) : (iV r)[i]? = some (V.int ((r.getD i 0 : Nat) : Int)) := by
  unfold iV
  rw [List.getElem?_map, List.getElem?_eq_getElem h, List.getD_eq_getElem?_getD, List.getElem?_eq_getElem h]
  rfl
theorem getD_lt {r : List Nat} {ds : List Dd} (lt : ∀ i ∈ r, i < ds.length) {i : Nat} (h : i < r.length) : r.getD i 0 < ds.length := by
  rw [List.getD_eq_getElem?_getD, List.getElem?_eq_getElem h]
  exact lt _ (List.getElem_mem h)
theorem dd_at {H : Hp} {ys : List V} {ds : List Dd} (dd : DdAll H ys ds) {i : Nat} (h : i < ds.length) : ∃ t, ys[i]? = some (.ref t) ∧ H t = some (.tup (dAt ds i).vs) := by
  have yl := Paired.length dd
  have hyk : ys[i]? = some ys[i] := List.getElem?_eq_getElem (by omega)
  obtain ⟨d, hd, t, et, ht⟩ := Paired.at dd hyk
  refine ⟨t, by rw [hyk, et], ?_⟩
  unfold dAt
  rw [List.getD_eq_getElem?_getD, hd]
  exact ht
theorem ok_hg {f : Addr} {fd : FuncData} (F : Fun K "_law_hangs" "_law_hangs" (top 42) f fd) (n : Nm mg) : FnOk P w K mg base CX0 1 f fd ["_law_deeds_here", "_law_row"] spHg := by
  refine F.ok scHg (fun vs H Q E h => ?_) (fun cdv A outer s H vs Q E hr h => ?_)
  · obtain ⟨D, a, ys, ds, r, rfl, _⟩ := h
    rfl
  · obtain ⟨D, a, ys, ds, r, rfl, hD, dd, ha, lt, r1000, q⟩ := h
    have N := scHg.nd
    refine ⟨_, pss_one (ps_ret (pe_cmpR (op_eqD hr.units)
      (pe_lc (own := [("_law_at", 2)]) (g := gName 2) rfl N (pi_range2 (by rfl) n.range (pa_cons pe_int (pa_cons (pe_callB call_len_seq (by rfl) n.len PySem.boot_len (pa_cons (pv 1) pa_nil)) pa_nil)))
        (blkOk_by (N := NHg) (sc := defScope (top 42)) (by decide +kernel)) (fun _ _ _ _ _ => pg_name (i := 2) N rfl (.inl rfl))
        (fun _ _ _ _ _ => pts_one (pt_cmpR op_ne (pe_ix (r := rIxT K) ix_tup (pe_ix (r := rIxL K) ix_list (pv 0) (pe_ix (r := rIxL K) ix_list (pv 1) (pe_op op_sub (pv 2) pe_int) (fun _ _ => rfl)) (fun _ _ => rfl)) pe_int (fun _ _ => rfl))
          (pe_ix (r := rIxT K) ix_tup (pe_ix (r := rIxL K) ix_list (pv 0) (pe_ix (r := rIxL K) ix_list (pv 1) (pv 2) (fun _ _ => rfl)) (fun _ _ => rfl)) pe_int (fun _ _ => rfl)) (nomark _)))
        (fun _ _ _ _ _ => pv 2)) (pe_lst pa_nil) (nomark _))), ?_⟩
    have ivl : (iV r).length = r.length := List.length_map _
    refine ⟨_, rfl, a, _, rfl, .inl (.inl (.inl ha)), 1, ((iV r).length : Int), rfl, ⟨by decide, by decide, by omega, by omega⟩, fun L hL => ?_⟩
    have en : (((iV r).length : Int) - 1).toNat = r.length - 1 := by omega
    rw [en]
    refine lc_mapRL (lo := 1) (n := r.length - 1) (G := fun _ v b => v = V.int b) (f := partF ds r) (fun _ _ _ _ _ _ z => z) (by omega) ?_ ?_
    · rintro x e H2 A B he rfl b ⟨zs, hz⟩ hA hB
      unfold rgI at he
      obtain ⟨i, hi, rfl⟩ := List.mem_map.mp he
      have hi2 := List.mem_range.mp hi
      have s2 := b.new hL
      have ha2 := s2 _ _ ha
      have hD2 := s2 _ _ hD
      have dd2 := DdAll.same s2 dd
      obtain ⟨t1, y1, h1⟩ := dd_at dd2 (getD_lt lt (i := i) (by omega))
      obtain ⟨t2, y2, h2⟩ := dd_at dd2 (getD_lt lt (i := i + 1) (by omega))
      have a1 : atI (iV r) (1 + (i : Int) - 1) = some (V.int ((r.getD i 0 : Nat) : Int)) := by
        rw [show (1 + (i : Int) - 1) = (i : Int) by omega]
        exact atI_nat (iV_at (by omega))
      have a2 : atI (iV r) (1 + (i : Int)) = some (V.int ((r.getD (i + 1) 0 : Nat) : Int)) := by
        rw [show (1 + (i : Int)) = ((i + 1 : Nat) : Int) by omega]
        exact atI_nat (iV_at (by omega))
      have tn : (1 + (i : Int)).toNat = i + 1 := by omega
      have efN : (dAt ds (r.getD i 0)).g = (dAt ds (r.getD (i + 1) 0)).p → partF ds r (1 + (i : Int)) = none := fun z => if_neg (by
        rw [tn]
        unfold partAt
        rw [Nat.add_sub_cancel]
        exact fun w => w z)
      have efY : (dAt ds (r.getD i 0)).g ≠ (dAt ds (r.getD (i + 1) 0)).p → partF ds r (1 + (i : Int)) = some (1 + (i : Int)) := fun z => if_pos (by
        rw [tn]
        unfold partAt
        rw [Nat.add_sub_cancel]
        exact z)
      refine ⟨rfl, _, rfl, _, rfl, _, rfl, _, _, rfl, rfl, a, _, _, _, rfl, rfl, .inl (.inl ha2), a1, D, ys, _, _, rfl, rfl, .inl (.inl hD2), atI_nat y1, t1, _, _, _, rfl, rfl, .inl (.inl h1), rfl, ?_⟩
      refine ⟨_, rfl, _, rfl, _, rfl, a, _, _, _, rfl, rfl, .inl (.inl ha2), a2, D, ys, _, _, rfl, rfl, .inl (.inl hD2), atI_nat y2, t2, _, _, _, rfl, rfl, .inl (.inl h2), rfl, ?_⟩
      refine ⟨rfl, !decide (V.int (dAt ds (r.getD i 0)).g = V.int (dAt ds (r.getD (i + 1) 0)).p), rfl, ?_⟩
      by_cases hp : (dAt ds (r.getD i 0)).g = (dAt ds (r.getD (i + 1) 0)).p
      · rw [decide_eq_true (by rw [hp])]
        exact iteF (hB H2 (efN hp) fun _ _ z => z)
      · rw [decide_eq_false (by simpa using hp)]
        exact iteT ⟨_, rfl, hA _ _ H2 (efY hp) (fun _ _ z => z) rfl⟩
    · intro zs H2 h1 h2 h3
      rw [ints_of h2] at h1
      have s2 := h3.new hL
      refine ⟨(by show 0 ≤ sizeLine; decide), fun e he => ?_⟩
      have s3 := same_upd (o := .lst []) he
      refine ⟨_, .list [], .lst (.inl (.inl (s3 _ _ h1))) (dps_ints _), .lst (.inl (.inl upd_same)) .nil, ints_shaped _, by decide +kernel, ?_⟩
      show Q (.bl (PyData.eqv (.list (((rgI 1 (r.length - 1)).filterMap (partF ds r)).map PyData.int)) (.list []))) _
      rw [ints_nil]
      exact q _ (s2.trans s3)
end
end L2.K22
end

section
set_option Elab.async false
set_option linter.all false
set_option maxRecDepth 100000
set_option maxHeartbeats 4000000
namespace L2.K22
open PySem PySem.Spec PyProof.Rows L2.Gd
section
variable {P : Program} {w : World} {K : PySem.W.Frag} {mg : Str → Option Value} {base : Heap} {C : Addr}
/-! ### what is due -/
def spDu : Sp := fun vs H Q _ => ∃ (q D : Addr) (ys : List V) (ds : List Dd) (p s : Int) (v : V) (d : PyData), vs = [.ref D, .int p, .int s, v] ∧ H D = some (.lst ys) ∧ DdAll H ys ds ∧ DV q H v d ∧ wt 4 d ≤ 100000 ∧ ∀ H', Same H H' → Q (.bl (dueB ds p s d)) H'
def NDu : List Str := ["_law_deeds_here", "_law_place", "_law_start", "_law_value", "_law_row"]
theorem scDu : FnScope NDu ["_law_deeds_here", "_law_place", "_law_start", "_law_value"] (defScope (top 46)) := ⟨rfl, rfl, rfl, by decide +kernel, rfl, by decide +kernel, by decide +kernel⟩
theorem ok_du {f : Addr} {fd : FuncData} (F : Fun K "_law_due" "_law_due" (top 46) f fd) (n : Nm mg) (GU : Fn P w K mg base 6 "_law_unrolled" ["_law_value", "_law_many", "_law_lists"] (spUn 4)) (GH : Fn P w K mg base 1 "_law_hangs" ["_law_deeds_here", "_law_row"] spHg)
    (GW : Fn P w K mg base 1 "_law_walked" ["_law_deeds_here", "_law_row", "_law_place", "_law_start"] spWk) : FnOk P w K mg base CX0 7 f fd ["_law_deeds_here", "_law_place", "_law_start", "_law_value"] spDu := by
  refine F.ok scDu (fun vs H Q E h => ?_) (fun cdv A outer s H vs Q E hr h => ?_)
  · obtain ⟨q, D, ys, ds, p, s, v, d, rfl, _⟩ := h
    rfl
  · obtain ⟨pq, D, ys, ds, p, st, v, d, rfl, hD, dd, hd, hw, q⟩ := h
    have N := scDu.nd
    have r1 := hr.mono (k := 6) (j := 1) (by decide)
    have yl := Paired.length dd
    refine ⟨_, pss_cons (ps_set (i := 4) N rfl (.inl rfl) (pe_fn GU hr (pa_cons (pv 3) (pa_cons (pe_callB call_len_seq (by rfl) n.len PySem.boot_len (pa_cons (pv 0) pa_nil)) (pa_cons pe_int pa_nil)))))
      (pss_one (ps_ret (pe_and (pe_cmp (pc_notN (pv 4)) rfl) (pe_and (pe_fn GH r1 (pa_cons (pv 0) (pa_cons (pv 4) pa_nil))) (pe_one (pe_cmp (pc_notN (pe_fn GW r1 (pa_cons (pv 0) (pa_cons (pv 4) (pa_cons (pv 1) (pa_cons (pv 2) pa_nil)))))) rfl)))))), ?_⟩
    refine ⟨_, rfl, _, rfl, D, ys, rfl, .inl (.inl (.inl hD)), pq, (ys.length : Int), v, d, rfl, hd, hw, fun v' H1 s1 uv => ?_⟩
    rw [yl] at uv
    refine ⟨_, rfl, !decide (v' = .non), rfl, ?_⟩
    have qq := q
    unfold dueB at qq
    cases hu : unr 4 ds.length d with
    | none =>
      rw [hu] at uv
      obtain rfl : v' = .non := uv
      rw [decide_eq_true rfl]
      have := qq H1 s1
      rw [hu] at this
      exact iteF this
    | some r =>
      rw [hu] at uv
      obtain ⟨u, rfl, huu⟩ := uv
      rw [decide_eq_false (by simp)]
      have lt : ∀ i ∈ r, i < ds.length := fun i hi => by
        have := unr_lt 4 ds.length d r hu i hi
        omega
      refine iteT ⟨_, rfl, _, rfl, D, u, ys, ds, r, rfl, s1 _ _ hD, DdAll.same s1 dd, huu, lt, Nat.le_trans (unr_len 4 _ d r hu) hw, fun H2 s2 => ⟨hangsB ds r, rfl, ?_⟩⟩
      have s12 := s1.trans s2
      cases hh : hangsB ds r with
      | false =>
        have e : (runD (rowD ds r) p st).isSome = false := by
          cases z : (runD (rowD ds r) p st).isSome with
          | false => rfl
          | true =>
            have := run_hangsB z
            rw [hh] at this
            exact nomatch this
        have := qq H2 s12
        rw [hu] at this
        have t2 : Q (.bl (runD (rowD ds r) p st).isSome) H2 := this
        rw [e] at t2
        exact iteF t2
      | true =>
        refine iteT ⟨_, rfl, _, rfl, _, rfl, _, rfl, D, u, ys, ds, r, p, st, rfl, s12 _ _ hD, DdAll.same s12 dd, s2 _ _ huu, lt, fun v2 H3 s3 hv => ?_⟩
        have := qq H3 (s12.trans s3)
        rw [hu] at this
        have t2 : Q (.bl (runD (rowD ds r) p st).isSome) H3 := this
        cases hr2 : runD (rowD ds r) p st with
        | none =>
          rw [hr2] at hv t2
          obtain rfl : v2 = .non := hv
          exact t2
        | some x =>
          rw [hr2] at hv t2
          obtain ⟨u2, rfl⟩ := hv
          exact t2
/-! ### one of some -/
def spPick : Sp := fun vs H Q _ => ∃ (p a : Addr) (xs : List V), vs = [.ref p, .ref a] ∧ PotAt H p ∧ H a = some (.lst xs) ∧ a ≠ p ∧ 0 < xs.length ∧ xs.length ≤ 1000 ∧ ∀ x H', x ∈ xs → PotAt H' p → ButD p H H' → Q x H'
theorem scPick : FnScope ["_law_pot_here", "_law_some"] ["_law_pot_here", "_law_some"] (defScope (top 38)) := ⟨rfl, rfl, rfl, by decide +kernel, rfl, by decide +kernel, by decide +kernel⟩
theorem ok_pick {f : Addr} {fd : FuncData} (F : Fun K "_law_pick" "_law_pick" (top 38) f fd) (n : Nm mg) (GD : Fn P w K mg base 1 "_law_draw" ["_law_pot_here", "_law_many"] spDraw) : FnOk P w K mg base CX0 2 f fd ["_law_pot_here", "_law_some"] spPick := by
  refine F.ok scPick (fun vs H Q E h => ?_) (fun cdv A outer s H vs Q E hr h => ?_)
  · obtain ⟨p, a, xs, rfl, _⟩ := h
    rfl
  · obtain ⟨p, a, xs, rfl, hp, ha, nap, x0, x1, q⟩ := h
    refine ⟨_, pss_one (ps_ret (pe_ix ix_list (pv 1) (pe_fn GD hr (pa_cons (pv 0) (pa_cons (pe_callB call_len_seq (by rfl) n.len PySem.boot_len (pa_cons (pv 1) pa_nil)) pa_nil))) (fun _ _ => rfl))), ?_⟩
    refine ⟨_, rfl, _, rfl, _, rfl, a, xs, rfl, .inl (.inl (.inl ha)), p, (xs.length : Int), rfl, hp, by omega, by omega, fun d H1 d0 d1 hp1 b1 => ?_⟩
    obtain ⟨k, rfl⟩ : ∃ k : Nat, d = k := ⟨d.toNat, by omega⟩
    have hk : k < xs.length := by omega
    exact ⟨a, xs, _, _, rfl, rfl, .inl (.inl (b1 _ _ nap ha)), atI_nat (List.getElem?_eq_getElem hk), q _ H1 (List.getElem_mem hk) hp1 b1⟩
end
end L2.K22
end

section
set_option Elab.async false
set_option linter.all false
set_option maxRecDepth 100000
set_option maxHeartbeats 4000000
namespace L2.K22
open PySem PySem.Spec PyProof.Rows L2.Gd
section
variable {P : Program} {w : World} {K : PySem.W.Frag} {mg : Str → Option Value} {base : Heap} {C : Addr}
theorem PotAt.ne {H : Hp} {p x : Addr} (hp : PotAt H p) (hx : H x = none) : x ≠ p := by
  rintro rfl
  obtain ⟨a, b, e, _⟩ := hp
  rw [hx] at e
  exact nomatch e
/-- the places in the list of the deeds that begin here -/
def fromP (ds : List Dd) (p : Int) (n : Nat) : List Nat := (List.range n).filter fun i => decide ((dAt ds i).p = p)
theorem fromP_succ (ds : List Dd) (p : Int) (n : Nat) : fromP ds p (n + 1) = fromP ds p n ++ (if (dAt ds n).p = p then [n] else []) := by
  unfold fromP
  rw [List.range_succ, List.filter_append]
  congr 1
  by_cases h : (dAt ds n).p = p
  · rw [if_pos h, List.filter_cons_of_pos (by simpa using h)]
    rfl
  · rw [if_neg h, List.filter_cons_of_neg (by simpa using h)]
    rfl
theorem fromP_lt {ds : List Dd} {p : Int} {n : Nat} : ∀ i ∈ fromP ds p n, i < n := fun i hi => List.mem_range.mp (List.mem_filter.mp hi).1
/-! ### a walk -/
def spWa : Sp := fun vs H Q _ => ∃ (p D : Addr) (ys : List V) (ds : List Dd) (pl : Int) (k : Nat), vs = [.ref p, .ref D, .int pl, .int k] ∧ PotAt H p ∧ D ≠ p ∧ H D = some (.lst ys) ∧ DdAll H ys ds ∧ ds.length ≤ 60 ∧ k ≤ 100 ∧
  ∀ (l : Addr) (r : List Nat) (H' : Hp), H l = none → H' l = some (.lst (iV r)) → (∀ i ∈ r, i < ds.length) → r.length ≤ k → PotAt H' p → ButD p H H' → Q (.ref l) H'
def NWa : List Str := ["_law_pot_here", "_law_deeds_here", "_law_place", "_law_many", "_law_found", "_law_turn", "_law_some", "_law_at", "_law_deed"]
theorem scWa : FnScope NWa ["_law_pot_here", "_law_deeds_here", "_law_place", "_law_many"] (defScope (top 44)) := ⟨rfl, rfl, rfl, by decide +kernel, rfl, by decide +kernel, by decide +kernel⟩
theorem iV_ints (r : List Nat) : iV r = (r.map fun i : Nat => (i : Int)).map V.int := by
  unfold iV
  rw [List.map_map]
  rfl
theorem ok_wa {f : Addr} {fd : FuncData} (F : Fun K "_law_walk" "_law_walk" (top 44) f fd) (n : Nm mg) (GP : Fn P w K mg base 2 "_law_pick" ["_law_pot_here", "_law_some"] spPick) :
    FnOk P w K mg base CX0 3 f fd ["_law_pot_here", "_law_deeds_here", "_law_place", "_law_many"] spWa := by
  refine F.ok scWa (fun vs H Q E h => ?_) (fun cdv A outer s H vs Q E hr h => ?_)
  · obtain ⟨p, D, ys, ds, pl, k, rfl, _⟩ := h
    rfl
  · obtain ⟨p, D, ys, ds, pl, k, rfl, hp, nDp, hD, dd, d60, k100, q⟩ := h
    have N := scWa.nd
    have yl := Paired.length dd
    refine ⟨_, pss_cons (ps_set (i := 4) N rfl (.inl rfl) (pe_lst pa_nil))
      (pss_cons (ps_for PassesOwn.never rfl (pi_range1 (by rfl) n.range (pa_cons (pv 3) pa_nil)) (pg_name (i := 5) N rfl (.inl rfl))
        (pss_cons (ps_setLc (i := 6) (own := [("_law_at", 7), ("_law_deed", 8)]) (g := gTup K 2 (gCons (gName 7) (gCons (gName 8) gNil))) (by rfl) N rfl rfl (sw_true rfl rfl rfl (by decide +kernel)) (pi_enumA (by rfl) n.enumerate (pa_cons (pv 1) pa_nil)) (blkOk_by (N := NWa) (sc := defScope (top 44)) (by decide +kernel))
          (fun _ _ _ _ _ => pg_tup rfl (pgs_cons (pg_name (i := 7) N rfl (.inl rfl)) (pgs_cons (pg_name (i := 8) N rfl (.inl rfl)) pgs_nil)))
          (fun _ _ _ _ _ => pts_one (pt_cmpR op_eq (pe_ix (r := rIxT K) ix_tup (pv 8) pe_int (fun _ _ => rfl)) (pv 2) (nomark _))) (fun _ _ _ _ _ => pv 7))
        (pss_cons (ps_if (pt_cmpR (op_eqD hr.units) (pv 6) (pe_lst pa_nil) (nomark _)) (pss_one (ps_ret (pv 4))) pss_nil)
        (pss_cons (ps_expr (pe_bm PySem.F.plainAttrs_list PySem.F.slot_list_append PySem.F.type_list_append mt_append (pv 4) (pa_cons (pe_fn GP hr (pa_cons (pv 0) (pa_cons (pv 6) pa_nil))) pa_nil)))
        (pss_one (ps_set (i := 2) N rfl (.inr rfl) (pe_ix ix_tup (pe_ix ix_list (pv 1) (pe_ix ix_list (pv 4) (pe_un un_neg pe_int) (fun _ _ => rfl)) (fun _ _ => rfl)) pe_int (fun _ _ => rfl))))))))
      (pss_one (ps_ret (pv 4)))), ?_⟩
    refine ⟨(by show 0 ≤ sizeLine; decide), fun l hl => ?_⟩
    have nlp := hp.ne hl
    have s0 := same_upd (o := .lst []) hl
    refine ⟨_, rfl, k, rfl, by omega, by omega, for_range (lo := 0) (n := (k : Int).toNat) (fun i σ H2 => ∃ (v5 v6 : Option V) (p2 : Int) (r : List Nat), σ = [some (.ref p), some (.ref D), some (.int p2), some (.int k), some (.ref l), v5, v6, none, none] ∧ H2 l = some (.lst (iV r)) ∧ (∀ i ∈ r, i < ds.length) ∧ r.length ≤ i ∧ PotAt H2 p ∧ ButD p H H2)
      ⟨none, none, pl, [], rfl, upd_same, by simp, Nat.le_refl _, hp.same s0, Same.but s0⟩ ?_ ?_⟩
    · rintro i σ H2 hi ⟨v5, v6, p2, r, rfl, hl2, lt, rl, hp2, b2⟩
      have ik : i < k := by omega
      have hD2 := b2 _ _ nDp hD
      have dd2 := DdAll.pot hp b2 dd
      refine gn ?_
      refine seqV (Good := fun σ2 H3 => ∃ S : Addr, S ≠ p ∧ H3 S = some (.lst (iV (fromP ds p2 ds.length))) ∧ Same H2 H3 ∧ σ2 = [some (.ref p), some (.ref D), some (.int p2), some (.int k), some (.ref l), some (.int (0 + (i : Int))), some (.ref S), none, none]) ?_ ?_
      · intro nx hnx
        refine ⟨_, rfl, D, ys, rfl, .inl ⟨.inl (.inl hD2), fun S hS => ?_⟩⟩
        refine lc_gen (n := ys.length) (fun j H3 => ButD S H2 H3 ∧ H3 S = some (.lst (iV (fromP ds p2 j))) ∧ (fromP ds p2 j).length ≤ j) ⟨.start, upd_same, Nat.le_refl _⟩ ?_ ?_
        · rintro H3 ⟨b3, hS3, _⟩
          have s3 := b3.new hS
          exact ⟨⟨ys, .inl (.inl (s3 _ _ hD2)), Nat.le_refl _⟩, hnx _ _ ⟨S, hp2.ne hS, by rw [yl] at hS3; exact hS3, s3, rfl⟩⟩
        · rintro j H3 hj ⟨b3, hS3, ln⟩
          have s3 := b3.new hS
          have hD3 := s3 _ _ hD2
          refine ⟨⟨ys, _, .inl (.inl hD3), List.getElem?_eq_getElem hj⟩, ?_⟩
          rintro x H' ⟨T, y, rfl, hT, rfl, hy⟩
          have hyj := hy ys (.inl (.inl hD3))
          have s4 : Same H3 (upd H3 T (.tup [.int (j : Nat), y])) := same_upd hT
          obtain ⟨t, et, ht⟩ := dd_at (DdAll.same (s3.trans s4) dd2) (i := j) (by omega)
          rw [et] at hyj
          obtain rfl := Option.some.inj hyj
          have hT4 : upd H3 T (.tup [.int (j : Nat), .ref t]) T = some (.tup [.int (j : Nat), .ref t]) := upd_same
          have hS4 := s4 _ _ hS3
          have b4 : ButD S H2 (upd H3 T (.tup [.int (j : Nat), .ref t])) := b3.more s4
          refine ⟨T, _, rfl, .inl (.inl hT4), rfl, _, _, rfl, _, _, rfl, rfl, rfl, _, rfl, t, _, _, _, rfl, rfl, .inl (.inl ht), rfl, _, rfl, rfl, decide (V.int (dAt ds j).p = V.int p2), rfl, ?_⟩
          have fs := fromP_succ ds p2 j
          by_cases hj2 : (dAt ds j).p = p2
          · rw [if_pos hj2] at fs
            rw [decide_eq_true (by rw [hj2])]
            refine iteT ⟨_, rfl, _, hS4, by unfold iV; rw [List.length_map, sizeLine_eq]; omega, b4.put, ?_, by rw [fs, List.length_append]; show _ + 1 ≤ _; omega⟩
            rw [upd_same, fs]
            unfold iV
            rw [List.map_append]
            rfl
          · rw [if_neg hj2, List.append_nil] at fs
            rw [decide_eq_false (by simpa using hj2)]
            exact iteF ⟨b4, by rw [fs]; exact hS4, by rw [fs]; omega⟩
      rintro _ H3 ⟨S, nS, hS, s3, rfl⟩
      have hp3 := hp2.same s3
      have hl3 := s3 _ _ hl2
      have b3 : ButD p H H3 := ButD.trans b2 (Same.but s3)
      refine seqV (Good := fun σ2 H4 => fromP ds p2 ds.length ≠ [] ∧ Same H3 H4 ∧ σ2 = [some (.ref p), some (.ref D), some (.int p2), some (.int k), some (.ref l), some (.int (0 + (i : Int))), some (.ref S), none, none]) ?_ ?_
      · intro nx hnx
        refine ⟨_, rfl, (by show 0 ≤ sizeLine; decide), fun e he => ?_⟩
        have s4 := same_upd (o := .lst []) he
        have hS4 := s4 _ _ hS
        rw [iV_ints] at hS4
        refine ⟨_, .list [], .lst (.inl (.inl hS4)) (dps_ints _), .lst (.inl (.inl upd_same)) .nil, ints_shaped _, by decide +kernel, decide ((fromP ds p2 ds.length).map (fun i : Nat => (i : Int)) = []), congrArg V.bl (ints_nil _), ?_⟩
        by_cases hz : fromP ds p2 ds.length = []
        · rw [decide_eq_true (by rw [hz]; rfl)]
          exact iteT ⟨_, rfl, q l r _ hl (s4 _ _ hl3) lt (by omega) (hp3.same s4) (ButD.trans b3 (Same.but s4))⟩
        · rw [decide_eq_false (by simpa using hz)]
          exact iteF (hnx _ _ ⟨hz, s4, rfl⟩)
      rintro _ H4 ⟨hz, s4, rfl⟩
      have hp4 := hp3.same s4
      have hl4 := s4 _ _ hl3
      have hS4 := s4 _ _ hS
      have b4 : ButD p H H4 := ButD.trans b3 (Same.but s4)
      have fl : (fromP ds p2 ds.length).length ≤ ds.length := by
        unfold fromP
        refine Nat.le_trans (List.length_filter_le _ _) ?_
        rw [List.length_range]
        exact Nat.le_refl _
      have ivl : (iV (fromP ds p2 ds.length)).length = (fromP ds p2 ds.length).length := List.length_map _
      refine seqV (Good := fun σ2 H6 => ∃ i2 : Nat, i2 < ds.length ∧ H6 l = some (.lst (iV r ++ [.int (i2 : Int)])) ∧ PotAt H6 p ∧ ButD p H H6 ∧ σ2 = [some (.ref p), some (.ref D), some (.int p2), some (.int k), some (.ref l), some (.int (0 + (i : Int))), some (.ref S), none, none]) ?_ ?_
      · intro nx hnx
        refine ⟨_, rfl, .inl ⟨rfl, _, .inl (.inl hl4)⟩, _, rfl, _, rfl, p, S, _, rfl, hp4, hS4, nS, by rw [ivl]; exact List.length_pos_iff.mpr hz, by rw [ivl]; omega, fun x H5 hx hp5 b5 => ?_⟩
        unfold iV at hx
        obtain ⟨i2, hi2, rfl⟩ := List.mem_map.mp hx
        have hl5 := b5 _ _ nlp hl4
        refine ⟨l, _, _, rfl, rfl, hl5, by unfold iV; rw [List.length_map, sizeLine_eq]; omega, ?_⟩
        refine hnx _ _ ⟨i2, fromP_lt i2 hi2, upd_same, ?_, fun c o ne w => ?_, rfl⟩
        · obtain ⟨x, y, e, z⟩ := hp5
          exact ⟨x, y, by rw [upd_ne nlp.symm]; exact e, z⟩
        · rw [upd_ne (ne_of_none w hl)]
          exact b5 _ _ ne (b4 _ _ ne w)
      rintro _ H6 ⟨i2, lt2, hl6, hp6, b6, rfl⟩
      have hD6 := b6 _ _ nDp hD
      have dd6 := DdAll.pot hp b6 dd
      obtain ⟨t, et, ht⟩ := dd_at dd6 lt2
      refine ⟨_, rfl, _, rfl, _, rfl, l, _, _, _, rfl, rfl, .inl (.inl hl6), atI_last _ _, D, ys, _, _, rfl, rfl, .inl (.inl hD6), atI_nat et, t, _, _, _, rfl, rfl, .inl (.inl ht), rfl, ?_⟩
      refine ⟨_, _, (dAt ds i2).g, r ++ [i2], rfl, ?_, ?_, by rw [List.length_append]; show r.length + 1 ≤ i + 1; omega, hp6, b6⟩
      · rw [hl6]
        unfold iV
        rw [List.map_append]
        rfl
      · intro x hx
        rcases List.mem_append.mp hx with hx | hx
        · exact lt x hx
        · rw [List.mem_singleton.mp hx]
          exact lt2
    · rintro σ H2 ⟨v5, v6, p2, r, rfl, hl2, lt, rl, hp2, b2⟩
      exact ⟨_, rfl, q l r H2 hl hl2 lt (by omega) hp2 b2⟩
end
end L2.K22
end

section
set_option Elab.async false
set_option linter.all false
set_option maxRecDepth 100000
set_option maxHeartbeats 8000000
namespace L2.K22
open PySem PySem.Spec PyProof.Rows L2.Gd
def Int1 (m : Nat) (d : PyData) : Prop := ∃ i : Nat, d = .int (i : Int) ∧ i < m
def ItemA (m : Nat) (d : PyData) : Prop := Int1 m d ∨ ∃ (is : List PyData) (t : Int), d = .tuple [.list is, .int t] ∧ 0 ≤ t ∧ t ≤ 2 ∧ (∀ x ∈ is, Int1 m x) ∧ is.length ≤ 4
def InnerOk (m : Nat) (ins : List PyData) : Prop := ∃ a b : List PyData, ins = a ++ b ∧ a.length ≤ 1 ∧ b.length ≤ 4 ∧ (∀ x ∈ a, ItemA m x) ∧ (∀ x ∈ b, Int1 m x)
def ItemB (m : Nat) (d : PyData) : Prop := Int1 m d ∨ ∃ (X : PyData) (ins : List PyData) (t : Int), d = .tuple [X, .int t] ∧ 0 ≤ t ∧ t ≤ 3 ∧ (X = .list ins ∨ X = .tuple ins) ∧ InnerOk m ins
theorem DVs.ints {p : Addr} {H : Hp} : ∀ r : List Nat, DVs p H (iV r) (r.map fun i : Nat => PyData.int (i : Int))
  | [] => .nil
  | i :: r => .cons (.int _) (DVs.ints r)
theorem DVs.app {p : Addr} {H : Hp} : ∀ {xs ys : List V} {ds es : List PyData}, DVs p H xs ds → DVs p H ys es → DVs p H (xs ++ ys) (ds ++ es)
  | _, _, _, _, .nil, h => h
  | _, _, _, _, .cons a t, h => .cons a (DVs.app t h)
theorem wtI (g : PyData → Nat) : ∀ r : List Nat, ((r.map fun i : Nat => PyData.int (i : Int)).map (itemW g)).sum = r.length
  | [] => rfl
  | i :: r => by
    rw [List.map_cons, List.map_cons, List.sum_cons, wtI g r]
    show 1 + r.length = r.length + 1
    omega
theorem wt1 (g : PyData → Nat) {m : Nat} : ∀ {is : List PyData}, (∀ x ∈ is, Int1 m x) → (is.map (itemW g)).sum = is.length
  | [], _ => rfl
  | x :: r, h => by
    obtain ⟨i, rfl, _⟩ := h x (by simp)
    rw [List.map_cons, List.sum_cons, wt1 g fun y hy => h y (List.mem_cons_of_mem _ hy)]
    show 1 + r.length = r.length + 1
    omega
theorem wtL {k m : Nat} {is : List PyData} (h : ∀ x ∈ is, Int1 m x) (l : is.length ≤ 4) : wt k (.list is) ≤ 4 := by
  cases k with
  | zero => exact Nat.zero_le _
  | succ k =>
    show (is.map (itemW (wt k))).sum ≤ 4
    rw [wt1 _ h]
    exact l
theorem wtA {m : Nat} (k : Nat) {d : PyData} (h : ItemA m d) : itemW (wt k) d ≤ 15 := by
  rcases h with ⟨i, rfl, _⟩ | ⟨is, t, rfl, t0, t2, hi, hl⟩
  · show 1 ≤ 15
    omega
  · show (t.toNat + 1) * (wt k (.list is) + 1) ≤ 15
    exact Nat.mul_le_mul (show t.toNat + 1 ≤ 3 by omega) (Nat.succ_le_succ (wtL hi hl))
theorem wtInner {m : Nat} (k : Nat) {ins : List PyData} (h : InnerOk m ins) : (ins.map (itemW (wt k))).sum ≤ 19 := by
  obtain ⟨a, b, rfl, al, bl, ha, hb⟩ := h
  rw [List.map_append, List.sum_append, wt1 _ hb]
  match a, al, ha with
  | [], _, _ => show 0 + b.length ≤ 19; omega
  | [x], _, ha =>
    have := wtA k (ha x (by simp))
    show itemW (wt k) x + 0 + b.length ≤ 19
    omega
theorem wtB {m : Nat} (k : Nat) {d : PyData} (h : ItemB m d) : itemW (wt k) d ≤ 80 := by
  rcases h with ⟨i, rfl, _⟩ | ⟨X, ins, t, rfl, t0, t3, hX, hi⟩
  · show 1 ≤ 80
    omega
  · have hw : wt k X ≤ 19 := by
      cases k with
      | zero => exact Nat.zero_le _
      | succ k =>
        rcases hX with rfl | rfl
        · exact wtInner k hi
        · exact wtInner k hi
    show (t.toNat + 1) * (wt k X + 1) ≤ 80
    exact Nat.mul_le_mul (show t.toNat + 1 ≤ 4 by omega) (Nat.succ_le_succ hw)
mutual
theorem DV.comb {a b : Addr} {H H' : Hp} (hb : ∃ zs, H b = some (.lst zs)) (bt : ButD b H H') : ∀ {v : V} {d : PyData}, DV a H v d → DV b H v d → DV a H' v d
  | _, _, .non, _ => .non
  | _, _, .bl b, _ => .bl b
  | _, _, .int i, _ => .int i
  | _, _, .str x, _ => .str x
  | _, _, .lst ne h t, .lst ne2 h2 t2 => .lst ne (bt _ _ ne2 h) (DVs.comb hb bt t (by
      have e := h.symm.trans h2
      cases e
      exact t2))
  | _, _, .tup h t, .tup h2 t2 => .tup (bt _ _ (fun z => by
      subst z
      obtain ⟨zs, e⟩ := hb
      rw [h] at e
      exact nomatch e) h) (DVs.comb hb bt t (by
      have e := h.symm.trans h2
      cases e
      exact t2))
  | _, _, .dct h, _ => .dct (bt _ _ (fun z => by
      subst z
      obtain ⟨zs, e⟩ := hb
      rw [h] at e
      exact nomatch e) h)
theorem DVs.comb {a b : Addr} {H H' : Hp} (hb : ∃ zs, H b = some (.lst zs)) (bt : ButD b H H') : ∀ {vs : List V} {ds : List PyData}, DVs a H vs ds → DVs b H vs ds → DVs a H' vs ds
  | _, _, .nil, _ => .nil
  | _, _, .cons h t, .cons h2 t2 => .cons (DV.comb hb bt h h2) (DVs.comb hb bt t t2)
end
theorem PotAt.lst {H : Hp} {p : Addr} (h : PotAt H p) : ∃ zs, H p = some (.lst zs) := let ⟨_, _, e, _⟩ := h; ⟨_, e⟩
theorem ButD.free2 {p g : Addr} {H H2 : Hp} (b : ButD p H H2) (np : g ≠ p) (h : H2 g = none) : H g = none := by
  cases e : H g with
  | none => rfl
  | some o =>
    rw [b _ _ np e] at h
    exact nomatch h
theorem ifV {Good1 Good0 : Hp → Prop} {c : TT} {t u : TS} {D : Ends} {σ : L2.St} {H : Hp} (h : ∀ Z : Bool → Hp → Prop, (∀ H2, Good1 H2 → Z true H2) → (∀ H2, Good0 H2 → Z false H2) → c σ H Z)
    (h1 : ∀ H2, Good1 H2 → t D σ H2) (h0 : ∀ H2, Good0 H2 → u D σ H2) : tIfS c t u D σ H := h _ (fun H2 g => iteT (h1 H2 g)) (fun H2 g => iteF (h0 H2 g))
theorem via {Good : V → Hp → Prop} {t : TE} {σ : L2.St} {H : Hp} {Q : VK} (h : ∀ Q' : VK, (∀ v H2, Good v H2 → Q' v H2) → t σ H Q') (hk : ∀ v H2, Good v H2 → Q v H2) : t σ H Q := h Q hk
/-- data apart from the pot and from the list that grows -/
def FN (p fo : Addr) (H : Hp) (xs : List V) (its : List PyData) : Prop := DVs p H xs its ∧ DVs fo H xs its
theorem FN.pot {p fo : Addr} {H H' : Hp} {xs : List V} {its : List PyData} (hp : PotAt H p) (b : ButD p H H') (h : FN p fo H xs its) : FN p fo H' xs its := ⟨DVs.comb hp.lst b h.1 h.1, DVs.comb hp.lst b h.2 h.1⟩
theorem FN.put {p fo : Addr} {H H' : Hp} {xs : List V} {its : List PyData} (hf : ∃ zs, H fo = some (.lst zs)) (b : ButD fo H H') (h : FN p fo H xs its) : FN p fo H' xs its := ⟨DVs.comb hf b h.1 h.2, DVs.comb hf b h.2 h.2⟩
theorem FN.same {p fo : Addr} {H H' : Hp} {xs : List V} {its : List PyData} (s : Same H H') (h : FN p fo H xs its) : FN p fo H' xs its := ⟨h.1.same s, h.2.same s⟩
theorem FN.app {p fo : Addr} {H : Hp} {xs ys : List V} {its jts : List PyData} (h : FN p fo H xs its) (k : FN p fo H ys jts) : FN p fo H (xs ++ ys) (its ++ jts) := ⟨h.1.app k.1, h.2.app k.2⟩
theorem FN.ints {p fo : Addr} {H : Hp} (r : List Nat) : FN p fo H (iV r) (r.map fun i : Nat => PyData.int (i : Int)) := ⟨.ints r, .ints r⟩
theorem FN.other {p fo fo2 : Addr} {H : Hp} {xs : List V} {its : List PyData} (h : FN p fo H xs its) (k : DVs fo2 H xs its) : FN p fo2 H xs its := ⟨h.1, k⟩
/-- no list of the data stands at an address that is free -/
theorem DVs.fresh {a b : Addr} {H H' : Hp} (s : Same H H') (hb : H b = none) : ∀ {vs : List V} {ds : List PyData}, DVs a H vs ds → DVs b H' vs ds := by
  intro vs ds h
  exact DVs.rec (motive_1 := fun v d _ => DV b H' v d) (motive_2 := fun vs ds _ => DVs b H' vs ds) .non (fun b => .bl b) (fun i => .int i) (fun x => .str x)
    (fun _ h _ ih => .lst (ne_of_none h hb) (s _ _ h) ih) (fun h _ ih => .tup (s _ _ h) ih) (fun h => .dct (s _ _ h)) .nil (fun _ _ ih1 ih2 => .cons ih1 ih2) h
section
variable {P : Program} {w : World} {K : PySem.W.Frag} {mg : Str → Option Value} {base : Heap} {C : Addr}
def spIt : Sp := fun vs H Q _ => ∃ (p D : Addr) (ys : List V) (ds : List Dd) (pl : Int), vs = [.ref p, .ref D, .int pl, .int 3] ∧ PotAt H p ∧ D ≠ p ∧ H D = some (.lst ys) ∧ DdAll H ys ds ∧ ds.length ≤ 60 ∧
  ∀ (l : Addr) (xs : List V) (its : List PyData) (H' : Hp), H l = none → H' l = some (.lst xs) → DVs p H' xs its → (∀ x ∈ its, ItemB ds.length x) → its.length ≤ 12 → (∀ k, (its.map (itemW (wt k))).sum ≤ 240) → PotAt H' p → ButD p H H' → Q (.ref l) H'
def NIt : List Str := ["_law_pot_here", "_law_deeds_here", "_law_place", "_law_deep", "_law_found", "_law_turn", "_law_row", "_law_rounds", "_law_inner", "_law_at"]
theorem scIt : FnScope NIt ["_law_pot_here", "_law_deeds_here", "_law_place", "_law_deep"] (defScope (top 45)) := ⟨rfl, rfl, rfl, by decide +kernel, rfl, by decide +kernel, by decide +kernel⟩
theorem ok_it {f : Addr} {fd : FuncData} (F : Fun K "_law_items" "_law_items" (top 45) f fd) (n : Nm mg) (GD : Fn P w K mg base 1 "_law_draw" ["_law_pot_here", "_law_many"] spDraw) (GP : Fn P w K mg base 2 "_law_pick" ["_law_pot_here", "_law_some"] spPick)
    (GW : Fn P w K mg base 3 "_law_walk" ["_law_pot_here", "_law_deeds_here", "_law_place", "_law_many"] spWa) : FnOk P w K mg base CX0 4 f fd ["_law_pot_here", "_law_deeds_here", "_law_place", "_law_deep"] spIt := by
  refine F.ok scIt (fun vs H Q E h => ?_) (fun cdv A outer s H vs Q E hr h => ?_)
  · obtain ⟨p, D, ys, ds, pl, rfl, _⟩ := h
    rfl
  · obtain ⟨p, D, ys, ds, pl, rfl, hp, nDp, hD, dd, d60, q⟩ := h
    have N := scIt.nd
    have yl := Paired.length dd
    have r1 := hr.mono (k := 3) (j := 1) (by decide)
    have r2 := hr.mono (k := 3) (j := 2) (by decide)
    refine ⟨_, pss_cons (ps_set (i := 4) N rfl (.inl rfl) (pe_lst pa_nil))
      (pss_cons (ps_for PassesOwn.never rfl (pi_range1 (by rfl) n.range (pa_cons (pe_op op_add pe_int (pe_fn GD r1 (pa_cons (pv 0) (pa_cons pe_int pa_nil)))) pa_nil)) (pg_name (i := 5) N rfl (.inl rfl))
        (pss_cons (ps_set (i := 6) N rfl (.inr rfl) (pe_fn GW hr (pa_cons (pv 0) (pa_cons (pv 1) (pa_cons (pv 2) (pa_cons (pe_op op_add pe_int (pe_fn GD r1 (pa_cons (pv 0) (pa_cons pe_int pa_nil)))) pa_nil))))))
        (pss_cons (ps_setLc (i := 7) (own := [("_law_at", 9)]) (g := gName 9) (by rfl) N rfl rfl (sw_true rfl rfl rfl (by decide +kernel)) (pi_range1 (by rfl) n.range (pa_cons (pe_callB call_len_seq (by rfl) n.len PySem.boot_len (pa_cons (pv 6) pa_nil)) pa_nil)) (blkOk_by (N := NIt) (sc := defScope (top 45)) (by decide +kernel))
          (fun _ _ _ _ _ => pg_name (i := 9) N rfl (.inl rfl))
          (fun _ _ _ _ _ => pts_one (pt_cmpR op_eq (pe_ix (r := rIxT K) ix_tup (pe_ix (r := rIxL K) ix_list (pv 1) (pe_ix (r := rIxL K) ix_list (pv 6) (pv 9) (fun _ _ => rfl)) (fun _ _ => rfl)) pe_int (fun _ _ => rfl)) (pv 2) (nomark _)))
          (fun _ _ _ _ _ => pe_op op_add (pv 9) pe_int))
        (pss_one (ps_if (pw_and (pt_cmpR (op_neD hr.units) (pv 7) (pe_lst pa_nil) (nomark _)) (pw_and (pt_cmpR op_gt (pv 3) pe_int (nomark _)) (pw_and1 (pt_cmpR op_gt (pe_fn GD r1 (pa_cons (pv 0) (pa_cons pe_int pa_nil))) pe_int (nomark _))))).pt
          (pss_cons (ps_set (i := 8) N rfl (.inl rfl) (pe_slice sl_list (pv 6) po_none (po_some (pe_fn GP r2 (pa_cons (pv 0) (pa_cons (pv 7) pa_nil))))))
          (pss_cons (ps_set (i := 8) N rfl (.inl rfl) (pe_ifExp (pw_and (pt_cmpR op_gt (pv 3) pe_int (nomark _)) (pw_and1 (pt_cmpR op_eq (pe_fn GD r1 (pa_cons (pv 0) (pa_cons pe_int pa_nil))) pe_int (nomark _)))).pt
            (pe_op op_cat (pe_lst (pa_cons (pe_tup (pa_cons (pv 8) (pa_cons (pe_fn GD r1 (pa_cons (pv 0) (pa_cons pe_int pa_nil))) pa_nil))) pa_nil)) (pv 8)) (pv 8)))
          (pss_one (ps_expr (pe_bm PySem.F.plainAttrs_list PySem.F.slot_list_append PySem.F.type_list_append mt_append (pv 4) (pa_cons (pe_tup (pa_cons
            (pe_ifExp (pt_cmpR op_gt (pe_fn GD r1 (pa_cons (pv 0) (pa_cons pe_int pa_nil))) pe_int (nomark _)) (pv 8) (pe_callTy call_tuple_of (by rfl) n.tuple (by decide +kernel) (pa_cons (pv 8) pa_nil)))
            (pa_cons (pe_fn GD r1 (pa_cons (pv 0) (pa_cons pe_int pa_nil))) pa_nil))) pa_nil))))))
          (pss_one (ps_if (pt_cmpR (op_neD hr.units) (pv 6) (pe_lst pa_nil) (nomark _))
            (pss_cons (ps_set (i := 4) N rfl (.inl rfl) (pe_op op_cat (pv 4) (pv 6)))
            (pss_one (ps_set (i := 2) N rfl (.inr rfl) (pe_ix ix_tup (pe_ix ix_list (pv 1) (pe_ix ix_list (pv 6) (pe_un un_neg pe_int) (fun _ _ => rfl)) (fun _ _ => rfl)) pe_int (fun _ _ => rfl))))) pss_nil)))))))
      (pss_one (ps_ret (pv 4)))), ?_⟩
    refine ⟨(by show 0 ≤ sizeLine; decide), fun l0 hl0 => ?_⟩
    have s0 := same_upd (o := .lst []) hl0
    have hp0 := hp.same s0
    refine ⟨_, rfl, p, 3, rfl, hp0, by decide, by decide, fun d0 H1 d00 d03 hp1 b1 => ⟨_, _, rfl, rfl, ?_⟩⟩
    have hl1 := b1 _ _ (hp.ne hl0) (show upd H l0 (.lst []) l0 = some (.lst []) from upd_same)
    refine ⟨1 + d0, rfl, by omega, by omega, for_range (lo := 0) (n := (1 + d0).toNat) (fun i σ H2 => ∃ (v5 v6 v7 v8 : Option V) (p2 : Int) (fo : Addr) (xs : List V) (its : List PyData),
      σ = [some (.ref p), some (.ref D), some (.int p2), some (.int 3), some (.ref fo), v5, v6, v7, v8, none] ∧ H fo = none ∧ fo ≠ p ∧ H2 fo = some (.lst xs) ∧ FN p fo H2 xs its ∧ (∀ x ∈ its, ItemB ds.length x) ∧ (its.length ≤ 4 * i ∧ ∀ k, (its.map (itemW (wt k))).sum ≤ 80 * i) ∧ PotAt H2 p ∧ ButD p H H2)
      ⟨none, none, none, none, pl, l0, [], [], rfl, hl0, hp.ne hl0, hl1, ⟨.nil, .nil⟩, by simp, ⟨by simp, fun k => by simp⟩, hp1, ButD.trans (Same.but s0) b1⟩ ?_ ?_⟩
    · rintro i σ H2 hi ⟨v5, v6, v7, v8, p2, fo, xs, its, rfl, f0, fp, hf, fn, iok, ⟨il, iw⟩, hp2, b2⟩
      have hD2 := b2 _ _ nDp hD
      have dd2 := DdAll.pot hp b2 dd
      have xl := fn.1.len
      have sl := sizeLine_eq
      refine gn ?_
      refine seqV (Good := fun σ2 H3 => ∃ (W : Addr) (r : List Nat), W ≠ p ∧ H2 W = none ∧ H3 W = some (.lst (iV r)) ∧ (∀ x ∈ r, x < ds.length) ∧ r.length ≤ 4 ∧ PotAt H3 p ∧ ButD p H2 H3 ∧
          σ2 = [some (.ref p), some (.ref D), some (.int p2), some (.int 3), some (.ref fo), some (.int (0 + (i : Int))), some (.ref W), v7, v8, none]) ?_ ?_
      · intro nx hnx
        refine ⟨_, rfl, _, rfl, _, rfl, _, rfl, p, 4, rfl, hp2, by decide, by decide, fun d H3 e0 e4 hp3 b3 => ⟨_, _, rfl, rfl, ?_⟩⟩
        obtain ⟨k, rfl⟩ : ∃ k : Nat, d = k := ⟨d.toNat, by omega⟩
        refine ⟨p, D, ys, ds, p2, k + 1, by show [V.ref p, V.ref D, V.int p2, V.int (1 + (k : Int))] ++ [] = _; rw [show (1 + (k : Int)) = ((k + 1 : Nat) : Int) by omega]; rfl, hp3, nDp, b3 _ _ nDp hD2, DdAll.pot hp2 b3 dd2, d60, by omega, fun W r H4 w0 hW lt rl hp4 b4 => ?_⟩
        have w2 : H2 W = none := ButD.free2 b3 (hp3.ne w0) w0
        exact hnx _ _ ⟨W, r, hp3.ne w0, w2, hW, lt, by omega, hp4, ButD.trans b3 b4, rfl⟩
      rintro _ H3 ⟨W, r, nW, w0, hW, lt, rl, hp3, b3, rfl⟩
      have hD3 := b3 _ _ nDp hD2
      have dd3 := DdAll.pot hp2 b3 dd2
      have hf3 := b3 _ _ fp hf
      have fn3 := fn.pot hp2 b3
      have ivl : (iV r).length = r.length := List.length_map _
      -- rounds
      refine seqV (Good := fun σ2 H4 => ∃ (S : Addr) (ks : List Int), S ≠ p ∧ H4 S = some (.lst (ks.map V.int)) ∧ (∀ x ∈ ks, 1 ≤ x ∧ x ≤ (r.length : Int)) ∧ ks.length ≤ 1000 ∧ Same H3 H4 ∧
          σ2 = [some (.ref p), some (.ref D), some (.int p2), some (.int 3), some (.ref fo), some (.int (0 + (i : Int))), some (.ref W), some (.ref S), v8, none]) ?_ ?_
      · intro nx hnx
        refine ⟨_, rfl, W, _, rfl, .inl (.inl (.inl hW)), ((iV r).length : Int), rfl, by omega, by omega, fun S hS => ?_⟩
        rw [ivl, Int.toNat_natCast]
        refine lc_mapR (lo := 0) (n := r.length) (G := fun _ v b => v = V.int b) (f := fun x => if (dAt ds (r.getD x.toNat 0)).g = p2 then some (x + 1) else none) (fun _ _ _ _ _ _ z => z) (by omega) ?_ ?_
        · rintro x e H4 A B he rfl b ⟨zs, hz⟩ hA hB
          unfold rgI at he
          obtain ⟨j, hj, rfl⟩ := List.mem_map.mp he
          have hj2 := List.mem_range.mp hj
          have s4 := b.new hS
          obtain ⟨t1, y1, h1⟩ := dd_at (DdAll.same s4 dd3) (getD_lt lt (i := j) hj2)
          have e0 : (0 : Int) + (j : Int) = (j : Int) := Int.zero_add _
          rw [e0] at hA hB
          rw [e0]
          refine ⟨rfl, _, rfl, _, rfl, _, rfl, W, _, _, _, rfl, rfl, .inl (.inl (s4 _ _ hW)), atI_nat (iV_at hj2), D, ys, _, _, rfl, rfl, .inl (.inl (s4 _ _ hD3)), atI_nat y1, t1, _, _, _, rfl, rfl, .inl (.inl h1), rfl, _, rfl, rfl, decide (V.int (dAt ds (r.getD j 0)).g = V.int p2), rfl, ?_⟩
          by_cases hg : (dAt ds (r.getD j 0)).g = p2
          · rw [decide_eq_true (by rw [hg])]
            exact iteT ⟨_, rfl, _, _, rfl, rfl, hA _ _ H4 (if_pos hg) (fun _ _ z => z) rfl⟩
          · rw [decide_eq_false (by simpa using hg)]
            exact iteF (hB H4 (if_neg hg) fun _ _ z => z)
        · intro zs H4 h1 h2 h3
          rw [ints_of h2] at h1
          refine hnx _ _ ⟨S, _, hp3.ne hS, h1, fun x hx => ?_, ?_, h3.new hS, rfl⟩
          · obtain ⟨y, hy, hyx⟩ := List.mem_filterMap.mp hx
            unfold rgI at hy
            obtain ⟨j, hj, rfl⟩ := List.mem_map.mp hy
            have := List.mem_range.mp hj
            split at hyx
            · have := Option.some.inj hyx
              omega
            · exact nomatch hyx
          · refine Nat.le_trans (List.length_filterMap_le _ _) ?_
            rw [rgI_len]
            omega
      rintro _ H4 ⟨S, ks, nS, hS, kb, kl, s4, rfl⟩
      have hp4 := hp3.same s4
      have hW4 := s4 _ _ hW
      have hf4 := s4 _ _ hf3
      have hD4 := s4 _ _ hD3
      have dd4 := DdAll.same s4 dd3
      have fn4 := fn3.same s4
      have b4 : ButD p H2 H4 := ButD.trans b3 (Same.but s4)
      have b04 : ButD p H H4 := ButD.trans b2 b4
      refine ifV (Good1 := fun H5 => ks ≠ [] ∧ PotAt H5 p ∧ ButD p H4 H5) (Good0 := fun H5 => PotAt H5 p ∧ ButD p H4 H5) ?_ ?_ ?_
      · intro Z z1 z0
        refine ⟨_, rfl, (by show 0 ≤ sizeLine; decide), fun e he => ?_⟩
        have s5 := same_upd (o := .lst []) he
        refine ⟨_, .list [], .lst (.inl (.inl (s5 _ _ hS))) (dps_ints _), .lst (.inl (.inl upd_same)) .nil, ints_shaped _, by decide +kernel, !decide (ks = []), congrArg (fun b => V.bl (!b)) (ints_nil _), ?_⟩
        by_cases hk : ks = []
        · rw [decide_eq_true hk]
          exact iteF (z0 _ ⟨hp4.same s5, Same.but s5⟩)
        · rw [decide_eq_false hk]
          refine iteT ⟨_, rfl, _, _, rfl, rfl, true, rfl, iteT ?_⟩
          refine ⟨_, rfl, p, 3, rfl, hp4.same s5, by decide, by decide, fun z H6 e0 e3 hp6 b6 => ⟨_, _, rfl, rfl, decide (z > 0), rfl, ?_⟩⟩
          cases decide (z > 0) with
          | true => exact z1 _ ⟨hk, hp6, ButD.trans (Same.but s5) b6⟩
          | false => exact z0 _ ⟨hp6, ButD.trans (Same.but s5) b6⟩
      · rintro H5 ⟨hk, hp5, b5⟩
        have hW5 := b5 _ _ nW hW4
        have hf5 := b5 _ _ fp hf4
        have fn5 := fn4.pot hp4 b5
        -- inner
        refine seqV (Good := fun σ2 H6 => ∃ (U : Addr) (r2 : List Nat), U ≠ p ∧ U ≠ fo ∧ H6 U = some (.lst (iV r2)) ∧ (∀ x ∈ r2, x < ds.length) ∧ r2.length ≤ 4 ∧ PotAt H6 p ∧ ButD p H5 H6 ∧ σ2 = [some (.ref p), some (.ref D), some (.int p2), some (.int 3), some (.ref fo), some (.int (0 + (i : Int))), some (.ref W), some (.ref S), some (.ref U), none]) ?_ ?_
        · intro nx hnx
          refine ⟨_, rfl, _, rfl, _, rfl, p, S, _, rfl, hp5, b5 _ _ nS hS, nS, by rw [List.length_map]; exact List.length_pos_iff.mpr hk, by rw [List.length_map]; exact kl, fun x H6 hx hp6 b6 => ?_⟩
          obtain ⟨y, hy, rfl⟩ := List.mem_map.mp hx
          obtain ⟨y1, y2⟩ := kb y hy
          obtain ⟨k, rfl⟩ : ∃ k : Nat, y = k := ⟨y.toNat, by omega⟩
          have hf6 := b6 _ _ fp hf5
          refine ⟨_, rfl, W, _, rfl, .inl (.inl (b6 _ _ nW hW5)), fun U hU => ?_⟩
          rw [cutV_take _ (by rw [ivl]; omega)]
          have s7 := same_upd (o := .lst ((iV r).take k)) hU
          have et : (iV r).take k = iV (r.take k) := by unfold iV; rw [List.map_take]
          refine hnx _ _ ⟨U, r.take k, hp6.ne hU, (ne_of_none hf6 hU).symm, by rw [upd_same, et], fun x hx => lt x (List.mem_of_mem_take hx), by rw [List.length_take]; omega, hp6.same s7, ButD.trans b6 (Same.but s7), rfl⟩
        rintro _ H6 ⟨U, r2, nU, nUf, hU, lt2, rl2, hp6, b6, rfl⟩
        have hf6 := b6 _ _ fp hf5
        have fn6 := fn5.pot hp5 b6
        have iU : ∀ x ∈ r2.map (fun i : Nat => PyData.int (i : Int)), Int1 ds.length x := fun x hx => by
          obtain ⟨j, hj, rfl⟩ := List.mem_map.mp hx
          exact ⟨j, rfl, lt2 j hj⟩
        refine seqV (Good := fun σ2 H7 => ∃ (V2 : Addr) (zs : List V) (ins : List PyData), V2 ≠ p ∧ V2 ≠ fo ∧ H7 V2 = some (.lst zs) ∧ FN p fo H7 zs ins ∧ InnerOk ds.length ins ∧ zs.length ≤ 1000 ∧ PotAt H7 p ∧ ButD p H6 H7 ∧ σ2 = [some (.ref p), some (.ref D), some (.int p2), some (.int 3), some (.ref fo), some (.int (0 + (i : Int))), some (.ref W), some (.ref S), some (.ref V2), none]) ?_ ?_
        · intro nx hnx
          show tIf _ _ _ _ _ _
          refine ⟨_, rfl, _, _, rfl, rfl, true, rfl, iteT ?_⟩
          refine ⟨_, rfl, p, 4, rfl, hp6, by decide, by decide, fun z H7 e0 e4 hp7 b7 => ⟨rfl, decide (V.int z = V.int 0), rfl, ?_⟩⟩
          have hU7 := b7 _ _ nU hU
          have hf7 := b7 _ _ fp hf6
          have u2l : (iV r2).length = r2.length := List.length_map _
          by_cases hz : z = 0
          · rw [decide_eq_true (by rw [hz])]
            refine iteT ⟨_, rfl, _, rfl, p, 3, rfl, hp7, by decide, by decide, fun t H8 t0 t3 hp8 b8 => ⟨(by show 2 ≤ sizeLine; decide), fun T hT => ⟨(by show 1 ≤ sizeLine; decide), fun L hL => ?_⟩⟩⟩
            have s9 := same_upd (o := .tup [.ref U, .int t]) hT
            have s10 := same_upd (o := .lst [.ref T]) hL
            have hU8 := b8 _ _ nU hU7
            have hf8 := b8 _ _ fp hf7
            refine ⟨_, rfl, L, U, _, _, rfl, rfl, upd_same, s10 _ _ (s9 _ _ hU8), by rw [u2l]; show 1 + r2.length ≤ sizeLine; omega, fun V2 hV2 => ?_⟩
            have s11 := same_upd (o := .lst ([.ref T] ++ iV r2)) hV2
            have s8 := s9.trans (s10.trans s11)
            have hT11 := s11 _ _ (s10 _ _ (show upd H8 T (.tup [.ref U, .int t]) T = _ from upd_same))
            refine hnx _ _ ⟨V2, [.ref T] ++ iV r2, [.tuple [.list (r2.map fun i : Nat => PyData.int (i : Int)), .int t]] ++ r2.map (fun i : Nat => PyData.int (i : Int)), (hp8.same (s9.trans s10)).ne hV2, (ne_of_none (s10 _ _ (s9 _ _ hf8)) hV2).symm, upd_same,
              FN.app ⟨.cons (.tup hT11 (.cons (.lst nU (s8 _ _ hU8) (.ints r2)) (.cons (.int _) .nil))) .nil, .cons (.tup hT11 (.cons (.lst nUf (s8 _ _ hU8) (.ints r2)) (.cons (.int _) .nil))) .nil⟩ (FN.ints r2),
              ⟨_, _, rfl, Nat.le_refl 1, by rw [List.length_map]; exact rl2, fun x hx => by rw [List.mem_singleton.mp hx]; exact .inr ⟨_, t, rfl, t0, by omega, iU, by rw [List.length_map]; exact rl2⟩, iU⟩,
              by rw [List.length_append, u2l]; show 1 + r2.length ≤ 1000; omega, hp8.same s8, ButD.trans b7 (ButD.trans b8 (Same.but s8)), rfl⟩
          · rw [decide_eq_false (by simpa using hz)]
            exact iteF ⟨_, rfl, hnx _ _ ⟨U, iV r2, _, nU, nUf, hU7, FN.ints r2, ⟨[], _, rfl, Nat.zero_le _, by rw [List.length_map]; exact rl2, fun x hx => absurd hx (by simp), iU⟩, by rw [u2l]; omega, hp7, b7, rfl⟩⟩
        rintro _ H7 ⟨V2, zs, ins, nV, nVf, hV, fnV, iok2, zl, hp7, b7, rfl⟩
        have hf7 := b7 _ _ fp hf6
        have fn7 := fn6.pot hp6 b7
        -- the lap
        refine ⟨_, rfl, .inl ⟨rfl, _, .inl (.inl hf7)⟩, ?_⟩
        show tIf _ _ _ _ _ _
        refine via (Good := fun v H8 => ∃ (u : Addr) (X : PyData), v = .ref u ∧ (X = .list ins ∨ X = .tuple ins) ∧ DV p H8 (.ref u) X ∧ DV fo H8 (.ref u) X ∧ PotAt H8 p ∧ ButD p H7 H8) ?_ ?_
        · intro Q' hk2
          refine ⟨_, rfl, p, 3, rfl, hp7, by decide, by decide, fun z H8 e0 e3 hp8 b8 => ⟨_, _, rfl, rfl, decide (z > 0), rfl, ?_⟩⟩
          have hV8 := b8 _ _ nV hV
          have fnV8 := fnV.pot hp7 b8
          cases decide (z > 0) with
          | true => exact iteT ⟨_, rfl, hk2 _ _ ⟨V2, .list ins, rfl, .inl rfl, .lst nV hV8 fnV8.1, .lst nVf hV8 fnV8.2, hp8, b8⟩⟩
          | false =>
            refine iteF ⟨_, rfl, V2, zs, rfl, .inl ⟨.inl (.inl hV8), fun T hT => ?_⟩⟩
            have s9 := same_upd (o := .tup zs) hT
            exact hk2 _ _ ⟨T, .tuple ins, rfl, .inr rfl, .tup upd_same (fnV8.same s9).1, .tup upd_same (fnV8.same s9).2, hp8.same s9, ButD.trans b8 (Same.but s9)⟩
        · rintro _ H8 ⟨u, X, rfl, hX, dX, dX2, hp8, b8⟩
          refine ⟨_, rfl, p, 4, rfl, hp8, by decide, by decide, fun t H9 t0 t4 hp9 b9 => ⟨(by show 2 ≤ sizeLine; decide), fun T hT => ?_⟩⟩
          have s10 := same_upd (o := .tup [.ref u, .int t]) hT
          have hf9 := b9 _ _ fp (b8 _ _ fp hf7)
          have hf10 := s10 _ _ hf9
          have fn10 := ((fn7.pot hp7 b8).pot hp8 b9).same s10
          have dT : FN p fo (upd H9 T (.tup [.ref u, .int t])) [.ref T] [.tuple [X, .int t]] := by
            have z1 : FN p fo H9 [.ref u, .int t] [X, .int t] := FN.pot hp8 b9 (fo := fo) ⟨.cons dX (.cons (.int _) .nil), .cons dX2 (.cons (.int _) .nil)⟩
            exact ⟨.cons (.tup upd_same (z1.same s10).1) .nil, .cons (.tup upd_same (z1.same s10).2) .nil⟩
          have fnA := fn10.app dT
          refine ⟨fo, xs, _, rfl, rfl, hf10, by omega, ?_⟩
          have bt : ButD fo (upd H9 T (.tup [.ref u, .int t])) (upd (upd H9 T (.tup [.ref u, .int t])) fo (.lst (xs ++ [.ref T]))) := ButD.start
          refine ⟨_, _, _, _, p2, fo, xs ++ [.ref T], its ++ [.tuple [X, .int t]], rfl, f0, fp, upd_same, fnA.put ⟨_, hf10⟩ bt, ?_, ?_, ?_, ?_⟩
          · intro x hx
            rcases List.mem_append.mp hx with hx | hx
            · exact iok x hx
            · rw [List.mem_singleton.mp hx]
              exact .inr ⟨X, ins, t, rfl, t0, by omega, hX, iok2⟩
          · refine ⟨by rw [List.length_append]; show its.length + 1 ≤ 4 * (i + 1); omega, fun k => ?_⟩
            rw [List.map_append, List.sum_append]
            have h1 := iw k
            have h2 := wtB k (show ItemB ds.length (.tuple [X, .int t]) from .inr ⟨X, ins, t, rfl, t0, by omega, hX, iok2⟩)
            show _ + (itemW (wt k) (.tuple [X, .int t]) + 0) ≤ 80 * (i + 1)
            omega
          · obtain ⟨x, y, e, z⟩ := hp9.same s10
            exact ⟨x, y, by rw [upd_ne fp.symm]; exact e, z⟩
          · intro c o ne e
            rw [upd_ne (ne_of_none e f0)]
            exact s10 _ _ (b9 _ _ ne (b8 _ _ ne (b7 _ _ ne (b6 _ _ ne (b5 _ _ ne (b04 _ _ ne e))))))
      · rintro H5 ⟨hp5, b5⟩
        have hW5 := b5 _ _ nW hW4
        have hf5 := b5 _ _ fp hf4
        have hD5 := b5 _ _ nDp hD4
        have dd5 := DdAll.pot hp4 b5 dd4
        have fn5 := fn4.pot hp4 b5
        have b05 : ButD p H H5 := ButD.trans b04 b5
        refine ⟨_, rfl, (by show 0 ≤ sizeLine; decide), fun e he => ?_⟩
        have s6 := same_upd (o := .lst []) he
        have hW6 := s6 _ _ hW5
        rw [iV_ints] at hW6
        refine ⟨_, .list [], .lst (.inl (.inl hW6)) (dps_ints _), .lst (.inl (.inl upd_same)) .nil, ints_shaped _, by decide +kernel, !decide (r.map (fun i : Nat => (i : Int)) = []), congrArg (fun b => V.bl (!b)) (ints_nil _), ?_⟩
        rw [← iV_ints] at hW6
        have hp6 := hp5.same s6
        have hf6 := s6 _ _ hf5
        have fn6 := fn5.same s6
        have b06 : ButD p H _ := ButD.trans b05 (Same.but s6)
        by_cases hr0 : r = []
        · rw [decide_eq_true (by rw [hr0]; rfl)]
          exact iteF ⟨_, _, _, _, p2, fo, xs, its, rfl, f0, fp, hf6, fn6, iok, ⟨by omega, fun k => by have := iw k; omega⟩, hp6, b06⟩
        · rw [decide_eq_false (by simpa using hr0)]
          refine iteT ?_
          refine ⟨_, rfl, _, rfl, fo, W, _, _, rfl, rfl, hf6, hW6, by rw [ivl]; omega, fun F2 hF2 => ?_⟩
          have s7 := same_upd (o := .lst (xs ++ iV r)) hF2
          obtain ⟨rl0, last, rfl⟩ : ∃ (r0 : List Nat) (la : Nat), r = r0 ++ [la] := ⟨r.dropLast, r.getLast hr0, (List.dropLast_concat_getLast hr0).symm⟩
          have lal : last < ds.length := lt last (by simp)
          have hW7 := s7 _ _ hW6
          have ivs : iV (rl0 ++ [last]) = iV rl0 ++ [.int (last : Int)] := by unfold iV; rw [List.map_append]; rfl
          have hW8 : (upd (upd H5 e (.lst [])) F2 (.lst (xs ++ iV (rl0 ++ [last])))) W = some (.lst (iV rl0 ++ [.int (last : Int)])) := hW7.trans (by rw [ivs])
          obtain ⟨t, et, ht⟩ := dd_at (DdAll.same (s6.trans s7) dd5) lal
          refine ⟨_, rfl, _, rfl, _, rfl, W, _, _, _, rfl, rfl, .inl (.inl hW8), atI_last _ _, D, ys, _, _, rfl, rfl, .inl (.inl (s7 _ _ (s6 _ _ hD5))), atI_nat et, t, _, _, _, rfl, rfl, .inl (.inl ht), rfl, ?_⟩
          have fn7 : FN p F2 (upd _ F2 (.lst (xs ++ iV (rl0 ++ [last])))) (xs ++ iV (rl0 ++ [last])) (its ++ (rl0 ++ [last]).map fun i : Nat => PyData.int (i : Int)) :=
            FN.app ⟨fn6.1.same s7, DVs.fresh s7 hF2 fn6.1⟩ (FN.ints _)
          refine ⟨_, _, _, _, (dAt ds last).g, F2, _, _, rfl, ?_, hp6.ne hF2, upd_same, fn7, ?_, ?_, hp6.same s7, ButD.trans b06 (Same.but s7)⟩
          · exact ButD.free2 b06 (hp6.ne hF2) hF2
          · intro x hx
            rcases List.mem_append.mp hx with hx | hx
            · exact iok x hx
            · obtain ⟨j, hj, rfl⟩ := List.mem_map.mp hx
              exact .inl ⟨j, rfl, lt j hj⟩
          · refine ⟨by rw [List.length_append, List.length_map]; omega, fun k => ?_⟩
            rw [List.map_append, List.sum_append]
            have h1 := iw k
            have h2 := wtI (wt k) (rl0 ++ [last])
            omega
    · rintro σ H2 ⟨v5, v6, v7, v8, p2, fo, xs, its, rfl, f0, fp, hf, fn, iok, ⟨il, iw⟩, hp2, b2⟩
      exact ⟨_, rfl, q fo xs its H2 f0 hf fn.1 iok (by omega) (fun k => by have := iw k; omega) hp2 b2⟩
end
end L2.K22
end

section
set_option Elab.async false
set_option linter.all false
set_option maxRecDepth 100000
set_option maxHeartbeats 4000000
namespace L2.K22
open PySem PySem.Spec PyProof.Rows L2.Gd
/-! ### small data -/
theorem small_tab : ∀ k : Fin 70, (PyData.int ((k.val : Int) - 1)).intsShort 13 = true ∧ (PyData.int ((k.val : Int) - 1)).showable = true ∧ (PyData.int ((k.val : Int) - 1)).weight ≤ 8 := by
  decide +kernel
theorem small_int {i : Int} (h1 : -1 ≤ i) (h2 : i ≤ 68) : (PyData.int i).intsShort 13 = true ∧ (PyData.int i).showable = true ∧ (PyData.int i).weight ≤ 8 := by
  have e : (((i + 1).toNat : Nat) : Int) - 1 = i := by omega
  have := small_tab ⟨(i + 1).toNat, by omega⟩
  rw [show (((⟨(i + 1).toNat, by omega⟩ : Fin 70)).val : Int) - 1 = i from e] at this
  exact this
structure Pl (d : PyData) : Prop where
  lay : d.canLay0 = true
  sh : d.showable = true
  hd : d.hasDict = false
  is : d.intsShort 13 = true
theorem pl_all : ∀ {ds : List PyData}, (∀ d ∈ ds, Pl d) → PyData.canLayAll0 ds = true ∧ PyData.showableAll ds = true ∧ PyData.hasDictAll ds = false ∧ PyData.intsShortAll 13 ds = true
  | [], _ => ⟨by simp [PyData.canLayAll0], by simp [PyData.showableAll], by simp [PyData.hasDictAll], by simp [PyData.intsShortAll]⟩
  | d :: r, h => by
    have a := h d List.mem_cons_self
    obtain ⟨b, c, e, f⟩ := pl_all (ds := r) fun x hx => h x (List.mem_cons_of_mem _ hx)
    exact ⟨by simp [PyData.canLayAll0, a.lay, b], by simp [PyData.showableAll, a.sh, c], by simp [PyData.hasDictAll, a.hd, e], by simp [PyData.intsShortAll, a.is, f]⟩
theorem Pl.lst {ds : List PyData} (h : ∀ d ∈ ds, Pl d) : Pl (.list ds) :=
  let ⟨a, b, c, d⟩ := pl_all h
  ⟨by simp only [PyData.canLay0, a], by simp only [PyData.showable, b], by simp only [PyData.hasDict, c], by simp only [PyData.intsShort, d]⟩
theorem Pl.tup {ds : List PyData} (h : ∀ d ∈ ds, Pl d) : Pl (.tuple ds) :=
  let ⟨a, b, c, d⟩ := pl_all h
  ⟨by simp only [PyData.canLay0, a], by simp only [PyData.showable, b], by simp only [PyData.hasDict, c], by simp only [PyData.intsShort, d]⟩
theorem Pl.int {i : Int} (h1 : -1 ≤ i) (h2 : i ≤ 68) : Pl (.int i) :=
  let ⟨a, b, _⟩ := small_int h1 h2
  ⟨by simp [PyData.canLay0], b, by simp [PyData.hasDict], a⟩
theorem Pl.bool (b : Bool) : Pl (.bool b) := ⟨by simp [PyData.canLay0], by simp [PyData.showable], by simp [PyData.hasDict], by simp [PyData.intsShort]⟩
theorem Pl.non : Pl .none := ⟨by simp [PyData.canLay0], by simp [PyData.showable], by simp [PyData.hasDict], by simp [PyData.intsShort]⟩
def wx (d : PyData) : Nat := d.weight + 1
theorem weight_all : ∀ ds : List PyData, PyData.weightAll ds = (ds.map wx).sum
  | [] => by simp [PyData.weightAll]
  | d :: r => by
    rw [List.map_cons, List.sum_cons, ← weight_all r]
    unfold wx
    simp only [PyData.weightAll]
theorem weight_lst (ds : List PyData) : (PyData.list ds).weight = (ds.map wx).sum := by
  rw [← weight_all]
  simp only [PyData.weight]
theorem weight_tup (ds : List PyData) : (PyData.tuple ds).weight = (ds.map wx).sum := by
  rw [← weight_all]
  simp only [PyData.weight]
theorem depth_all {n : Nat} : ∀ {ds : List PyData}, (∀ d ∈ ds, d.depth ≤ n) → PyData.depthAll ds ≤ n
  | [], _ => by simp [PyData.depthAll]
  | d :: r, h => by
    have a := h d List.mem_cons_self
    have b := depth_all (ds := r) fun x hx => h x (List.mem_cons_of_mem _ hx)
    simp only [PyData.depthAll]
    omega
theorem depth_lst {n : Nat} {ds : List PyData} (h : ∀ d ∈ ds, d.depth ≤ n) : (PyData.list ds).depth ≤ n + 1 := by
  have := depth_all h
  simp only [PyData.depth]
  omega
theorem depth_tup {n : Nat} {ds : List PyData} (h : ∀ d ∈ ds, d.depth ≤ n) : (PyData.tuple ds).depth ≤ n + 1 := by
  have := depth_all h
  simp only [PyData.depth]
  omega
/-- data that fits: at most n in all weights, at most D deep -/
structure Ok2 (d : PyData) (n D : Nat) : Prop where
  w : ∀ k, wt k d ≤ n
  pl : Pl d
  we : d.weight ≤ n
  dp : d.depth ≤ D
structure OkL (ds : List PyData) (n D : Nat) : Prop where
  w : ∀ k, (ds.map (itemW (wt k))).sum ≤ n
  pl : ∀ d ∈ ds, Pl d
  we : (ds.map wx).sum ≤ n
  dp : ∀ d ∈ ds, d.depth ≤ D
theorem sum_sub (f : PyData → Nat) {a b : List PyData} (h : a.Sublist b) : (a.map f).sum ≤ (b.map f).sum := by
  induction h with
  | slnil => exact Nat.le_refl _
  | cons x _ ih => rw [List.map_cons, List.sum_cons]; omega
  | cons_cons x _ ih => rw [List.map_cons, List.sum_cons, List.map_cons, List.sum_cons]; omega
theorem sum_rev (f : PyData → Nat) : ∀ ds : List PyData, ((ds.reverse).map f).sum = (ds.map f).sum
  | [] => rfl
  | d :: r => by
    rw [List.reverse_cons, List.map_append, List.sum_append, sum_rev f r]
    show (r.map f).sum + (f d + 0) = f d + (r.map f).sum
    omega
theorem OkL.nil : OkL [] 0 0 := ⟨fun _ => Nat.le_refl _, (fun _ h => nomatch h), Nat.le_refl _, (fun _ h => nomatch h)⟩
theorem OkL.mono {ds : List PyData} {n m D E : Nat} (h : OkL ds n D) (l : n ≤ m) (l2 : D ≤ E) : OkL ds m E := ⟨fun k => Nat.le_trans (h.w k) l, h.pl, Nat.le_trans h.we l, fun d hd => Nat.le_trans (h.dp d hd) l2⟩
theorem Ok2.mono {d : PyData} {n m D E : Nat} (h : Ok2 d n D) (l : n ≤ m) (l2 : D ≤ E) : Ok2 d m E := ⟨fun k => Nat.le_trans (h.w k) l, h.pl, Nat.le_trans h.we l, Nat.le_trans h.dp l2⟩
theorem OkL.app {a b : List PyData} {n m D : Nat} (h : OkL a n D) (g : OkL b m D) : OkL (a ++ b) (n + m) D :=
  ⟨fun k => by rw [List.map_append, List.sum_append]; exact Nat.add_le_add (h.w k) (g.w k), fun d hd => (List.mem_append.mp hd).elim (h.pl d) (g.pl d),
    by rw [List.map_append, List.sum_append]; exact Nat.add_le_add h.we g.we, fun d hd => (List.mem_append.mp hd).elim (h.dp d) (g.dp d)⟩
theorem OkL.sub {a b : List PyData} {n D : Nat} (s : a.Sublist b) (h : OkL b n D) : OkL a n D := ⟨fun k => Nat.le_trans (sum_sub _ s) (h.w k), fun d hd => h.pl d (s.subset hd), Nat.le_trans (sum_sub _ s) h.we, fun d hd => h.dp d (s.subset hd)⟩
theorem OkL.rev {b : List PyData} {n D : Nat} (h : OkL b n D) : OkL b.reverse n D := ⟨fun k => by rw [sum_rev]; exact h.w k, fun d hd => h.pl d (List.mem_reverse.mp hd), by rw [sum_rev]; exact h.we, fun d hd => h.dp d (List.mem_reverse.mp hd)⟩
theorem OkL.lst {ds : List PyData} {n D : Nat} (h : OkL ds n D) : Ok2 (.list ds) n (D + 1) := ⟨fun k => by
  cases k with
  | zero => exact Nat.zero_le _
  | succ k => exact h.w k, .lst h.pl, by rw [weight_lst]; exact h.we, depth_lst h.dp⟩
theorem OkL.tup {ds : List PyData} {n D : Nat} (h : OkL ds n D) : Ok2 (.tuple ds) n (D + 1) := ⟨fun k => by
  cases k with
  | zero => exact Nat.zero_le _
  | succ k => exact h.w k, .tup h.pl, by rw [weight_tup]; exact h.we, depth_tup h.dp⟩
/-- one item -/
theorem OkL.one {d : PyData} {n D : Nat} (h : Ok2 d n D) (w : ∀ k, itemW (wt k) d ≤ n + 1) : OkL [d] (n + 1) D :=
  ⟨fun k => by show itemW (wt k) d + 0 ≤ n + 1; exact w k, fun x hx => by rw [List.mem_singleton.mp hx]; exact h.pl, by show d.weight + 1 + 0 ≤ n + 1; have := h.we; omega, fun x hx => by rw [List.mem_singleton.mp hx]; exact h.dp⟩
theorem Ok2.int {i : Int} (h1 : -1 ≤ i) (h2 : i ≤ 68) (D : Nat) : Ok2 (.int i) 8 D := ⟨fun k => by cases k <;> exact Nat.zero_le _, .int h1 h2, (small_int h1 h2).2.2, by simp [PyData.depth]⟩
theorem OkL.int {i : Int} (h1 : -1 ≤ i) (h2 : i ≤ 68) (D : Nat) : OkL [.int i] 9 D := .one (.int h1 h2 D) fun k => (by decide : 1 ≤ 9)
theorem Ok2.bool (b : Bool) (D : Nat) : Ok2 (.bool b) 8 D := ⟨fun k => by cases k <;> exact Nat.zero_le _, .bool b, by simp [PyData.weight], by simp [PyData.depth]⟩
theorem OkL.bool (b : Bool) (D : Nat) : OkL [.bool b] 9 D := .one (.bool b D) fun k => (by decide : 1 ≤ 9)
theorem Ok2.non (D : Nat) : Ok2 .none 8 D := ⟨fun k => by cases k <;> exact Nat.zero_le _, .non, by simp [PyData.weight], by simp [PyData.depth]⟩
theorem OkL.non (D : Nat) : OkL [.none] 9 D := .one (.non D) fun k => (by decide : 1 ≤ 9)
theorem Ok2.str0 (D : Nat) : Ok2 (.str "0") 40 D := ⟨fun k => by cases k <;> exact Nat.zero_le _, ⟨by decide +kernel, by decide +kernel, by decide +kernel, by decide +kernel⟩, by decide +kernel, by simp [PyData.depth]⟩
theorem OkL.str0 (D : Nat) : OkL [.str "0"] 41 D := .one (.str0 D) fun k => (by decide : 1 ≤ 41)
theorem Ok2.strE (D : Nat) : Ok2 (.str "") 40 D := ⟨fun k => by cases k <;> exact Nat.zero_le _, ⟨by decide +kernel, by decide +kernel, by decide +kernel, by decide +kernel⟩, by decide +kernel, by simp [PyData.depth]⟩
/-- a list as one item -/
theorem OkL.lst1 {ds : List PyData} {n D : Nat} (h : OkL ds n D) : OkL [.list ds] (n + 1) (D + 1) := .one h.lst fun k => Nat.le_add_left 1 n
/-- a tuple as one item -/
theorem OkL.tup1 {ds : List PyData} {n D : Nat} (h : OkL ds n D) (hw : ∀ g : PyData → Nat, itemW g (.tuple ds) = 1) : OkL [.tuple ds] (n + 1) (D + 1) := .one h.tup fun k => by rw [hw]; exact Nat.le_add_left 1 n
/-- a lap -/
theorem Ok2.lap {d : PyData} {t : Int} {n D c : Nat} (h : Ok2 d n D) (h1 : -1 ≤ t) (h2 : t ≤ c) (h3 : c ≤ 68) : OkL [.tuple [d, .int t]] ((c + 1) * (n + 1) + 20) (D + 1) := by
  have m : n + 1 ≤ (c + 1) * (n + 1) := Nat.le_mul_of_pos_left _ (Nat.succ_pos _)
  have t8 := (small_int h1 (by omega : t ≤ 68)).2.2
  have we := h.we
  refine ⟨fun k => ?_, fun x hx => ?_, ?_, fun x hx => ?_⟩
  · show (t.toNat + 1) * (wt k d + 1) + 0 ≤ _
    have : (t.toNat + 1) * (wt k d + 1) ≤ (c + 1) * (n + 1) := Nat.mul_le_mul (by omega) (Nat.succ_le_succ (h.w k))
    omega
  · rw [List.mem_singleton.mp hx]
    exact .tup fun y hy => by
      rcases List.mem_cons.mp hy with rfl | hy
      · exact h.pl
      · rw [List.mem_singleton.mp hy]
        exact .int h1 (by omega)
  · show (PyData.tuple [d, .int t]).weight + 1 + 0 ≤ _
    rw [weight_tup]
    show (d.weight + 1 + ((PyData.int t).weight + 1 + 0)) + 1 + 0 ≤ _
    omega
  · rw [List.mem_singleton.mp hx]
    exact depth_tup fun y hy => by
      rcases List.mem_cons.mp hy with rfl | hy
      · exact h.dp
      · rw [List.mem_singleton.mp hy]
        simp [PyData.depth]
theorem Ok2.showy {d : PyData} {n D : Nat} (a : Ok2 d n D) (hn : n ≤ 100000) (hd : D ≤ 20) : Showy d := by
  have dp := a.dp
  have we := a.we
  refine ⟨a.pl.sh, a.pl.hd, by omega, ?_⟩
  have l : PyData.layable0 d = true := by
    show (PyData.canLay0 d && decide (PyData.depth d ≤ 64) && decide (PyData.weight d ≤ 2 ^ 20)) = true
    rw [a.pl.lay, decide_eq_true (by omega : d.depth ≤ 64), decide_eq_true]
    · rfl
    · have e : (2 : Nat) ^ 20 = 1048576 := by decide
      omega
  have := shown_le13 l a.pl.is
  rw [sizeLine_eq]
  omega
theorem Ok2.shaped {d : PyData} {n D : Nat} (a : Ok2 d n D) (hd : D ≤ 20) : SeqAt.shaped d = true := by
  show (d.canLay0 && decide (d.depth ≤ 64)) = true
  have := a.dp
  rw [a.pl.lay, decide_eq_true (by omega)]
  rfl
end L2.K22
end

section
set_option Elab.async false
set_option linter.all false
set_option maxRecDepth 100000
set_option maxHeartbeats 4000000
namespace L2.K22
open PySem PySem.Spec PyProof.Rows L2.Gd
/-! ### values that are made, with their weights, apart from the pot p and from a list at D -/
def Iv (p D : Addr) (H : Hp) : Prop := PotAt H p ∧ ∃ zs, H D = some (.lst zs)
theorem Iv.same {p D : Addr} {H H' : Hp} (h : Iv p D H) (s : Same H H') : Iv p D H' := ⟨h.1.same s, let ⟨z, e⟩ := h.2; ⟨z, s _ _ e⟩⟩
theorem Iv.but {p D : Addr} {H H' : Hp} (h : Iv p D H) (hp : PotAt H' p) (b : ButD p H H') : Iv p D H' := by
  refine ⟨hp, ?_⟩
  by_cases e : D = p
  · subst e
    exact hp.lst
  · exact let ⟨z, x⟩ := h.2; ⟨z, b _ _ e x⟩
theorem Iv.ne {p D x : Addr} {H : Hp} (h : Iv p D H) (e : H x = none) : x ≠ p ∧ x ≠ D := ⟨h.1.ne e, fun z => by
  subst z
  obtain ⟨zs, w⟩ := h.2
  rw [e] at w
  exact nomatch w⟩
theorem DVs.take {p : Addr} {H : Hp} : ∀ (n : Nat) {xs : List V} {ds : List PyData}, DVs p H xs ds → DVs p H (xs.take n) (ds.take n)
  | 0, _, _, _ => .nil
  | _ + 1, _, _, .nil => .nil
  | n + 1, _, _, .cons h t => .cons h (DVs.take n t)
theorem DVs.drop {p : Addr} {H : Hp} : ∀ (n : Nat) {xs : List V} {ds : List PyData}, DVs p H xs ds → DVs p H (xs.drop n) (ds.drop n)
  | 0, _, _, h => h
  | _ + 1, _, _, .nil => .nil
  | n + 1, _, _, .cons _ t => DVs.drop n t
theorem DVs.rev {p : Addr} {H : Hp} : ∀ {xs : List V} {ds : List PyData}, DVs p H xs ds → DVs p H xs.reverse ds.reverse
  | _, _, .nil => .nil
  | _, _, .cons h t => by
    rw [List.reverse_cons, List.reverse_cons]
    exact (DVs.rev t).app (.cons h .nil)
theorem DVs.one {p : Addr} {H : Hp} {v : V} {d : PyData} (h : DVs p H [v] [d]) : DV p H v d := match h with | .cons a _ => a
theorem FN.lst {p D a : Addr} {H : Hp} {xs : List V} {ds : List PyData} (h : FN p D H xs ds) (ne : a ≠ p ∧ a ≠ D) (e : H a = some (.lst xs)) : FN p D H [.ref a] [.list ds] := ⟨.cons (.lst ne.1 e h.1) .nil, .cons (.lst ne.2 e h.2) .nil⟩
theorem FN.tup {p D a : Addr} {H : Hp} {xs : List V} {ds : List PyData} (h : FN p D H xs ds) (e : H a = some (.tup xs)) : FN p D H [.ref a] [.tuple ds] := ⟨.cons (.tup e h.1) .nil, .cons (.tup e h.2) .nil⟩
theorem FN.int {p D : Addr} {H : Hp} (i : Int) : FN p D H [.int i] [.int i] := ⟨.cons (.int i) .nil, .cons (.int i) .nil⟩
theorem FN.bool {p D : Addr} {H : Hp} (i : Bool) : FN p D H [.bl i] [.bool i] := ⟨.cons (.bl i) .nil, .cons (.bl i) .nil⟩
theorem FN.nil {p D : Addr} {H : Hp} : FN p D H [] [] := ⟨.nil, .nil⟩
/-- a list of values, all as S says -/
def PL (p D : Addr) (S : PyData → Prop) (H : Hp) (vs : List V) : Prop := ∃ ds, FN p D H vs ds ∧ ∀ d ∈ ds, S d
/-- one value -/
def PV (p D : Addr) (S : PyData → Prop) (v : V) (H : Hp) : Prop := ∃ d, FN p D H [v] [d] ∧ S d
def GL (p D : Addr) (H : Hp) (xs : List V) (n E : Nat) : Prop := ∃ ds, FN p D H xs ds ∧ OkL ds n E
def LG (p D : Addr) (n E m : Nat) (v : V) (H : Hp) : Prop := ∃ a xs, v = .ref a ∧ (a ≠ p ∧ a ≠ D) ∧ H a = some (.lst xs) ∧ GL p D H xs n E ∧ xs.length ≤ m
section
variable {p D : Addr} {H H' : Hp} {v : V} {xs ys : List V} {n m E F k l : Nat} {S : PyData → Prop}
theorem GL.mono (h : GL p D H xs n E) (l : n ≤ m) (l2 : E ≤ F) : GL p D H xs m F := let ⟨d, a, b⟩ := h; ⟨d, a, b.mono l l2⟩
theorem PV.mono {S' : PyData → Prop} (h : PV p D S v H) (k : ∀ d, S d → S' d) : PV p D S' v H := let ⟨d, a, b⟩ := h; ⟨d, a, k d b⟩
theorem GL.app (h : GL p D H xs n E) (k : GL p D H ys m E) : GL p D H (xs ++ ys) (n + m) E := by
  obtain ⟨d, a, b⟩ := h
  obtain ⟨e, f, g⟩ := k
  exact ⟨d ++ e, a.app f, b.app g⟩
theorem GL.nil (E : Nat) : GL p D H [] 0 E := ⟨[], FN.nil, OkL.nil.mono (Nat.le_refl _) (Nat.zero_le _)⟩
theorem GL.take (i : Nat) (h : GL p D H xs n E) : GL p D H (xs.take i) n E := let ⟨d, a, b⟩ := h; ⟨d.take i, ⟨a.1.take i, a.2.take i⟩, b.sub (List.take_sublist _ _)⟩
theorem GL.drop (i : Nat) (h : GL p D H xs n E) : GL p D H (xs.drop i) n E := let ⟨d, a, b⟩ := h; ⟨d.drop i, ⟨a.1.drop i, a.2.drop i⟩, b.sub (List.drop_sublist _ _)⟩
theorem GL.rev (h : GL p D H xs n E) : GL p D H xs.reverse n E := let ⟨d, a, b⟩ := h; ⟨d.reverse, ⟨a.1.rev, a.2.rev⟩, b.rev⟩
theorem GL.int {i : Int} (h1 : -1 ≤ i) (h2 : i ≤ 68) (E : Nat) : GL p D H [.int i] 9 E := ⟨_, .int _, .int h1 h2 E⟩
theorem GL.pot (hp : PotAt H p) (b : ButD p H H') (h : GL p D H xs n E) : GL p D H' xs n E := let ⟨d, x, y⟩ := h; ⟨d, x.pot hp b, y⟩
theorem PL.pot (hp : PotAt H p) (b : ButD p H H') (h : PL p D S H xs) : PL p D S H' xs := let ⟨d, x, y⟩ := h; ⟨d, x.pot hp b, y⟩
theorem PV.pot (hp : PotAt H p) (b : ButD p H H') (h : PV p D S v H) : PV p D S v H' := let ⟨d, x, y⟩ := h; ⟨d, x.pot hp b, y⟩
theorem LG.pot (hp : PotAt H p) (b : ButD p H H') (h : LG p D n E m v H) : LG p D n E m v H' := let ⟨x, xs, e, ne, hx, g, l⟩ := h; ⟨x, xs, e, ne, b _ _ ne.1 hx, g.pot hp b, l⟩
theorem LG.pv (h : LG p D n E m v H) : PV p D (fun d => Ok2 d n (E + 1)) v H := by
  obtain ⟨a, xs, rfl, ne, ha, ⟨ds, dv, ok⟩, _⟩ := h
  exact ⟨_, dv.lst ne ha, ok.lst⟩
/-- a list as an item -/
theorem LG.item (h : LG p D n E m v H) : GL p D H [v] (n + 1) (E + 1) := by
  obtain ⟨a, xs, rfl, ne, ha, ⟨ds, dv, ok⟩, _⟩ := h
  exact ⟨_, dv.lst ne ha, ok.lst1⟩
theorem PL.nil : PL p D S H [] := ⟨[], FN.nil, (fun d h => nomatch h)⟩
theorem PL.cons (h : PV p D S v H) (t : PL p D S H xs) : PL p D S H (v :: xs) := by
  obtain ⟨d, a, b⟩ := h
  obtain ⟨ds, e, f⟩ := t
  exact ⟨d :: ds, FN.app (xs := [v]) a e, fun x hx => by rcases List.mem_cons.mp hx with rfl | hx; exact b; exact f x hx⟩
theorem PL.app (h : PL p D S H xs) (k : PL p D S H ys) : PL p D S H (xs ++ ys) := by
  obtain ⟨d, a, b⟩ := h
  obtain ⟨e, f, g⟩ := k
  exact ⟨d ++ e, a.app f, fun x hx => (List.mem_append.mp hx).elim (b x) (g x)⟩
def LP (p D : Addr) (S : PyData → Prop) (m : Nat) (v : V) (H : Hp) : Prop := ∃ a vs, v = .ref a ∧ (a ≠ p ∧ a ≠ D) ∧ H a = some (.lst vs) ∧ PL p D S H vs ∧ vs.length ≤ m
theorem LP.pot (hp : PotAt H p) (b : ButD p H H') (h : LP p D S m v H) : LP p D S m v H' := let ⟨x, xs, e, ne, hx, g, l⟩ := h; ⟨x, xs, e, ne, b _ _ ne.1 hx, g.pot hp b, l⟩
end
/-- values that may be asked -/
abbrev Fit2 (d : PyData) : Prop := Ok2 d 90000 18
section
variable {p D : Addr} {H0 : Hp} {σ : L2.St} {S : PyData → Prop}
def Ew (p D : Addr) (H0 : Hp) (σ : L2.St) (t : TE) (G : V → Hp → Prop) : Prop := ∀ H, Iv p D H → ButD p H0 H → ∀ Q : VK, (∀ v H2, G v H2 → Iv p D H2 → ButD p H H2 → Q v H2) → t σ H Q
def EwA (p D : Addr) (H0 : Hp) (σ : L2.St) (t : TA) (G : List V → Hp → Prop) : Prop := ∀ H, Iv p D H → ButD p H0 H → ∀ Q : List V → Hp → Prop, (∀ v H2, G v H2 → Iv p D H2 → ButD p H H2 → Q v H2) → t σ H Q
theorem Ew.run {H : Hp} {t : TE} {G : V → Hp → Prop} {Q : VK} (e : Ew p D H0 σ t G) (i : Iv p D H) (r : ButD p H0 H) (k : ∀ v H2, G v H2 → Iv p D H2 → ButD p H H2 → Q v H2) : t σ H Q := e H i r Q k
theorem Ew.imp {t : TE} {G G' : V → Hp → Prop} (e : Ew p D H0 σ t G) (k : ∀ v H, G v H → G' v H) : Ew p D H0 σ t G' := fun H i r Q c => e H i r Q fun v H2 g => c v H2 (k v H2 g)
theorem Ew.int {i : Int} (h1 : -1 ≤ i) (h2 : i ≤ 68) (E : Nat) : Ew p D H0 σ (tC (.int i)) (fun v H => GL p D H [v] 9 E) := fun H i r Q c => c _ _ (.int h1 h2 E) i ButD.refl
theorem Ew.intD {i : Int} (h1 : -1 ≤ i) (h2 : i ≤ 68) (E : Nat) : Ew p D H0 σ (tC (.int i)) (PV p D (fun d => Ok2 d 8 E)) := fun H i r Q c => c _ _ ⟨_, .int _, .int h1 h2 E⟩ i ButD.refl
theorem Ew.intV {j : Nat} {i : Int} (hs : σ[j]? = some (some (.int i))) (h1 : -1 ≤ i) (h2 : i ≤ 68) (E : Nat) : Ew p D H0 σ (tVar j) (fun v H => GL p D H [v] 9 E) := fun H i r Q c => ⟨_, hs, c _ _ (.int h1 h2 E) i ButD.refl⟩
/-- a variable that holds a list -/
theorem Ew.lstV {i a : Nat} {xs : List V} {n E m : Nat} (i0 : Iv p D H0) (hs : σ[i]? = some (some (.ref a))) (ne : a ≠ p ∧ a ≠ D) (ha : H0 a = some (.lst xs)) (g : GL p D H0 xs n E) (l : xs.length ≤ m) : Ew p D H0 σ (tVar i) (LG p D n E m) :=
  fun H i r Q c => ⟨_, hs, c _ _ ⟨a, xs, rfl, ne, r _ _ ne.1 ha, g.pot i0.1 r, l⟩ i ButD.refl⟩
theorem EwA.nil (E : Nat) : EwA p D H0 σ tNil (fun vs H => GL p D H vs 0 E ∧ vs.length = 0) := fun H i r Q c => c _ _ ⟨.nil E, rfl⟩ i ButD.refl
theorem EwA.cons {t : TE} {ts : TA} {n m E l : Nat} (e : Ew p D H0 σ t (fun v H => GL p D H [v] n E)) (es : EwA p D H0 σ ts (fun vs H => GL p D H vs m E ∧ vs.length = l)) :
    EwA p D H0 σ (tCons t ts) (fun vs H => GL p D H vs (n + m) E ∧ vs.length = l + 1) := by
  intro H i r Q c
  refine e H i r _ fun v H2 g i2 r2 => es H2 i2 (ButD.trans r r2) _ fun vs H3 g3 i3 r3 => c _ _ ⟨?_, congrArg Nat.succ g3.2⟩ i3 (ButD.trans r2 r3)
  exact GL.app (xs := [v]) (g.pot i2.1 r3) g3.1
theorem Ew.lst {ts : TA} {n E l : Nat} (es : EwA p D H0 σ ts (fun vs H => GL p D H vs n E ∧ vs.length = l)) (hl : l ≤ 1000) : Ew p D H0 σ (tLst ts) (LG p D n E l) := by
  intro H i r Q c
  refine es H i r _ fun vs H2 g i2 r2 => ⟨by rw [g.2, sizeLine_eq]; omega, fun a ha => ?_⟩
  have s := same_upd (o := .lst vs) ha
  exact c _ _ ⟨a, vs, rfl, i2.ne ha, upd_same, g.1.pot i2.1 (Same.but s), Nat.le_of_eq g.2⟩ (i2.same s) (ButD.trans r2 (Same.but s))
/-- a lap (v, t) -/
theorem Ew.lapE {t u : TE} {n E c : Nat} (e : Ew p D H0 σ t (PV p D (fun d => Ok2 d n E))) (e2 : ∀ H Q, Iv p D H → ButD p H0 H → (∀ (z : Int) H2, -1 ≤ z → z ≤ c → Iv p D H2 → ButD p H H2 → Q (.int z) H2) → u σ H Q) (hc : c ≤ 68) :
    Ew p D H0 σ (tTup (tCons t (tCons u tNil))) (fun v H => GL p D H [v] ((c + 1) * (n + 1) + 20) (E + 1)) := by
  intro H i r Q k
  refine e H i r _ fun v H2 ⟨d, dv, ok⟩ i2 r2 => ?_
  refine e2 H2 _ i2 (ButD.trans r r2) fun z H3 z1 z2 i3 r3 => ⟨by show 2 ≤ sizeLine; decide, fun T hT => ?_⟩
  have s := same_upd (o := .tup [v, .int z]) hT
  have dv3 := dv.pot i2.1 (ButD.trans r3 (Same.but s))
  exact k _ _ ⟨_, FN.tup (dv3.app (.int z)) upd_same, ok.lap z1 z2 hc⟩ (i3.same s) (ButD.trans r2 (ButD.trans r3 (Same.but s)))
theorem Ew.lap {t : TE} {n E : Nat} (c : Nat) (e : Ew p D H0 σ t (PV p D (fun d => Ok2 d n E))) (z : Int) (z1 : -1 ≤ z) (z2 : z ≤ c) (hc : c ≤ 68) :
    Ew p D H0 σ (tTup (tCons t (tCons (tC (.int z)) tNil))) (fun v H => GL p D H [v] ((c + 1) * (n + 1) + 20) (E + 1)) :=
  .lapE e (fun H Q i r k => k z H z1 z2 i ButD.refl) hc
/-- (v, w), w a truth -/
theorem Ew.tupB {t : TE} {n E : Nat} {b : Bool} (e : Ew p D H0 σ t (fun v H => GL p D H [v] n E)) : Ew p D H0 σ (tTup (tCons t (tCons (tC (.bl b)) tNil))) (fun v H => GL p D H [v] (n + 10) (E + 1)) := by
  intro H i r Q k
  refine e H i r _ fun v H2 ⟨ds, dv, ok⟩ i2 r2 => ?_
  obtain ⟨d, rfl⟩ : ∃ d, ds = [d] := by
    match ds, dv.1 with
    | [d], .cons _ .nil => exact ⟨d, rfl⟩
  refine ⟨by show 2 ≤ sizeLine; decide, fun T hT => ?_⟩
  have s := same_upd (o := .tup [v, .bl b]) hT
  exact k _ _ ⟨_, FN.tup ((dv.same s).app (.bool b)) upd_same, OkL.tup1 (ok.app (.bool b E)) fun g => rfl⟩ (i2.same s) (ButD.trans r2 (Same.but s))
/-- (v, i, j) -/
theorem Ew.tup3 {t : TE} {n E : Nat} {x y : Int} (e : Ew p D H0 σ t (fun v H => GL p D H [v] n E)) (x1 : -1 ≤ x) (x2 : x ≤ 68) (y1 : -1 ≤ y) (y2 : y ≤ 68) :
    Ew p D H0 σ (tTup (tCons t (tCons (tC (.int x)) (tCons (tC (.int y)) tNil)))) (fun v H => GL p D H [v] (n + 19) (E + 1)) := by
  intro H i r Q k
  refine e H i r _ fun v H2 ⟨ds, dv, ok⟩ i2 r2 => ?_
  obtain ⟨d, rfl⟩ : ∃ d, ds = [d] := by
    match ds, dv.1 with
    | [d], .cons _ .nil => exact ⟨d, rfl⟩
  refine ⟨by show 3 ≤ sizeLine; decide, fun T hT => ?_⟩
  have s := same_upd (o := .tup [v, .int x, .int y]) hT
  exact k _ _ ⟨_, FN.tup (((dv.same s).app (.int x)).app (.int y)) upd_same, OkL.tup1 ((ok.app (.int x1 x2 E)).app (.int y1 y2 E)) fun g => rfl⟩ (i2.same s) (ButD.trans r2 (Same.but s))
theorem Ew.cat {t u : TE} {n m E k l : Nat} (e : Ew p D H0 σ t (LG p D n E k)) (f : Ew p D H0 σ u (LG p D m E l)) (hl : k + l ≤ 1000) : Ew p D H0 σ (tOp rCat t u) (LG p D (n + m) E (k + l)) := by
  intro H i r Q c
  refine e H i r _ fun v H2 g i2 r2 => f H2 i2 (ButD.trans r r2) _ fun v3 H3 g3 i3 r3 => ?_
  obtain ⟨a, xs, rfl, nea, ha, ga, la⟩ := g.pot i2.1 r3
  obtain ⟨b, ys, rfl, neb, hb, gb, lb⟩ := g3
  refine ⟨a, b, xs, ys, rfl, rfl, ha, hb, by rw [sizeLine_eq]; omega, fun x hx => ?_⟩
  have s := same_upd (o := .lst (xs ++ ys)) hx
  exact c _ _ ⟨x, _, rfl, i3.ne hx, upd_same, (ga.app gb).pot i3.1 (Same.but s), by rw [List.length_append]; omega⟩ (i3.same s) (ButD.trans r2 (ButD.trans r3 (Same.but s)))
theorem EwA.nilF : EwA p D H0 σ tNil (fun vs H => PL p D S H vs ∧ vs.length = 0) := fun H i r Q c => c _ _ ⟨.nil, rfl⟩ i ButD.refl
theorem EwA.consF {t : TE} {ts : TA} {l : Nat} (e : Ew p D H0 σ t (PV p D S)) (es : EwA p D H0 σ ts (fun vs H => PL p D S H vs ∧ vs.length = l)) :
    EwA p D H0 σ (tCons t ts) (fun vs H => PL p D S H vs ∧ vs.length = l + 1) := by
  intro H i r Q c
  refine e H i r _ fun v H2 g i2 r2 => es H2 i2 (ButD.trans r r2) _ fun vs H3 g3 i3 r3 => c _ _ ⟨?_, congrArg Nat.succ g3.2⟩ i3 (ButD.trans r2 r3)
  exact .cons (g.pot i2.1 r3) g3.1
theorem Ew.lstF {ts : TA} {l : Nat} (es : EwA p D H0 σ ts (fun vs H => PL p D S H vs ∧ vs.length = l)) (hl : l ≤ 1000) : Ew p D H0 σ (tLst ts) (LP p D S l) := by
  intro H i r Q c
  refine es H i r _ fun vs H2 g i2 r2 => ⟨by rw [g.2, sizeLine_eq]; omega, fun a ha => ?_⟩
  have s := same_upd (o := .lst vs) ha
  exact c _ _ ⟨a, vs, rfl, i2.ne ha, upd_same, g.1.pot i2.1 (Same.but s), Nat.le_of_eq g.2⟩ (i2.same s) (ButD.trans r2 (Same.but s))
theorem Ew.catF {t u : TE} {k l : Nat} (e : Ew p D H0 σ t (LP p D S k)) (f : Ew p D H0 σ u (LP p D S l)) (hl : k + l ≤ 1000) : Ew p D H0 σ (tOp rCat t u) (LP p D S (k + l)) := by
  intro H i r Q c
  refine e H i r _ fun v H2 g i2 r2 => f H2 i2 (ButD.trans r r2) _ fun v3 H3 g3 i3 r3 => ?_
  obtain ⟨a, xs, rfl, nea, ha, ga, la⟩ := g.pot i2.1 r3
  obtain ⟨b, ys, rfl, neb, hb, gb, lb⟩ := g3
  refine ⟨a, b, xs, ys, rfl, rfl, ha, hb, by rw [sizeLine_eq]; omega, fun x hx => ?_⟩
  have s := same_upd (o := .lst (xs ++ ys)) hx
  exact c _ _ ⟨x, _, rfl, i3.ne hx, upd_same, (ga.app gb).pot i3.1 (Same.but s), by rw [List.length_append]; omega⟩ (i3.same s) (ButD.trans r2 (ButD.trans r3 (Same.but s)))
theorem Ew.lpV {i a : Nat} {xs : List V} {m : Nat} (i0 : Iv p D H0) (hs : σ[i]? = some (some (.ref a))) (ne : a ≠ p ∧ a ≠ D) (ha : H0 a = some (.lst xs)) (g : PL p D S H0 xs) (l : xs.length ≤ m) : Ew p D H0 σ (tVar i) (LP p D S m) :=
  fun H i r Q c => ⟨_, hs, c _ _ ⟨a, xs, rfl, ne, r _ _ ne.1 ha, g.pot i0.1 r, l⟩ i ButD.refl⟩
theorem Ew.pv {t : TE} {n E m : Nat} (e : Ew p D H0 σ t (LG p D n E m)) : Ew p D H0 σ t (PV p D (fun d => Ok2 d n (E + 1))) := e.imp fun v H g => g.pv
theorem Ew.fit {t : TE} {n E m : Nat} (e : Ew p D H0 σ t (LG p D n E m)) (h1 : n ≤ 90000 := by omega) (h2 : E ≤ 17 := by omega) : Ew p D H0 σ t (PV p D Fit2) := e.imp fun v H g => g.pv.mono fun d h => h.mono h1 (by omega)
theorem Ew.gl {t : TE} {n m E F : Nat} (e : Ew p D H0 σ t (fun v H => GL p D H [v] n E)) (h1 : n ≤ m) (h : E ≤ F) : Ew p D H0 σ t (fun v H => GL p D H [v] m F) := e.imp fun v H g => g.mono h1 h
theorem Ew.item {t : TE} {n E m : Nat} (e : Ew p D H0 σ t (LG p D n E m)) : Ew p D H0 σ t (fun v H => GL p D H [v] (n + 1) (E + 1)) := e.imp fun v H g => g.item
/-- an item by itself -/
theorem Ew.odd {t : TE} {n m E F : Nat} (e : Ew p D H0 σ t (fun v H => GL p D H [v] n E)) (h1 : n ≤ m := by omega) (h : E ≤ F := by omega) : Ew p D H0 σ t (PV p D (fun d => OkL [d] m F)) := e.imp fun v H g => by
  obtain ⟨ds, dv, ok⟩ := g
  match ds, dv, ok with
  | [d], dv, ok => exact ⟨d, dv, ok.mono h1 h⟩
  | [], dv, ok => exact nomatch dv.1
  | _ :: _ :: _, dv, ok => exact nomatch dv.1
theorem Ew.one {t : TE} {n E : Nat} (e : Ew p D H0 σ t (PV p D (fun d => OkL [d] n E))) : Ew p D H0 σ t (fun v H => GL p D H [v] n E) := e.imp fun v H ⟨d, dv, ok⟩ => ⟨_, dv, ok⟩
/-- a list of just so many -/
def LX (p D : Addr) (S : PyData → Prop) (m : Nat) (v : V) (H : Hp) : Prop := ∃ a vs, v = .ref a ∧ (a ≠ p ∧ a ≠ D) ∧ H a = some (.lst vs) ∧ PL p D S H vs ∧ vs.length = m
theorem Ew.lstX {ts : TA} {l : Nat} (es : EwA p D H0 σ ts (fun vs H => PL p D S H vs ∧ vs.length = l)) (hl : l ≤ 1000) : Ew p D H0 σ (tLst ts) (LX p D S l) := by
  intro H i r Q c
  refine es H i r _ fun vs H2 g i2 r2 => ⟨by rw [g.2, sizeLine_eq]; omega, fun a ha => ?_⟩
  have s := same_upd (o := .lst vs) ha
  exact c _ _ ⟨a, vs, rfl, i2.ne ha, upd_same, g.1.pot i2.1 (Same.but s), g.2⟩ (i2.same s) (ButD.trans r2 (Same.but s))
/-- the first of a list, the ones behind one -/
theorem Ew.takeV {K : PySem.W.Frag} {i k a j : Nat} {xs : List V} {n E m : Nat} (i0 : Iv p D H0) (hs : σ[i]? = some (some (.ref a))) (hk : σ[k]? = some (some (.int (j : Int)))) (ne : a ≠ p ∧ a ≠ D) (ha : H0 a = some (.lst xs)) (g : GL p D H0 xs n E) (l : xs.length ≤ m) (hj : j ≤ xs.length) :
    Ew p D H0 σ (tSl (rSlL K) (tVar i) tNoPart (tPart (tVar k))) (LG p D n E m) := by
  intro H i1 b1 Q c
  refine ⟨_, hs, _, hk, _, rfl, a, xs, rfl, .inl (.inl (b1 _ _ ne.1 ha)), fun U hU => ?_⟩
  rw [cutV_take _ hj]
  have s := same_upd (o := .lst (xs.take j)) hU
  exact c _ _ ⟨U, _, rfl, i1.ne hU, upd_same, (g.pot i0.1 (ButD.trans b1 (Same.but s))).take j, by rw [List.length_take]; omega⟩ (i1.same s) (Same.but s)
theorem Ew.dropV {K : PySem.W.Frag} {i k a j : Nat} {xs : List V} {n E m : Nat} (i0 : Iv p D H0) (hs : σ[i]? = some (some (.ref a))) (hk : σ[k]? = some (some (.int (j : Int)))) (ne : a ≠ p ∧ a ≠ D) (ha : H0 a = some (.lst xs)) (g : GL p D H0 xs n E) (l : xs.length ≤ m) (hj : j < xs.length) :
    Ew p D H0 σ (tSl (rSlL K) (tVar i) (tPart (tOp (rI0 fun i j => .int (i + j)) (tVar k) (tC (.int 1)))) tNoPart) (LG p D n E m) := by
  intro H i1 b1 Q c
  refine ⟨_, hs, _, hk, _, _, rfl, rfl, _, rfl, a, xs, rfl, .inl (.inl (b1 _ _ ne.1 ha)), fun U hU => ?_⟩
  rw [show ((j : Int) + 1) = ((j + 1 : Nat) : Int) by omega]
  rw [cutV_drop _ (by omega : j + 1 ≤ xs.length)]
  have s := same_upd (o := .lst (xs.drop (j + 1))) hU
  exact c _ _ ⟨U, _, rfl, i1.ne hU, upd_same, (g.pot i0.1 (ButD.trans b1 (Same.but s))).drop (j + 1), by rw [List.length_drop]; omega⟩ (i1.same s) (Same.but s)
theorem PL.put {H H' : Hp} {vs : List V} (hf : ∃ zs, H D = some (.lst zs)) (b : ButD D H H') (h : PL p D S H vs) : PL p D S H' vs := let ⟨d, x, y⟩ := h; ⟨d, x.put hf b, y⟩
theorem PL.fst {H : Hp} {vs : List V} (h : PL p D S H vs) : PL p p S H vs := let ⟨d, x, y⟩ := h; ⟨d, ⟨x.1, x.1⟩, y⟩
theorem PL.snd {H : Hp} {vs : List V} (hD : H D = none) (h : PL p p S H vs) : PL p D S H vs := let ⟨d, x, y⟩ := h; ⟨d, ⟨x.1, DVs.fresh (fun _ _ e => e) hD x.1⟩, y⟩
theorem GL.snd {H : Hp} {vs : List V} {n E : Nat} (hD : H D = none) (h : GL p p H vs n E) : GL p D H vs n E := let ⟨d, x, y⟩ := h; ⟨d, ⟨x.1, DVs.fresh (fun _ _ e => e) hD x.1⟩, y⟩
theorem PL.mem {H : Hp} {v : V} : ∀ {vs : List V}, PL p D S H vs → v ∈ vs → PV p D S v H
  | [], _, h => nomatch h
  | x :: r, ⟨ds, fn, ok⟩, h => by
    match ds, fn, ok with
    | [], fn, _ => exact nomatch fn.1
    | d :: ds, ⟨.cons a1 a2, .cons b1 b2⟩, ok =>
      rcases List.mem_cons.mp h with rfl | h
      · exact ⟨d, ⟨.cons a1 .nil, .cons b1 .nil⟩, ok d List.mem_cons_self⟩
      · exact PL.mem (vs := r) ⟨ds, ⟨a2, b2⟩, fun x hx => ok x (List.mem_cons_of_mem _ hx)⟩ h
theorem PotAt.put {H : Hp} {zs : List V} (hp : PotAt H p) (ne : D ≠ p) : PotAt (upd H D (.lst zs)) p := let ⟨x, y, e, z⟩ := hp; ⟨x, y, by rw [upd_ne ne.symm]; exact e, z⟩
theorem Ew.deep {t : TE} {n E m : Nat} (F : Nat) (e : Ew p D H0 σ t (LG p D n E m)) (h : E ≤ F) : Ew p D H0 σ t (LG p D n F m) := e.imp fun v H ⟨a, xs, e, ne, hx, g, l⟩ => ⟨a, xs, e, ne, hx, g.mono (Nat.le_refl _) h, l⟩
end
end L2.K22
end

section
set_option Elab.async false
set_option linter.all false
set_option maxRecDepth 100000
set_option maxHeartbeats 8000000
namespace L2.K22
open PySem PySem.Spec PyProof.Rows L2.Gd
/-! ### the items, weighed -/
theorem okI {m : Nat} (m60 : m ≤ 60) {d : PyData} (h : Int1 m d) (E : Nat) : OkL [d] 9 E := by
  obtain ⟨i, rfl, hi⟩ := h
  exact .int (by omega) (by omega) E
theorem okIs {m : Nat} (m60 : m ≤ 60) (E : Nat) : ∀ {is : List PyData}, (∀ x ∈ is, Int1 m x) → OkL is (9 * is.length) E
  | [], _ => OkL.nil.mono (Nat.le_refl _) (Nat.zero_le _)
  | x :: r, h => by
    have a := okI m60 (h x List.mem_cons_self) E
    have b := okIs m60 E (is := r) fun y hy => h y (List.mem_cons_of_mem _ hy)
    have c := a.app b
    rw [show 9 + 9 * r.length = 9 * (x :: r).length by rw [List.length_cons]; omega] at c
    exact c
/-- a lap whose weight as an item is known -/
theorem Ok2.lapW {d : PyData} {t : Int} {n D : Nat} (h : Ok2 d n D) (h1 : -1 ≤ t) (h2 : t ≤ 68) (hw : ∀ k, itemW (wt k) (.tuple [d, .int t]) ≤ n + 11) : OkL [.tuple [d, .int t]] (n + 11) (D + 1) := by
  have t8 := (small_int h1 h2).2.2
  have we := h.we
  refine ⟨fun k => by show itemW (wt k) _ + 0 ≤ _; exact hw k, fun x hx => ?_, ?_, fun x hx => ?_⟩
  · rw [List.mem_singleton.mp hx]
    exact .tup fun y hy => by
      rcases List.mem_cons.mp hy with rfl | hy
      · exact h.pl
      · rw [List.mem_singleton.mp hy]
        exact .int h1 h2
  · show (PyData.tuple [d, .int t]).weight + 1 + 0 ≤ _
    rw [weight_tup]
    show (d.weight + 1 + ((PyData.int t).weight + 1 + 0)) + 1 + 0 ≤ _
    omega
  · rw [List.mem_singleton.mp hx]
    exact depth_tup fun y hy => by
      rcases List.mem_cons.mp hy with rfl | hy
      · exact h.dp
      · rw [List.mem_singleton.mp hy]
        simp [PyData.depth]
theorem okA {m : Nat} (m60 : m ≤ 60) {d : PyData} (h : ItemA m d) : OkL [d] 47 2 := by
  have hw := fun k => wtA k h
  rcases h with h | ⟨is, t, rfl, t0, t2, hi, hl⟩
  · exact (okI m60 h 2).mono (by decide) (Nat.le_refl _)
  · have a := ((okIs m60 0 hi).mono (m := 36) (by omega) (Nat.le_refl _)).lst
    exact a.lapW (by omega) (by omega) fun k => Nat.le_trans (hw k) (by decide)
theorem okInner {m : Nat} (m60 : m ≤ 60) {ins : List PyData} (h : InnerOk m ins) : OkL ins 83 2 := by
  obtain ⟨a, b, rfl, al, bl, ha, hb⟩ := h
  have hb2 := (okIs m60 2 hb).mono (m := 36) (by omega) (Nat.le_refl _)
  match a, al, ha with
  | [], _, _ => exact hb2.mono (by decide) (Nat.le_refl _)
  | [x], _, ha => exact (okA m60 (ha x (by simp))).app hb2
theorem okX {m : Nat} (m60 : m ≤ 60) {X : PyData} {ins : List PyData} (hX : X = .list ins ∨ X = .tuple ins) (hi : InnerOk m ins) : Ok2 X 83 3 := by
  rcases hX with rfl | rfl
  · exact (okInner m60 hi).lst
  · exact (okInner m60 hi).tup
theorem okB {m : Nat} (m60 : m ≤ 60) {d : PyData} (h : ItemB m d) : OkL [d] 94 4 := by
  have hw := fun k => wtB k h
  rcases h with h | ⟨X, ins, t, rfl, t0, t3, hX, hi⟩
  · exact (okI m60 h 4).mono (by decide) (Nat.le_refl _)
  · exact (okX m60 hX hi).lapW (by omega) (by omega) fun k => Nat.le_trans (hw k) (by decide)
theorem okBs {m : Nat} (m60 : m ≤ 60) : ∀ {is : List PyData}, (∀ x ∈ is, ItemB m x) → OkL is (94 * is.length) 4
  | [], _ => OkL.nil.mono (Nat.le_refl _) (Nat.zero_le _)
  | x :: r, h => by
    have a := okB m60 (h x List.mem_cons_self)
    have b := okBs m60 (is := r) fun y hy => h y (List.mem_cons_of_mem _ hy)
    have c := a.app b
    rw [show 94 + 94 * r.length = 94 * (x :: r).length by rw [List.length_cons]; omega] at c
    exact c
theorem itemX {m : Nat} (m60 : m ≤ 60) {X : PyData} {ins : List PyData} (hX : X = .list ins ∨ X = .tuple ins) (hi : InnerOk m ins) (k : Nat) : itemW (wt k) X ≤ 184 := by
  have it : ∀ y ∈ ins, ItemA m y := by
    obtain ⟨a, b, rfl, _, _, ha, hb⟩ := hi
    exact fun y hy => (List.mem_append.mp hy).elim (ha y) fun h => .inl (hb y h)
  rcases hX with rfl | rfl
  · exact (by decide : 1 ≤ 184)
  · unfold itemW
    split
    · rename_i x t e
      cases e
      have wx : wt k x ≤ 2 := by
        rcases it x (by simp) with ⟨i, rfl, _⟩ | ⟨is, u, rfl, _⟩
        · cases k <;> exact Nat.zero_le _
        · cases k with
          | zero => exact Nat.zero_le _
          | succ k => exact Nat.le_refl _
      have ht : t.toNat < m := by
        rcases it (.int t) (by simp) with ⟨i, e, hi⟩ | ⟨is, u, e, _⟩
        · cases e
          omega
        · exact nomatch e
      have : (t.toNat + 1) * (wt k x + 1) ≤ 60 * 3 := Nat.mul_le_mul (by omega) (by omega)
      omega
    · decide
theorem okXt {m : Nat} (m60 : m ≤ 60) {X : PyData} {ins : List PyData} {t : Int} (hX : X = .list ins ∨ X = .tuple ins) (hi : InnerOk m ins) (t0 : 0 ≤ t) (t3 : t ≤ 3) : OkL [X, .int t] 193 3 :=
  (OkL.one (n := 183) ((okX m60 hX hi).mono (by decide) (Nat.le_refl _)) fun k => itemX m60 hX hi k).app (.int (by omega) (by omega) 3)
mutual
theorem DV.dp {K : PySem.W.Frag} {p : Addr} {H : Hp} : ∀ {v : V} {d : PyData}, DV p H v d → d.hasDict = false → Dp K H v d
  | _, _, .non, _ => .non
  | _, _, .bl b, _ => .bl b
  | _, _, .int i, _ => .int i
  | _, _, .str x, _ => .str x
  | _, _, .lst ne h t, e => .lst (.inl (.inl h)) (DVs.dp t (by simpa only [PyData.hasDict] using e))
  | _, _, .tup h t, e => .tup (.inl (.inl h)) (DVs.dp t (by simpa only [PyData.hasDict] using e))
  | _, _, .dct h, e => absurd e (by simp [PyData.hasDict])
theorem DVs.dp {K : PySem.W.Frag} {p : Addr} {H : Hp} : ∀ {vs : List V} {ds : List PyData}, DVs p H vs ds → PyData.hasDictAll ds = false → DpAll K H vs ds
  | _, _, .nil, _ => .nil
  | _, _, .cons h t, e => by
    simp only [PyData.hasDictAll, Bool.or_eq_false_iff] at e
    exact .cons (DV.dp h e.1) (DVs.dp t e.2)
end
theorem eqv_nil (ds : List PyData) : PyData.eqv (.list ds) (.list []) = decide (ds = []) := by
  cases ds with
  | nil => rfl
  | cons x r => rfl
section
variable {P : Program} {w : World} {K : PySem.W.Frag} {mg : Str → Option Value} {base : Heap} {C : Addr}
def spNe : Sp := fun vs H Q _ => ∃ (p a : Addr) (xs : List V) (its : List PyData) (m : Nat), vs = [.ref p, .ref a, .int m] ∧ PotAt H p ∧ a ≠ p ∧ H a = some (.lst xs) ∧ DVs p H xs its ∧ (∀ x ∈ its, ItemB m x) ∧ its.length ≤ 12 ∧ (∀ k, (its.map (itemW (wt k))).sum ≤ 240) ∧ 1 ≤ m ∧ m ≤ 60 ∧
  ∀ (l : Addr) (vs : List V) (ds : List PyData) (H' : Hp), l ≠ p → H' l = some (.lst vs) → DVs p H' vs ds → (∀ d ∈ ds, Fit2 d) → ds.length ≤ 40 → PotAt H' p → ButD p H H' → Q (.ref l) H'
def NNe : List Str := ["_law_pot_here", "_law_items_here", "_law_many", "_law_found", "_law_at", "_law_one", "_law_odd", "_law_turn"]
theorem scNe : FnScope NNe ["_law_pot_here", "_law_items_here", "_law_many"] (defScope (top 47)) := ⟨rfl, rfl, rfl, by decide +kernel, rfl, by decide +kernel, by decide +kernel⟩
theorem ok_ne {f : Addr} {fd : FuncData} (F : Fun K "_law_near" "_law_near" (top 47) f fd) (n : Nm mg) (GD : Fn P w K mg base 1 "_law_draw" ["_law_pot_here", "_law_many"] spDraw) (GP : Fn P w K mg base 2 "_law_pick" ["_law_pot_here", "_law_some"] spPick)
    (GI : Fn P w K mg base 1 "_law_is_whole" ["_law_value"] spInt2) : FnOk P w K mg base CX0 4 f fd ["_law_pot_here", "_law_items_here", "_law_many"] spNe := by
  refine F.ok scNe (fun vs H Q E h => ?_) (fun cdv A outer s H vs Q E hr h => ?_)
  · obtain ⟨p, a, xs, its, m, rfl, _⟩ := h
    rfl
  · obtain ⟨p, a, xs, its, m, rfl, hp, nap, ha, dv, iok, il, iw, m1, m60, q⟩ := h
    have N := scNe.nd
    have r1 := hr.mono (k := 3) (j := 1) (by decide)
    have r2 := hr.mono (k := 3) (j := 2) (by decide)
    refine ⟨_, pss_cons (ps_set (i := 3) N rfl (.inl rfl) (pe_lst (pa_cons (pv 1) (pa_cons (pe_callTy call_tuple_of (by rfl) n.tuple (by decide +kernel) (pa_cons (pv 1) pa_nil)) (pa_cons (pe_op op_cat (pv 1) (pe_lst (pa_cons (pv 2) pa_nil))) (pa_cons (pe_lst (pa_cons (pe_tup (pa_cons (pv 1) (pa_cons pe_int pa_nil))) pa_nil)) (pa_cons (pe_lst (pa_cons (pe_tup (pa_cons (pv 1) (pa_cons pe_int pa_nil))) pa_nil)) (pa_cons (pe_lst (pa_cons (pe_tup (pa_cons (pe_lst (pa_cons (pe_tup (pa_cons (pe_lst (pa_cons (pe_tup (pa_cons (pv 1) (pa_cons pe_int pa_nil))) pa_nil)) (pa_cons pe_int pa_nil))) pa_nil)) (pa_cons pe_int pa_nil))) pa_nil)) (pa_cons (pe_lst (pa_cons (pe_tup (pa_cons (pe_lst (pa_cons (pe_tup (pa_cons (pe_lst (pa_cons (pe_tup (pa_cons (pe_lst (pa_cons (pe_tup (pa_cons (pv 1) (pa_cons pe_int pa_nil))) pa_nil)) (pa_cons pe_int pa_nil))) pa_nil)) (pa_cons pe_int pa_nil))) pa_nil)) (pa_cons pe_int pa_nil))) pa_nil)) pa_nil)))))))))
      (pss_cons (ps_set (i := 3) N rfl (.inl rfl) (pe_op op_cat (pv 3) (pe_lst (pa_cons (pe_slice sl_list (pv 1) (po_some pe_int) po_none) (pa_cons (pe_revL (pv 1)) (pa_cons (pe_op op_cat (pv 1) (pv 1)) (pa_cons (pe_lst (pa_cons (pe_tup (pa_cons (pv 1) (pa_cons pe_int pa_nil))) pa_nil)) (pa_cons (pe_op op_cat (pv 1) (pe_lst (pa_cons (pe_fn GD r1 (pa_cons (pv 0) (pa_cons (pv 2) pa_nil))) pa_nil))) (pa_cons (pe_lst (pa_cons (pe_tup (pa_cons (pe_callTy call_tuple_of (by rfl) n.tuple (by decide +kernel) (pa_cons (pv 1) pa_nil)) (pa_cons pe_int pa_nil))) (pa_cons pe_int pa_nil))) pa_nil)))))))))
      (pss_cons (ps_if (pt_cmpR (op_neD hr.units) (pv 1) (pe_lst pa_nil) (nomark _))
        (pss_cons (ps_set (i := 4) N rfl (.inr rfl) (pe_fn GD r1 (pa_cons (pv 0) (pa_cons (pe_callB call_len_seq (by rfl) n.len PySem.boot_len (pa_cons (pv 1) pa_nil)) pa_nil))))
        (pss_cons (ps_set (i := 5) N rfl (.inl rfl) (pe_ix ix_list (pv 1) (pv 4) (fun _ _ => rfl)))
        (pss_cons (ps_set (i := 6) N rfl (.inr rfl) (pe_lst (pa_cons pe_bl (pa_cons pe_non (pa_cons (pe_un un_neg pe_int) (pa_cons (pv 2) (pa_cons pe_str (pa_cons (pe_lst (pa_cons pe_int pa_nil)) (pa_cons (pe_tup (pa_cons pe_int (pa_cons pe_int pa_nil))) (pa_cons (pe_tup (pa_cons (pe_lst (pa_cons pe_int pa_nil)) (pa_cons pe_bl pa_nil))) (pa_cons (pe_tup (pa_cons (pe_lst (pa_cons pe_int pa_nil)) (pa_cons (pe_un un_neg pe_int) pa_nil))) (pa_cons (pe_tup (pa_cons (pe_lst (pa_cons pe_int pa_nil)) (pa_cons pe_int (pa_cons pe_int pa_nil)))) (pa_cons (pe_lst (pa_cons (pe_lst (pa_cons pe_int pa_nil)) (pa_cons pe_int pa_nil))) (pa_cons (pe_fn GD r1 (pa_cons (pv 0) (pa_cons (pv 2) pa_nil))) (pa_cons (pe_tup (pa_cons (pe_lst (pa_cons (pe_fn GD r1 (pa_cons (pv 0) (pa_cons (pv 2) pa_nil))) pa_nil)) (pa_cons pe_int pa_nil))) pa_nil)))))))))))))))
        (pss_cons (ps_set (i := 3) N rfl (.inl rfl) (pe_op op_cat (pv 3) (pe_lc (own := [("_law_turn", 7)]) (g := gName 7) (tt := tYes) rfl N (pi_range1 (by rfl) n.range (pa_cons pe_int pa_nil)) (blkOk_by (N := NNe) (sc := defScope (top 47)) (by decide +kernel)) (fun _ _ _ _ _ => pg_name (i := 7) N rfl (.inl rfl)) (fun _ _ _ _ _ => pts_nil) (fun _ _ _ _ _ => pe_op op_cat (pe_op op_cat (pe_slice (r := rSlL K) sl_list (pv 1) po_none (po_some (pv 4))) (pe_lst (pa_cons (pe_fn GP r2 (pa_cons (pv 0) (pa_cons (pv 6) pa_nil))) pa_nil))) (pe_slice (r := rSlL K) sl_list (pv 1) (po_some (pe_op op_add (pv 4) pe_int)) po_none)))))
        (pss_one (ps_if (pt_not (pt_val (pe_fn GI r1 (pa_cons (pv 5) pa_nil))))
          (pss_cons (ps_set (i := 3) N rfl (.inl rfl) (pe_op op_cat (pv 3) (pe_lst (pa_cons (pe_op op_cat (pe_op op_cat (pe_slice sl_list (pv 1) po_none (po_some (pv 4))) (pe_lst (pa_cons (pe_tup (pa_cons (pe_ix ix_tup (pv 5) pe_int (fun _ _ => rfl)) (pa_cons (pe_op op_add (pe_ix ix_tup (pv 5) pe_int (fun _ _ => rfl)) pe_int) pa_nil))) pa_nil))) (pe_slice sl_list (pv 1) (po_some (pe_op op_add (pv 4) pe_int)) po_none)) (pa_cons (pe_op op_cat (pe_op op_cat (pe_slice sl_list (pv 1) po_none (po_some (pv 4))) (pe_lst (pa_cons (pe_tup (pa_cons (pe_callTy call_list_of (by rfl) n.list (by decide +kernel) (pa_cons (pv 5) pa_nil)) (pa_cons pe_int pa_nil))) pa_nil))) (pe_slice sl_list (pv 1) (po_some (pe_op op_add (pv 4) pe_int)) po_none)) pa_nil))))) (pss_one (ps_expr (pe_bm PySem.F.plainAttrs_list PySem.F.slot_list_append PySem.F.type_list_append mt_append (pv 3) (pa_cons (pe_op op_cat (pe_op op_cat (pe_slice sl_list (pv 1) po_none (po_some (pv 4))) (pe_lst (pa_cons (pe_callTy call_list_of (by rfl) n.list (by decide +kernel) (pa_cons (pv 5) pa_nil)) pa_nil))) (pe_slice sl_list (pv 1) (po_some (pe_op op_add (pv 4) pe_int)) po_none)) pa_nil))))) pss_nil)))))) pss_nil)
      (pss_one (ps_ret (pv 3))))), ?_⟩
    have i0 : Iv p p H := ⟨hp, hp.lst⟩
    have gx : GL p p H xs 1128 4 := ⟨its, ⟨dv, dv⟩, (okBs m60 iok).mono (by omega) (Nat.le_refl _)⟩
    have xl : xs.length ≤ 12 := by have := dv.len; omega
    -- the first seven
    have tupE : ∀ (H1 : Hp) (Q : VK), Iv p p H1 → ButD p H H1 → (∀ T, H1 T = none → PV p p (fun d => Ok2 d 1128 5) (.ref T) (upd H1 T (.tup xs)) → Iv p p (upd H1 T (.tup xs)) → ButD p H1 (upd H1 T (.tup xs)) → Q (.ref T) (upd H1 T (.tup xs))) → ∀ T, H1 T = none → Q (.ref T) (upd H1 T (.tup xs)) := by
      intro H1 Q i1 b1 k T hT
      have s := same_upd (o := .tup xs) hT
      obtain ⟨ds, fn, ok⟩ := gx.pot i0.1 (ButD.trans b1 (Same.but s))
      exact k T hT ⟨_, FN.tup fn upd_same, ok.tup⟩ (i1.same s) (Same.but s)
    refine seqV (Good := fun σ2 H2 => ∃ v, LP p p Fit2 7 v H2 ∧ PotAt H2 p ∧ ButD p H H2 ∧ σ2 = [some (.ref p), some (.ref a), some (.int m), some v, none, none, none, none]) ?_ ?_
    · intro nx hnx
      show tLst _ _ _ _
      have L1 : Ew p p H [some (.ref p), some (.ref a), some (.int m), none, none, none, none, none] (tVar 1) (LG p p 1128 4 12) := Ew.lstV i0 rfl ⟨nap, nap⟩ ha gx xl
      have M1 : Ew p p H [some (.ref p), some (.ref a), some (.int m), none, none, none, none, none] (tVar 2) (fun v H => GL p p H [v] 9 4) := Ew.intV rfl (by omega) (by omega) 4
      have W1 := Ew.lst (EwA.cons (Ew.lap 1 (Ew.pv L1) 1 (by decide) (by decide) (by decide)) (EwA.nil 6)) (by decide)
      have W2 := Ew.lst (EwA.cons (Ew.lap 1 (Ew.pv W1) 1 (by decide) (by decide) (by decide)) (EwA.nil 8)) (by decide)
      have W3 := Ew.lst (EwA.cons (Ew.lap 1 (Ew.pv W2) 1 (by decide) (by decide) (by decide)) (EwA.nil 10)) (by decide)
      have W4 := Ew.lst (EwA.cons (Ew.lap 1 (Ew.pv W3) 1 (by decide) (by decide) (by decide)) (EwA.nil 12)) (by decide)
      have W0 := Ew.lst (EwA.cons (Ew.lap 0 (Ew.pv L1) 0 (by decide) (by decide) (by decide)) (EwA.nil 6)) (by decide)
      have A1 := Ew.cat L1 (Ew.lst (EwA.cons M1 (EwA.nil 4)) (by decide)) (by decide)
      refine Ew.run (D := p) (H0 := H) (G := LP p p Fit2 7) (Ew.lstF (EwA.consF (L1.fit (by decide) (by decide)) (EwA.consF ?_ (EwA.consF (A1.fit (by decide) (by decide)) (EwA.consF (W1.fit (by decide) (by decide)) (EwA.consF (W0.fit (by decide) (by decide)) (EwA.consF (W3.fit (by decide) (by decide)) (EwA.consF (W4.fit (by decide) (by decide)) EwA.nilF))))))) (by decide)) i0 ButD.refl (fun v H2 g i2 r2 => hnx _ _ ⟨v, g, i2.1, r2, rfl⟩)
      intro H1 i1 b1 Q c
      refine ⟨_, rfl, a, xs, rfl, .inl ⟨.inl (.inl (b1 _ _ nap ha)), tupE H1 Q i1 b1 fun T hT pv iT bT => c _ _ (pv.mono fun d h => h.mono (by decide) (by decide)) iT bT⟩⟩
    rintro _ H2 ⟨v, g2, hp2, b2, rfl⟩
    have ha2 := b2 _ _ nap ha
    have i2 : Iv p p H2 := i0.but hp2 b2
    have gx2 := gx.pot hp b2
    -- six more
    refine seqV (Good := fun σ2 H3 => ∃ v, LP p p Fit2 13 v H3 ∧ PotAt H3 p ∧ ButD p H H3 ∧ σ2 = [some (.ref p), some (.ref a), some (.int m), some v, none, none, none, none]) ?_ ?_
    · intro nx hnx
      show tOp rCat _ _ _ _ _
      have L1 : Ew p p H2 [some (.ref p), some (.ref a), some (.int m), some v, none, none, none, none] (tVar 1) (LG p p 1128 4 12) := Ew.lstV i2 rfl ⟨nap, nap⟩ ha2 gx2 xl
      have V1 : Ew p p H2 [some (.ref p), some (.ref a), some (.int m), some v, none, none, none, none] (tVar 3) (LP p p Fit2 7) := fun H1 i1 r1 Q c => ⟨_, rfl, c _ _ (g2.pot i2.1 r1) i1 ButD.refl⟩
      have W2 := Ew.lst (EwA.cons (Ew.lap 2 (Ew.pv L1) 2 (by decide) (by decide) (by decide)) (EwA.nil 6)) (by decide)
      refine Ew.run (D := p) (H0 := H2) (G := LP p p Fit2 13) (Ew.catF V1 (Ew.lstF (EwA.consF ?_ (EwA.consF ?_ (EwA.consF ((Ew.cat L1 L1 (by decide)).fit (by decide) (by decide)) (EwA.consF (W2.fit (by decide) (by decide)) (EwA.consF (Ew.fit (Ew.cat L1 (Ew.lst (EwA.cons (n := 9) ?_ (EwA.nil 4)) (by decide)) (by decide)) (by decide) (by decide)) (EwA.consF (Ew.fit (Ew.lst (EwA.cons (Ew.lap (n := 1128) (E := 5) 3 ?_ 3 (by decide) (by decide) (by decide)) (EwA.cons (Ew.int (by decide) (by decide) 6) (EwA.nil 6))) (by decide)) (by decide) (by decide)) EwA.nilF)))))) (by decide)) (by decide)) i2 ButD.refl (fun v H3 g i3 r3 => hnx _ _ ⟨v, g, i3.1, ButD.trans b2 r3, rfl⟩)
      · intro H1 i1 b1 Q c
        have ha1 := b1 _ _ nap ha2
        refine ⟨_, rfl, _, rfl, a, xs, rfl, .inl (.inl ha1), fun U hU => ?_⟩
        have s := same_upd (o := .lst (cutV xs (some 1) none)) hU
        have e : cutV xs (some 1) none = xs.drop 1 := by
          cases xs with
          | nil => rfl
          | cons x r => exact cutV_drop (x :: r) (i := 1) (by simp)
        have g : LG p p 1128 4 12 (.ref U) (upd H1 U (.lst (cutV xs (some 1) none))) := ⟨U, _, rfl, i1.ne hU, upd_same, by rw [e]; rw [← e]; rw [e] at s; rw [e]; exact ((gx2.pot i2.1 b1).pot i1.1 (Same.but s)).drop 1, by rw [e, List.length_drop]; omega⟩
        exact c _ _ (g.pv.mono fun d h => h.mono (by decide) (by decide)) (i1.same s) (Same.but s)
      · intro H1 i1 b1 Q c
        have ha1 := b1 _ _ nap ha2
        refine ⟨_, rfl, a, xs, rfl, .inl (.inl ha1), fun U hU => ?_⟩
        have s := same_upd (o := .lst xs.reverse) hU
        have g : LG p p 1128 4 12 (.ref U) (upd H1 U (.lst xs.reverse)) := ⟨U, _, rfl, i1.ne hU, upd_same, ((gx2.pot i2.1 b1).pot i1.1 (Same.but s)).rev, by rw [List.length_reverse]; exact xl⟩
        exact c _ _ (g.pv.mono fun d h => h.mono (by decide) (by decide)) (i1.same s) (Same.but s)
      · intro H1 i1 b1 Q c
        exact ⟨_, rfl, _, rfl, p, m, rfl, i1.1, by omega, by omega, fun d H' d0 dm hp' b' => c _ _ (.int (by omega) (by omega) 4) (i1.but hp' b') b'⟩
      · intro H1 i1 b1 Q c
        refine ⟨_, rfl, a, xs, rfl, .inl ⟨.inl (.inl (b1 _ _ nap ha2)), tupE H1 Q i1 (ButD.trans b2 b1) fun T hT pv iT bT => c _ _ pv iT bT⟩⟩
    rintro _ H3 ⟨v3, g3, hp3, b3, rfl⟩
    obtain ⟨l3, vs3, rfl, ne3, hl3, pl3, vl3⟩ := g3
    have ha3 := b3 _ _ nap ha
    have i3 : Iv p p H3 := i0.but hp3 b3
    have gx3 := gx.pot hp b3
    have dv3 := dv.but hp b3
    have okx := (okBs m60 iok).mono (m := 1128) (by omega) (Nat.le_refl _)
    refine seqV (Good := fun σ2 H4 => ∃ (l : Addr) (vs : List V) (v4 v5 v6 : Option V), l ≠ p ∧ H4 l = some (.lst vs) ∧ PL p p Fit2 H4 vs ∧ vs.length ≤ 40 ∧ PotAt H4 p ∧ ButD p H H4 ∧ σ2 = [some (.ref p), some (.ref a), some (.int m), some (.ref l), v4, v5, v6, none]) ?_ ?_
    · intro nx hnx
      refine ⟨_, rfl, (by show 0 ≤ sizeLine; decide), fun e he => ?_⟩
      have s4 := same_upd (o := .lst []) he
      have hp4 := hp3.same s4
      have b4 : ButD p H _ := ButD.trans b3 (Same.but s4)
      refine ⟨.list its, .list [], .lst (.inl (.inl (s4 _ _ ha3))) (DVs.dp (dv3.same s4) (pl_all okx.pl).2.2.1), .lst (.inl (.inl upd_same)) .nil, okx.lst.shaped (by decide), by decide +kernel, !decide (its = []), congrArg (fun b => V.bl (!b)) (eqv_nil _), ?_⟩
      by_cases hi : its = []
      · rw [decide_eq_true hi]
        exact iteF (hnx _ _ ⟨l3, vs3, none, none, none, ne3.1, s4 _ _ hl3, pl3.pot hp3 (Same.but s4), by omega, hp4, b4, rfl⟩)
      rw [decide_eq_false hi]
      have x0 : 0 < xs.length := by rw [dv.len]; exact List.length_pos_iff.mpr hi
      refine iteT ?_
      -- at
      refine seqV (Good := fun σ2 H5 => ∃ j : Nat, j < xs.length ∧ PotAt H5 p ∧ ButD p H3 H5 ∧ σ2 = [some (.ref p), some (.ref a), some (.int m), some (.ref l3), some (.int j), none, none, none]) ?_ ?_
      · intro nx2 hnx2
        refine ⟨_, rfl, _, rfl, a, xs, rfl, .inl (.inl (.inl (s4 _ _ ha3))), p, (xs.length : Int), rfl, hp4, by omega, by omega, fun d H5 d0 d1 hp5 b5 => ?_⟩
        obtain ⟨k, rfl⟩ : ∃ k : Nat, d = k := ⟨d.toNat, by omega⟩
        exact hnx2 _ _ ⟨k, by omega, hp5, ButD.trans (Same.but s4) b5, rfl⟩
      rintro _ H5 ⟨j, jx, hp5, b5, rfl⟩
      have b05 : ButD p H H5 := ButD.trans b3 b5
      have ha5 := b05 _ _ nap ha
      have i5 : Iv p p H5 := i0.but hp5 b05
      have gx5 := gx.pot hp b05
      have dv5 := dv.but hp b05
      have hl5 := b5 _ _ ne3.1 hl3
      have pl5 := pl3.pot hp3 b5
      have ex : xs[j]? = some xs[j] := List.getElem?_eq_getElem jx
      obtain ⟨d1, ed1, dd1⟩ := dv5.at ex
      have ib1 := iok d1 (List.mem_of_getElem? ed1)
      -- one
      refine seqV (Good := fun σ2 H6 => H5 = H6 ∧ σ2 = [some (.ref p), some (.ref a), some (.int m), some (.ref l3), some (.int j), some xs[j], none, none]) ?_ ?_
      · intro nx2 hnx2
        exact ⟨_, rfl, _, rfl, a, xs, _, _, rfl, rfl, .inl (.inl ha5), atI_nat ex, hnx2 _ _ ⟨rfl, rfl⟩⟩
      rintro _ _ ⟨rfl, rfl⟩
      -- odd
      refine seqV (Good := fun σ2 H6 => ∃ v, LX p p (fun d => OkL [d] 60 4) 13 v H6 ∧ PotAt H6 p ∧ ButD p H5 H6 ∧ σ2 = [some (.ref p), some (.ref a), some (.int m), some (.ref l3), some (.int j), some xs[j], some v, none]) ?_ ?_
      · intro nx2 hnx2
        show tLst _ _ _ _
        have Z : ∀ E, Ew p p H5 [some (.ref p), some (.ref a), some (.int m), some (.ref l3), some (.int j), some xs[j], none, none] (tC (.int 0)) (fun v H => GL p p H [v] 9 E) := fun E => Ew.int (by decide) (by decide) E
        have O : ∀ E, Ew p p H5 [some (.ref p), some (.ref a), some (.int m), some (.ref l3), some (.int j), some xs[j], none, none] (tC (.int 1)) (fun v H => GL p p H [v] 9 E) := fun E => Ew.int (by decide) (by decide) E
        have LZ : Ew p p H5 [some (.ref p), some (.ref a), some (.int m), some (.ref l3), some (.int j), some xs[j], none, none] (tLst (tCons (tC (.int 0)) tNil)) (LG p p 9 0 1) := Ew.lst (EwA.cons (Z 0) (EwA.nil 0)) (by decide)
        have LD : Ew p p H5 [some (.ref p), some (.ref a), some (.int m), some (.ref l3), some (.int j), some xs[j], none, none] _ (fun v H => GL p p H [v] 9 0) := fun H1 i1 b1 Q c => show tCall spDraw [] E0 (tCons (tVar 0) (tCons (tVar 2) tNil)) _ _ _ from
          ⟨_, rfl, _, rfl, p, m, rfl, i1.1, by omega, by omega, fun d H' d0 dm hp' b' => c _ _ (.int (by omega) (by omega) 0) (i1.but hp' b') b'⟩
        have NG : ∀ (H : Hp) (Q : VK), Iv p p H → ButD p H5 H → (∀ (z : Int) H2, -1 ≤ z → z ≤ (0 : Nat) → Iv p p H2 → ButD p H H2 → Q (.int z) H2) → (tUn (rU fun i => .int (-i)) (tC (.int 1))) [some (.ref p), some (.ref a), some (.int m), some (.ref l3), some (.int j), some xs[j], none, none] H Q := fun H Q i r k => ⟨1, rfl, k (-1) H (by decide) (by decide) i ButD.refl⟩
        refine Ew.run (D := p) (H0 := H5) (G := LX p p (fun d => OkL [d] 60 4) 13) (Ew.lstX (EwA.consF ?_ (EwA.consF ?_ (EwA.consF ?_ (EwA.consF ?_ (EwA.consF ?_ (EwA.consF (LZ.item.odd (by decide) (by decide)) (EwA.consF (Ew.odd (Ew.lap (n := 8) (E := 0) 1 (Ew.intD (by decide) (by decide) 0) 1 (by decide) (by decide) (by decide)) (by decide) (by decide)) (EwA.consF (Ew.odd (Ew.tupB LZ.item) (by decide) (by decide)) (EwA.consF ?_ (EwA.consF (Ew.odd (Ew.tup3 LZ.item (by decide) (by decide) (by decide) (by decide)) (by decide) (by decide)) (EwA.consF (Ew.odd (Ew.item (Ew.lst (EwA.cons LZ.item (EwA.cons (O 1) (EwA.nil 1))) (by decide))) (by decide) (by decide)) (EwA.consF (LD.odd (by decide) (by decide)) (EwA.consF (Ew.odd (Ew.lap 2 (Ew.pv (Ew.lst (EwA.cons LD (EwA.nil 0)) (by decide))) 2 (by decide) (by decide) (by decide)) (by decide) (by decide)) EwA.nilF))))))))))))) (by decide)) i5 ButD.refl (fun v H6 g i6 r6 => ?_)
        · exact fun H1 i1 b1 Q c => c _ _ ⟨_, FN.bool _, (OkL.bool true 4).mono (by decide) (by decide)⟩ i1 ButD.refl
        · exact fun H1 i1 b1 Q c => c _ _ ⟨_, ⟨.cons .non .nil, .cons .non .nil⟩, (OkL.non 4).mono (by decide) (by decide)⟩ i1 ButD.refl
        · exact fun H1 i1 b1 Q c => NG H1 Q i1 b1 fun z H2 z1 z2 i2 b2 => c _ _ ⟨_, FN.int z, (OkL.int z1 (by omega) 4).mono (by decide) (by decide)⟩ i2 b2
        · exact fun H1 i1 b1 Q c => ⟨_, rfl, c _ _ ⟨_, FN.int _, (OkL.int (by omega) (by omega) 4).mono (by decide) (by decide)⟩ i1 ButD.refl⟩
        · exact fun H1 i1 b1 Q c => c _ _ ⟨_, ⟨.cons (.str _) .nil, .cons (.str _) .nil⟩, (OkL.str0 4).mono (by decide) (by decide)⟩ i1 ButD.refl
        · exact Ew.odd (Ew.lapE (c := 0) LZ.pv NG (by decide)) (by decide) (by decide)
        · exact hnx2 _ _ ⟨v, g, i6.1, r6, rfl⟩
      rintro _ H6 ⟨v, ⟨l6, vs6, rfl, ne6, hl6, pl6, vl6⟩, hp6, b6, rfl⟩
      have b06 : ButD p H H6 := ButD.trans b05 b6
      have ha6 := b06 _ _ nap ha
      have i6 : Iv p p H6 := i0.but hp6 b06
      have gx6 := gx.pot hp b06
      have hl6' := b6 _ _ ne3.1 hl5
      have pl6' := pl5.pot hp5 b6
      -- four more
      refine seqV (Good := fun σ2 H7 => ∃ (F : Addr) (vs : List V), F ≠ p ∧ H7 F = some (.lst vs) ∧ PL p p Fit2 H7 vs ∧ vs.length ≤ 17 ∧ PotAt H7 p ∧ ButD p H6 H7 ∧ σ2 = [some (.ref p), some (.ref a), some (.int m), some (.ref F), some (.int j), some xs[j], some (.ref l6), none]) ?_ ?_
      · intro nx2 hnx2
        refine ⟨_, rfl, 4, rfl, by decide, by decide, fun D hD => ?_⟩
        have nDp := hp6.ne hD
        refine lc_gen (n := 4) (fun i H7 => PotAt H7 p ∧ (∀ b o, b ≠ p → b ≠ D → H6 b = some o → H7 b = some o) ∧ ∃ ws, H7 D = some (.lst ws) ∧ ws.length = i ∧ PL p D Fit2 H7 ws) ⟨hp6.same (same_upd hD), fun b o _ _ e => same_upd hD b o e, [], upd_same, rfl, .nil⟩ ?_ ?_
        · rintro H7 ⟨hp7, b7, ws, hD7, wl, plw⟩
          have keep : ButD p H6 H7 := fun b o ne e => b7 _ _ ne (ne_of_none e hD) e
          refine ⟨Nat.le_refl _, l3, D, vs3, ws, rfl, rfl, keep _ _ ne3.1 hl6', hD7, by rw [sizeLine_eq]; omega, fun F hF => ?_⟩
          have s8 := same_upd (o := .lst (vs3 ++ ws)) hF
          exact hnx2 _ _ ⟨F, _, hp7.ne hF, upd_same, PL.pot hp7 (Same.but s8) (PL.app (pl6'.pot hp6 keep) plw.fst), by rw [List.length_append]; omega, hp7.same s8, ButD.trans keep (Same.but s8), rfl⟩
        · rintro i H7 hi ⟨hp7, b7, ws, hD7, wl, plw⟩
          have keep : ButD p H6 H7 := fun b o ne e => b7 _ _ ne (ne_of_none e hD) e
          have i7 : Iv p D H7 := ⟨hp7, _, hD7⟩
          have naD : a ≠ D := ne_of_none ha6 hD
          have nlD : l6 ≠ D := ne_of_none hl6 hD
          have gx7 : GL p D H7 xs 1128 4 := (gx6.snd hD).pot hp6 keep
          have pl7 : PL p D (fun d => OkL [d] 60 4) H7 vs6 := (pl6.snd hD).pot hp6 keep
          have ha7 := keep _ _ nap ha6
          have hl7 := keep _ _ ne6.1 hl6
          refine ⟨hi, ?_⟩
          rintro x H' ⟨rfl, rfl⟩
          refine ⟨rfl, yes_ite ?_⟩
          refine Ew.run (p := p) (D := D) (H0 := H') (G := PV p D Fit2) (Ew.fit (Ew.cat (Ew.cat (Ew.takeV (m := 12) (j := j) i7 rfl rfl ⟨nap, naD⟩ ha7 gx7 xl (by omega)) (Ew.lst (EwA.cons (n := 60) ?_ (EwA.nil 4)) (by decide)) (by decide)) (Ew.dropV (m := 12) (j := j) i7 rfl rfl ⟨nap, naD⟩ ha7 gx7 xl jx) (by decide)) (by decide) (by decide)) i7 ButD.refl (fun y H8 g i8 r8 => ?_)
          · intro H9 i9 b9 Q c
            refine ⟨_, rfl, _, rfl, p, l6, vs6, rfl, i9.1, b9 _ _ ne6.1 hl7, ne6.1, by omega, by omega, fun x H10 hx hp10 b10 => c _ _ ?_ (i9.but hp10 b10) b10⟩
            obtain ⟨d, fn, ok⟩ := (pl7.pot hp7 (ButD.trans b9 b10)).mem hx
            exact ⟨_, fn, ok⟩
          · refine ⟨ws, r8 _ _ nDp hD7, by rw [sizeLine_eq]; omega, i8.1.put nDp, fun b o ne ne2 e => ?_, ws ++ [y], upd_same, by rw [List.length_append]; show ws.length + 1 = i + 1; omega, ?_⟩
            · rw [upd_ne ne2]
              exact r8 _ _ ne (keep _ _ ne e)
            · exact PL.put ⟨_, r8 _ _ nDp hD7⟩ ButD.start (PL.app (plw.pot hp7 r8) (PL.cons g .nil))
      rintro _ H7 ⟨F, vs7, nF, hF7, pl7, vl7, hp7, b7, rfl⟩
      have b07 : ButD p H H7 := ButD.trans b06 b7
      have ha7 := b07 _ _ nap ha
      have i7 : Iv p p H7 := i0.but hp7 b07
      have gx7 := gx.pot hp b07
      have dd7 : DV p H7 xs[j] d1 := (dd1.but hp5 b6).but hp6 b7
      refine ⟨_, rfl, p, xs[j], d1, rfl, dd7, isI d1, rfl, ?_⟩
      rcases ib1 with ⟨i, rfl, _⟩ | ⟨X, ins, t, rfl, t0, t3, hX, hin⟩
      · exact iteF (hnx _ _ ⟨F, vs7, _, _, _, nF, hF7, pl7, by omega, hp7, b07, rfl⟩)
      obtain ⟨u, xv, ev, hu7, dX7⟩ : ∃ u xv, xs[j] = .ref u ∧ H7 u = some (.tup [xv, .int t]) ∧ DV p H7 xv X := by
        generalize xs[j] = v at dd7
        cases dd7 with
        | tup h dd => cases dd with
          | cons a b => cases b with
            | cons c e => cases c with
              | int => cases e with
                | nil => exact ⟨_, _, rfl, h, a⟩
      rw [ev]
      have Xok := okX m60 hX hin
      refine iteT ?_
      -- two more
      refine seqV (Good := fun σ2 H8 => ∃ (F : Addr) (vs : List V), F ≠ p ∧ H7 F = none ∧ H8 F = some (.lst vs) ∧ PL p p Fit2 H8 vs ∧ PL p F Fit2 H8 vs ∧ vs.length ≤ 19 ∧ PotAt H8 p ∧ ButD p H7 H8 ∧ σ2 = [some (.ref p), some (.ref a), some (.int m), some (.ref F), some (.int j), some (.ref u), some (.ref l6), none]) ?_ ?_
      · intro nx2 hnx2
        have T5 : Ew p p H7 [some (.ref p), some (.ref a), some (.int m), some (.ref F), some (.int j), some (.ref u), some (.ref l6), none] (tSl (rSlL K) (tVar 1) tNoPart (tPart (tVar 4))) (LG p p 1128 4 12) := Ew.takeV i7 rfl rfl ⟨nap, nap⟩ ha7 gx7 xl (by omega)
        have D5 : Ew p p H7 [some (.ref p), some (.ref a), some (.int m), some (.ref F), some (.int j), some (.ref u), some (.ref l6), none] (tSl (rSlL K) (tVar 1) (tPart (tOp (rI0 fun i j => .int (i + j)) (tVar 4) (tC (.int 1)))) tNoPart) (LG p p 1128 4 12) := Ew.dropV i7 rfl rfl ⟨nap, nap⟩ ha7 gx7 xl jx
        have fxt : FN p p H7 [xv, .int t] [X, .int t] := ⟨.cons dX7 (.cons (.int t) .nil), .cons dX7 (.cons (.int t) .nil)⟩
        refine ⟨_, rfl, ?_⟩
        show tLst _ _ _ _
        refine Ew.run (p := p) (D := p) (H0 := H7) (G := LP p p Fit2 2) (Ew.lstF (EwA.consF (Ew.fit (Ew.cat (Ew.cat T5 (Ew.lst (EwA.cons (n := (4 + 1) * (83 + 1) + 20) (Ew.lapE (c := 4) (E := 3) ?_ ?_ (by decide)) (EwA.nil 4)) (by decide)) (by decide)) D5 (by decide)) (by decide) (by decide)) (EwA.consF (Ew.fit (Ew.cat (Ew.cat (T5.deep 5 (by decide)) (Ew.lst (EwA.cons (Ew.lap (n := 193) (E := 4) 1 ?_ 1 (by decide) (by decide) (by decide)) (EwA.nil 5)) (by decide)) (by decide)) (D5.deep 5 (by decide)) (by decide)) (by decide) (by decide)) EwA.nilF)) (by decide)) i7 ButD.refl (fun v H8 g i8 r8 => ?_)
        · intro H9 i9 b9 Q c
          refine ⟨_, rfl, u, [xv, .int t], _, _, rfl, rfl, .inl (.inl (b9 _ _ (pot_ne hp7 hu7) hu7)), rfl, c _ _ ⟨X, ?_, Xok⟩ i9 ButD.refl⟩
          have := fxt.pot hp7 b9
          exact ⟨match this.1 with | .cons x _ => .cons x .nil, match this.2 with | .cons x _ => .cons x .nil⟩
        · intro H9 Q i9 b9 k
          exact ⟨_, rfl, u, [xv, .int t], _, _, rfl, rfl, .inl (.inl (b9 _ _ (pot_ne hp7 hu7) hu7)), rfl, _, _, rfl, rfl, k (t + 1) H9 (by omega) (by omega) i9 ButD.refl⟩
        · intro H9 i9 b9 Q c
          refine ⟨_, rfl, u, [xv, .int t], rfl, .inr (.inl (.inl (b9 _ _ (pot_ne hp7 hu7) hu7))), fun L hL => ?_⟩
          have s10 := same_upd (o := .lst [xv, .int t]) hL
          exact c _ _ ⟨_, FN.lst (fxt.pot hp7 (ButD.trans b9 (Same.but s10))) (i9.ne hL) upd_same, (okXt m60 hX hin t0 t3).lst⟩ (i9.same s10) (Same.but s10)
        · obtain ⟨l8, vs8, rfl, ne8, hl8, pl8, vl8⟩ := g
          refine ⟨F, l8, vs7, vs8, rfl, rfl, r8 _ _ nF hF7, hl8, by rw [sizeLine_eq]; omega, fun F2 hF2 => ?_⟩
          have s9 := same_upd (o := .lst (vs7 ++ vs8)) hF2
          have pl9 : PL p p Fit2 H8 (vs7 ++ vs8) := PL.app (pl7.pot hp7 r8) pl8
          exact hnx2 _ _ ⟨F2, _, i8.1.ne hF2, ButD.free2 r8 (i8.1.ne hF2) hF2, upd_same, pl9.pot i8.1 (Same.but s9), (pl9.snd hF2).pot i8.1 (Same.but s9), by rw [List.length_append]; omega, i8.1.same s9, ButD.trans r8 (Same.but s9), rfl⟩
      rintro _ H8 ⟨F2, vs8, nF2, f7, hF8, pl8, pl8F, vl8, hp8, b8, rfl⟩
      have b08 : ButD p H H8 := ButD.trans b07 b8
      have ha8 := b08 _ _ nap ha
      have naF : a ≠ F2 := ne_of_none ha7 f7
      have gx8 : GL p F2 H8 xs 1128 4 := (gx7.snd f7).pot hp7 b8
      have i8 : Iv p F2 H8 := ⟨hp8, _, hF8⟩
      have hu8 := b8 _ _ (pot_ne hp7 hu7) hu7
      have fxt8 : FN p F2 H8 [xv, .int t] [X, .int t] := by
        have z : DVs p H7 [xv, .int t] [X, .int t] := .cons dX7 (.cons (.int t) .nil)
        exact FN.pot (fo := F2) hp7 b8 ⟨z, DVs.fresh (fun _ _ e => e) f7 z⟩
      have T6 : Ew p F2 H8 [some (.ref p), some (.ref a), some (.int m), some (.ref F2), some (.int j), some (.ref u), some (.ref l6), none] (tSl (rSlL K) (tVar 1) tNoPart (tPart (tVar 4))) (LG p F2 1128 4 12) := Ew.takeV i8 rfl rfl ⟨nap, naF⟩ ha8 gx8 xl (by omega)
      have D6 : Ew p F2 H8 [some (.ref p), some (.ref a), some (.int m), some (.ref F2), some (.int j), some (.ref u), some (.ref l6), none] (tSl (rSlL K) (tVar 1) (tPart (tOp (rI0 fun i j => .int (i + j)) (tVar 4) (tC (.int 1)))) tNoPart) (LG p F2 1128 4 12) := Ew.dropV i8 rfl rfl ⟨nap, naF⟩ ha8 gx8 xl jx
      refine ⟨_, rfl, .inl ⟨rfl, _, .inl (.inl hF8)⟩, ?_⟩
      show tOp rCat _ _ _ _ _
      refine Ew.run (p := p) (D := F2) (H0 := H8) (G := PV p F2 Fit2) (Ew.fit (Ew.cat (Ew.cat T6 (Ew.lst (EwA.cons (n := 194) (Ew.item (n := 193) (E := 3) (m := 2) ?_) (EwA.nil 4)) (by decide)) (by decide)) D6 (by decide)) (by decide) (by decide)) i8 ButD.refl (fun v H9 g i9 r9 => ?_)
      · intro H9 i9 b9 Q c
        refine ⟨_, rfl, u, [xv, .int t], rfl, .inr (.inl (.inl (b9 _ _ (pot_ne hp8 hu8) hu8))), fun L hL => ?_⟩
        have s10 := same_upd (o := .lst [xv, .int t]) hL
        exact c _ _ ⟨L, _, rfl, i9.ne hL, upd_same, ⟨_, fxt8.pot hp8 (ButD.trans b9 (Same.but s10)), okXt m60 hX hin t0 t3⟩, Nat.le_refl _⟩ (i9.same s10) (Same.but s10)
      · have hF9 := r9 _ _ nF2 hF8
        refine ⟨F2, vs8, _, rfl, rfl, hF9, by rw [sizeLine_eq]; omega, ?_⟩
        have pl9 : PL p F2 Fit2 H9 (vs8 ++ [v]) := PL.app (pl8F.pot hp8 r9) (PL.cons g .nil)
        refine hnx _ _ ⟨F2, _, _, _, _, nF2, upd_same, (pl9.put ⟨_, hF9⟩ ButD.start).fst, by rw [List.length_append]; show vs8.length + 1 ≤ 40; omega, i9.1.put nF2, fun b o ne e => ?_, rfl⟩
        rw [upd_ne (ne_of_none (b07 _ _ ne e) f7)]
        exact r9 _ _ ne (b08 _ _ ne e)
    · rintro _ H4 ⟨l, vs, v4, v5, v6, nl, hl, pl, vl, hp4, b4, rfl⟩
      obtain ⟨ds, fn, fit⟩ := pl
      exact ⟨_, rfl, q l vs ds H4 nl hl fn.1 fit (by have := fn.1.len; omega) hp4 b4⟩
end
end L2.K22
end

section
set_option Elab.async false
set_option linter.all false
set_option maxRecDepth 100000
set_option maxHeartbeats 4000000
namespace L2.K22
open PySem PySem.Spec PyProof.Rows L2.Gd
/-! ### what repr tells -/
def Shows (K : PySem.W.Frag) (H : Hp) (v : V) (t : Str) : Prop := (∃ d, Dp K H v d ∧ Showy d ∧ t = d.shown) ∨
  (∃ a ps, v = .ref a ∧ H a = some (.dK (dI ps)) ∧ (dP ps).showable = true ∧ (dP ps).depth ≤ 20 ∧ (dP ps).shown.length ≤ sizeLine ∧ t = (dP ps).shown)
section
variable {X : Cx}
theorem call_repr2 (hg : X.A.guards = some []) (hu : X.A.units + 64 < cLine) : CallR X (.builtin "repr") (fun xs H Q => ∃ x t, xs = [x] ∧ Shows X.K H x t ∧ Q (.str t) H) := by
  rintro pins s σ H xs us Q I r ⟨x, t, rfl, h | h, q⟩
  · obtain ⟨d, hd, sh, rfl⟩ := h
    exact call_reprAny hg hu pins s σ H _ us Q I r ⟨x, d, rfl, hd, sh, q⟩
  · obtain ⟨a, ps, rfl, ha, h1, h2, h3, rfl⟩ := h
    exact call_reprDI hg hu pins s σ H _ us Q I r ⟨a, ps, rfl, ha, h1, h2, h3, q⟩
end
theorem le_sum {g : PyData → Nat} {x : PyData} : ∀ {its : List PyData}, x ∈ its → g x ≤ (its.map g).sum
  | y :: r, h => by
    rw [List.map_cons, List.sum_cons]
    rcases List.mem_cons.mp h with rfl | h
    · omega
    · have := le_sum (g := g) h
      omega
theorem few_of : ∀ (k : Nat) (d : PyData), wt k d ≤ 100000 → few k d
  | 0, _, _ => True.intro
  | k + 1, d, h => fun its e it hit x t et => by
    have w : wt (k + 1) d = (its.map (itemW (wt k))).sum := by
      show (match seqOf d with | some its => (its.map (itemW (wt k))).sum | none => 0) = _
      rw [e]
    have m := le_sum (g := itemW (wt k)) hit
    subst et
    have e2 : itemW (wt k) (.tuple [x, .int t]) = (t.toNat + 1) * (wt k x + 1) := rfl
    have a1 : t.toNat + 1 ≤ (t.toNat + 1) * (wt k x + 1) := Nat.le_mul_of_pos_right _ (Nat.succ_pos _)
    have a2 : wt k x + 1 ≤ (t.toNat + 1) * (wt k x + 1) := Nat.le_mul_of_pos_left _ (Nat.succ_pos _)
    exact ⟨by omega, few_of k x (by omega)⟩
/-! ### values that may be asked, dicts too -/
def VI (p : Addr) (v : V) (H : Hp) : Prop := ∃ d, DV p H v d ∧ (Fit2 d ∨ ∃ a ps, v = .ref a ∧ H a = some (.dK (dI ps)) ∧ (ps = [] ∨ ps = [(0, 1)]) ∧ d = .dict [])
theorem VI.pot {p : Addr} {H H' : Hp} {v : V} (hp : PotAt H p) (b : ButD p H H') (h : VI p v H) : VI p v H' := by
  obtain ⟨d, dv, h⟩ := h
  refine ⟨d, dv.but hp b, h.imp id ?_⟩
  rintro ⟨a, ps, rfl, ha, c, rfl⟩
  refine ⟨a, ps, rfl, b _ _ (fun z => ?_) ha, c, rfl⟩
  subst z
  obtain ⟨zs, e⟩ := hp.lst
  rw [ha] at e
  exact nomatch e
theorem VI.same {p : Addr} {H H' : Hp} {v : V} (s : Same H H') (h : VI p v H) : VI p v H' := by
  obtain ⟨d, dv, h⟩ := h
  refine ⟨d, dv.same s, h.imp id ?_⟩
  rintro ⟨a, ps, rfl, ha, c, rfl⟩
  exact ⟨a, ps, rfl, s _ _ ha, c, rfl⟩
theorem d0_ok : (dP []).showable = true ∧ (dP []).depth ≤ 20 ∧ (dP []).shown.length ≤ 64 := ⟨by decide +kernel, by decide +kernel, by decide +kernel⟩
theorem d1_ok : (dP [(0, 1)]).showable = true ∧ (dP [(0, 1)]).depth ≤ 20 ∧ (dP [(0, 1)]).shown.length ≤ 64 := ⟨by decide +kernel, by decide +kernel, by decide +kernel⟩
theorem VI.shows {K : PySem.W.Frag} {p : Addr} {H : Hp} {v : V} (h : VI p v H) : ∃ t, ∀ H', Same H H' → Shows K H' v t := by
  obtain ⟨d, dv, h⟩ := h
  rcases h with f | ⟨a, ps, rfl, ha, c, rfl⟩
  · exact ⟨d.shown, fun H' s => .inl ⟨d, (dv.same s).dp f.pl.hd, f.showy (by decide) (by decide), rfl⟩⟩
  · refine ⟨(dP ps).shown, fun H' s => .inr ⟨a, ps, rfl, s _ _ ha, ?_⟩⟩
    have sl := sizeLine_eq
    rcases c with rfl | rfl
    · obtain ⟨x, y, z⟩ := d0_ok
      exact ⟨x, y, by omega, rfl⟩
    · obtain ⟨x, y, z⟩ := d1_ok
      exact ⟨x, y, by omega, rfl⟩
theorem VI.fit {p : Addr} {H : Hp} {v : V} (h : VI p v H) : ∃ d, DV p H v d ∧ wt 4 d ≤ 100000 ∧ few 4 d := by
  obtain ⟨d, dv, h⟩ := h
  have : wt 4 d ≤ 100000 := by
    rcases h with f | ⟨a, ps, rfl, ha, c, rfl⟩
    · have := f.w 4
      omega
    · exact Nat.zero_le _
  exact ⟨d, dv, this, few_of 4 d this⟩
theorem shows_bl {K : PySem.W.Frag} {H : Hp} (b : Bool) : Shows K H (.bl b) (PyData.bool b).shown := .inl ⟨.bool b, .bl b, (Ok2.bool b 1).showy (by decide) (by decide), rfl⟩
/-! ### the odd ones -/
def LV (p : Addr) (m : Nat) (v : V) (H : Hp) : Prop := ∃ a vs, v = .ref a ∧ a ≠ p ∧ H a = some (.lst vs) ∧ (∀ x ∈ vs, VI p x H) ∧ vs.length = m
section
variable {p : Addr} {H0 : Hp} {σ : L2.St}
theorem EwA.nilG : EwA p p H0 σ tNil (fun vs H => (∀ x ∈ vs, VI p x H) ∧ vs.length = 0) := fun H i r Q c => c _ _ ⟨(fun x h => nomatch h), rfl⟩ i ButD.refl
theorem EwA.consG {t : TE} {ts : TA} {l : Nat} (e : Ew p p H0 σ t (VI p)) (es : EwA p p H0 σ ts (fun vs H => (∀ x ∈ vs, VI p x H) ∧ vs.length = l)) :
    EwA p p H0 σ (tCons t ts) (fun vs H => (∀ x ∈ vs, VI p x H) ∧ vs.length = l + 1) := by
  intro H i r Q c
  refine e H i r _ fun v H2 g i2 r2 => es H2 i2 (ButD.trans r r2) _ fun vs H3 g3 i3 r3 => c _ _ ⟨?_, congrArg Nat.succ g3.2⟩ i3 (ButD.trans r2 r3)
  intro x hx
  rcases List.mem_cons.mp hx with rfl | hx
  · exact g.pot i2.1 r3
  · exact g3.1 x hx
theorem Ew.lstG {ts : TA} {l : Nat} (es : EwA p p H0 σ ts (fun vs H => (∀ x ∈ vs, VI p x H) ∧ vs.length = l)) (hl : l ≤ 1000) : Ew p p H0 σ (tLst ts) (LV p l) := by
  intro H i r Q c
  refine es H i r _ fun vs H2 g i2 r2 => ⟨by rw [g.2, sizeLine_eq]; omega, fun a ha => ?_⟩
  have s := same_upd (o := .lst vs) ha
  exact c _ _ ⟨a, vs, rfl, (i2.ne ha).1, upd_same, fun x hx => (g.1 x hx).same s, g.2⟩ (i2.same s) (ButD.trans r2 (Same.but s))
theorem Ew.vi {t : TE} (e : Ew p p H0 σ t (PV p p Fit2)) : Ew p p H0 σ t (VI p) := e.imp fun v H ⟨d, fn, f⟩ => ⟨d, fn.1.one, .inl f⟩
theorem Ew.cst {v : V} {d : PyData} (h : ∀ H, DV p H v d) (f : Fit2 d) : Ew p p H0 σ (tC v) (VI p) := fun H i r Q c => c v H ⟨d, h _, .inl f⟩ i ButD.refl
theorem Ew.tup0 (E : Nat) : Ew p p H0 σ (tTup tNil) (fun v H => GL p p H [v] 1 (E + 1)) := by
  intro H i r Q c
  refine ⟨by show 0 ≤ sizeLine; decide, fun T hT => ?_⟩
  have s := same_upd (o := .tup []) hT
  exact c _ _ ⟨_, FN.tup .nil upd_same, OkL.tup1 (OkL.nil.mono (Nat.le_refl _) (Nat.zero_le E)) fun g => rfl⟩ (i.same s) (Same.but s)
theorem Ew.tup0V : Ew p p H0 σ (tTup tNil) (VI p) := by
  intro H i r Q c
  refine ⟨by show 0 ≤ sizeLine; decide, fun T hT => ?_⟩
  have s := same_upd (o := .tup []) hT
  exact c _ _ ⟨_, (FN.tup (D := p) .nil upd_same).1.one, .inl (OkL.nil.tup.mono (by decide) (by decide))⟩ (i.same s) (Same.but s)
theorem same_twice {H : Hp} {q : Addr} {x y : HO} (h : H q = none) : Same H (upd (upd H q x) q y) := fun b o e => by
  rw [upd_ne (ne_of_none e h), upd_ne (ne_of_none e h)]
  exact e
theorem Ew.dic0 : Ew p p H0 σ tDNewK (VI p) := fun H i r Q c q hq =>
  c _ _ ⟨.dict [], .dct upd_same, .inr ⟨q, [], rfl, upd_same, .inl rfl, rfl⟩⟩ (i.same (same_upd hq)) (Same.but (same_upd hq))
theorem Ew.dic1 : Ew p p H0 σ (tDisp [(tC (.int 0), tC (.int 1))]) (VI p) := by
  intro H i r Q c q hq
  refine ⟨upd_same, [(.inl 0, .int 1)], rfl, by decide, ?_⟩
  have s := same_twice (x := .dK []) (y := .dK (mergeK [] [((.inl 0 : Key), V.int 1)])) hq
  exact c _ _ ⟨.dict [], .dct upd_same, .inr ⟨q, [(0, 1)], rfl, by rw [upd_same]; rfl, .inr rfl, rfl⟩⟩ (i.same s) (Same.but s)
end
/-! ### a def called by keywords alone -/
section
variable {X : Cx} {CX : CXT} {k n : Nat} {f : Addr} {fd : FuncData} {ps ks : List Str} {sp : Sp} {E : XK} {x : Str} {p pos : Pos} {kws : List Keyword} {tk : TA} {g : List Value → List Value → List Value} {gV : List V → List V → List V}
theorem pe_callN0 (F : FnOk X.prog X.w X.K X.mg X.base CX k f fd ps sp) (hr : Room k X.A) (hg : Gl X x) (hm : X.mg x = some (.ref f)) (hk : PySem.W.keepIn X.K (.ref f) = true) (hb : KBn X.K fd ps 0 ks g gV) (hx : Passes CX X E)
    (hkw : PK X kws tk) (hall : (backToKw pos (keywordEach kws X.env)).all (·.1.isSome) = true := by rfl) (hks : (backToKw pos (keywordEach kws X.env)).filterMap (·.1) = ks := by rfl)
    (hdb : (x == ("__debug__" : Str)) = false := by decide)
    (hpl : ((backTo pos (starEach [] X.env)).any (·.1) || (backToKw pos (keywordEach kws X.env)).any (·.1.isNone)) = false := by rfl) :
    PE X (.Call (.Name x p) [] kws pos) (tCallN 0 ks.length sp gV E tNil tk) := by
  refine ⟨fun pins s σ H Q I h => ?_⟩
  refine wpAny_Call_Name_kw (ld_glob I hg hm ?_ hdb)
  refine PySem.W.callWith_KW0 (h₀ := X.base) I.ok.mod.kin hk hall ?_ hpl
  refine thn (hkw.run pos pins s σ H _ I h) fun ws s2 ⟨zs, H2, I2, rz, l1, l2, q2⟩ => ⟨I2.kIn, ?_⟩
  rw [hks]
  exact run_fnN (us := []) (vs := []) F hr hb hx I2 .nil rz l1 l2 q2
end
def rv4 {α : Type} : List α → List α
  | [a, b, c, d] => [d, c, b, a]
  | l => l
theorem vals_rv4 : ∀ {zs : List V} {ws : List Value}, Vals zs ws → Vals (rv4 zs) (rv4 ws) := by
  intro zs ws r
  match zs, ws, r with
  | [], _, .nil => exact .nil
  | [_], _, .cons a .nil => exact .cons a .nil
  | [_, _], _, .cons a (.cons b .nil) => exact .cons a (.cons b .nil)
  | [_, _, _], _, .cons a (.cons b (.cons c .nil)) => exact .cons a (.cons b (.cons c .nil))
  | [_, _, _, _], _, .cons a (.cons b (.cons c (.cons d .nil))) => exact .cons d (.cons c (.cons b (.cons a .nil)))
  | _ :: _ :: _ :: _ :: _ :: _, _, .cons a (.cons b (.cons c (.cons d (.cons e t)))) => exact .cons a (.cons b (.cons c (.cons d (.cons e t))))
/-- is_going(value=.., start=.., place=.., house=..) -/
structure GoK (P : Program) (w : World) (K : PySem.W.Frag) (mg : Str → Option Value) (base : Heap) (C2 : Addr) : Prop where
  ex : ∃ f fd, mg "is_going" = some (.ref f) ∧ PySem.W.keepIn K (.ref f) = true ∧ KBn K fd ["house", "place", "start", "value"] 0 ["value", "start", "place", "house"] (fun _ ws => rv4 ws) (fun _ zs => rv4 zs) ∧
    FnOk P w K mg base CX0 10 f fd ["house", "place", "start", "value"] (spIG C2)
theorem pe_goK {X : Cx} {C2 : Addr} {kws : List Keyword} {tk : TA} {p pos : Pos} (G : GoK X.prog X.w X.K X.mg X.base C2) (hr : Room 10 X.A) (hkw : PK X kws tk)
    (hg : Gl X "is_going" := by rfl) (hall : (backToKw pos (keywordEach kws X.env)).all (·.1.isSome) = true := by rfl) (hks : (backToKw pos (keywordEach kws X.env)).filterMap (·.1) = (["value", "start", "place", "house"] : List Str) := by rfl)
    (hpl : ((backTo pos (starEach [] X.env)).any (·.1) || (backToKw pos (keywordEach kws X.env)).any (·.1.isNone)) = false := by rfl) :
    PE X (.Call (.Name "is_going" p) [] kws pos) (tCallN 0 4 (spIG C2) (fun _ zs => rv4 zs) E0 tNil tk) := by
  obtain ⟨f, fd, m, kp, b, F⟩ := G.ex
  exact pe_callN0 F hr hg m kp b pass0 hkw hall hks (by decide) hpl
/-! ### a house, a list of deeds, beside the pot -/
theorem make_any {K : PySem.W.Frag} {C : Addr} {R : Addr → VK} {H : Hp} {a : Addr} {m : Int} {xs : List V} {ds : List Dd} {E : XK} (hs : Seq K H a xs) (hd : DdAll H xs ds) (wf : WF m ds)
    (k : ∀ (x l : Addr) (H' : Hp), H x = none → H l = none → Same H H' → HouseL C H' x l m xs ds → R x .non H') :
    ∀ x dx, H x = none → H dx = none → dx ≠ x → spInit K C (.ref x :: ([.int m, .ref a] ++ [])) (upd (upd H dx (.own x)) x (.ins C dx [])) (R x) E := by
  intro x dx nx ndx ne
  have s0 : Same H (upd (upd H dx (.own x)) x (.ins C dx [])) := fun b o e => by
    rw [upd_ne (ne_of_none e nx), upd_ne (ne_of_none e ndx)]
    exact e
  refine ⟨x, dx, a, m, xs, ds, rfl, upd_same, hs.same s0, hd.same s0, wf, fun l H' nl hx hl kp => ?_⟩
  have s1 : Same H H' := fun b o e => kp b o (ne_of_none e nx) (s0 b o e)
  exact k x l H' nx (s0.free nl) s1 ⟨⟨dx, hx⟩, hl, hd.same s1⟩
def HAt (C p : Addr) (H : Hp) (h : Addr) (m : Int) (ds : List Dd) : Prop := ∃ l xs, l ≠ p ∧ HouseL C H h l m xs ds
def LAt (p : Addr) (H : Hp) (a : Addr) (ds : List Dd) : Prop := ∃ ys, a ≠ p ∧ H a = some (.lst ys) ∧ DdAll H ys ds
theorem HAt.but {C p : Addr} {H H' : Hp} {h : Addr} {m : Int} {ds : List Dd} (hp : PotAt H p) (b : ButD p H H') (x : HAt C p H h m ds) : HAt C p H' h m ds := by
  obtain ⟨l, xs, ne, hh⟩ := x
  obtain ⟨dx, ob⟩ := hh.ob
  refine ⟨l, xs, ne, ⟨dx, b _ _ (fun z => ?_) ob⟩, b _ _ ne hh.ls, hh.dd.pot hp b⟩
  subst z
  obtain ⟨a, c, e, _⟩ := hp
  rw [ob] at e
  exact nomatch e
theorem LAt.but {p : Addr} {H H' : Hp} {a : Addr} {ds : List Dd} (hp : PotAt H p) (b : ButD p H H') (x : LAt p H a ds) : LAt p H' a ds := by
  obtain ⟨ys, ne, ha, dd⟩ := x
  exact ⟨ys, ne, b _ _ ne ha, dd.pot hp b⟩
end L2.K22
end

section
set_option Elab.async false
set_option linter.all false
set_option maxRecDepth 100000
set_option maxHeartbeats 8000000
namespace L2.K22
open PySem PySem.Spec PyProof.Rows L2.Gd
section
variable {P : Program} {w : World} {K : PySem.W.Frag} {mg : Str → Option Value} {base : Heap} {C : Addr}
def spRight : Sp := fun vs H Q _ => ∃ (p : Addr), vs = [.ref p] ∧ PotAt H p ∧ ∀ H', ButD p H H' → Q (.bl true) H'
def NRi : List Str := ["_law_pot_here", "_law_places", "_law_deeds_here", "_law_house", "_law_odd", "_law_turn", "_law_place", "_law_start", "_law_values", "_law_value", "_law_kept", "_law_due_here"]
theorem scRi : FnScope NRi ["_law_pot_here"] (defScope (top 48)) := ⟨rfl, rfl, rfl, by decide +kernel, rfl, by decide +kernel, by decide +kernel⟩
theorem DVs.vi {p : Addr} {H : Hp} : ∀ {vs : List V} {ds : List PyData}, DVs p H vs ds → (∀ d ∈ ds, Fit2 d) → ∀ x ∈ vs, VI p x H
  | _, _, .nil, _, x, hx => nomatch hx
  | _, _, .cons h t, f, x, hx => by
    rcases List.mem_cons.mp hx with rfl | hx
    · exact ⟨_, h, .inl (f _ List.mem_cons_self)⟩
    · exact DVs.vi t (fun d hd => f d (List.mem_cons_of_mem _ hd)) x hx
/-- what the law's right wants -/
structure RK (P : Program) (w : World) (K : PySem.W.Frag) (mg : Str → Option Value) (base : Heap) (C : Addr) : Prop where
  n : Nm mg
  T : ClsT K mg C
  M : MkH P w K mg base C
  dr : Fn P w K mg base 1 "_law_draw" ["_law_pot_here", "_law_many"] spDraw
  ds : Fn P w K mg base 2 "_law_deeds" ["_law_pot_here", "_law_places", "_law_many", "_law_has_empty"] spDeedsL
  it : Fn P w K mg base 4 "_law_items" ["_law_pot_here", "_law_deeds_here", "_law_place", "_law_deep"] spIt
  ne : Fn P w K mg base 4 "_law_near" ["_law_pot_here", "_law_items_here", "_law_many"] spNe
  du : Fn P w K mg base 7 "_law_due" ["_law_deeds_here", "_law_place", "_law_start", "_law_value"] spDu
  ig : Fn P w K mg base 10 "is_going" ["house", "place", "start", "value"] (spIG C)
  ik : GoK P w K mg base C
theorem ok_right {f : Addr} {fd : FuncData} (F : Fun K "_law_right" "_law_right" (top 48) f fd) (k : RK P w K mg base C) : FnG P w K mg base 11 f fd ["_law_pot_here"] spRight := by
  refine okG F scRi (fun vs H Q h => ?_) (fun cdv A outer s H vs Q hg hr h => ?_)
  · obtain ⟨p, rfl, _⟩ := h
    rfl
  · obtain ⟨p, rfl, hp, q⟩ := h
    have N := scRi.nd
    have n := k.n
    have T := k.T
    have r1 := hr.mono (k := 10) (j := 1) (by decide)
    have r2 := hr.mono (k := 10) (j := 2) (by decide)
    have r4 := hr.mono (k := 10) (j := 4) (by decide)
    have r6 := hr.mono (k := 10) (j := 6) (by decide)
    have r7 := hr.mono (k := 10) (j := 7) (by decide)
    refine ⟨_, pss_cons (ps_set (i := 1) N rfl (.inl rfl) (pe_op op_add pe_int (pe_fn k.dr r1 (pa_cons (pv 0) (pa_cons pe_int pa_nil)))))
      (pss_cons (ps_set (i := 2) N rfl (.inl rfl) (pe_fn k.ds r2 (pa_cons (pv 0) (pa_cons (pv 1) (pa_cons (pe_op op_add pe_int (pe_fn k.dr r1 (pa_cons (pv 0) (pa_cons pe_int pa_nil)))) (pa_cons pe_bl pa_nil))))))
      (pss_cons (ps_par (i := 3) (j := 4) rfl N rfl rfl (by decide) rfl rfl (pa_cons (pe_house k.M T r6 (pa_cons (pv 1) (pa_cons (pv 2) pa_nil))) (pa_cons (pe_lst (pa_cons pe_non (pa_cons pe_int (pa_cons pe_str (pa_cons pe_str (pa_cons pe_dnewK (pa_cons (pe_tup pa_nil) (pa_cons (pe_lst pa_nil) (pa_cons (pe_lst (pa_cons (pe_tup pa_nil) pa_nil)) (pa_cons (pe_lst (pa_cons (pe_tup (pa_cons (pe_lst pa_nil) (pa_cons pe_int pa_nil))) pa_nil)) (pa_cons (pe_lst (pa_cons (pe_tup (pa_cons (pe_lst pa_nil) (pa_cons (pe_un un_neg pe_int) pa_nil))) pa_nil)) (pa_cons pe_bl (pa_cons (pe_lst (pa_cons pe_non pa_nil)) (pa_cons (pe_disp (pps_cons pe_int pe_int pps_nil) (by decide) rfl (by decide) (by decide)) pa_nil)))))))))))))) pa_nil)) (by rfl))
      (pss_cons (ps_for PassesOwn.never rfl (pi_range1 (by rfl) n.range (pa_cons pe_int pa_nil)) (pg_name (i := 5) N rfl (.inl rfl))
        (pss_cons (ps_par (i := 6) (j := 7) rfl N rfl rfl (by decide) rfl rfl (pa_cons (pe_fn k.dr r1 (pa_cons (pv 0) (pa_cons (pv 1) pa_nil))) (pa_cons (pe_fn k.dr r1 (pa_cons (pv 0) (pa_cons pe_int pa_nil))) pa_nil)) (by rfl))
        (pss_cons (ps_set (i := 8) N rfl (.inl rfl) (pe_op op_cat (pe_fn k.ne r4 (pa_cons (pv 0) (pa_cons (pe_fn k.it r4 (pa_cons (pv 0) (pa_cons (pv 2) (pa_cons (pv 6) (pa_cons pe_int pa_nil))))) (pa_cons (pe_callB call_len_seq (by rfl) n.len PySem.boot_len (pa_cons (pv 2) pa_nil)) pa_nil)))) (pv 4)))
        (pss_cons (ps_for PassesOwn.never rfl (pi_list (pv 8)) (pg_name (i := 9) N rfl (.inl rfl))
          (pss_cons (ps_par (i := 10) (j := 11) rfl N rfl rfl (by decide) rfl rfl (pa_cons (pe_callB (call_repr2 hg hr.units) (by rfl) n.repr (by decide +kernel) (pa_cons (pv 9) pa_nil)) (pa_cons (pe_fn k.du r7 (pa_cons (pv 2) (pa_cons (pv 6) (pa_cons (pv 7) (pa_cons (pv 9) pa_nil))))) pa_nil)) (by rfl))
          (pss_one (ps_if (pw_or (pt_cmpR op_ne (pe_callB (call_repr2 hg hr.units) (by rfl) n.repr (by decide +kernel) (pa_cons (pe_fn k.ig hr (pa_cons (pv 3) (pa_cons (pv 6) (pa_cons (pv 7) (pa_cons (pv 9) pa_nil))))) pa_nil)) (pe_callB (call_repr2 hg hr.units) (by rfl) n.repr (by decide +kernel) (pa_cons (pv 11) pa_nil)) (nomark _))
            (pw_or1 (pt_cmpR op_ne (pe_callB (call_repr2 hg hr.units) (by rfl) n.repr (by decide +kernel) (pa_cons (pv 9) pa_nil)) (pv 10) (nomark _)))).pt (pss_one (ps_ret pe_bl)) pss_nil))))
        (pss_cons (ps_set (i := 9) N rfl (.inl rfl) (pe_ix ix_list (pv 8) pe_int (fun _ _ => rfl)))
        (pss_one (ps_if (pt_cmpR op_ne (pe_callB (call_repr2 hg hr.units) (by rfl) n.repr (by decide +kernel) (pa_cons (pe_goK k.ik hr (pk_cons (pv 9) (pk_cons (pv 7) (pk_cons (pv 6) (pk_cons (pv 3) pk_nil))))) pa_nil)) (pe_callB (call_repr2 hg hr.units) (by rfl) n.repr (by decide +kernel) (pa_cons (pe_fn k.du r7 (pa_cons (pv 2) (pa_cons (pv 6) (pa_cons (pv 7) (pa_cons (pv 9) pa_nil))))) pa_nil)) (nomark _)) (pss_one (ps_ret pe_bl)) pss_nil)))))))
      (pss_one (ps_ret pe_bl))))), ?_⟩
    -- places
    refine seqV (Good := fun σ2 H2 => ∃ m : Int, 2 ≤ m ∧ m ≤ 4 ∧ PotAt H2 p ∧ ButD p H H2 ∧ σ2 = [some (.ref p), some (.int m), none, none, none, none, none, none, none, none, none, none])
      (fun nx hnx => ⟨_, rfl, p, 3, rfl, hp, by decide, by decide, fun d H1 d0 d5 hp1 b1 => ⟨_, _, rfl, rfl, hnx _ _ ⟨2 + d, by omega, by omega, hp1, b1, rfl⟩⟩⟩) ?_
    rintro _ H1 ⟨m, m2, m4, hp1, b1, rfl⟩
    -- deeds
    refine seqV (Good := fun σ2 H2 => ∃ (a : Addr) (ds : List Dd), LAt p H2 a ds ∧ WF m ds ∧ ds ≠ [] ∧ PotAt H2 p ∧ ButD p H H2 ∧ σ2 = [some (.ref p), some (.int m), some (.ref a), none, none, none, none, none, none, none, none, none]) ?_ ?_
    · intro nx hnx
      refine ⟨_, rfl, _, rfl, _, rfl, p, 6, rfl, hp1, by decide, by decide, fun d H2 d0 d6 hp2 b2 => ?_⟩
      obtain ⟨k9, rfl⟩ : ∃ k9 : Nat, d = k9 := ⟨d.toNat, by omega⟩
      refine ⟨_, _, rfl, rfl, p, m, 3 + k9, ?_, hp2, by omega, by omega, by omega, fun l xs ds H3 nl hl hp3 b3 dd ok nd le nn => ?_⟩
      · show [V.ref p, V.int m, V.int (3 + (k9 : Int)), V.bl true] = _
        rw [show (3 + (k9 : Int)) = ((3 + k9 : Nat) : Int) from by omega]
      · exact hnx _ _ ⟨l, ds, ⟨xs, hp2.ne nl, hl, dd⟩, ⟨by omega, by omega, ok, nd, by omega⟩, nn (by omega), hp3, ButD.trans b1 (ButD.trans b2 b3), rfl⟩
    clear hp1 b1 H1
    rintro _ H2 ⟨a, ds, hl2, wf, dn, hp2, b2, rfl⟩
    have d1 : 1 ≤ ds.length := List.length_pos_iff.mpr dn
    -- house, odd
    refine seqV (Good := fun σ2 H3 => ∃ (h o : Addr) (os : List V), HAt C p H3 h m ds ∧ LAt p H3 a ds ∧ o ≠ p ∧ H3 o = some (.lst os) ∧ (∀ x ∈ os, VI p x H3) ∧ os.length = 13 ∧ PotAt H3 p ∧ ButD p H H3 ∧ σ2 = [some (.ref p), some (.int m), some (.ref a), some (.ref h), some (.ref o), none, none, none, none, none, none, none]) ?_ ?_
    · intro nx hnx
      obtain ⟨ys, na, ha, dd⟩ := id hl2
      refine ⟨_, rfl, _, rfl, ?_⟩
      refine make_any (K := K) (C := C) (.inl ha) dd wf (fun h l H3 n3 n3' s3 hh3 => ⟨rfl, ?_⟩)
      have hp3 := hp2.same s3
      have NG : ∀ (σ : L2.St) (H : Hp) (Q : VK), Iv p p H → ButD p H3 H → (∀ (z : Int) H2, -1 ≤ z → z ≤ (0 : Nat) → Iv p p H2 → ButD p H H2 → Q (.int z) H2) → (tUn (rU fun i => .int (-i)) (tC (.int 1))) σ H Q := fun σ H Q i r k => ⟨1, rfl, k (-1) H (by decide) (by decide) i ButD.refl⟩
      have E0 : ∀ σ : L2.St, Ew p p H3 σ (tLst tNil) (LG p p 0 0 0) := fun σ => Ew.lst (EwA.nil 0) (by decide)
      show tLst _ _ _ _
      refine Ew.run (p := p) (D := p) (H0 := H3) (G := LV p 13) (Ew.lstG (EwA.consG (Ew.cst (fun _ => .non) (.mono (.non 18) (by decide) (by decide))) (EwA.consG (Ew.cst (fun _ => .int 0) (.mono (.int (by decide) (by decide) 18) (by decide) (by decide))) (EwA.consG (Ew.cst (fun _ => .str _) (.mono (.strE 18) (by decide) (by decide))) (EwA.consG (Ew.cst (fun _ => .str _) (.mono (.str0 18) (by decide) (by decide)))
        (EwA.consG Ew.dic0 (EwA.consG Ew.tup0V (EwA.consG (Ew.vi ((E0 _).fit (by decide) (by decide))) (EwA.consG (Ew.vi (Ew.fit (Ew.lst (EwA.cons (Ew.tup0 0) (EwA.nil 1)) (by decide)) (by decide) (by decide)))
        (EwA.consG (Ew.vi (Ew.fit (Ew.lst (EwA.cons (Ew.lap 5 (Ew.pv (E0 _)) 5 (by decide) (by decide) (by decide)) (EwA.nil 2)) (by decide)) (by decide) (by decide)))
        (EwA.consG (Ew.vi (Ew.fit (Ew.lst (EwA.cons (Ew.lapE (c := 0) (Ew.pv (E0 _)) (NG _) (by decide)) (EwA.nil 2)) (by decide)) (by decide) (by decide)))
        (EwA.consG (Ew.cst (fun _ => .bl true) (.mono (.bool true 18) (by decide) (by decide))) (EwA.consG (Ew.vi (Ew.fit (Ew.lst (EwA.cons (n := 9) (E := 4) ?_ (EwA.nil 4)) (by decide)) (by decide) (by decide)))
        (EwA.consG Ew.dic1 EwA.nilG))))))))))))) (by decide)) ⟨hp3, hp3.lst⟩ ButD.refl (fun v H4 g i4 b4 => ?_)
      · exact fun H1 i1 b1 Q c => c _ _ ⟨_, ⟨.cons .non .nil, .cons .non .nil⟩, OkL.non 4⟩ i1 ButD.refl
      · obtain ⟨o, os, rfl, no, ho, vo, lo⟩ := g
        exact ⟨_, _, rfl, hnx _ _ ⟨h, o, os, HAt.but hp3 b4 ⟨l, ys, hp2.ne n3', hh3⟩, (hl2.but hp2 (Same.but s3)).but hp3 b4, no, ho, vo, lo, i4.1, ButD.trans b2 (ButD.trans (Same.but s3) b4), rfl⟩⟩
    clear hp2 b2 hl2 H2
    rintro _ H3 ⟨h, o, os, hh3, hl3, no, ho3, vo3, lo, hp3, b3, rfl⟩
    -- three turns
    refine seqV (Good := fun σ2 H4 => ButD p H H4) ?_ ?_
    · intro nx hnx
      refine ⟨3, rfl, by decide, by decide, for_range (lo := 0) (n := (3 : Int).toNat) (fun i σ2 H4 => ∃ (a5 a6 a7 a8 a9 a10 a11 : Option V), HAt C p H4 h m ds ∧ LAt p H4 a ds ∧ H4 o = some (.lst os) ∧ (∀ x ∈ os, VI p x H4) ∧ PotAt H4 p ∧ ButD p H H4 ∧ σ2 = [some (.ref p), some (.int m), some (.ref a), some (.ref h), some (.ref o), a5, a6, a7, a8, a9, a10, a11])
        ⟨none, none, none, none, none, none, none, hh3, hl3, ho3, vo3, hp3, b3, rfl⟩ ?_ ?_⟩
      · rintro i σ2 H4 hi ⟨a5, a6, a7, a8, a9, a10, a11, hh4, hl4, ho4, vo4, hp4, b4, rfl⟩
        -- place, start
        refine seqV (Good := fun σ2 H5 => ∃ (x5 : Option V) (pl st : Int), 0 ≤ pl ∧ pl < m ∧ 0 ≤ st ∧ HAt C p H5 h m ds ∧ LAt p H5 a ds ∧ H5 o = some (.lst os) ∧ (∀ x ∈ os, VI p x H5) ∧ PotAt H5 p ∧ ButD p H H5 ∧ σ2 = [some (.ref p), some (.int m), some (.ref a), some (.ref h), some (.ref o), x5, some (.int pl), some (.int st), a8, a9, a10, a11]) ?_ ?_
        · intro nx2 hnx2
          refine ⟨_, rfl, _, rfl, p, m, rfl, hp4, by omega, by omega, fun d H5 d0 dm hp5 b5 => ⟨_, rfl, p, 4, rfl, hp5, by decide, by decide, fun e H6 e0 e4 hp6 b6 => ⟨_, _, rfl, ?_⟩⟩⟩
          have b46 : ButD p H4 H6 := ButD.trans b5 b6
          exact hnx2 _ _ ⟨_, d, e, d0, dm, e0, hh4.but hp4 b46, hl4.but hp4 b46, b46 _ _ no ho4, fun x hx => (vo4 x hx).pot hp4 b46, hp6, ButD.trans b4 b46, rfl⟩
        clear hh4 hl4 ho4 vo4 hp4 b4 hi H4
        rintro _ H5 ⟨x5, pl, st, pl0, plm, st0, hh5, hl5, ho5, vo5, hp5, b5, rfl⟩
        -- values
        refine seqV (Good := fun σ2 H6 => ∃ (l : Addr) (vs : List V), l ≠ p ∧ H6 l = some (.lst vs) ∧ (∀ x ∈ vs, VI p x H6) ∧ 0 < vs.length ∧ HAt C p H6 h m ds ∧ LAt p H6 a ds ∧ H6 o = some (.lst os) ∧ (∀ x ∈ os, VI p x H6) ∧ PotAt H6 p ∧ ButD p H H6 ∧ σ2 = [some (.ref p), some (.int m), some (.ref a), some (.ref h), some (.ref o), x5, some (.int pl), some (.int st), some (.ref l), a9, a10, a11]) ?_ ?_
        · intro nx2 hnx2
          obtain ⟨ys, na, ha, dd⟩ := id hl5
          have yl := Paired.length dd
          show tOp rCat _ _ _ _ _
          refine ⟨_, rfl, _, rfl, _, rfl, _, rfl, p, a, ys, ds, pl, rfl, hp5, na, ha, dd, wf.len, fun l6 xs6 its H6 nl hl6 dv6 iok il iw hp6 b6 => ?_⟩
          have ha6 := b6 _ _ na ha
          refine ⟨_, rfl, a, ys, rfl, .inl (.inl (.inl ha6)), p, l6, xs6, its, ds.length, by rw [yl]; rfl, hp6, hp5.ne nl, hl6, dv6, iok, il, iw, d1, wf.len, fun l7 vs7 ds7 H7 nl7 hl7 dv7 fit7 len7 hp7 b7 => ?_⟩
          have b57 : ButD p H5 H7 := ButD.trans b6 b7
          have ho7 := b57 _ _ no ho5
          have vl7 := dv7.len
          refine ⟨_, rfl, l7, o, vs7, os, rfl, rfl, hl7, ho7, by rw [sizeLine_eq]; omega, fun x hx => ?_⟩
          have s8 := same_upd (o := .lst (vs7 ++ os)) hx
          have b58 : ButD p H5 _ := ButD.trans b57 (Same.but s8)
          refine hnx2 _ _ ⟨x, _, hp7.ne hx, upd_same, fun y hy => ?_, by rw [List.length_append]; omega, hh5.but hp5 b58, hl5.but hp5 b58, b58 _ _ no ho5, fun x hx => (vo5 x hx).pot hp5 b58, hp7.same s8, ButD.trans b5 b58, rfl⟩
          rcases List.mem_append.mp hy with hy | hy
          · exact (DVs.vi dv7 fit7 y hy).same s8
          · exact (vo5 y hy).pot hp5 b58
        clear hh5 hl5 ho5 vo5 hp5 b5 H5
        rintro _ H6 ⟨l, vs, nl, hl, vi, v0, hh6, hl6, ho6, vo6, hp6, b6, rfl⟩
        obtain ⟨lh, xs, nlh, hx⟩ := id hh6
        obtain ⟨ys, na, ha, dd⟩ := id hl6
        -- each value
        refine seqV (Good := fun σ2 H7 => Same H6 H7 ∧ ∃ a9 a10 a11 : Option V, σ2 = [some (.ref p), some (.int m), some (.ref a), some (.ref h), some (.ref o), x5, some (.int pl), some (.int st), some (.ref l), a9, a10, a11]) ?_ ?_
        · intro nx2 hnx2
          refine ⟨_, rfl, l, rfl, ⟨_, .inl (.inl hl)⟩, ?_⟩
          refine loop_of (n := vs.length) (fun i σ H7 => Same H6 H7 ∧ ∃ a9 a10 a11 : Option V, σ = [some (.ref p), some (.int m), some (.ref a), some (.ref h), some (.ref o), x5, some (.int pl), some (.int st), some (.ref l), a9, a10, a11])
            ⟨fun _ _ e => e, _, _, _, rfl⟩ ?_ ?_
          · rintro σ H7 ⟨s7, a9, a10, a11, rfl⟩
            exact ⟨⟨_, .inl (.inl (s7 _ _ hl)), Nat.le_refl _⟩, hnx2 _ _ ⟨s7, _, _, _, rfl⟩⟩
          · rintro i σ H7 hi ⟨s7, a9, a10, a11, rfl⟩
            refine ⟨⟨_, _, .inl (.inl (s7 _ _ hl)), List.getElem?_eq_getElem hi⟩, ?_⟩
            rintro v H8 ⟨rfl, hy⟩
            have hvi := hy _ (.inl (.inl (s7 _ _ hl)))
            have hv := vi v (List.mem_of_getElem? hvi)
            obtain ⟨t, sh⟩ := hv.shows (K := K)
            obtain ⟨d, dv, dw, fw⟩ := hv.fit
            have gd := going_due wf.ok (p := pl) st0 d
            refine seqV (Good := fun σ2 H9 => Same H6 H9 ∧ ∃ x5' : Option V, σ2 = [some (.ref p), some (.int m), some (.ref a), some (.ref h), some (.ref o), x5, some (.int pl), some (.int st), some (.ref l), some v, some (.str t), some (.bl (dueB ds pl st d))]) ?_ ?_
            · intro nx3 hnx3
              exact ⟨_, rfl, v, t, rfl, sh _ s7, _, rfl, _, rfl, _, rfl, _, rfl, p, a, ys, ds, pl, st, v, d, rfl, s7 _ _ ha, DdAll.same s7 dd, dv.same s7, dw, fun H9 s9 => ⟨_, _, rfl, hnx3 _ _ ⟨s7.trans s9, none, rfl⟩⟩⟩
            rintro _ H9 ⟨s9, _, rfl⟩
            refine ⟨_, rfl, _, rfl, _, rfl, _, rfl, p, h, lh, m, pl, st, xs, ds, v, d, rfl, hx.same s9, wf.len, dv.same s9, fun _ => fw, pl0, plm, st0, fun H10 s10 => ?_⟩
            have s610 := s9.trans s10
            refine ⟨_, _, rfl, shows_bl _, _, rfl, _, _, rfl, shows_bl _, rfl, false, ?_, ?_⟩
            · rw [gd]
              simp
            refine iteF ?_
            refine ⟨_, rfl, v, t, rfl, sh _ s610, _, rfl, rfl, false, by simp, ?_⟩
            exact iteF ⟨s610, _, _, _, rfl⟩
        clear a9 a10 a11
        rintro _ H7 ⟨s7, a9, a10, a11, rfl⟩
        have ex : vs[0]? = some vs[0] := List.getElem?_eq_getElem v0
        have hv := vi _ (List.getElem_mem v0)
        generalize vs[0] = v at ex hv
        obtain ⟨t, sh⟩ := hv.shows (K := K)
        obtain ⟨d, dv, dw, fw⟩ := hv.fit
        have gd := going_due wf.ok (p := pl) st0 d
        refine seqV (Good := fun σ2 H8 => H7 = H8 ∧ σ2 = [some (.ref p), some (.int m), some (.ref a), some (.ref h), some (.ref o), x5, some (.int pl), some (.int st), some (.ref l), some v, a10, a11]) ?_ ?_
        · intro nx2 hnx2
          exact ⟨_, rfl, l, vs, _, _, rfl, rfl, .inl (.inl (s7 _ _ hl)), atI_nat ex, hnx2 _ _ ⟨rfl, rfl⟩⟩
        rintro _ _ ⟨rfl, rfl⟩
        refine ⟨_, rfl, _, rfl, _, rfl, _, rfl, rfl, rfl, p, h, lh, m, pl, st, xs, ds, v, d, rfl, hx.same s7, wf.len, dv.same s7, fun _ => fw, pl0, plm, st0, fun H8 s8 => ?_⟩
        have s68 := s7.trans s8
        refine ⟨_, _, rfl, shows_bl _, _, rfl, _, rfl, _, rfl, _, rfl, p, a, ys, ds, pl, st, v, d, rfl, s68 _ _ ha, DdAll.same s68 dd, dv.same s68, dw, fun H9 s9 => ?_⟩
        have s69 := s68.trans s9
        have b69 : ButD p H6 H9 := Same.but s69
        refine ⟨_, _, rfl, shows_bl _, rfl, false, ?_, ?_⟩
        · rw [gd]
          simp
        exact iteF ⟨_, _, _, _, _, _, _, hh6.but hp6 b69, hl6.but hp6 b69, b69 _ _ no ho6, fun x hx => (vo6 x hx).pot hp6 b69, hp6.same s69, ButD.trans b6 b69, rfl⟩
      · rintro σ2 H4 ⟨a5, a6, a7, a8, a9, a10, a11, hh4, hl4, ho4, vo4, hp4, b4, rfl⟩
        exact hnx _ _ b4
    rintro σ9 H9 b9
    exact q H9 b9
end
end L2.K22
end

section
set_option Elab.async false
set_option linter.all false
set_option maxRecDepth 100000
set_option maxHeartbeats 4000000
namespace L2.K22
open PySem PySem.Spec PyProof.Rows L2.Gd
section
variable {P : Program} {w : World} {K : PySem.W.Frag} {mg : Str → Option Value} {base : Heap} {C : Addr}
/-- a def called by its name, where nothing is being shown -/
structure FnGd (P : Program) (w : World) (K : PySem.W.Frag) (mg : Str → Option Value) (base : Heap) (k : Nat) (x : Str) (ps : List Str) (sp : Sp) : Prop where
  ex : ∃ f fd, mg x = some (.ref f) ∧ PySem.W.keepIn K (.ref f) = true ∧ Binds K fd ps [] ∧ FnG P w K mg base k f fd ps sp
theorem pe_fnG {X : Cx} {k : Nat} {x : Str} {ps : List Str} {sp : Sp} {e : Expr} {es : List Expr} {t : TA} {p pos : Pos}
    (F : FnGd X.prog X.w X.K X.mg X.base k x ps sp) (hg : X.A.guards = some []) (hr : Room k X.A) (ha : PA X (e :: es) t) (gl : Gl X x := by rfl) (hdb : (x == ("__debug__" : Str)) = false := by decide)
    (he : starEach (e :: es) X.env = (false, eval e X.env) :: starEach es X.env := by rfl)
    (hpl : (backTo pos (starEach es X.env)).any (·.1) = false := by rfl) :
    PE X (.Call (.Name x p) (e :: es) [] pos) (tCall sp [] E0 t) := by
  obtain ⟨f, fd, m, kp, b, G⟩ := F.ex
  exact pe_callG G hg hr gl m kp b ha hdb he hpl
abbrev sLaw : Stmt := top 49
def spLaw (K : PySem.W.Frag) : Sp := fun vs H Q _ => ∃ (a : Addr) (ns : List Int), vs = [.ref a] ∧ SqL K H a (ns.map V.int) ∧ ns.length ≤ 63 ∧ ∀ H', Q (.bl true) H'
theorem scLaw : FnScope ["_law_script", "_law_k"] ["_law_script"] (defScope sLaw) := ⟨rfl, rfl, rfl, by decide +kernel, rfl, by decide +kernel, by decide +kernel⟩
theorem ok_law {f : Addr} {fd : FuncData} (F : Fun K "law" "law" sLaw f fd) (n : Nm mg) (GP : Fn P w K mg base 1 "_law_pot" ["_law_script", "_law_k"] (spPot K)) (GR : FnGd P w K mg base 11 "_law_right" ["_law_pot_here"] spRight) :
    FnG P w K mg base 12 f fd ["_law_script"] (spLaw K) := by
  refine okG F scLaw (fun vs H Q h => ?_) (fun cdv A outer s H vs Q hg hr h => ?_)
  · obtain ⟨a, ns, rfl, _⟩ := h
    rfl
  · obtain ⟨a, ns, rfl, hs, hl, q⟩ := h
    have N := scLaw.nd
    have r1 := hr.mono (k := 11) (j := 1) (by decide)
    refine ⟨_, pss_one (ps_ret (pe_callB (cr_all rfl) (by rfl) n.all (by decide +kernel) (pa_cons
      (pe_lc (own := [("_law_k", 1)]) (g := gName 1) (tt := tYes) rfl N (pi_range1 (by rfl) n.range (pa_cons (pe_callB (call_max2 rfl) (by rfl) n.max (by decide +kernel) (pa_cons pe_int (pa_cons
          (pe_callB (call_min2 rfl) (by rfl) n.min (by decide +kernel) (pa_cons pe_int (pa_cons (pe_callB call_len_seq (by rfl) n.len PySem.boot_len (pa_cons (pv 0) pa_nil)) pa_nil))) pa_nil))) pa_nil))
        (blkOk_by (N := ["_law_script", "_law_k"]) (sc := defScope sLaw) (by decide +kernel)) (fun _ _ _ _ _ => pg_name (i := 1) N rfl (.inl rfl)) (fun _ _ _ _ _ => pts_nil)
        (fun _ _ _ _ _ => pe_fnG GR hg hr (pa_cons (pe_fn GP r1 (pa_cons (pv 0) (pa_cons (pv 1) pa_nil))) pa_nil))) pa_nil))), ?_⟩
    refine ⟨_, rfl, a, _, rfl, .inl hs, _, _, rfl, _, _, rfl, ?_⟩
    have hlen : (ns.map V.int).length = ns.length := List.length_map _
    generalize hr' : (if (if ((ns.map V.int).length : Int) < 3 then ((ns.map V.int).length : Int) else 3) > 1 then (if ((ns.map V.int).length : Int) < 3 then ((ns.map V.int).length : Int) else 3) else 1) = R
    have R1 : 1 ≤ R ∧ R ≤ 3 := by
      rw [hlen] at hr'
      subst hr'
      split <;> split <;> omega
    refine ⟨R, rfl, by omega, by omega, fun D hD => ?_⟩
    refine lc_mapR (lo := 0) (n := R.toNat) (G := fun _ v b => v = V.bl b) (f := fun _ => some true) (fun _ _ _ _ _ _ z => z) (by omega) ?_ ?_
    · rintro x e H2 A B he rfl b ⟨zs, hz⟩ hA hB
      unfold rgI at he
      obtain ⟨i, hi, rfl⟩ := List.mem_map.mp he
      have s2 := b.new hD
      refine ⟨rfl, yes_ite ?_⟩
      refine ⟨_, rfl, _, rfl, a, i, ns, by rw [Int.zero_add]; rfl, s2.seq hs, by omega, fun p H4 np s4 hp4 => ?_⟩
      refine ⟨p, rfl, hp4, fun H5 b5 => hA true _ H5 rfl (fun c o z => ?_) rfl⟩
      exact b5 _ _ (ne_of_none z np) (s4 _ _ z)
    · intro ys H2 h1 h2 h3
      rw [mapE] at h2
      rw [bls_of h2] at h1
      exact ⟨D, _, rfl, .inl (.inl h1), by
        have : ((rgI 0 R.toNat).map fun _ => true).all id = true := by simp
        rw [this]
        exact q H2⟩
end
end L2.K22
end

section
set_option Elab.async false
set_option linter.all false
set_option maxRecDepth 100000
set_option maxHeartbeats 4000000
namespace L2.K22
open PySem PySem.Spec PyProof.Rows L2.Gd
section
variable {K : PySem.W.Frag} {mg : Str → Option Value} {h : Heap} {C f p g N : Addr} {x qual : Str} {st : Stmt} {oc kV doc pm cdv ct : Value} {od an : Option Addr} {osl : Array (Option Value)}
/-- a def of the top -/
def MFact (K : PySem.W.Frag) (mg : Str → Option Value) (x : Str) (st : Stmt) : Prop := ∃ f fd, mg x = some (.ref f) ∧ Fun K x x st f fd
theorem mfact (X : K.In h) (G : h.Ns mainGlobals mg) (a : PySem.W.nsIn K mainGlobals x = some (some (.ref f)))
    (l : K.lookup f = some ⟨oc, od, .func (PySem.W.fnOf x x (defArgs st) (defBody st) (defScope st) .none kV doc pm an cdv ct), osl⟩) (c : PySem.W.codeIn K cdv x = true) (k : PySem.W.keepIn K (.ref f) = true) : MFact K mg x st :=
  ⟨f, _, PySem.W.mg_of X G a, fun_mk l c k⟩
/-- a method -/
def CFact (K : PySem.W.Frag) (C : Addr) (x qual : Str) (st : Stmt) : Prop := ∃ f fd, Meth K C x f ∧ Fun K x qual st f fd
theorem cfact (a : PySem.W.findIn K (.ref C) x = some (some (.ref f))) (i : PySem.W.isFn K (.ref f) = true)
    (l : K.lookup f = some ⟨oc, od, .func (PySem.W.fnOf x qual (defArgs st) (defBody st) (defScope st) .none kV doc pm an cdv ct), osl⟩) (c : PySem.W.codeIn K cdv qual = true) (k : PySem.W.keepIn K (.ref f) = true) : CFact K C x qual st :=
  ⟨f, _, ⟨a, i, k⟩, fun_mk l c k⟩
/-- a property -/
def PFact (K : PySem.W.Frag) (C : Addr) (x qual : Str) (st : Stmt) : Prop := ∃ p g fd, PropOf K C x p g ∧ Fun K x qual st g fd
theorem pfact {rest : List Value} (a : PySem.W.findIn K (.ref C) x = some (some (.ref p))) (b : PySem.W.specialIn K (.ref p) "__get__" = some (some (.builtin "property.__get__"))) (t : PySem.W.takesIn K (.ref p) = some true)
    (r : PySem.W.recIn K p "property" = some (.ref g :: rest))
    (l : K.lookup g = some ⟨oc, od, .func (PySem.W.fnOf x qual (defArgs st) (defBody st) (defScope st) .none kV doc pm an cdv ct), osl⟩) (c : PySem.W.codeIn K cdv qual = true) (k : PySem.W.keepIn K (.ref g) = true) : PFact K C x qual st :=
  ⟨p, g, _, ⟨a, b, t, ⟨rest, r⟩⟩, fun_mk l c k⟩
theorem kbn_of {f : Addr} {fd : FuncData} {ps ks : List Str} {n : Nat} {g : List Value → List Value → List Value} {gV : List V → List V → List V} (F : Fun K x qual st f fd)
    (h : ∀ (kV doc pm : Value) (an : Option Addr) (cdv ct : Value) (us ws : List Value), us.length = n → ws.length = ks.length →
      bindArgs (PySem.W.fnOf x qual (defArgs st) (defBody st) (defScope st) .none kV doc pm an cdv ct) ⟨us, ks.zip ws⟩ = pure (ps.zip (g us ws)))
    (r : ∀ {vs : List V} {us : List Value} {zs : List V} {ws : List Value}, Vals vs us → Vals zs ws → Vals (gV vs zs) (g us ws)) : KBn K fd ps n ks g gV := by
  obtain ⟨oc, od, kV, doc, pm, an, cdv, ct, osl, rfl, lk, hcd⟩ := F.ex
  exact ⟨fun s us ws _ l1 l2 => .of_eq (h kV doc pm an cdv ct us ws l1 l2), r⟩
end
/-- all that the top has left -/
structure Facts (K : PySem.W.Frag) (mg : Str → Option Value) (C D : Addr) : Prop where
  n : Nm mg
  m4 : ∃ t, mg "MOST_LISTS" = some (.int 4 t)
  m16 : ∃ t, mg "MOST_PLACES" = some (.int 16 t)
  m60 : ∃ t, mg "MOST_DEEDS" = some (.int 60 t)
  T : ClsT K mg C
  T2 : ClsC K mg D
  mkC : PySem.W.makesIn K C = true
  kpC : PySem.W.keepIn K (.ref C) = true
  mkD : PySem.W.makesIn K D = true
  kpD : PySem.W.keepIn K (.ref D) = true
  ii : MFact K mg "is_integer" sIsInt
  ic : MFact K mg "is_count" sIsCount
  il : MFact K mg "is_list" sIsList
  cm : MFact K mg "check_many" (top 14)
  cp : MFact K mg "check_place" (top 15)
  no : MFact K mg "no_course" (top 19)
  dc : MFact K mg "deed_course" (top 20)
  vb : MFact K mg "is_vain_behind" (top 21)
  ba : MFact K mg "behind_another" (top 22)
  oft : MFact K mg "done_often" (top 23)
  hf : MFact K mg "has_going_form" (top 24)
  cw : MFact K mg "course_within" (top 25)
  cn : MFact K mg "course_or_none" (top 26)
  ig : MFact K mg "is_going" (top 28)
  id : MFact K mg "is_deed" sIsDeed
  ck : MFact K mg "check_deeds" sCheck
  init : CFact K C "__init__" "House.__init__" (cHouse 0)
  pl : PFact K C "places" "House.places" (cHouse 1)
  de : CFact K C "deeds" "House.deeds" (cHouse 3)
  ln : CFact K C "__len__" "House.__len__" (cHouse 4)
  ci : CFact K D "__init__" "Course.__init__" (cCrs 0)
  ft : CFact K D "fits" "Course.fits" (cCrs 1)
  pot : MFact K mg "_law_pot" sPot
  dr : MFact K mg "_law_draw" sDraw
  pk : MFact K mg "_law_pick" (top 38)
  ds : MFact K mg "_law_deeds" sDeeds
  iw : MFact K mg "_law_is_whole" (top 40)
  un : MFact K mg "_law_unrolled" (top 41)
  hg : MFact K mg "_law_hangs" (top 42)
  wk : MFact K mg "_law_walked" (top 43)
  wa : MFact K mg "_law_walk" (top 44)
  it : MFact K mg "_law_items" (top 45)
  du : MFact K mg "_law_due" (top 46)
  ne : MFact K mg "_law_near" (top 47)
  ri : MFact K mg "_law_right" (top 48)
section
variable {P : Program} {w : World} {K : PySem.W.Frag} {mg : Str → Option Value} {base : Heap} {C D : Addr}
theorem fn_mk {x : Str} {st : Stmt} {k : Nat} {ps : List Str} {sp : Sp} (m : MFact K mg x st)
    (b : ∀ (kV doc pm : Value) (an : Option Addr) (cdv ct : Value) (us : List Value), us.length = ps.length → bindArgs (PySem.W.fnOf x x (defArgs st) (defBody st) (defScope st) .none kV doc pm an cdv ct) ⟨us, []⟩ = pure (ps.zip us))
    (ok : ∀ f fd, Fun K x x st f fd → FnOk P w K mg base CX0 k f fd ps sp) : Fn P w K mg base k x ps sp := by
  obtain ⟨f, fd, e, F⟩ := m
  exact ⟨f, fd, e, F.kp, F.binds b, ok f fd F⟩
theorem fnG_mk {x : Str} {st : Stmt} {k : Nat} {ps : List Str} {sp : Sp} (m : MFact K mg x st)
    (b : ∀ (kV doc pm : Value) (an : Option Addr) (cdv ct : Value) (us : List Value), us.length = ps.length → bindArgs (PySem.W.fnOf x x (defArgs st) (defBody st) (defScope st) .none kV doc pm an cdv ct) ⟨us, []⟩ = pure (ps.zip us))
    (ok : ∀ f fd, Fun K x x st f fd → FnG P w K mg base k f fd ps sp) : FnGd P w K mg base k x ps sp := by
  obtain ⟨f, fd, e, F⟩ := m
  exact ⟨f, fd, e, F.kp, F.binds b, ok f fd F⟩
theorem me_mk {x qual : Str} {st : Stmt} {k : Nat} {ps : List Str} {sp : Sp} (m : CFact K C x qual st)
    (b : ∀ (kV doc pm : Value) (an : Option Addr) (cdv ct : Value) (us : List Value), us.length = ps.length → bindArgs (PySem.W.fnOf x qual (defArgs st) (defBody st) (defScope st) .none kV doc pm an cdv ct) ⟨us, []⟩ = pure (ps.zip us))
    (ok : ∀ f fd, Fun K x qual st f fd → FnOk P w K mg base CX0 k f fd ps sp) : MeH P w K mg base C x k ps sp := by
  obtain ⟨f, fd, e, F⟩ := m
  exact ⟨f, fd, e, F.binds b, ok f fd F⟩
theorem pr_mk {x qual : Str} {st : Stmt} {sp : Sp} (m : PFact K C x qual st)
    (b : ∀ (kV doc pm : Value) (an : Option Addr) (cdv ct : Value) (us : List Value), us.length = (["self"] : List Str).length → bindArgs (PySem.W.fnOf x qual (defArgs st) (defBody st) (defScope st) .none kV doc pm an cdv ct) ⟨us, []⟩ = pure ((["self"] : List Str).zip us))
    (ok : ∀ f fd, Fun K x qual st f fd → FnOk P w K mg base CX0 1 f fd ["self"] sp) : PrH P w K mg base C x sp := by
  obtain ⟨p, g, fd, e, F⟩ := m
  exact ⟨p, g, fd, e, F.binds b, ok g fd F⟩
theorem law_of (z : Facts K mg C D) {f : Addr} {fd : FuncData} (F : Fun K "law" "law" sLaw f fd) : FnG P w K mg base 12 f fd ["_law_script"] (spLaw K) := by
  obtain ⟨t4, m4⟩ := z.m4
  obtain ⟨t16, m16⟩ := z.m16
  obtain ⟨t60, m60⟩ := z.m60
  have n := z.n
  have T := z.T
  have T2 := z.T2
  have II : Fn P w K mg base 1 "is_integer" ["value"] spIsInt := fn_mk z.ii (fun _ _ _ _ _ _ us hl => match us, hl with | [_], _ => rfl) fun f fd F => ok_isInt F n
  have IC : Fn P w K mg base 2 "is_count" ["value"] spIsCount := fn_mk z.ic (fun _ _ _ _ _ _ us hl => match us, hl with | [_], _ => rfl) fun f fd F => ok_isCount F II
  have IL : Fn P w K mg base 1 "is_list" ["value"] (spIsList K) := fn_mk z.il (fun _ _ _ _ _ _ us hl => match us, hl with | [_], _ => rfl) fun f fd F => ok_isList F n
  have I2 : Fn P w K mg base 1 "is_integer" ["value"] spInt2 := fn_mk z.ii (fun _ _ _ _ _ _ us hl => match us, hl with | [_], _ => rfl) fun f fd F => ok_int2 F n
  have C2 : Fn P w K mg base 2 "is_count" ["value"] spCnt2 := fn_mk z.ic (fun _ _ _ _ _ _ us hl => match us, hl with | [_], _ => rfl) fun f fd F => ok_cnt2 F I2
  have L2 : Fn P w K mg base 1 "is_list" ["value"] spLst2 := fn_mk z.il (fun _ _ _ _ _ _ us hl => match us, hl with | [_], _ => rfl) fun f fd F => ok_lst2 F n
  have ID : Fn P w K mg base 3 "is_deed" ["value", "places"] spIsDeed := fn_mk z.id (fun _ _ _ _ _ _ us hl => match us, hl with | [_, _], _ => rfl) fun f fd F => ok_isDeed F n II IC
  have CK : Fn P w K mg base 4 "check_deeds" ["places", "deeds"] (spCheck K) := fn_mk z.ck (fun _ _ _ _ _ _ us hl => match us, hl with | [_, _], _ => rfl) fun f fd F => ok_check F n IL ID m60
  have MK : MkH P w K mg base C := by
    obtain ⟨f, fd, me, F⟩ := z.init
    exact ⟨f, fd, ⟨z.mkC, me.at_, me.fn, z.kpC⟩, F.binds (fun _ _ _ _ _ _ us hl => match us, hl with | [_, _, _], _ => rfl), ok_init F n T II CK m16⟩
  have MC : MkC P w K mg base D := by
    obtain ⟨f, fd, me, F⟩ := z.ci
    exact ⟨f, fd, ⟨z.mkD, me.at_, me.fn, z.kpD⟩, F.binds (fun _ _ _ _ _ _ us hl => match us, hl with | [_, _, _, _, _, _, _, _], _ => rfl), ok_ci F T2⟩
  have PL : PrH P w K mg base C "places" (spPlaces C) := pr_mk z.pl (fun _ _ _ _ _ _ us hl => match us, hl with | [_], _ => rfl) fun f fd F => ok_places F T
  have DE : MeH P w K mg base C "deeds" 1 ["self"] (spDeeds C) := me_mk z.de (fun _ _ _ _ _ _ us hl => match us, hl with | [_], _ => rfl) fun f fd F => ok_deeds F n T
  have FT : MeH P w K mg base D "fits" 1 ["self", "place", "start"] (spFits D) := me_mk z.ft (fun _ _ _ _ _ _ us hl => match us, hl with | [_, _, _], _ => rfl) fun f fd F => ok_fits F T2
  have LN : LenH P w K mg base C := by
    obtain ⟨f, fd, me, F⟩ := z.ln
    exact ⟨f, fd, me.at_, me.fn, F.binds (fun _ _ _ _ _ _ us hl => match us, hl with | [_], _ => rfl), ok_len F n T⟩
  have NO : Fn P w K mg base 3 "no_course" [] (spNo D) := fn_mk z.no (fun _ _ _ _ _ _ us hl => match us, hl with | [], _ => rfl) fun f fd F => ok_no F T2 MC
  have DC : Fn P w K mg base 3 "deed_course" ["deed"] (spDC D) := fn_mk z.dc (fun _ _ _ _ _ _ us hl => match us, hl with | [_], _ => rfl) fun f fd F => ok_dc F n T2 MC
  have VB : Fn P w K mg base 1 "is_vain_behind" ["one", "two"] (spVB D) := fn_mk z.vb (fun _ _ _ _ _ _ us hl => match us, hl with | [_, _], _ => rfl) fun f fd F => ok_vb F T2
  have BA : Fn P w K mg base 3 "behind_another" ["one", "two"] (spBA D) := fn_mk z.ba (fun _ _ _ _ _ _ us hl => match us, hl with | [_, _], _ => rfl) fun f fd F => ok_ba F n T2 MC VB
  have OF : Fn P w K mg base 3 "done_often" ["course", "times"] (spOf D) := fn_mk z.oft (fun _ _ _ _ _ _ us hl => match us, hl with | [_, _], _ => rfl) fun f fd F => ok_of F T2 MC
  have HF : ∀ j, Fn P w K mg base (3 + j) "has_going_form" ["many", "value", "lists"] (spHF j) := by
    intro j
    induction j with
    | zero => exact fn_mk z.hf (fun _ _ _ _ _ _ us hl => match us, hl with | [_, _, _], _ => rfl) fun f fd F => ok_hf0 F L2
    | succ j ih => exact fn_mk z.hf (fun _ _ _ _ _ _ us hl => match us, hl with | [_, _, _], _ => rfl) fun f fd F => ok_hfS F n L2 C2 ih
  have CW : ∀ j, Fn P w K mg base (4 + j) "course_within" ["deeds", "going"] (spCW D j) := by
    intro j
    induction j with
    | zero => exact fn_mk z.cw (fun _ _ _ _ _ _ us hl => match us, hl with | [_, _], _ => rfl) fun f fd F => ok_cw0 F
    | succ j ih => exact fn_mk z.cw (fun _ _ _ _ _ _ us hl => match us, hl with | [_, _], _ => rfl) fun f fd F => ok_cwS F n NO DC OF BA ih
  have CP : Fn P w K mg base 3 "check_place" ["house", "place"] (spCP C) := fn_mk z.cp (fun _ _ _ _ _ _ us hl => match us, hl with | [_, _], _ => rfl) fun f fd F => ok_cp F T IC PL
  have CM : Fn P w K mg base 3 "check_many" ["many"] spCM := fn_mk z.cm (fun _ _ _ _ _ _ us hl => match us, hl with | [_], _ => rfl) fun f fd F => ok_cm F IC
  have CN : Fn P w K mg base 9 "course_or_none" ["house", "value"] (spCN D C) := fn_mk z.cn (fun _ _ _ _ _ _ us hl => match us, hl with | [_, _], _ => rfl) fun f fd F => ok_cn F n T m4 LN DE (HF 4) (CW 4)
  have IG : Fn P w K mg base 10 "is_going" ["house", "place", "start", "value"] (spIG C) := fn_mk z.ig (fun _ _ _ _ _ _ us hl => match us, hl with | [_, _, _, _], _ => rfl) fun f fd F => ok_ig F T2 CP CM CN FT
  have IK : GoK P w K mg base C := by
    obtain ⟨f, fd, e, F⟩ := z.ig
    exact ⟨f, fd, e, F.kp, kbn_of F (fun _ _ _ _ _ _ us ws l1 l2 => match us, ws, l1, l2 with | [], [_, _, _, _], _, _ => rfl) (fun _ r => vals_rv4 r), ok_ig F T2 CP CM CN FT⟩
  have DR : Fn P w K mg base 1 "_law_draw" ["_law_pot_here", "_law_many"] spDraw := fn_mk z.dr (fun _ _ _ _ _ _ us hl => match us, hl with | [_, _], _ => rfl) fun f fd F => ok_draw F n
  have PK : Fn P w K mg base 2 "_law_pick" ["_law_pot_here", "_law_some"] spPick := fn_mk z.pk (fun _ _ _ _ _ _ us hl => match us, hl with | [_, _], _ => rfl) fun f fd F => ok_pick F n DR
  have DS : Fn P w K mg base 2 "_law_deeds" ["_law_pot_here", "_law_places", "_law_many", "_law_has_empty"] spDeedsL := fn_mk z.ds (fun _ _ _ _ _ _ us hl => match us, hl with | [_, _, _, _], _ => rfl) fun f fd F => ok_deedsL F n DR
  have IW : Fn P w K mg base 1 "_law_is_whole" ["_law_value"] spInt2 := fn_mk z.iw (fun _ _ _ _ _ _ us hl => match us, hl with | [_], _ => rfl) fun f fd F => ok_iw F n
  have UN : ∀ j, Fn P w K mg base (2 + j) "_law_unrolled" ["_law_value", "_law_many", "_law_lists"] (spUn j) := by
    intro j
    induction j with
    | zero => exact fn_mk z.un (fun _ _ _ _ _ _ us hl => match us, hl with | [_, _, _], _ => rfl) fun f fd F => ok_un0 F n
    | succ j ih => exact fn_mk z.un (fun _ _ _ _ _ _ us hl => match us, hl with | [_, _, _], _ => rfl) fun f fd F => ok_unS F n IW ih
  have HG : Fn P w K mg base 1 "_law_hangs" ["_law_deeds_here", "_law_row"] spHg := fn_mk z.hg (fun _ _ _ _ _ _ us hl => match us, hl with | [_, _], _ => rfl) fun f fd F => ok_hg F n
  have WK : Fn P w K mg base 1 "_law_walked" ["_law_deeds_here", "_law_row", "_law_place", "_law_start"] spWk := fn_mk z.wk (fun _ _ _ _ _ _ us hl => match us, hl with | [_, _, _, _], _ => rfl) fun f fd F => ok_wk F
  have WA : Fn P w K mg base 3 "_law_walk" ["_law_pot_here", "_law_deeds_here", "_law_place", "_law_many"] spWa := fn_mk z.wa (fun _ _ _ _ _ _ us hl => match us, hl with | [_, _, _, _], _ => rfl) fun f fd F => ok_wa F n PK
  have k : RK P w K mg base C := {
    n := n, T := T, M := MK, dr := DR, ds := DS
    it := fn_mk z.it (fun _ _ _ _ _ _ us hl => match us, hl with | [_, _, _, _], _ => rfl) fun f fd F => ok_it F n DR PK WA
    ne := fn_mk z.ne (fun _ _ _ _ _ _ us hl => match us, hl with | [_, _, _], _ => rfl) fun f fd F => ok_ne F n DR PK IW
    du := fn_mk z.du (fun _ _ _ _ _ _ us hl => match us, hl with | [_, _, _, _], _ => rfl) fun f fd F => ok_du F n (UN 4) HG WK
    ig := IG, ik := IK }
  have RI : FnGd P w K mg base 11 "_law_right" ["_law_pot_here"] spRight := fnG_mk z.ri (fun _ _ _ _ _ _ us hl => match us, hl with | [_], _ => rfl) fun f fd F => ok_right F k
  have PO : Fn P w K mg base 1 "_law_pot" ["_law_script", "_law_k"] (spPot K) := fn_mk z.pot (fun _ _ _ _ _ _ us hl => match us, hl with | [_, _], _ => rfl) fun f fd F => ok_pot F n
  exact ok_law F n PO RI
theorem law_all (z : Facts K mg C D) (l : MFact K mg "law" sLaw) {fa : Addr} (hfa : mg "law" = some (.ref fa)) :
    ∃ fd : FuncData, (∀ (s : Shared) (v : Value), BindsTo s fd ⟨[v], []⟩ [("_law_script", v)]) ∧ ∀ base : Heap, K.In base → base.Ns mainGlobals mg → FnG P w K mg base 12 fa fd ["_law_script"] (spLaw K) := by
  obtain ⟨f, fd, e, F⟩ := l
  cases hfa.symm.trans e
  refine ⟨fd, ?_, fun base _ _ => law_of z F⟩
  obtain ⟨oc, od, kV, doc, pm, an, cdv, ct, osl, rfl, _, _⟩ := F.ex
  exact fun s v => .of_eq rfl
end
end L2.K22
end

section
set_option Elab.async false
set_option linter.all false
set_option maxRecDepth 100000
set_option maxHeartbeats 2000000
namespace L2.K22
open PySem PySem.Spec PyProof.Rows L2.Gd
section
variable {K : PySem.W.Frag} {mg : Str → Option Value} {h : Heap} {C f N : Addr} {oc kV doc pm cdv ct : Value} {od an : Option Addr} {osl : Array (Option Value)}
  {nm q : Str} {bs : List Value} {sn : List Str} {sub : List Value} {ab : Bool} {col : Option Bool} {dd : Option Addr} {k0 k1 k2 k3 k5 : Option Value} {newId : String}
  {nc : Value} {nd : Option Addr} {es : Array DictEntry} {en : Nat} {nsl : Array (Option Value)}
theorem kit_ref {T : String} {b : Bool} (c1 : PySem.W.isClsIn K C = true) (c2 : PySem.W.typeIn K (.ref C) = some (.type "type")) (s : PySem.W.subIn K (.type T) (.ref C) = some b) : PySem.W.kitOne K (.type T) (.ref C) = some b := by
  unfold PySem.W.kitOne
  rw [if_neg (show ¬ (Value.type T == Value.ref C) = true from fun z => nomatch z)]
  unfold PySem.W.kitCls
  have c1' : (PySem.W.clsIn K C).isSome = true := c1
  show (if ((PySem.W.clsIn K C).isSome && PySem.W.typeIn K (.ref C) == some (.type "type")) = true then PySem.W.subIn K (.type T) (.ref C) else none) = some b
  rw [c1', c2, if_pos (by rfl)]
  exact s
theorem kit_self : PySem.W.kitOne K (.ref C) (.ref C) = some true := by
  unfold PySem.W.kitOne
  rw [if_pos (show (Value.ref C == Value.ref C) = true by simp)]
theorem ifact {x : Str} {n : Int} {t : Tok} (X : K.In h) (G : h.Ns mainGlobals mg) (a : PySem.W.nsIn K mainGlobals x = some (some (.int n t))) : ∃ t, mg x = some (.int n t) := ⟨t, PySem.W.mg_of X G a⟩
theorem clsT_of (mC : mg "House" = some (.ref C)) (pg : PySem.W.plainGet K C Str.empty = true) (hd : PySem.W.hasDictIn K C = true) (po : PySem.W.plainOver K C = true) (sa : PySem.W.findIn K (.ref C) "__setattr__" = some (some (.builtin "object.__setattr__")))
    (ha : PySem.W.findIn K (.ref C) "__class__" = some (some (.builtin "object.__class__"))) (hn : PySem.W.specialIn K (.builtin "object.__class__") "__get__" = some (some (.builtin "getset_descriptor.__get__"))) (ht : PySem.W.takesIn K (.builtin "object.__class__") = some true)
    (hm : PySem.W.mroIn K C (.type "object") = some true) (nP : PySem.W.findIn K (.ref C) "_places" = some none) (nD : PySem.W.findIn K (.ref C) "_deeds" = some none) : ClsT K mg C :=
  ⟨⟨⟨pg, hd, po, sa⟩, ha, hn, ht, hm, kit_self⟩, nP, nD, mC⟩
theorem clsC_of (mC : mg "Course" = some (.ref C)) (pg : PySem.W.plainGet K C Str.empty = true) (hd : PySem.W.hasDictIn K C = true) (po : PySem.W.plainOver K C = true) (sa : PySem.W.findIn K (.ref C) "__setattr__" = some (some (.builtin "object.__setattr__")))
    (nb : PySem.W.findIn K (.ref C) "begin" = some none) (nf : PySem.W.findIn K (.ref C) "finish" = some none) (nn : PySem.W.findIn K (.ref C) "many" = some none) (ng : PySem.W.findIn K (.ref C) "gain" = some none) (ne : PySem.W.findIn K (.ref C) "need" = some none) (no : PySem.W.findIn K (.ref C) "only" = some none) (nv : PySem.W.findIn K (.ref C) "vain" = some none) : ClsC K mg C :=
  ⟨⟨pg, hd, po, sa⟩, nb, nf, nn, ng, ne, no, nv, mC⟩
end
end L2.K22
end

section
set_option Elab.async false
set_option linter.all false
open PySem PySem.W PyProof.Rows L2.K22
set_option maxRecDepth 100000 in
set_option maxHeartbeats 0 in
theorem PySem.Challenge.cw_lonetill_k22_any_value_as_going_holds : PySem.Challenge.rw_lonetill_k22_any_value_as_going.Holds := by
  w_on; o_law; k_head; (case hw => w_witness2)
  k_fill
  refine L2.Gd.walk_ofG (l := PySem.Challenge.rw_lonetill_k22_any_value_as_going) (n := 63) (k := 12) (x := "_law_script") (sp := L2.K22.spLaw) rfl (by decide) rfl ⟨rfl, by decide, by decide⟩ (fun w h Y => PySem.W.kIn_of Y) ?F ?hsp
  case hsp =>
    intro K H a ns hl _ hS
    exact ⟨a, ns, rfl, hS, hl, fun _ => rfl⟩
  case F =>
    intro w mg fa h KX G hmg
    refine' (fun {C D : Addr} (aC : PySem.W.nsIn _ mainGlobals "House" = some (some (.ref C))) (aD : PySem.W.nsIn _ mainGlobals "Course" = some (some (.ref D))) (z : (mg "House" = some (.ref C)) → (mg "Course" = some (.ref D)) → Facts _ mg C D ∧ MFact _ mg "law" sLaw) => law_all (z (PySem.W.mg_of KX G aC) (PySem.W.mg_of KX G aD)).1 (z (PySem.W.mg_of KX G aC) (PySem.W.mg_of KX G aD)).2 hmg) ?aC ?aD ?z
    (case aC => k_is)
    (case aD => k_is)
    case z =>
      intro mC mD
      refine' ⟨⟨?n, ?m4, ?m16, ?m60, ?T, ?T2, ?mkC, ?kpC, ?mkD, ?kpD, ?ii, ?ic, ?il, ?cm, ?cp, ?no, ?dc, ?vb, ?ba, ?oft, ?hf, ?cw, ?cn, ?ig, ?id, ?ck, ?init, ?pl, ?de, ?ln, ?ci, ?ft, ?pot, ?dr, ?pk, ?ds, ?iw, ?un, ?hg, ?wk, ?wa, ?it, ?du, ?ne, ?ri⟩, ?law⟩
      case n =>
        refine' ⟨PySem.W.mg_none_of KX G ?b0, PySem.W.mg_none_of KX G ?b1, PySem.W.mg_none_of KX G ?b2, PySem.W.mg_none_of KX G ?b3, PySem.W.mg_none_of KX G ?b4, PySem.W.mg_none_of KX G ?b5, PySem.W.mg_none_of KX G ?b6, PySem.W.mg_none_of KX G ?b7, PySem.W.mg_none_of KX G ?b8, PySem.W.mg_none_of KX G ?b9, PySem.W.mg_none_of KX G ?b10, PySem.W.mg_none_of KX G ?b11, PySem.W.mg_none_of KX G ?b12, PySem.W.mg_none_of KX G ?b13, PySem.W.mg_none_of KX G ?b14, PySem.W.mg_none_of KX G ?b15, PySem.W.mg_none_of KX G ?b16, PySem.W.mg_none_of KX G ?b17⟩
        (case b0 => k_is); (case b1 => k_is); (case b2 => k_is); (case b3 => k_is); (case b4 => k_is); (case b5 => k_is); (case b6 => k_is); (case b7 => k_is); (case b8 => k_is); (case b9 => k_is); (case b10 => k_is); (case b11 => k_is); (case b12 => k_is); (case b13 => k_is); (case b14 => k_is); (case b15 => k_is); (case b16 => k_is); (case b17 => k_is)
      case m16 =>
        refine' ifact KX G ?a
        case a => k_is
      case m4 =>
        refine' ifact KX G ?a
        case a => k_is
      case m60 =>
        refine' ifact KX G ?a
        case a => k_is
      case T =>
        refine' clsT_of mC ?pg ?hd ?po ?sa ?ha ?hn ?ht ?hm ?nP ?nD
        (case pg => k_is); (case hd => k_is); (case po => k_is); (case sa => k_is); (case ha => k_is); (case hn => k_is); (case ht => k_is); (case hm => k_is); (case nP => k_is); (case nD => k_is)
      case T2 =>
        refine' clsC_of mD ?pg ?hd ?po ?sa ?xb ?xf ?xn ?xg ?xe ?xo ?xv
        (case pg => k_is); (case hd => k_is); (case po => k_is); (case sa => k_is); (case xb => k_is); (case xf => k_is); (case xn => k_is); (case xg => k_is); (case xe => k_is); (case xo => k_is); (case xv => k_is)
      case mkC => k_is
      case kpC => k_is
      case mkD => k_is
      case kpD => k_is
      case ii =>
        refine' mfact KX G ?a ?l ?c ?k
        (case a => k_is); (case l => k_is); (case c => k_is); (case k => k_is)
      case ic =>
        refine' mfact KX G ?a ?l ?c ?k
        (case a => k_is); (case l => k_is); (case c => k_is); (case k => k_is)
      case il =>
        refine' mfact KX G ?a ?l ?c ?k
        (case a => k_is); (case l => k_is); (case c => k_is); (case k => k_is)
      case cm =>
        refine' mfact KX G ?a ?l ?c ?k
        (case a => k_is); (case l => k_is); (case c => k_is); (case k => k_is)
      case cp =>
        refine' mfact KX G ?a ?l ?c ?k
        (case a => k_is); (case l => k_is); (case c => k_is); (case k => k_is)
      case no =>
        refine' mfact KX G ?a ?l ?c ?k
        (case a => k_is); (case l => k_is); (case c => k_is); (case k => k_is)
      case dc =>
        refine' mfact KX G ?a ?l ?c ?k
        (case a => k_is); (case l => k_is); (case c => k_is); (case k => k_is)
      case vb =>
        refine' mfact KX G ?a ?l ?c ?k
        (case a => k_is); (case l => k_is); (case c => k_is); (case k => k_is)
      case ba =>
        refine' mfact KX G ?a ?l ?c ?k
        (case a => k_is); (case l => k_is); (case c => k_is); (case k => k_is)
      case oft =>
        refine' mfact KX G ?a ?l ?c ?k
        (case a => k_is); (case l => k_is); (case c => k_is); (case k => k_is)
      case hf =>
        refine' mfact KX G ?a ?l ?c ?k
        (case a => k_is); (case l => k_is); (case c => k_is); (case k => k_is)
      case cw =>
        refine' mfact KX G ?a ?l ?c ?k
        (case a => k_is); (case l => k_is); (case c => k_is); (case k => k_is)
      case cn =>
        refine' mfact KX G ?a ?l ?c ?k
        (case a => k_is); (case l => k_is); (case c => k_is); (case k => k_is)
      case ig =>
        refine' mfact KX G ?a ?l ?c ?k
        (case a => k_is); (case l => k_is); (case c => k_is); (case k => k_is)
      case id =>
        refine' mfact KX G ?a ?l ?c ?k
        (case a => k_is); (case l => k_is); (case c => k_is); (case k => k_is)
      case ck =>
        refine' mfact KX G ?a ?l ?c ?k
        (case a => k_is); (case l => k_is); (case c => k_is); (case k => k_is)
      case pot =>
        refine' mfact KX G ?a ?l ?c ?k
        (case a => k_is); (case l => k_is); (case c => k_is); (case k => k_is)
      case dr =>
        refine' mfact KX G ?a ?l ?c ?k
        (case a => k_is); (case l => k_is); (case c => k_is); (case k => k_is)
      case pk =>
        refine' mfact KX G ?a ?l ?c ?k
        (case a => k_is); (case l => k_is); (case c => k_is); (case k => k_is)
      case ds =>
        refine' mfact KX G ?a ?l ?c ?k
        (case a => k_is); (case l => k_is); (case c => k_is); (case k => k_is)
      case iw =>
        refine' mfact KX G ?a ?l ?c ?k
        (case a => k_is); (case l => k_is); (case c => k_is); (case k => k_is)
      case un =>
        refine' mfact KX G ?a ?l ?c ?k
        (case a => k_is); (case l => k_is); (case c => k_is); (case k => k_is)
      case hg =>
        refine' mfact KX G ?a ?l ?c ?k
        (case a => k_is); (case l => k_is); (case c => k_is); (case k => k_is)
      case wk =>
        refine' mfact KX G ?a ?l ?c ?k
        (case a => k_is); (case l => k_is); (case c => k_is); (case k => k_is)
      case wa =>
        refine' mfact KX G ?a ?l ?c ?k
        (case a => k_is); (case l => k_is); (case c => k_is); (case k => k_is)
      case it =>
        refine' mfact KX G ?a ?l ?c ?k
        (case a => k_is); (case l => k_is); (case c => k_is); (case k => k_is)
      case du =>
        refine' mfact KX G ?a ?l ?c ?k
        (case a => k_is); (case l => k_is); (case c => k_is); (case k => k_is)
      case ne =>
        refine' mfact KX G ?a ?l ?c ?k
        (case a => k_is); (case l => k_is); (case c => k_is); (case k => k_is)
      case ri =>
        refine' mfact KX G ?a ?l ?c ?k
        (case a => k_is); (case l => k_is); (case c => k_is); (case k => k_is)
      case law =>
        refine' mfact KX G ?a ?l ?c ?k
        (case a => k_is); (case l => k_is); (case c => k_is); (case k => k_is)
      case init =>
        refine' cfact ?a ?i ?l ?c ?k
        (case a => k_is); (case i => k_is); (case l => k_is); (case c => k_is); (case k => k_is)
      case de =>
        refine' cfact ?a ?i ?l ?c ?k
        (case a => k_is); (case i => k_is); (case l => k_is); (case c => k_is); (case k => k_is)
      case ln =>
        refine' cfact ?a ?i ?l ?c ?k
        (case a => k_is); (case i => k_is); (case l => k_is); (case c => k_is); (case k => k_is)
      case ci =>
        refine' cfact ?a ?i ?l ?c ?k
        (case a => k_is); (case i => k_is); (case l => k_is); (case c => k_is); (case k => k_is)
      case ft =>
        refine' cfact ?a ?i ?l ?c ?k
        (case a => k_is); (case i => k_is); (case l => k_is); (case c => k_is); (case k => k_is)
      case pl =>
        refine' pfact ?a ?b ?t ?r ?l ?c ?k
        (case a => k_is); (case b => k_is); (case t => k_is); (case r => k_is); (case l => k_is); (case c => k_is); (case k => k_is)
end
