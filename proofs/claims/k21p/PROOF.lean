import PyProof.Rows.All
import Wide.All
import OpenK.AllK
import Wide.FinOn
import PyProof.EqAt
import PyProof.EqKinds
import PyProof.TupleCall
import HandS.ForMost
import HandS.FStr
import HandS.RaiseMore
import HandS.IsInst
import PyProof.FactsAll.dict
import HandS.OwnEq
import PyProof.InstNe
import HandS.Defaults
import HandS.MakeKwOnly
import HandS.Iter
import PyProof.EnumMake
import PyProof.EnumIter
import OpenK.KOps
import HandS.SortInts
import PyProof.TupleOfSeq
import HandS.Comp
import HandS.Conv
import HandS.Property
import HandS.Style
import PySem.Challenge.RW_lonetill_k21_houses_as_values
import HandS.Deep
import HandS.TupAny
import PyProof.P3In
import HandS.Codes
import PyProof.Rows.RegFStrParts

section
set_option Elab.async false
set_option linter.all false
set_option maxRecDepth 100000
set_option maxHeartbeats 2000000
/-! Defs that are called while nothing is being shown (no repr runs around): their promise, their calls, the law's end. -/
namespace L2.Gd
open PySem PySem.Spec PyProof.Rows

structure FnG (P : Program) (w : World) (K : PySem.W.Frag) (mg : Str → Option Value) (base : Heap)
    (k : Nat) (f : Addr) (fd : FuncData) (ps : List Str) (sp : Sp) : Prop where
  cnt : ∀ (vs : List V) (H : Hp) (Q : VK), sp vs H Q E0 → vs.length = ps.length
  go : ∀ (A : Around) (outer : List Env) (s : Shared) (H : Hp) (args : Args)
      (us : List Value) (vs : List V) (Q : VK), A.guards = some [] → Room k A →
    Env0 P w K mg base A outer s H → BindsTo s fd args (ps.zip us) → Vals vs us →
    sp vs H Q E0 → codeAny (model P w) A (.call (.ref f) args) (CR CX0 outer P w H s Q E0) s

section
variable {P : Program} {w : World} {K : PySem.W.Frag} {mg : Str → Option Value} {base : Heap}
  {k : Nat} {f : Addr} {fd : FuncData} {ps N : List Str} {sp : Sp}

theorem FnG.of (F : FnOk P w K mg base CX0 k f fd ps sp) : FnG P w K mg base k f fd ps sp :=
  ⟨fun vs H Q h => F.len vs H Q E0 h,
   fun A outer s H args us vs Q _ hr e0 hb r h => F.run A outer s H args us vs Q E0 hr e0 hb r h⟩

theorem FnG.mono {j : Nat} (F : FnG P w K mg base j f fd ps sp) (h : j ≤ k) : FnG P w K mg base k f fd ps sp :=
  ⟨F.cnt, fun A outer s H args us vs Q hg hr => F.go A outer s H args us vs Q hg (hr.mono h)⟩

/-- a def of the text, by its body, where nothing is being shown around it -/
theorem okG {x qual : Str} {st : Stmt} (F : Fun K x qual st f fd) (S : FnScope N ps (defScope st))
    (cnt : ∀ (vs : List V) (H : Hp) (Q : VK), sp vs H Q E0 → vs.length = ps.length)
    (body : ∀ (cdv : Value) (A : Around) (outer : List Env) (s : Shared) (H : Hp) (vs : List V) (Q : VK),
      A.guards = some [] → Room k (A.deeper (envOfC qual (defScope st) s.heap.objs.size f cdv)) →
      sp vs H Q E0 →
      ∃ t, PSs (cxOf CX0 P w K mg base N qual (defScope st) f cdv A outer s H E0).nox (defBody st) t ∧
        t { nx := fun _ H' => Q .non H', rt := Q } (start N vs) H) :
    FnG P w K mg base (k + 1) f fd ps sp := by
  obtain ⟨oc, od, kV, doc, pm, an, cdv, ct, osl, rfl, there, code⟩ := F.ex
  refine ⟨cnt, ?_⟩
  intro A outer s H args us vs Q hg hr e0 bind rv hsp
  have inK : K.In s.heap := e0.mod.kin.keeps (fun b o q => (e0.bs b o q).1)
  have nolim : s.heap.NoLimit := e0.mod.nolimit.keeps (fun b o q => (e0.bs b o q).1)
  have kinds : ∀ y ∈ ps.zip us, (defScope st).names.lookup y.1 = some .local ∨
      ((defScope st).names.lookup y.1 = some .cell ∧
        ((cellsFrom (s.heap.objs.size + 1) (defScope st).names []).lookup y.1).isSome = true) := by
    rintro ⟨n, v⟩ hy
    cases S.par n (List.of_mem_zip hy).1 with
    | inl q => exact .inl q
    | inr q => exact .inr ⟨q, PySem.W.cellsFrom_some _ _ _ (.inl q)⟩
  refine codeAny_call_function hr.depth (inK _ _ there) rfl S.co S.gen rfl
    (PySem.W.codeRec_of inK code) (bind _ _ _ _ ?_)
  refine wpAny_newFunctionEnv_cells S.kind kinds ?_
  intro env he s1 ic
  subst he
  refine ⟨nolim.keeps ic.toInCall.keep, codeAny_func ?_⟩
  obtain ⟨t, ht, hq⟩ := body cdv A outer s H vs Q hg (hr.deeper _) hsp
  have hl : vs.length = ps.length := cnt _ _ _ hsp
  have I := inv_start (CX := CX0) (P := P) (w := w) (mg := mg) (base := base) (E := E0) S hr.hd e0 hl rv ic
  refine wpAny_mono (ht.nox.run [] s1 (start N vs) H _ I hq) (fun fl s' z => ?_) (fun e s' z => z)
  cases fl with
  | ret u =>
    obtain ⟨v, σ', H', J, r1, q⟩ := z
    exact ⟨v, H', J.os, J.bare, J.base, J.hok, r1, q⟩
  | next =>
    obtain ⟨σ', H', J, q⟩ := z
    exact ⟨.non, H', J.os, J.bare, J.base, J.hok, rfl, q⟩
  | brk =>
    obtain ⟨_, _, _, q⟩ := z
    exact q.elim
  | cont =>
    obtain ⟨_, _, _, q⟩ := z
    exact q.elim
end

section
variable {X : Cx} {k : Nat} {f : Addr} {fd : FuncData} {ps : List Str} {sp : Sp} {x : Str}
  {p pos : Pos} {e : Expr} {es : List Expr} {t : TA}

theorem run_fnG {pins : List (Addr × Obj)} {σ : St} {H : Hp} {s : Shared} {Q : VK} {us : List Value} {vs : List V}
    (F : FnG X.prog X.w X.K X.mg X.base k f fd ps sp) (hg : X.A.guards = some []) (hr : Room k X.A)
    (hb : Binds X.K fd ps []) (I : Inv X pins σ H s) (r : Vals vs us) (h : sp vs H Q E0) :
    wpAny (model X.prog X.w) X.A (call (.ref f) us) (EP X pins σ Q) X.xe s := by
  have hl : (us ++ []).length = ps.length := by
    rw [List.append_nil, ← r.length]
    exact F.cnt _ _ _ h
  have hb2 := hb s us I.kIn hl
  rw [List.append_nil] at hb2
  refine wpAny_call (codeAny_mono
    (F.go X.A X.stack s H ⟨us, []⟩ us vs Q hg hr I.env0 hb2 r h) ?_)
  intro res s' hq
  cases res with
  | error er => exact (show False from hq).elim
  | ok fl =>
    cases fl with
    | ret u => exact I.after hq
    | next => exact hq.elim
    | brk => exact hq.elim
    | cont => exact hq.elim

/-- f(e, ..), f such a def -/
theorem pe_callG (F : FnG X.prog X.w X.K X.mg X.base k f fd ps sp) (hg : X.A.guards = some [])
    (hr : Room k X.A) (gl : Gl X x) (hm : X.mg x = some (.ref f))
    (hk : PySem.W.keepIn X.K (.ref f) = true) (hb : Binds X.K fd ps []) (ha : PA X (e :: es) t)
    (hdb : (x == ("__debug__" : Str)) = false := by decide)
    (he : starEach (e :: es) X.env = (false, eval e X.env) :: starEach es X.env := by rfl)
    (hpl : (backTo pos (starEach es X.env)).any (·.1) = false := by rfl) :
    PE X (.Call (.Name x p) (e :: es) [] pos) (tCall sp [] E0 t) := by
  constructor
  intro pins s σ H Q I h
  refine wpAny_Call_Name_kw (ld_glob I gl hm ?_ hdb)
  refine PySem.W.callWith_K (h₀ := X.base) I.ok.mod.kin hk ?_ he hpl
  refine thn (ha.run pos pins s σ H _ I h) ?_
  rintro us s1 ⟨vs, H1, I1, r, q⟩
  rw [List.append_nil] at q
  exact ⟨I1.kIn, run_fnG F hg hr hb I1 r q⟩
end
end L2.Gd
end

section
set_option Elab.async false
set_option linter.all false
set_option maxRecDepth 100000
set_option maxHeartbeats 2000000
namespace L2.Gd
open PySem PySem.Spec PyProof.Rows

section
variable {P : Program} {w : World} {K : PySem.W.Frag} {mg mb : Str → Option Value} {k : Nat} {fa a : Addr}
  {fd : FuncData} {x : Str} {sp : Sp} {s₁ : Shared} {vs : List Value} {ns : List Int}

/-- the law's run from a heap of which at most the script is tracked -/
theorem law_core (inK : K.In s₁.heap) (hns : s₁.heap.Ns mainGlobals mg) (hb : s₁.heap.Ns builtinsNs mb)
    (hbb : ∀ x : Str, x ≠ "__name__" → mb x = bootBuiltins x) (nolim : s₁.heap.NoLimit) (hg : s₁.gens = #[])
    (ha : s₁.heap.get? a = some { cls := .type "list", data := .seq vs.toArray }) (hr : Room k callerA)
    (F : ∀ base : Heap, K.In base → base.Ns mainGlobals mg → FnG P w K mg base k fa fd [x] sp)
    (bind : ∀ (s : Shared) (u : Value), BindsTo s fd ⟨[u], []⟩ [(x, u)])
    (H : Hp) (only : Only H) (hsp : sp [.ref a] H (fun v _ => v = .bl true) E0)
    (ok : HOk P w H s₁.heap) (hA : ∀ b, H b ≠ none → b = a) (hK : H a ≠ none → K.lookup a = none) :
    codeAny (model P w) callerA (.call (.ref fa) ⟨[.ref a], []⟩)
      (fun r s' => r = .ok (.ret (.bool true)) ∧ OldK s₁.heap s'.heap ∧ s'.os = s₁.os ∧ AllBare s'.gens) s₁ := by
  have untracked : ∀ {b : Addr} {o : Obj} {es : Array DictEntry} {ep : Nat},
      s₁.heap.get? b = some o → o.data = .dict es ep → H b = none := by
    intro b o es ep q d
    cases hb' : H b with
    | none => rfl
    | some u =>
      have q2 : b = a := hA b (by rw [hb']; exact fun z => nomatch z)
      subst q2
      have q3 := ha.symm.trans q
      cases q3
      exact nomatch (show Data.seq vs.toArray _ = Data.dict es ep from d)
  have nsB : ∀ {b : Addr} {m : Str → Option Value}, s₁.heap.Ns b m → (hidT s₁.heap H).Ns b m := by
    rintro b m ⟨o, es, ep, q, d, r⟩
    exact ⟨o, es, ep, hidT_get q (untracked q d), d, r⟩
  have inB : K.In (hidT s₁.heap H) := by
    intro b o q
    refine hidT_get (inK b o q) ?_
    cases hb' : H b with
    | none => rfl
    | some u =>
      have q2 : b = a := hA b (by rw [hb']; exact fun z => nomatch z)
      subst q2
      rw [hK (by rw [hb']; exact fun z => nomatch z)] at q
      exact nomatch q
  obtain ⟨mc, l1, l2⟩ := nolim
  have md : Mod K mg (hidT s₁.heap H) := ⟨inB, nsB hns, ⟨mb, nsB hb, hbb⟩, ⟨mc, nsB l1, l2⟩⟩
  have e0 : Env0 P w K mg (hidT s₁.heap H) callerA [] s₁ H :=
    ⟨rfl, md, fun b o q => of_hidT q, Nat.le_of_eq (hidT_size _ _), trivial,
      fun b z => absurd (show b ∈ ([] : List Addr) from z) (by simp), ok, .of_eq hg⟩
  refine codeAny_mono ((F _ inB (nsB hns)).go callerA [] s₁ H ⟨[.ref a], []⟩ [.ref a] [.ref a] _ rfl hr e0
    (bind s₁ (.ref a)) (.cons rfl .nil) hsp) ?_
  intro r s' h
  cases r with
  | error e => exact (show False from h).elim
  | ok fl =>
    cases fl with
    | next => exact h.elim
    | brk => exact h.elim
    | cont => exact h.elim
    | ret u =>
      obtain ⟨v, H', os, bare, un, ok', rv, q⟩ := h
      obtain rfl : v = V.bl true := q
      obtain rfl : u = Value.bool true := rv
      refine ⟨rfl, OldK.of_keep ?_, os, bare⟩
      intro b o q1
      cases hb' : H b with
      | none =>
        exact un.keep b o q1 hb' (fun z => absurd (show b ∈ ([] : List Addr) from z) (by simp)) (by simp)
      | some u =>
        rcases only b with z | ⟨ob, xs, z⟩
        · exact nomatch hb'.symm.trans z
        · obtain ⟨q2, _⟩ := ok b _ z
          obtain ⟨q3, _⟩ := ok' b _ (un.frzs b ob _ z)
          cases q1.symm.trans q2
          exact q3

theorem law_callG (inK : K.In s₁.heap) (hns : s₁.heap.Ns mainGlobals mg) (hb : s₁.heap.Ns builtinsNs mb)
    (hbb : ∀ x : Str, x ≠ "__name__" → mb x = bootBuiltins x) (nolim : s₁.heap.NoLimit) (hg : s₁.gens = #[])
    (ha : s₁.heap.get? a = some { cls := .type "list", data := .seq vs.toArray }) (hi : IntsAre vs ns)
    (hl : ns.length ≤ sizeLine) (hr : Room k callerA)
    (F : ∀ base : Heap, K.In base → base.Ns mainGlobals mg → FnG P w K mg base k fa fd [x] sp)
    (bind : ∀ (s : Shared) (u : Value), BindsTo s fd ⟨[u], []⟩ [(x, u)])
    (hsp : ∀ H : Hp, Only H → SqL K H a (ns.map V.int) → sp [.ref a] H (fun v _ => v = .bl true) E0) :
    codeAny (model P w) callerA (.call (.ref fa) ⟨[.ref a], []⟩)
      (fun r s' => r = .ok (.ret (.bool true)) ∧ OldK s₁.heap s'.heap ∧ s'.os = s₁.os ∧ AllBare s'.gens) s₁ := by
  have rv := vals_ints hi
  have lenV := hi.length
  cases hk : K.lookup a with
  | some o =>
    -- the script is one of the module's own objects
    cases ha.symm.trans (inK a o hk)
    have only : Only (fun _ => none) := fun _ => .inl rfl
    have sq : SqL K (fun _ => none) a (ns.map V.int) :=
      .inr ⟨_, vs.toArray, _, hk, rfl, rfl, rfl, by rw [List.size_toArray, lenV]; exact hl, by simpa using rv⟩
    refine law_core inK hns hb hbb nolim hg ha hr F bind _ only (hsp _ only sq) ?_ ?_ ?_
    · intro b u z
      exact nomatch (show (none : Option HO) = some u from z)
    · exact fun b z => absurd rfl z
    · exact fun z => absurd rfl z
  | none =>
    let Hs : Hp := fun b => if b = a then some (.frz { cls := .type "list", data := .seq vs.toArray } (.lst (ns.map V.int))) else none
    have at_a : Hs a = some (.frz { cls := .type "list", data := .seq vs.toArray } (.lst (ns.map V.int))) := if_pos rfl
    have else_ : ∀ b, b ≠ a → Hs b = none := fun b n => if_neg n
    have only : Only Hs := by
      intro b
      by_cases q : b = a
      · subst q; exact .inr ⟨_, _, at_a⟩
      · exact .inl (else_ b q)
    refine law_core inK hns hb hbb nolim hg ha hr F bind Hs only (hsp _ only (.inl (.inr ⟨_, at_a⟩))) ?_ ?_ ?_
    · intro b u z
      by_cases q : b = a
      · subst q
        cases at_a.symm.trans z
        exact ⟨ha, by rw [List.length_map]; exact hl, vs, _, rv, ha⟩
      · exact nomatch (else_ b q).symm.trans z
    · intro b z
      by_cases q : b = a
      · exact q
      · exact absurd (else_ b q) z
    · exact fun _ => hk
end

/-- the goal that the head leaves, from the law's promise -/
theorem walk_ofG {l : PySem.W.OpenLaw} {n k : Nat} {q : Program} {loose : List Str}
    {XP : (Str → Option Value) → Heap → Prop} {YP : World → Heap → Prop} {d : DefRec} {K : Params → PySem.W.Frag}
    {sp : PySem.W.Frag → Sp} {x : Str}
    (hn : l.most = some n) (hn2 : n ≤ sizeLine) (hdf : d.params.defaults = []) (hr : Room k callerA)
    (hY : ∀ (w : World) (h : Heap), YP w h → (K w.params).In h)
    (F : ∀ (w : World) (mg : Str → Option Value) (fa : Addr) (h : Heap), (K w.params).In h →
      h.Ns mainGlobals mg → mg d.name = some (.ref fa) →
      ∃ fd : FuncData, (∀ (s : Shared) (u : Value), BindsTo s fd ⟨[u], []⟩ [(x, u)]) ∧
        ∀ base : Heap, (K w.params).In base → base.Ns mainGlobals mg →
          FnG l.prog w (K w.params) mg base k fa fd [x] (sp (K w.params)))
    (hsp : ∀ (K : PySem.W.Frag) (H : Hp) (a : Addr) (ns : List Int), ns.length ≤ n → Only H →
      SqL K H a (ns.map V.int) → sp K [.ref a] H (fun v _ => v = .bl true) E0) :
    PySem.W.WalkO q loose XP YP l.row.toRowW d [] (fun f vs => PySem.call f vs) := by
  refine Att.attach_call hn hdf ?_
  intro w s₀ s₁ mg mb fa o pm cd doc a vs ns G Y ho hd hcd hmg hobj hints hlen hg
  have inK := hY w _ Y
  obtain ⟨fd, bind, hF⟩ := F w mg fa _ inK G.T.g hmg
  exact law_callG inK G.T.g G.T.b G.T.builtins G.T.nolimit hg hobj hints (Nat.le_trans hlen hn2) hr hF bind
    (fun H hO hS => hsp (K w.params) H a ns hlen hO hS)
end L2.Gd
end

section
set_option Elab.async false
set_option linter.all false
set_option maxRecDepth 100000
set_option maxHeartbeats 2000000
namespace L2.Gd
open PySem PySem.Spec PyProof.Rows

/-- a list or a tuple of plain data: what is told of it fits -/
def Showy (d : PyData) : Prop := d.showable = true ∧ d.hasDict = false ∧ d.depth ≤ 20 ∧ d.shown.length ≤ sizeLine
section
variable {X : Cx} {pins : List (Addr × Obj)} {σ : St} {H : Hp} {s : Shared}
theorem reprObj_D {A : Around} (I : Inv X pins σ H s) (hg : A.guards = some []) (hu : A.units + 64 < cLine) {a : Addr} {d : PyData}
    (hd : Dp X.K H (.ref a) d) (hs : Showy d) {Q : Value → Shared → Prop} {E : Value → Shared → Prop}
    (h : ∀ s' u, Inv X pins σ H s' → Q (.str d.shown u) s') :
    wpAny (model X.prog X.w) A (pyReprObj (.ref a)) Q E s := by
  obtain ⟨as, r⟩ := Dp.reads I d _ _ hd rfl
  obtain ⟨h1, h2, h3, h4⟩ := hs
  refine pyReprObj_of_reads r h1 (PyData.noDict_hsm h2) hg (by omega) (fun _ _ q => q) ?_ h4
  intro h' u tk k
  exact h _ u (I.kept k)
end
section
variable {X : Cx}
/-- repr(x), x a list or a tuple of plain data -/
theorem call_reprD (hg : X.A.guards = some []) (hu : X.A.units + 64 < cLine) :
    CallR X (.builtin "repr") (fun xs H Q => ∃ a d, xs = [.ref a] ∧ Dp X.K H (.ref a) d ∧ Showy d ∧ Q (.str d.shown) H) := by
  rintro pins s σ H xs us Q I r ⟨a, d, rfl, hd, ⟨h1, h2, h3, h4⟩, q⟩
  cases r with
  | cons r1 r2 =>
    cases r2
    obtain rfl := r1
    obtain ⟨as, rd⟩ := Dp.reads I d _ _ hd rfl
    refine repr_of_reads' rd h1 (PyData.noDict_hsm h2) hg (by omega) (fun _ _ q => q) ?_ h4
    intro h' u tk k
    exact ⟨.str d.shown, H, I.kept k, ⟨_, rfl⟩, q⟩
/-- {x!r} of such -/
theorem pe_fmtRD {e : Expr} {te : TE} {pos : Pos} (hg : X.A.guards = some []) (hu : X.A.units + 64 < cLine) (he : PE X e te) :
    PE X (.FormattedValue e 114 none pos) (fun σ H Q => te σ H fun x H1 => ∃ a d, x = .ref a ∧ Dp X.K H1 (.ref a) d ∧ Showy d ∧ Q (.str d.shown) H1) := by
  constructor
  intro pins s σ H Q I h
  refine wpAny_FormattedValue_repr (thn (he.run pins s σ H _ I h) ?_)
  rintro v s1 ⟨x, H1, I1, r1, a, d, rfl, hd, hs, q⟩
  obtain rfl := r1
  refine reprObj_D I1 hg hu hd hs ?_
  intro s' u I'
  exact wpAny_formatField_str ⟨.str d.shown, H1, I', ⟨u, rfl⟩, q⟩ ⟨.str d.shown, H1, I'.tok _, ⟨_, rfl⟩, q⟩ hs.2.2.2
end
end L2.Gd
end

section
set_option Elab.async false
set_option linter.all false
set_option maxRecDepth 100000
set_option maxHeartbeats 2000000
namespace L2.Gd
open PySem PySem.Spec PyProof.Rows

/-! ### a def's run, whatever it hands back (NotImplemented, too) -/
def RawEnd (R : Result → Shared → Prop) (fl : Flow) (s' : Shared) : Prop := match fl with
  | .ret u => R (.ok (.ret u)) s'
  | .next => R (.ok (.ret .none)) s'
  | _ => False
section
variable {P : Program} {w : World} {K : PySem.W.Frag} {mg : Str → Option Value} {base : Heap}
  {k : Nat} {f : Addr} {fd : FuncData} {ps N : List Str}

theorem raw_call {x qual : Str} {st : Stmt} (F : Fun K x qual st f fd) (S : FnScope N ps (defScope st))
    {A : Around} {outer : List Env} {s : Shared} {H : Hp} {args : Args} {us : List Value} {vs : List V}
    {R : Result → Shared → Prop} (hr : Room (k + 1) A) (e0 : Env0 P w K mg base A outer s H)
    (bind : BindsTo s fd args (ps.zip us)) (rv : Vals vs us) (hl : vs.length = ps.length)
    (body : ∀ (cdv : Value) (s1 : Shared),
      Inv (cxOf CX0 P w K mg base N qual (defScope st) f cdv A outer s H E0).nox [] (start N vs) H s1 →
      wpAny (model P w) (A.deeper (envOfC qual (defScope st) s.heap.objs.size f cdv))
        (execs (defBody st) (envOfC qual (defScope st) s.heap.objs.size f cdv)) (RawEnd R) (fun _ _ => False) s1) :
    codeAny (model P w) A (.call (.ref f) args) R s := by
  obtain ⟨oc, od, kV, doc, pm, an, cdv, ct, osl, rfl, there, code⟩ := F.ex
  have inK : K.In s.heap := e0.mod.kin.keeps (fun b o q => (e0.bs b o q).1)
  have nolim : s.heap.NoLimit := e0.mod.nolimit.keeps (fun b o q => (e0.bs b o q).1)
  have kinds : ∀ y ∈ ps.zip us, (defScope st).names.lookup y.1 = some .local ∨
      ((defScope st).names.lookup y.1 = some .cell ∧
        ((cellsFrom (s.heap.objs.size + 1) (defScope st).names []).lookup y.1).isSome = true) := by
    rintro ⟨n, v⟩ hy
    cases S.par n (List.of_mem_zip hy).1 with
    | inl q => exact .inl q
    | inr q => exact .inr ⟨q, PySem.W.cellsFrom_some _ _ _ (.inl q)⟩
  refine codeAny_call_function hr.depth (inK _ _ there) rfl S.co S.gen rfl
    (PySem.W.codeRec_of inK code) (bind _ _ _ _ ?_)
  refine wpAny_newFunctionEnv_cells S.kind kinds ?_
  intro env he s1 ic
  subst he
  refine ⟨nolim.keeps ic.toInCall.keep, codeAny_func ?_⟩
  have I := inv_start (CX := CX0) (P := P) (w := w) (mg := mg) (base := base) (E := E0) S hr.hd e0 hl rv ic
  refine wpAny_mono (body cdv s1 (I.wish _)) (fun fl s' z => ?_) (fun e s' z => z.elim)
  cases fl with
  | ret u => exact z
  | next => exact z
  | brk => exact z.elim
  | cont => exact z.elim
end

/-! ### == of an own class that answers NotImplemented -/
/-- the state behind it: nothing that was tracked has changed -/
def After (X : Cx) (pins : List (Addr × Obj)) (σ : St) (H : Hp) (s' : Shared) : Prop := ∃ H', Inv X pins σ H' s' ∧ Same H H'
/-- the own __eq__ at f, of the class at C, declines what is of another kind -/
def Declines (X : Cx) (C f : Addr) (D : V → Hp → Prop) : Prop :=
  ∀ (pins : List (Addr × Obj)) (s : Shared) (σ : St) (H : Hp) (x : Addr) (y : V) (v : Value) (dx : Addr) (fs : List (Str × V)),
    Inv X pins σ H s → H x = some (.ins C dx fs) → RelV y v → D y H →
    wpAny (model X.prog X.w) X.A (call (.ref f) [.ref x, v]) (fun r s' => r = .notImplemented ∧ After X pins σ H s') (fun _ _ => False) s

section
variable {X : Cx} {C f : Addr}
theorem wpAny_noE {M : Model} {A : Around} {α : Type} {t : Sem α} {Q : α → Shared → Prop} {E : Value → Shared → Prop} {s : Shared}
    (h : wpAny M A t Q (fun _ _ => False) s) : wpAny M A t Q E s := wpAny_mono h (fun _ _ z => z) (fun _ _ z => z.elim)

/-- the value on the right: its type, and what its own == says of an instance -/
structure OtherKind (X : Cx) (C : Addr) (y : V) (tb : Value) (D : V → Hp → Prop) : Prop where
  ne : (tb == .ref C) = false
  sub : PySem.W.subIn X.K tb (.ref C) = some false
  ty : ∀ (pins : List (Addr × Obj)) (s : Shared) (σ : St) (H : Hp) (v : Value), Inv X pins σ H s → RelV y v → D y H →
    PySem.W.Looks (model X.prog X.w) s.heap (typeOf v) tb
  dec : ∀ (A : Around) (pins : List (Addr × Obj)) (s : Shared) (σ : St) (H : Hp) (x : Addr) (v : Value) (dx : Addr) (fs : List (Str × V)) (Q : Option Value → Shared → Prop) (E : Value → Shared → Prop),
    A.units + 8 < cLine → Inv X pins σ H s → RelV y v → D y H → H x = some (.ins C dx fs) → (∀ s', Inv X pins σ H s' → Q none s') →
    wpAny (model X.prog X.w) A (tryCompare v "__eq__" (.ref x)) Q E s
  mono : ∀ (H H' : Hp), Same H H' → D y H → D y H'
  notSame : ∀ (pins : List (Addr × Obj)) (s : Shared) (σ : St) (H : Hp) (x : Addr) (v : Value) (dx : Addr) (fs : List (Str × V)) (A : Around) (Q : Bool → Shared → Prop) (E : Value → Shared → Prop),
    Inv X pins σ H s → RelV y v → D y H → H x = some (.ins C dx fs) → Q false s → wpAny (model X.prog X.w) A (isSame (.ref x) v) Q E s

/-- x == y, x an instance of the class at C, y of another kind: False -/
theorem op_eqNI (hu : X.A.units + 64 < cLine) {DD : V → Hp → Prop} (hs : PySem.W.findIn X.K (.ref C) "__eq__" = some (some (.ref f)))
    (hf : PySem.W.isFn X.K (.ref f) = true) (dc : Declines X C f DD) :
    OpR X (compareOp .Eq) (fun x y H Q => ∃ (a dx : Addr) (fs : List (Str × V)) (tb : Value) (D : V → Hp → Prop),
      x = .ref a ∧ H a = some (.ins C dx fs) ∧ OtherKind X C y tb D ∧ D y H ∧ DD y H ∧ ∀ H', Same H H' → Q (.bl false) H') := by
  rintro pins s σ H x y u v Q I rx ry ⟨a, dx, fs, tb, D, rfl, ha, O, hD, hDD, q⟩
  obtain rfl := rx
  obtain ⟨mA, J, _⟩ := ins_get I.hok ha
  obtain ⟨od, J, _⟩ := J.look
  show wpAny _ _ (richCompare .Eq (.ref a) v) _ _ _
  unfold richCompare
  simp only [oneThing_ref]
  refine wpAny_holding (wpAny_bind (wpAny_cRoomFor (by omega) ?_))
  refine wpAny_bind (J.type.here (wpAny_bind ((O.ty pins s σ H v I ry hD).here ?_)))
  have ne : (Value.ref C != tb) = true := by
    have := O.ne
    rw [bne_comm, bne, this]
    rfl
  rw [if_pos ne]
  refine wpAny_bind ((PySem.W.looks_subIn I.kIn O.sub).here ?_)
  simp only [Bool.false_eq_true, if_false]
  have one : wpAny (model X.prog X.w) X.A (tryCompare (.ref a) (cmpInfo CmpOp.Eq).2.fst v)
      (fun r s' => r = none ∧ After X pins σ H s') X.xe s := by
    unfold tryCompare
    refine wpAny_bind (PySem.W.ifBound_K I.kIn J hs hf (wpAny_mono (wpAny_noE (dc pins s σ H a y v dx fs I ha ry hDD)) ?_ (fun _ _ z => z)))
    rintro r s' ⟨rfl, h⟩
    exact wpAny_pure ⟨rfl, h⟩
  refine wpAny_bind (thn one ?_)
  rintro r s1 ⟨rfl, H1, I1, sm⟩
  show wpAny _ _ (tryCompare v (cmpInfo CmpOp.Eq).2.snd (Value.ref a) >>= _) _ _ _
  refine wpAny_bind (O.dec X.A pins s1 σ H1 a v dx fs _ _ (by omega) I1 ry (O.mono _ _ sm hD) (sm _ _ ha) ?_)
  intro s2 I2
  show wpAny _ _ (rule "compare.eq-identity" >>= _) _ _ _
  refine wpAny_bind (wpAny_rule (wpAny_bind (O.notSame pins s2 σ H1 a v dx fs X.A _ _ I2 ry (O.mono _ _ sm hD) (sm _ _ ha) ?_)))
  exact wpAny_pure ⟨.bl false, H1, I2, rfl, q H1 sm⟩
end
end L2.Gd
end

section
set_option Elab.async false
set_option linter.all false
set_option maxRecDepth 100000
set_option maxHeartbeats 2000000
/-! What built-in values say of an instance of an own class: their own == declines. -/
namespace PySem.SeqAt
open AutoSeq1 (wpAny_loadPart')
open MeetsSeq
def NoSub (C : Addr) (T : String) (h : Heap) : Prop := ∀ M : Model, PySem.W.Looks M h (isSubtype (.ref C) (.type T)) false
theorem list_eq_ni (l x C dx : Addr) (items : Array Value) (n : Nat) (dd : Option Addr) (sl : Array (Option Value)) :
    Meets (Builtin.«list.__eq__» ⟨[.ref l, .ref x], []⟩) (fun _ R s =>
      s.heap.get? l = some { cls := .type "list", dict := dd, data := .seq items n, slots := sl } ∧
      s.heap.get? x = some (PySem.W.instObj C dx) ∧ NoSub C "list" s.heap ∧ R (.ok (.ret .notImplemented)) s) :=
  .of_wp fun prog w A R s h => by
    obtain ⟨hp, g, d, tk, os⟩ := s
    obtain ⟨hl, hx, ns, h⟩ := h
    wp_walk using wpAny_loadPart' hl
    refine (ns _).here ?_
    wp_walk
    exact ⟨_, rfl, h⟩
theorem tuple_eq_ni (l x C dx : Addr) (items : Array Value) (n : Nat) (dd : Option Addr) (sl : Array (Option Value)) :
    Meets (Builtin.«tuple.__eq__» ⟨[.ref l, .ref x], []⟩) (fun _ R s =>
      s.heap.get? l = some { cls := .type "tuple", dict := dd, data := .seq items n, slots := sl } ∧
      s.heap.get? x = some (PySem.W.instObj C dx) ∧ NoSub C "tuple" s.heap ∧ R (.ok (.ret .notImplemented)) s) :=
  .of_wp fun prog w A R s h => by
    obtain ⟨hp, g, d, tk, os⟩ := s
    obtain ⟨hl, hx, ns, h⟩ := h
    wp_walk using wpAny_loadPart' hl
    refine (ns _).here ?_
    wp_walk
    exact ⟨_, rfl, h⟩
theorem dict_eq_ni (l x C dx : Addr) (o : Obj) :
    Meets (Builtin.«dict.__eq__» ⟨[.ref l, .ref x], []⟩) (fun _ R s => s.heap.get? l = some o ∧ o.cls = .type "dict" ∧
      s.heap.get? x = some (PySem.W.instObj C dx) ∧ NoSub C "dict" s.heap ∧ R (.ok (.ret .notImplemented)) s) :=
  .of_wp fun prog w A R s h => by
    obtain ⟨hp, g, d, tk, os⟩ := s
    obtain ⟨hl, hc, hx, ns, h⟩ := h
    wp_walk using wpAny_loadPart' hl
    refine (ns _).here ?_
    wp_walk
    exact ⟨_, rfl, h⟩
theorem int_eq_ni (b : Int) (u : Tok) (x C dx : Addr) :
    Meets (Builtin.«int.__eq__» ⟨[.int b u, .ref x], []⟩) (fun _ R s => s.heap.get? x = some (PySem.W.instObj C dx) ∧ R (.ok (.ret .notImplemented)) s) :=
  .of_wp fun prog w A R s h => by
    obtain ⟨hp, g, d, tk, os⟩ := s
    obtain ⟨hx, h⟩ := h
    wp_walk using wpAny_loadPart' hx, wpAny_load hx
    exact ⟨_, rfl, h⟩
theorem str_eq_ni (b : Str) (u : Tok) (x C dx : Addr) :
    Meets (Builtin.«str.__eq__» ⟨[.str b u, .ref x], []⟩) (fun _ R s => s.heap.get? x = some (PySem.W.instObj C dx) ∧ R (.ok (.ret .notImplemented)) s) :=
  .of_wp fun prog w A R s h => by
    obtain ⟨hp, g, d, tk, os⟩ := s
    obtain ⟨hx, h⟩ := h
    wp_walk using wpAny_loadPart' hx, wpAny_load hx
    exact ⟨_, rfl, h⟩
end PySem.SeqAt

namespace L2.Gd
open PySem PySem.Spec PyProof.Rows PySem.SeqAt
section
variable {X : Cx} {C : Addr}
/-- the class at C is of no built-in kind -/
structure NoKin (K : PySem.W.Frag) (C : Addr) : Prop where
  none : PySem.W.subIn K (.type "NoneType") (.ref C) = some false
  int : PySem.W.subIn K (.type "int") (.ref C) = some false
  str : PySem.W.subIn K (.type "str") (.ref C) = some false
  lst : PySem.W.subIn K (.type "list") (.ref C) = some false
  tup : PySem.W.subIn K (.type "tuple") (.ref C) = some false
  dct : PySem.W.subIn K (.type "dict") (.ref C) = some false
  lst' : PySem.W.subIn K (.ref C) (.type "list") = some false
  tup' : PySem.W.subIn K (.ref C) (.type "tuple") = some false
  dct' : PySem.W.subIn K (.ref C) (.type "dict") = some false
theorem noSub_of {pins : List (Addr × Obj)} {σ : St} {H : Hp} {s : Shared} {T : String} (I : Inv X pins σ H s)
    (h : PySem.W.subIn X.K (.ref C) (.type T) = some false) : NoSub C T s.heap := fun _ => PySem.W.looks_subIn I.kIn h

theorem kind_none (nk : NoKin X.K C) : OtherKind X C .non (.type "NoneType") (fun _ _ => True) where
  ne := rfl
  sub := nk.none
  ty := by
    intro pins s σ H v I rv _
    obtain rfl := rv
    exact .now
  dec := by
    intro A pins s σ H x v dx fs Q E hu I rv _ hx k
    obtain rfl := rv
    exact wpAny_tryCompare_declines (T := "NoneType") rfl F.slot_NoneType_eq
      (call_gives F.slot_NoneType_eq rfl F.entry_NoneType_eq (F.args_NoneType_eq_2 _ _) (NoneType___eq___none_ref_0 x) ⟨rfl, k _ I⟩)
  mono := fun _ _ _ h => h
  notSame := by
    intro pins s σ H x v dx fs A Q E I rv _ hx q
    obtain rfl := rv
    exact wpAny_of_eq (rfl : isSame (.ref x) .none = pure false) q
theorem kind_int (i : Int) (nk : NoKin X.K C) : OtherKind X C (.int i) (.type "int") (fun _ _ => True) where
  ne := rfl
  sub := nk.int
  ty := by
    intro pins s σ H v I rv _
    obtain ⟨t, rfl⟩ := rv
    exact .now
  dec := by
    intro A pins s σ H x v dx fs Q E hu I rv _ hx k
    obtain ⟨t, rfl⟩ := rv
    obtain ⟨mA, J, _⟩ := ins_get I.hok hx
    exact wpAny_tryCompare_declines (T := "int") (typeIs_int _ _ _) F.slot_int_eq
      (call_meets F.slot_int_eq (typeIs_int _ _ _) F.entry_int_eq (F.args_int_eq_2 _ _) (int_eq_ni i t x C dx) ⟨J.1, rfl, k _ I⟩)
  mono := fun _ _ _ h => h
  notSame := by
    intro pins s σ H x v dx fs A Q E I rv _ hx q
    obtain ⟨t, rfl⟩ := rv
    exact wpAny_of_eq (rfl : isSame (.ref x) (.int i t) = pure false) q
theorem kind_str (z : Str) (nk : NoKin X.K C) : OtherKind X C (.str z) (.type "str") (fun _ _ => True) where
  ne := rfl
  sub := nk.str
  ty := by
    intro pins s σ H v I rv _
    obtain ⟨t, rfl⟩ := rv
    exact .now
  dec := by
    intro A pins s σ H x v dx fs Q E hu I rv _ hx k
    obtain ⟨t, rfl⟩ := rv
    obtain ⟨mA, J, _⟩ := ins_get I.hok hx
    exact wpAny_tryCompare_declines (T := "str") (typeIs_str _ _ _) F.slot_str_eq
      (call_meets F.slot_str_eq (typeIs_str _ _ _) F.entry_str_eq (F.args_str_eq_2 _ _) (str_eq_ni z t x C dx) ⟨J.1, rfl, k _ I⟩)
  mono := fun _ _ _ h => h
  notSame := by
    intro pins s σ H x v dx fs A Q E I rv _ hx q
    obtain ⟨t, rfl⟩ := rv
    exact wpAny_of_eq (rfl : isSame (.ref x) (.str z t) = pure false) q
theorem kind_list (l : Addr) (nk : NoKin X.K C) : OtherKind X C (.ref l) (.type "list") (fun _ H => ∃ xs, H l = some (.lst xs)) where
  ne := rfl
  sub := nk.lst
  ty := by
    intro pins s σ H v I rv ⟨xs, hl⟩
    obtain rfl := rv
    obtain ⟨_, its, n, _, e⟩ := (show ObjOk X.prog X.w H s.heap l (.lst xs) from I.hok l _ hl)
    exact (PySem.W.Looks.ld (part := none) e).andThen .now
  dec := by
    intro A pins s σ H x v dx fs Q E hu I rv ⟨xs, hl⟩ hx k
    obtain rfl := rv
    obtain ⟨_, its, n, _, e⟩ := (show ObjOk X.prog X.w H s.heap l (.lst xs) from I.hok l _ hl)
    obtain ⟨mA, J, _⟩ := ins_get I.hok hx
    exact wpAny_tryCompare_declines (T := "list") ⟨_, e, rfl⟩ F.slot_list_eq
      (call_meets F.slot_list_eq ⟨_, e, rfl⟩ F.entry_list_eq (F.args_list_eq_2 _ _) (list_eq_ni l x C dx _ _ _ _) ⟨e, J.1, noSub_of I nk.lst', rfl, k _ I⟩)
  mono := fun _ _ sm ⟨xs, h⟩ => ⟨xs, sm _ _ h⟩
  notSame := by
    intro pins s σ H x v dx fs A Q E I rv ⟨xs, hl⟩ hx q
    obtain rfl := rv
    obtain ⟨_, its, n, _, e⟩ := (show ObjOk X.prog X.w H s.heap l (.lst xs) from I.hok l _ hl)
    obtain ⟨mA, J, _⟩ := ins_get I.hok hx
    exact wpAny_isSame_ref_other' (ne_of hx hl (by intro z; cases z)) J.1 e (show Value.type "list" ≠ Value.type "tuple" by decide) q
theorem same_left {M : Model} {A : Around} {E : Value → Shared → Prop} {s : Shared} {x y : Addr} {ox oy : Obj} {R : Bool → Shared → Prop} (ne : x ≠ y)
    (hx : s.heap.get? x = some ox) (hy : s.heap.get? y = some oy) (hnt : ox.cls ≠ .type "tuple") (h : R false s) :
    wpAny M A (isSame (.ref x) (.ref y)) R E s := by
  show wpAny M A (if (x == y) = true then pure true else _) R E s
  rw [if_neg (fun z => ne (beq_iff_eq.mp z))]
  refine wpAny_bind (wpAny_load hx (wpAny_bind (wpAny_load hy ?_)))
  split
  · rename_i _ h1 _ _ _
    exact absurd h1 hnt
  · exact wpAny_pure h
theorem kind_tup (l : Addr) (nk : NoKin X.K C) : OtherKind X C (.ref l) (.type "tuple") (fun _ H => ∃ xs, H l = some (.tup xs)) where
  ne := rfl
  sub := nk.tup
  ty := by
    intro pins s σ H v I rv ⟨xs, hl⟩
    obtain rfl := rv
    obtain ⟨_, its, _, o, e, c, n, hd⟩ := (show ObjOk X.prog X.w H s.heap l (.tup xs) from I.hok l _ hl)
    obtain ⟨cls, dd, data, sl⟩ := o
    simp only at c hd
    subst c hd
    exact (PySem.W.Looks.ld (part := none) e).andThen .now
  dec := by
    intro A pins s σ H x v dx fs Q E hu I rv ⟨xs, hl⟩ hx k
    obtain rfl := rv
    obtain ⟨_, its, _, o, e, c, n, hd⟩ := (show ObjOk X.prog X.w H s.heap l (.tup xs) from I.hok l _ hl)
    obtain ⟨cls, dd, data, sl⟩ := o
    simp only at c hd
    subst c hd
    obtain ⟨mA, J, _⟩ := ins_get I.hok hx
    exact wpAny_tryCompare_declines (T := "tuple") ⟨_, e, rfl⟩ F.slot_tuple_eq
      (call_meets F.slot_tuple_eq ⟨_, e, rfl⟩ F.entry_tuple_eq (F.args_tuple_eq_2 _ _) (tuple_eq_ni l x C dx _ _ _ _) ⟨e, J.1, noSub_of I nk.tup', rfl, k _ I⟩)
  mono := fun _ _ sm ⟨xs, h⟩ => ⟨xs, sm _ _ h⟩
  notSame := by
    intro pins s σ H x v dx fs A Q E I rv ⟨xs, hl⟩ hx q
    obtain rfl := rv
    obtain ⟨_, its, _, o, e, c, n, hd⟩ := (show ObjOk X.prog X.w H s.heap l (.tup xs) from I.hok l _ hl)
    obtain ⟨mA, J, _⟩ := ins_get I.hok hx
    exact same_left (ne_of hx hl (by intro z; cases z)) J.1 e (by intro z; cases z) q
theorem kind_dict (l : Addr) (nk : NoKin X.K C) : OtherKind X C (.ref l) (.type "dict") (fun _ H => ∃ kvs, H l = some (.dK kvs)) where
  ne := rfl
  sub := nk.dct
  ty := by
    intro pins s σ H v I rv ⟨kvs, hl⟩
    obtain rfl := rv
    obtain ⟨_, _, vs, _, o, es, ep, e, c, _⟩ := (show ObjOk X.prog X.w H s.heap l (.dK kvs) from I.hok l _ hl)
    have c1 : o.cls = .type "dict" := c.1
    obtain ⟨cls, dd, data, sl⟩ := o
    simp only at c1
    subst c1
    exact (PySem.W.Looks.ld (part := none) e).andThen .now
  dec := by
    intro A pins s σ H x v dx fs Q E hu I rv ⟨kvs, hl⟩ hx k
    obtain rfl := rv
    obtain ⟨_, _, vs, _, o, es, ep, e, c, _⟩ := (show ObjOk X.prog X.w H s.heap l (.dK kvs) from I.hok l _ hl)
    obtain ⟨mA, J, _⟩ := ins_get I.hok hx
    exact wpAny_tryCompare_declines (T := "dict") ⟨_, e, c.1⟩ F.slot_dict_eq
      (call_meets F.slot_dict_eq ⟨_, e, c.1⟩ F.entry_dict_eq (F.args_dict_eq_2 _ _) (dict_eq_ni l x C dx o) ⟨e, c.1, J.1, noSub_of I nk.dct', rfl, k _ I⟩)
  mono := fun _ _ sm ⟨xs, h⟩ => ⟨xs, sm _ _ h⟩
  notSame := by
    intro pins s σ H x v dx fs A Q E I rv ⟨kvs, hl⟩ hx q
    obtain rfl := rv
    obtain ⟨_, _, vs, _, o, es, ep, e, c, _⟩ := (show ObjOk X.prog X.w H s.heap l (.dK kvs) from I.hok l _ hl)
    obtain ⟨mA, J, _⟩ := ins_get I.hok hx
    exact same_left (ne_of hx hl (by intro z; cases z)) J.1 e (by intro z; cases z) q
end
end L2.Gd
end

section
set_option Elab.async false
set_option linter.all false
set_option maxRecDepth 100000
set_option maxHeartbeats 2000000
/-! == and != of two instances of an own class that has an __eq__ alone. -/
namespace L2.Gd
open PySem PySem.Spec PyProof.Rows
section
variable {X : Cx} {C f N : Addr} {n : Nat} {fd : FuncData} {ps : List Str} {sp : Sp}

/-- the callee runs, somewhere below the body -/
theorem run_at (F : FnOk X.prog X.w X.K X.mg X.base CX0 n f fd ps sp) (hb : Binds X.K fd ps []) {A : Around} (sb : Sub X n A)
    {pins : List (Addr × Obj)} {σ : St} {H : Hp} {s : Shared} {Q : VK} {us : List Value} {vs : List V}
    (I : Inv X pins σ H s) (r : Vals vs us) (h : sp vs H Q E0) {E : Value → Shared → Prop} :
    wpAny (model X.prog X.w) A (call (.ref f) us) (EP X pins σ Q) E s := by
  have e := I.env0
  have e0 : Env0 X.prog X.w X.K X.mg X.base A X.stack s H := ⟨sb.fr.trans e.frames, e.mod, e.bs, e.bsz, e.funs, e.frf, e.hok, e.bare⟩
  have hl : (us ++ []).length = ps.length := by
    rw [List.append_nil, ← r.length]
    exact F.len _ _ _ _ h
  have hb2 := hb s us I.kIn hl
  rw [List.append_nil] at hb2
  refine wpAny_call (codeAny_mono (F.run A X.stack s H ⟨us, []⟩ us vs Q E0 sb.room e0 hb2 r h) ?_)
  intro res s' hq
  cases res with
  | error er => exact (show False from hq).elim
  | ok fl =>
    cases fl with
    | ret u => exact I.after hq
    | next => exact hq.elim
    | brk => exact hq.elim
    | cont => exact hq.elim

theorem binds2 (hb : Binds X.K fd ps []) : Binds X.K fd ps [] := hb

/-- x == y, two instances of the class at C -/
theorem op_eqOwn (hr : Room n X.A) (F : FnOk X.prog X.w X.K X.mg X.base CX0 n f fd ps sp) (hb : Binds X.K fd ps [])
    (hs : PySem.W.findIn X.K (.ref C) "__eq__" = some (some (.ref f))) (hf : PySem.W.isFn X.K (.ref f) = true) :
    OpR X (compareOp .Eq) (fun x y H Q => ∃ (a b dx dy : Addr) (fs gs : List (Str × V)), x = .ref a ∧ y = .ref b ∧
      H a = some (.ins C dx fs) ∧ H b = some (.ins C dy gs) ∧ sp [.ref a, .ref b] H (fun v H' => (∃ k, v = .bl k) ∧ Q v H') E0) := by
  rintro pins s σ H x y u v Q I rx ry ⟨a, b, dx, dy, fs, gs, rfl, rfl, ha, hb', h⟩
  obtain rfl := rx
  obtain rfl := ry
  obtain ⟨mA, J, _⟩ := ins_get I.hok ha
  obtain ⟨mB, J', _⟩ := ins_get I.hok hb'
  obtain ⟨od, J, _⟩ := J.look
  obtain ⟨od', J', _⟩ := J'.look
  obtain ⟨m, fr⟩ := I.fr
  show wpAny _ _ (richCompare .Eq (.ref a) (.ref b)) _ _ _
  refine PySem.W.cmp_K (op := .Eq) (tb := .ref C) hr.units0 fr I.ok.mod.kin J J'.type (by simp [PySem.W.notFirst]) hs hf ?_
  refine thn (run_at (us := [.ref a, .ref b]) (vs := [.ref a, .ref b]) F hb ⟨hr, rfl⟩ I (.cons rfl (.cons rfl .nil)) h) ?_
  rintro r s' ⟨z, H', I', rz, ⟨k, rfl⟩, q⟩
  obtain rfl := rz
  exact ⟨.bl k, H', I', rfl, q⟩

/-- what the text's class must have for != by its own == -/
structure NeC (K : PySem.W.Frag) (C f N : Addr) : Prop where
  cls : ∃ nm q bs sn sub ab col dd k0 k1 k2 k3 k5 newId, K.lookup C = some (excClassObj nm q C N bs [.type "object"] true sn sub ab col dd k0 k1 k2 k3 k5 newId)
  ok : PySem.W.nsOkIn K N = true
  eq : PySem.W.nsIn K N "__eq__" = some (some (.ref f))
  ne : PySem.W.nsIn K N "__ne__" = some none
  fn : ∃ o, K.lookup f = some o ∧ o.cls = .type "function"

theorem ns_some {K : PySem.W.Frag} {h : Heap} {N : Addr} {m : Str → Option Value} {x : Str} {v : Value} (k : K.In h) (G : h.Ns N m)
    (e : PySem.W.nsIn K N x = some (some v)) : m x = some v := by
  obtain ⟨o, es, ep, ho, hd, _, hf⟩ := G
  unfold PySem.W.nsIn at e
  split at e
  · rename_i c d es' n' sl q
    cases ho.symm.trans (k _ _ q)
    cases hd
    split at e
    · rename_i en he
      cases e
      rw [← hf]
      unfold nsFind findBy
      rw [← Array.find?_toList, he]
      rfl
    · split at e
      · cases e
      · cases e
  · cases e
theorem NeC.heap {K : PySem.W.Frag} {h : Heap} (c : NeC K C f N) (k : K.In h) {x : Addr} {o : Obj} (hx : h.get? x = some o) (hc : o.cls = .ref C) :
    h.OwnEqNoNe x C f "object" [.type "object"] := by
  obtain ⟨nm, q, bs, sn, sub, ab, col, dd, k0, k1, k2, k3, k5, newId, hC⟩ := c.cls
  obtain ⟨of, hf, ft⟩ := c.fn
  have ns := Heap.Ns.of_isNs (PySem.W.isNs_of_in k c.ok)
  exact ⟨o, of, nm, q, N, bs, true, sn, sub, ab, col, dd, k0, k1, k2, k3, k5, newId, _, _, hx, hc, k _ _ hC, ns,
    ns_some k ns c.eq, k _ _ hf, ft, PySem.F.cmp_object.mro, PySem.F.cmp_object.eq.lookup, PySem.W.nsMap_none_of_in k c.ok c.ne⟩

/-- x != y -/
theorem op_neOwn (hr : Room (n + 1) X.A) (F : FnOk X.prog X.w X.K X.mg X.base CX0 n f fd ps sp) (hb : Binds X.K fd ps []) (c : NeC X.K C f N) :
    OpR X (compareOp .NotEq) (fun x y H Q => ∃ (a b dx dy : Addr) (fs gs : List (Str × V)), x = .ref a ∧ y = .ref b ∧
      H a = some (.ins C dx fs) ∧ H b = some (.ins C dy gs) ∧
      sp [.ref a, .ref b] H (fun v H' => ∃ k, v = .bl k ∧ Q (.bl (!k)) H') E0) := by
  rintro pins s σ H x y u v Q I rx ry ⟨a, b, dx, dy, fs, gs, rfl, rfl, ha, hb', h⟩
  obtain rfl := rx
  obtain rfl := ry
  obtain ⟨mA, J, _⟩ := ins_get I.hok ha
  obtain ⟨mB, J', _⟩ := ins_get I.hok hb'
  show wpAny _ _ (richCompare .NotEq (.ref a) (.ref b)) _ _ _
  obtain ⟨hp, g, d, t, os⟩ := s
  refine richCompare_ne_ownEq PySem.F.cmp_object (c.heap I.kIn J.1 rfl) J'.1 rfl (by have := hr.units; omega) ?_
  refine thn (run_at (us := [.ref a, .ref b]) (vs := [.ref a, .ref b]) F hb (A := X.A.in1) ⟨hr.in1, rfl⟩ I (.cons rfl (.cons rfl .nil)) h) ?_
  rintro r s' ⟨z, H', I', rz, k, rfl, q⟩
  obtain rfl := rz
  exact ⟨k, rfl, .bl (!k), H', I', rfl, q⟩
end
end L2.Gd
end

section
set_option Elab.async false
set_option linter.all false
set_option maxRecDepth 100000
set_option maxHeartbeats 2000000
namespace L2.Gd
open PySem PySem.Spec PyProof.Rows
section
variable {X : Cx} {k : Nat} {f C : Addr} {fd : FuncData} {ps ks : List Str} {sp : Sp} {x m : Str} {p pos apos : Pos}
  {o : Expr} {kws : List Keyword} {ta tk : TE} {tks : TA} {g : List Value → List Value → List Value} {gV : List V → List V → List V}
/-- a call with keywords alone of a def: it binds by KBn -/
theorem run_kw {pins : List (Addr × Obj)} {σ : St} {H : Hp} {s : Shared} {Q : VK} {us ws : List Value} {vs zs : List V} {n : Nat}
    (F : FnOk X.prog X.w X.K X.mg X.base CX0 k f fd ps sp) (hr : Room k X.A) (hb : KBn X.K fd ps n ks g gV)
    (I : Inv X pins σ H s) (r : Vals vs us) (rz : Vals zs ws) (l1 : vs.length = n) (l2 : zs.length = ks.length)
    (h : sp (gV vs zs) H Q E0) : wpAny (model X.prog X.w) X.A (call (.ref f) us (ks.zip ws)) (EP X pins σ Q) X.xe s := by
  have n1 : us.length = n := r.length.symm.trans l1
  have n2 : ws.length = ks.length := rz.length.symm.trans l2
  refine wpAny_call (codeAny_mono (F.run X.A X.stack s H ⟨us, ks.zip ws⟩ (g us ws) (gV vs zs) Q E0 hr I.env0
    (hb.to s us ws I.kIn n1 n2) (hb.rel r rz) h) ?_)
  intro res s' hq
  cases res with
  | error er => exact (show False from hq).elim
  | ok fl =>
    cases fl with
    | ret u => exact I.after hq
    | next => exact hq.elim
    | brk => exact hq.elim
    | cont => exact hq.elim
/-- o.m(k = v, ..), o an instance of the class at C -/
def tMethK (C : Addr) (m : Str) (n : Nat) (sp : Sp) (gV : List V → List V → List V) (ta : TE) (tk : TA) : TE := fun σ H Q =>
  ta σ H fun x H1 => ∃ a dx fs, x = .ref a ∧ H1 a = some (.ins C dx fs) ∧ fs.lookup m = none ∧
    tk σ H1 fun zs H2 => zs.length = n ∧ sp (gV [x] zs) H2 Q E0
theorem pe_methK0 {pl : Sem Bool} (he : PE X o ta) (c : Cls X.K C) (hm : Meth X.K C m f)
    (F : FnOk X.prog X.w X.K X.mg X.base CX0 k f fd ps sp) (hr : Room k X.A) (hb : KBn X.K fd ps 1 ks g gV) (hkw : PK X kws tks)
    (hall : (backToKw pos (keywordEach kws X.env)).all (·.1.isSome) = true := by rfl)
    (hks : (backToKw pos (keywordEach kws X.env)).filterMap (·.1) = ks := by rfl)
    (hpl : ((backTo pos (starEach [] X.env)).any (·.1) || (backToKw pos (keywordEach kws X.env)).any (·.1.isNone)) = false := by rfl)
    (ht : eval (.Call (.Attribute o m apos) [] kws pos) X.env = (do
      let ov ← eval o X.env
      standAt apos.atName
      let (f, first) ← holding [ov] (getMethod ov m pl)
      callWith pos f first (backTo pos (starEach [] X.env))
        (backToKw pos (keywordEach kws X.env))) := by rfl) :
    PE X (.Call (.Attribute o m apos) [] kws pos) (tMethK C m ks.length sp gV ta tks) := by
  constructor
  intro pins s σ H Q I h
  refine PySem.W.methodCall_KW (pl := pl) (thn (he.run pins s σ H _ I h) ?_) ht
  rintro u s1 ⟨x, H1, I1, rx, a, dx, fs, rfl, ea, l, q⟩
  obtain rfl := rx
  refine getmeth_ok I1 ea c hm l ?_
  refine PySem.W.callWith_KW0 (first := [.ref a]) (h₀ := X.base) I.ok.mod.kin hm.kp hall ?_ hpl
  refine thn (hkw.run pos pins s1 σ H1 _ I1 q) ?_
  rintro ws s2 ⟨zs, H2, I2, rz, l2, q2⟩
  refine ⟨I2.kIn, ?_⟩
  rw [hks]
  have r1 : Vals [V.ref a] [Value.ref a] := .cons rfl .nil
  exact run_kw (us := [Value.ref a]) (vs := [V.ref a]) F hr hb I2 r1 rz rfl l2 q2
end
end L2.Gd
end

section
set_option Elab.async false
set_option linter.all false
set_option maxRecDepth 100000
set_option maxHeartbeats 2000000
/-! enumerate of a tuple -/
namespace PyProof.Rows
open PySem
open Sem (wp)
open AutoSeq1 (wpAny_loadPart')
section
variable {prog : Program} {w : World} {A : Around} {E : Value → Shared → Prop} {s : Shared} {I T e : Addr} {i : Nat} {xs : Array Value} {x old : Value}
/-- the tuple's iterator, asked from within a builtin -/
theorem nextOf_tup {Q : Value → Shared → Prop} (it : IsTupIter s.heap I T i) (ht : IsTup s.heap T xs) (hx : xs[i]? = some x)
    (k : ∀ h', IsTupIter h' I T (i + 1) → Heap.SameBut I s.heap h' → Q x { s with heap := h' }) :
    wpAny (model prog w) A (Builtin.SmallTypes.nextOf (.ref I)) Q E s := by
  obtain ⟨o, oi, oc, od⟩ := id it
  obtain ⟨p, op, _, m, pd⟩ := ht
  unfold Builtin.SmallTypes.nextOf
  refine wpAny_bind (wpAny_callSpecial?_slot (name := Str.ofString "__next__") it.typeIs slot_tupleiter_next (wpAny_call_entry slot_tupleiter_next it.typeIs entry_tupleiter_next
    (?a : wpAny _ _ _ _ _ _) (args_tupleiter_next _)))
  show wpAny _ _ (field (.ref I) 0 >>= _) _ _ s
  refine wpAny_bind (wpAny_field oi od (x := .ref T) rfl ?_)
  show wpAny _ _ (if (Value.ref T == Value.none) = true then _ else _) _ _ s
  rw [if_neg (show ¬ ((Value.ref T == Value.none) = true) from Bool.false_ne_true)]
  show wpAny _ _ (field (.ref I) 1 >>= _) _ _ s
  refine wpAny_bind (wpAny_field oi od (x := .int i 0) rfl ?_)
  show wpAny _ _ (seqItems? (.ref T) >>= _) _ _ s
  refine wpAny_bind (wpAny_seqItems op pd ?_)
  simp only [hx, Int.toNat_natCast]
  refine wpAny_bind (wpAny_setField oi od (by simp) (wpAny_pure ⟨x, rfl, wpAny_pure (k _ ⟨_, Heap.get?_update_self _ oi (Obj.isFreed_of_fields (Obj.data_mapFields od _)), (Obj.cls_mapFields ..).trans oc, ?_⟩ (Heap.SameBut.update ..))⟩))
  rw [Obj.data_mapFields od]
  simp [rawInt]
theorem nextOf_tup_end {Q : Value → Shared → Prop} (hh : A.handled = none) (it : IsTupIter s.heap I T i) (ht : IsTup s.heap T xs) (hx : xs[i]? = none)
    (k : ∀ h' c, Heap.ExtBut I s.heap h' → (∃ o, h'.get? c = some o ∧ o.cls = .type "StopIteration") → E (.ref c) { s with heap := h' }) :
    wpAny (model prog w) A (Builtin.SmallTypes.nextOf (.ref I)) Q E s := by
  obtain ⟨o, oi, oc, od⟩ := id it
  obtain ⟨p, op, _, m, pd⟩ := ht
  unfold Builtin.SmallTypes.nextOf
  refine wpAny_bind (wpAny_callSpecial?_slot (name := Str.ofString "__next__") it.typeIs slot_tupleiter_next (wpAny_call_entry slot_tupleiter_next it.typeIs entry_tupleiter_next
    (?a : wpAny _ _ _ _ _ _) (args_tupleiter_next _)))
  show wpAny _ _ (field (.ref I) 0 >>= _) _ _ s
  refine wpAny_bind (wpAny_field oi od (x := .ref T) rfl ?_)
  show wpAny _ _ (if (Value.ref T == Value.none) = true then _ else _) _ _ s
  rw [if_neg (show ¬ ((Value.ref T == Value.none) = true) from Bool.false_ne_true)]
  show wpAny _ _ (field (.ref I) 1 >>= _) _ _ s
  refine wpAny_bind (wpAny_field oi od (x := .int i 0) rfl ?_)
  show wpAny _ _ (seqItems? (.ref T) >>= _) _ _ s
  refine wpAny_bind (wpAny_seqItems op pd ?_)
  simp only [hx, Int.toNat_natCast]
  refine wpAny_bind (wpAny_rule (wpAny_bind (wpAny_setField oi od (by simp) ?_)))
  show wpAny _ _ (newExc (.type "StopIteration") ([] : List Value) >>= _) _ _ _
  refine wpAny_bind ?_
  simp only [newTuple, newExc]
  refine wpAny_bind (wpAny_newObj_type ?_ (by size_fits))
  refine wpAny_bind (m := firstArgMember _ _) (wpAny_of_eq (a := Value.none) rfl ?_)
  refine wpAny_newObj_type ?_ (by size_fits)
  simp only [raiseNew]
  refine wpAny_bind (wpAny_handled ?_)
  rw [show A.in1.handled = none from hh]
  exact wpAny_bind (wpAny_pure (wpAny_throw (k _ _ (((Heap.SameBut.update ..).extBut.push _).push _) ⟨_, Heap.get?_push_size _ rfl, rfl⟩)))
/-- enumerate.__next__ over a tuple's iterator: a pair -/
theorem enumT_item {Q : Value → Shared → Prop} (he : IsEnum s.heap e I i old) (it : IsTupIter s.heap I T i) (ht : IsTup s.heap T xs) (hx : xs[i]? = some x) (ne : e ≠ I)
    (k : ∀ h', IsEnumOut h' e I ((i : Int) + 1) x s.heap.objs.size → IsTupIter h' I T (i + 1) →
      h'.get? s.heap.objs.size = some { cls := .type "tuple", data := .seq #[.int i s.toks, x] } → h'.objs.size = s.heap.objs.size + 1 →
      (∀ b o, b ≠ e → b ≠ I → s.heap.get? b = some o → h'.get? b = some o) → Q (.ref s.heap.objs.size) { s with heap := h', toks := s.toks + 1 }) :
    wpAny (model prog w) A (Builtin.«enumerate.__next__» ⟨[.ref e], []⟩) (fun r s' => ∃ v, r = .done (.ret v) ∧ Q v s') E s := by
  obtain ⟨hp, gs, dr, tk, os⟩ := s
  show wpAny _ _ (field (.ref e) 2 >>= _) _ _ (⟨hp, gs, dr, tk, os⟩ : Shared)
  refine wpAny_bind (wpAny_field he rfl (x := .ref I) rfl (wpAny_bind (nextOf_tup it ht hx ?_)))
  intro a1 ia1 (sa1 : Heap.SameBut I hp a1)
  have e1 : IsEnum a1 e I i old := (sa1.2 e ne).trans he
  show wpAny _ _ (field (.ref e) 3 >>= _) _ _ ⟨a1, gs, dr, tk, os⟩
  refine wpAny_bind (wpAny_field e1 rfl (x := rawInt i) rfl ?_)
  show wpAny _ _ (field (.ref e) 4 >>= _) _ _ ⟨a1, gs, dr, tk, os⟩
  refine wpAny_bind (wpAny_field e1 rfl (x := .none) rfl ?_)
  show wpAny _ _ (mkInt i >>= _) _ _ ⟨a1, gs, dr, tk, os⟩
  refine wpAny_bind (wpAny_mkInt ?_)
  show wpAny _ _ (setField (.ref e) 3 (rawInt ((i : Int) + 1)) >>= _) _ _ ⟨a1, gs, dr, tk + 1, os⟩
  refine wpAny_bind (wpAny_setField_rec e1 (by simp) ?_)
  intro a2 (e2 : IsEnum a2 e I ((i : Int) + 1) old) (sa2 : Heap.SameBut e a1 a2)
  show wpAny _ _ (setField (.ref e) 4 .none >>= _) _ _ ⟨a2, gs, dr, tk + 1, os⟩
  refine wpAny_bind (wpAny_setField_rec e2 (by simp) ?_)
  intro a3 (e3 : IsEnum a3 e I ((i : Int) + 1) old) (sa3 : Heap.SameBut e a2 a3)
  show wpAny _ _ (newTuple [.int i tk, x] >>= _) _ _ ⟨a3, gs, dr, tk + 1, os⟩
  refine wpAny_bind (wpAny_newTuple ?_)
  have z3 : a3.objs.size = hp.objs.size := by rw [sa3.1, sa2.1, sa1.1]
  have le : e < hp.objs.size := Heap.lt_size he
  have nz : hp.objs.size ≠ e := Nat.ne_of_gt le
  rw [z3]
  generalize hq : a3.push { cls := .type "tuple", data := .seq #[.int i tk, x] } = a4
  have e4 : IsEnum a4 e I ((i : Int) + 1) old := by
    rw [← hq]
    exact Heap.get?_push_of_some _ e3
  have t4 : a4.get? hp.objs.size = some { cls := .type "tuple", data := .seq #[.int i tk, x] } := by
    rw [← hq, ← z3]
    exact Heap.get?_push_size _ rfl
  have z4 : a4.objs.size = hp.objs.size + 1 := by rw [← hq, Heap.size_push, z3]
  have k4 : ∀ b o, b ≠ e → b ≠ I → hp.get? b = some o → a4.get? b = some o := by
    intro b o h1 h2 h3
    rw [← hq]
    exact Heap.get?_push_of_some _ (sa3.extBut b o h1 (sa2.extBut b o h1 (sa1.extBut b o h2 h3)))
  have i4 : IsTupIter a4 I T (i + 1) := by
    rw [← hq]
    obtain ⟨o, ho, r⟩ := (ia1.extBut sa2.extBut (Ne.symm ne)).extBut sa3.extBut (Ne.symm ne)
    exact ⟨o, Heap.get?_push_of_some _ ho, r⟩
  show wpAny _ _ (Builtin.SmallTypes.ownedTupleIsFree (.ref e) >>= _) _ _ ⟨a4, gs, dr, tk + 1, os⟩
  refine wpAny_bind ?_
  unfold Builtin.SmallTypes.ownedTupleIsFree
  refine wpAny_bind (wpAny_field e4 rfl (x := .none) rfl (wpAny_pure ?_))
  simp only [if_true]
  refine wpAny_bind (wpAny_rule (wpAny_bind (wpAny_field e4 rfl (x := old) rfl ?_)))
  refine wpAny_bind (wpAny_setField_rec e4 (by simp) ?_)
  intro a5 (e5 : IsEnum a5 e I ((i : Int) + 1) x) (sa5 : Heap.SameBut e a4 a5)
  show wpAny _ _ (Builtin.SmallTypes.ownedTupleHandOut (.ref e) (.ref hp.objs.size) >>= _) _ _ ⟨a5, gs, dr, tk + 1, os⟩
  refine wpAny_bind ?_
  unfold Builtin.SmallTypes.ownedTupleHandOut
  refine wpAny_bind (wpAny_setField_rec e5 (by simp) ?_)
  intro a6 (e6 : IsEnumOut a6 e I ((i : Int) + 1) x hp.objs.size) (sa6 : Heap.SameBut e a5 a6)
  refine wpAny_setField_rec e6 (by simp) ?_
  intro a7 (e7 : IsEnumOut a7 e I ((i : Int) + 1) x hp.objs.size) (sa7 : Heap.SameBut e a6 a7)
  refine wpAny_bind (wpAny_letGo (wpAny_pure ⟨_, rfl, k a7 e7 ?_ ?_ ?_ ?_⟩))
  · exact ((i4.extBut sa5.extBut (Ne.symm ne)).extBut sa6.extBut (Ne.symm ne)).extBut sa7.extBut (Ne.symm ne)
  · exact sa7.extBut _ _ nz (sa6.extBut _ _ nz (sa5.extBut _ _ nz t4))
  · rw [sa7.1, sa6.1, sa5.1, z4]
  · exact fun b o h1 h2 h3 => sa7.extBut b o h1 (sa6.extBut b o h1 (sa5.extBut b o h1 (k4 b o h1 h2 h3)))
theorem pyNext_enumT {Q : Option Value → Shared → Prop} (he : IsEnum s.heap e I i old) (it : IsTupIter s.heap I T i) (ht : IsTup s.heap T xs) (hx : xs[i]? = some x) (ne : e ≠ I)
    (k : ∀ h', IsEnumOut h' e I ((i : Int) + 1) x s.heap.objs.size → IsTupIter h' I T (i + 1) →
      h'.get? s.heap.objs.size = some { cls := .type "tuple", data := .seq #[.int i s.toks, x] } → h'.objs.size = s.heap.objs.size + 1 →
      (∀ b o, b ≠ e → b ≠ I → s.heap.get? b = some o → h'.get? b = some o) → Q (some (.ref s.heap.objs.size)) { s with heap := h', toks := s.toks + 1 }) :
    wpAny (model prog w) A (pyNext (.ref e)) Q E s := by
  have ty : s.TypeIs (.ref e) "enumerate" := ⟨_, he, rfl⟩
  unfold pyNext
  refine wpAny_bind (wpAny_attempt (wpAny_callSpecial?_slot (name := Str.ofString "__next__") ty F.slot_enumerate_next ?_))
  refine wpAny_call_entry F.slot_enumerate_next ty F.entry_enumerate_next ?_ (F.args_enumerate_next_1 _)
  exact enumT_item he it ht hx ne fun h' q1 q2 q3 q4 q5 => wpAny_pure (k h' q1 q2 q3 q4 q5)
theorem pyNext_enumT_end {Q : Option Value → Shared → Prop} (hh : A.handled = none) (he : IsEnum s.heap e I i old) (it : IsTupIter s.heap I T i) (ht : IsTup s.heap T xs) (hx : xs[i]? = none)
    (k : ∀ h', Heap.ExtBut I s.heap h' → Q none { s with heap := h' }) : wpAny (model prog w) A (pyNext (.ref e)) Q E s := by
  have ty : s.TypeIs (.ref e) "enumerate" := ⟨_, he, rfl⟩
  unfold pyNext
  refine wpAny_bind (wpAny_attempt (wpAny_callSpecial?_slot (name := Str.ofString "__next__") ty F.slot_enumerate_next ?_))
  refine wpAny_call_entry F.slot_enumerate_next ty F.entry_enumerate_next ?_ (F.args_enumerate_next_1 _)
  show wpAny _ _ (field (.ref e) 2 >>= _) _ _ s
  refine wpAny_bind (wpAny_field he rfl (x := .ref I) rfl (wpAny_bind (nextOf_tup_end hh it ht hx ?_)))
  rintro h' c q ⟨o, ho, hc⟩
  exact wpAny_bind (wpAny_isInstance (T := "StopIteration") (b := true) ⟨o, ho, hc⟩ isSubtype_stop (wpAny_pure (k _ q)))
/-- enumerate(t) -/
theorem call_enumT {Q : Value → Shared → Prop} (ht : IsTup s.heap T xs)
    (k : ∀ h', IsEnum h' (s.heap.objs.size + 1) s.heap.objs.size 0 .none → IsTupIter h' s.heap.objs.size T 0 →
      (∀ b o, s.heap.get? b = some o → h'.get? b = some o) → Q (.ref (s.heap.objs.size + 1)) { s with heap := h' }) :
    wpAny (model prog w) A (call (.type "enumerate") [.ref T]) Q E s := by
  obtain ⟨o, ho, hc, n, hd⟩ := id ht
  let mid := s.heap.push { cls := .type "tuple_iterator", data := .fields #[.ref T, .int 0 0] }
  let fin := mid.push { cls := .type "enumerate", data := .fields #[.none, .bool false, .ref s.heap.objs.size, rawInt 0, .none, .none] }
  have meets : Meets (Builtin.«enumerate.__new__» ⟨[.type "enumerate", .ref T], []⟩) (fun _ R s' => (∃ o, s'.heap.get? T = some o ∧ o.cls = .type "tuple" ∧ ∃ n, o.data = .seq xs n) ∧
      R (.ok (.ret (.ref (s'.heap.push { cls := .type "tuple_iterator", data := .fields #[.ref T, .int 0 0] }).objs.size)))
        { s' with heap := (s'.heap.push { cls := .type "tuple_iterator", data := .fields #[.ref T, .int 0 0] }).push { cls := .type "enumerate", data := .fields #[.none, .bool false, .ref s'.heap.objs.size, rawInt 0, .none, .none] } }) :=
    .of_wp fun prog w A R s' h => by
      obtain ⟨hp, g, d, tk, os⟩ := s'
      obtain ⟨hT, h⟩ := h
      obtain ⟨o', ho', _⟩ := id hT
      have sub := sub_enumerate
      have tu : IsTup (Shared.heap ⟨hp, g, d, tk, os⟩) T xs := hT
      wp_walk using wpAny_loadPart' ho'
      refine wpAny_stack_any fun st => wpAny_pure ?_
      split
      · rename_i c _ _ _ _ _
        cases (c == Value.type "enumerate") <;> (wp_walk using wpAny_loadPart' ho', iter_tuple tu; exact ⟨_, rfl, h⟩)
      · wp_walk using wpAny_loadPart' ho', iter_tuple tu
        exact ⟨_, rfl, h⟩
  have z : mid.objs.size = s.heap.objs.size + 1 := Heap.size_push ..
  have he : IsEnum fin (s.heap.objs.size + 1) s.heap.objs.size 0 .none := by
    have q := Heap.get?_push_size mid (o := { cls := .type "enumerate", data := .fields #[.none, .bool false, .ref s.heap.objs.size, rawInt 0, .none, .none] }) rfl
    rw [z] at q
    exact q
  refine callType_new F.called_enumerate (by decide) (F.typeCall_enumerate_1 _) (F.newCall_enumerate_1 _) (fun obj => F.args_object_init_2 obj _) F.entry_enumerate_new meets ⟨ht, ?_⟩
  show _ ∧ _
  rw [show (s.heap.push { cls := .type "tuple_iterator", data := .fields #[.ref T, .int 0 0] }).objs.size = s.heap.objs.size + 1 from z]
  exact ⟨⟨_, he, rfl⟩, k fin he ⟨_, Heap.get?_push_of_some _ (Heap.get?_push_size _ rfl), rfl, rfl⟩ fun b o q => Heap.get?_push_of_some _ (Heap.get?_push_of_some _ q)⟩
end
end PyProof.Rows

namespace L2.Gd
open PySem PySem.Spec PyProof.Rows
/-- the tuple at a: each item in a new pair -/
def IteT (K : PySem.W.Frag) (a : Addr) : It where
  go := fun i H => ∃ (xs : List V) (x : V), SqT K H a xs ∧ xs[i]? = some x
  yld := fun i H v H' => ∃ T x, v = .ref T ∧ H T = none ∧ H' = upd H T (.tup [.int (i : Nat), x]) ∧ ∀ xs, SqT K H a xs → xs[i]? = some x
  stop := fun i H => ∃ xs : List V, SqT K H a xs ∧ xs.length ≤ i
theorem turn_enumT {P : Program} {w : World} {K : PySem.W.Frag} {elts : List Expr} {kk : Nat} {tpos : Pos} (a e I : Addr) :
    Turn P w K (.Tuple elts kk tpos) (IteT K a) [e, I] e (fun i h => (∃ old, IsEnum h e I ((i : Nat) : Int) old) ∧ IsTupIter h I a i ∧ e ≠ I) where
  mem := List.mem_cons_self
  obj := by
    rintro i h ⟨⟨old, he⟩, ⟨o, ho, hc, hd⟩, _⟩ b hb
    rcases List.mem_cons.mp hb with rfl | hb
    · exact ⟨_, he, fun v q => nomatch q⟩
    · obtain rfl := List.mem_singleton.mp hb
      exact ⟨o, ho, fun v q => by rw [hd] at q; exact nomatch q⟩
  keep := by
    rintro i h h' ⟨⟨old, he⟩, ⟨o, ho, r⟩, ne⟩ k
    exact ⟨⟨old, k e (by simp) _ he⟩, ⟨o, k I (by simp) _ ho, r⟩, ne⟩
  item := by
    rintro X hP hw hK hc i pins s σ H E J hf ⟨⟨old, he⟩, it, ne⟩ ⟨xs, x, hq, hx⟩
    subst hP hw hK
    obtain ⟨its, rv, tu, _⟩ := J.tuple hq
    obtain ⟨u, hu, ru⟩ := rv.get hx
    have le : e < s.heap.objs.size := Heap.lt_size he
    have li : I < s.heap.objs.size := let ⟨_, q, _⟩ := it; Heap.lt_size q
    refine pyNext_enumT he it tu (x := u) (by simpa using hu) ne ?_
    intro h1 out it1 tup1 z1 k1
    refine ⟨_, rfl, wpAny_letOwnedTupleGo_enum (s := { s with heap := h1, toks := s.toks + 1 }) out ?_⟩
    intro h2 he2 sb
    have tup2 : h2.get? s.heap.objs.size = some { cls := .type "tuple", data := .seq #[.int i s.toks, u] } := (sb.2 _ (Nat.ne_of_gt le)).trans tup1
    have new : ObjOk X.prog X.w (upd H s.heap.objs.size (.tup [.int (i : Nat), x])) h2 s.heap.objs.size (.tup [.int (i : Nat), x]) :=
      ⟨by show 2 ≤ sizeLine; decide, [.int i s.toks, u], .cons ⟨_, rfl⟩ (.cons ru .nil), ⟨_, tup2, rfl, _, rfl⟩⟩
    have J1 : Inv X pins σ (upd H s.heap.objs.size (.tup [.int (i : Nat), x])) { s with heap := h2, toks := s.toks + 1 } := by
      refine J.turnedNew (ch := [e, I]) (fun b o hb q => ?_) hf (Nat.le_refl _) new
      have b1 : b ≠ e := fun z => hb (by simp [z])
      have b2 : b ≠ I := fun z => hb (by simp [z])
      exact (sb.2 b b1).trans (k1 b o b1 b2 q)
    refine ⟨.ref s.heap.objs.size, _, J1, rfl, ⟨_, x, rfl, J.hok.fresh (Nat.le_refl _), rfl, fun ys hy => by rw [J.tuple_inj hy hq]; exact hx⟩, ⟨⟨u, ?_⟩, ?_, ne⟩, ?_⟩
    · rw [show ((i + 1 : Nat) : Int) = (i : Int) + 1 by omega]
      exact he2
    · obtain ⟨o, ho, r⟩ := it1
      exact ⟨o, (sb.2 I (Ne.symm ne)).trans ho, r⟩
    · intro b hb
      have lb : b < s.heap.objs.size := by
        rcases List.mem_cons.mp hb with rfl | q
        · exact le
        · obtain rfl := List.mem_singleton.mp q
          exact li
      rw [upd_ne (Nat.ne_of_lt lb)]
      exact (hf b hb).1
  done := by
    rintro X hP hw hK hc i pins s σ H E J hf ⟨⟨old, he⟩, it, ne⟩ ⟨xs, hq, hx⟩
    subst hP hw hK
    obtain ⟨its, rv, tu, _⟩ := J.tuple hq
    obtain ⟨f0, f1, f2, f3, f4, f5⟩ := hf I (by simp)
    have hl := rv.length
    refine pyNext_enumT_end (J.ok.hd hc) he it tu (by simp; omega) ?_
    intro h1 eb
    exact ⟨rfl, J.turned (t' := s.toks) (fun b o hb q => eb b o hb q) f0 f1 f3 f4 f5⟩
  self := by
    rintro A i s Q E ⟨⟨_, he⟩, _⟩ h
    exact wpAny_pyIter_enum he h
/-- enumerate of a list or of a tuple -/
def iEnumA (K : PySem.W.Frag) (ta : TA) : TI := fun σ H R => ta σ H fun vs H1 => ∃ a xs, vs = [.ref a] ∧
  ((SqL K H1 a xs ∧ R (Ite K a) H1) ∨ (SqT K H1 a xs ∧ R (IteT K a) H1))
theorem pi_enumA {X : Cx} {e : Expr} {ta : TA} {p pos tpos : Pos} {elts : List Expr} {kk : Nat} (hg : Gl X "enumerate") (hm : X.mg "enumerate" = none) (ha : PA X [e] ta)
    (hs : starEach [e] X.env = [(false, eval e X.env)] := by rfl) :
    PI X (.Tuple elts kk tpos) (.Call (.Name "enumerate" p) [e] [] pos) (iEnumA X.K ta) := by
  constructor
  intro pins s σ H R J h
  refine Call_ (ld_blt J hg hm boot_enumerate (PyProof.Rows.callWith_type1 (thn (ha.run pos pins s σ H _ J h) ?_) hs rfl))
  rintro us s1 ⟨vs, H1, J1, r1, a, xs, rfl, q⟩
  cases r1 with
  | cons r rr =>
    cases rr
    cases r
    have fp : ∀ b ∈ [s1.heap.objs.size + 1, s1.heap.objs.size], FpOk X pins H1 b := by
      intro b hb
      have le : s1.heap.objs.size ≤ b := by
        rcases List.mem_cons.mp hb with rfl | q
        · omega
        · obtain rfl := List.mem_singleton.mp q
          exact Nat.le_refl _
      exact J1.fpOk le (J1.hok.fresh le)
    rcases q with ⟨hq, q⟩ | ⟨hq, q⟩
    · obtain ⟨its, rv, pl, _⟩ := J1.list hq
      refine call_enumerate_list pl.isList ?_
      intro h' he it z k
      exact wpAny_pyIter_enum he ⟨_, _, _, _, H1, rfl, J1.kept (t' := s1.toks) k, turn_enum a (s1.heap.objs.size + 1) s1.heap.objs.size,
        ⟨⟨.none, he⟩, it, Nat.succ_ne_self _⟩, fp, q⟩
    · obtain ⟨its, rv, tu, _⟩ := J1.tuple hq
      refine call_enumT tu ?_
      intro h' he it k
      exact wpAny_pyIter_enum he ⟨_, _, _, _, H1, rfl, J1.kept (t' := s1.toks) k, turn_enumT a (s1.heap.objs.size + 1) s1.heap.objs.size,
        ⟨⟨.none, he⟩, it, Nat.succ_ne_self _⟩, fp, q⟩
end L2.Gd
end

section
set_option Elab.async false
set_option linter.all false
set_option maxRecDepth 100000
set_option maxHeartbeats 2000000
/-! len of an instance of an own class that has a __len__. -/
namespace L2.Gd
open PySem PySem.Spec PyProof.Rows
section
variable {X : Cx} {C f N : Addr} {n : Nat} {fd : FuncData} {ps : List Str} {sp : Sp}
theorem call_lenOwn (hr : Room (n + 1) X.A) (F : FnOk X.prog X.w X.K X.mg X.base CX0 n f fd ps sp) (hb : Binds X.K fd ps [])
    (hs : PySem.W.findIn X.K (.ref C) "__len__" = some (some (.ref f))) (hf : PySem.W.isFn X.K (.ref f) = true) :
    CallR X (.builtin "len") (fun xs H Q => ∃ (a dx : Addr) (fs : List (Str × V)), xs = [.ref a] ∧ H a = some (.ins C dx fs) ∧
      sp [.ref a] H (fun v H' => (∃ k : Nat, v = .int k ∧ k < 1000000) ∧ Q v H') E0) := by
  rintro pins s σ H xs us Q I r ⟨a, dx, fs, rfl, ha, h⟩
  rw [Vals.ref1 r]
  obtain ⟨mA, J, _⟩ := ins_get I.hok ha
  obtain ⟨od, J, _⟩ := J.look
  obtain ⟨m, fr⟩ := I.fr
  refine PySem.W.len_K fr I.ok.mod.kin J hs hf ?_
  refine thn (run_at (us := [.ref a]) (vs := [.ref a]) F hb (A := X.A.in1) ⟨hr.in1, rfl⟩ I (.cons rfl .nil) h) ?_
  rintro r s' ⟨z, H', I', rz, ⟨k, rfl, hk⟩, q⟩
  obtain ⟨tk, rfl⟩ := rz
  exact ⟨⟨by omega, by omega⟩, .int k, H', I'.tok _, ⟨_, rfl⟩, q⟩
end
end L2.Gd
end

section
set_option Elab.async false
set_option linter.all false
set_option maxRecDepth 100000
set_option maxHeartbeats 2000000
/-! sorted of a tuple of ints -/
namespace L2.Gd
open PySem PySem.Spec PyProof.Rows SrtO
section
variable {prog : Program} {w : World} {A : Around} {E : Value → Shared → Prop} {s : Shared}
theorem gather_tup {it : Addr} {o : Obj} {its : Array Value} {n : Nat} {Q : List Value → Shared → Prop} (ho : s.heap.get? it = some o) (hc : o.cls = .type "tuple") (hd : o.data = .seq its n) (hz : its.size ≤ sizeLine)
    (k : Q its.toList { s with heap := (s.heap.push (seqObj "list" #[] 0)).update s.heap.objs.size (Obj.mapSeq (· ++ its)) }) : wpAny (model prog w) A (collect (.ref it)) Q E s := by
  have h0 : (s.heap.push (seqObj "list" #[] 0)).get? s.heap.objs.size = some (seqObj "list" #[] 0) := Heap.get?_push_size _ rfl
  have h1 := Heap.get?_update_self (Obj.mapSeq (· ++ its)) h0 rfl
  have tail : wpAny (model prog w) A (do
      let o ← load s.heap.objs.size
      match o.data with
      | .seq xs _ => pure xs.toList
      | _ => unsupported "internal:collect") Q E { s with heap := (s.heap.push (seqObj "list" #[] 0)).update s.heap.objs.size (Obj.mapSeq (· ++ its)) } := by
    refine wpAny_bind (wpAny_load h1 (wpAny_pure ?_))
    have e : ((#[] : Array Value) ++ its).toList = its.toList := by simp
    show Q ((#[] : Array Value) ++ its).toList _
    rw [e] <;> exact k
  unfold collect
  refine wpAny_bind (wpAny_runValue (codeAny_builtin F.entry_proto_collect ?_))
  rw [Around.under_plainId F.plain_proto_collect _]
  show wpAny _ A.in1 (do again (.builtin "list.__iadd__" ⟨[← newList [], .ref it], []⟩)) _ _ s
  refine wpAny_bind (wpAny_newList (wpAny_pure ⟨plainId_quiet F.plain_list_iadd _, codeAny_builtin F.entry_list_iadd ?_⟩))
  rw [Around.under_plainId F.plain_list_iadd _]
  refine wpAny_mono (wpAny_extend_seq (hsz := hz) (A := A) (R := fun r t => r = .ok (.ret (.ref s.heap.objs.size)) ∧ t = { s with heap := (s.heap.push (seqObj "list" #[] 0)).update s.heap.objs.size (Obj.mapSeq (· ++ its)) })
    (s := { s with heap := s.heap.push (seqObj "list" #[] 0) }) _ it _ 0 (.inr rfl) h0 (Heap.get?_push_of_some _ ho) hc hd ⟨rfl, rfl⟩) (fun r t h => ?_) (fun e t h => ?_)
  · cases r with
    | done f =>
      obtain ⟨e, rfl⟩ := h
      cases e
      exact tail
    | again c => exact ⟨h.1, codeAny_mono h.2 fun r t2 hr => by obtain ⟨rfl, rfl⟩ := hr; exact tail⟩
  · exact absurd h.1 (by simp)
theorem sorted_tup {l : Addr} {vs : List Value} {ns : List Int} {Q : Value → Shared → Prop} (hl : IsTup s.heap l vs.toArray) (hI : IntsAre vs ns) (hz : vs.length ≤ sizeLine)
    (h : ∀ (h' : Heap) (p : Addr) (out : List Value) (c : Nat), (∀ b o, s.heap.get? b = some o → h'.get? b = some o) → s.heap.objs.size ≤ p → h'.get? p = some (seqObj "list" out.toArray c) →
      Srtd ltIv out → Stb ltIv out vs → Q (.ref p) { s with heap := h' }) : wpAny (model prog w) A (call (.builtin "sorted") [.ref l]) Q E s := by
  obtain ⟨o, ho, hc, n, hd⟩ := hl
  refine Calls.call_function_entry kind_sorted plain_sorted entry_sorted (args_sorted1 _) ?_
  unfold Builtin.«sorted»
  refine wpAny_bind (m := checkCount "sorted" 1 1 _) (wpAny_pure ?_)
  refine wpAny_bind (gather_tup ho hc hd (by rw [List.size_toArray]; exact hz) ?_)
  have k1 : ∀ b u, s.heap.get? b = some u → ((s.heap.push (seqObj "list" #[] 0)).update s.heap.objs.size (Obj.mapSeq (· ++ vs.toArray))).get? b = some u := fun b u e => by
    rw [Heap.get?_update_ne _ _ _ _ (Nat.ne_of_lt (Heap.lt_size e))]
    exact Heap.get?_push_of_some _ e
  have sz : ((s.heap.push (seqObj "list" #[] 0)).update s.heap.objs.size (Obj.mapSeq (· ++ vs.toArray))).objs.size = s.heap.objs.size + 1 := by
    rw [Heap.size_update, size_push']
  generalize ((s.heap.push (seqObj "list" #[] 0)).update s.heap.objs.size (Obj.mapSeq (· ++ vs.toArray))) = h1 at k1 sz ⊢
  have k0 : ∀ b u, s.heap.get? b = some u → b < h1.objs.size := fun b u e => Heap.lt_size (k1 b u e)
  refine wpAny_bind (wpAny_newList ?_ hz)
  have hoL : (h1.push (seqObj "list" vs.toArray 0)).get? h1.objs.size = some (seqObj "list" vs.toArray 0) := Heap.get?_push_size _ rfl
  refine wpAny_bind (wpAny_holding (wpAny_call_entry slot_list_sort ⟨_, hoL, rfl⟩ entry_list_sort (list_sort_ord swo_int hoL hz (fun h2 => ints_sortable hI h2) fun out hs hb => ⟨_, rfl, ?_⟩) (args_list_sort _)))
  obtain ⟨ep, he⟩ := sortedHeap_at (vs := vs) (out := out.toArray) hoL
  refine wpAny_pure ⟨_, rfl, h _ _ out ep (fun b u e => ?_) ?_ he hs hb⟩
  · rw [sortedHeap_old (Nat.ne_of_lt (k0 b u e)) (Nat.lt_of_lt_of_le (k0 b u e) (by rw [size_push']; exact Nat.le_succ _))]
    exact Heap.get?_push_of_some _ (k1 b u e)
  · show _ ≤ h1.objs.size
    rw [sz]
    exact Nat.le_succ _
end
/-- sorted(t), a tuple of ints -/
def rSortedTI (K : PySem.W.Frag) : List V → Hp → VK → Prop := fun vs H Q => ∃ (a : Addr) (ns : List Int), vs = [V.ref a] ∧ SqT K H a (ns.map V.int) ∧
  ∀ (ns' : List Int) (p : Addr), ns'.Perm ns → ns'.Pairwise (· ≤ ·) → H p = none → Q (.ref p) (upd H p (.lst (ns'.map V.int)))
theorem cr_sortedTI {X : Cx} : CallR X (.builtin "sorted") (rSortedTI X.K) := by
  intro pins s σ H vs us Q I r h
  obtain ⟨a, ns, rfl, hs, q⟩ := h
  obtain ⟨its, rv, hl, hz⟩ := I.tuple hs
  have hlen := rv.length
  rw [Vals.ref1 r]
  have hi := rv.ints
  refine sorted_tup hl hi (by rw [← hlen]; exact hz) fun h' p out c hk hp ho h1 h2 => ?_
  obtain ⟨k1, k2, k3⟩ := ints_out hi h1 h2
  have z : ((out.map iv).map V.int).length ≤ sizeLine := by
    rw [List.length_map, k2.length_eq]
    rw [List.length_map] at hz
    exact hz
  exact ⟨.ref p, upd H p (.lst ((out.map iv).map V.int)), I.laid (t' := s.toks) hk hp ⟨z, out, c, vals_of_ints k1, ho⟩, rfl, q _ _ k2 k3 (I.hok.fresh hp)⟩
end L2.Gd
end

section
set_option Elab.async false
set_option linter.all false
set_option maxRecDepth 100000
set_option maxHeartbeats 2000000
/-! [f(x) for x in xs if p(x)], xs a list or a tuple: what is made of each element -/
namespace L2.Gd
open PySem PySem.Spec PyProof.Rows
/-- all that stood, but for the list that is being made -/
def ButD (D : Addr) (H H' : Hp) : Prop := ∀ b o, b ≠ D → H b = some o → H' b = some o
theorem ButD.new {D : Addr} {H H' : Hp} (h : H D = none) (b : ButD D H H') : Same H H' := fun a o e => b a o (ne_of_none e h) e
theorem ButD.put {D : Addr} {H H' : Hp} {o : HO} (b : ButD D H H') : ButD D H (L2.upd H' D o) := fun a u ne e => by
  rw [upd_ne ne]
  exact b a u ne e
theorem ButD.more {D : Addr} {H H' H2 : Hp} (b : ButD D H H') (s : Same H' H2) : ButD D H H2 := fun a u ne e => s _ _ (b a u ne e)
theorem ButD.start {D : Addr} {H : Hp} {o : HO} : ButD D H (L2.upd H D o) := fun a u ne e => by
  rw [upd_ne ne]
  exact e
theorem filt_take {α β : Type} (f : α → Option β) {l : List α} {i : Nat} {x : α} (h : l[i]? = some x) : (l.take (i + 1)).filterMap f = (l.take i).filterMap f ++ (f x).toList := by
  rw [List.take_succ, h, List.filterMap_append]
  congr 1
theorem pair_at {α β : Type} {R : α → β → Prop} : ∀ {xs : List α} {ys : List β} {i : Nat} {x : α}, Paired R xs ys → xs[i]? = some x → ∃ y, ys[i]? = some y ∧ R x y
  | _, _, _, _, .nil, e => by simp at e
  | _, _, 0, _, .cons r _, e => by simp at e; subst e; exact ⟨_, rfl, r⟩
  | _, _, i + 1, x, .cons _ t, e => by
    obtain ⟨u, h1, h2⟩ := pair_at (i := i) (x := x) t (by simpa using e)
    exact ⟨u, by simpa using h1, h2⟩
section
variable {α β : Type} {K : PySem.W.Frag} {a : Addr} {xs : List V} {es : List α} {g : TG} {tt : TT} {te : TE} {vs : List Nat} {σ : L2.St} {H1 : Hp} {D : Addr} {Qd : Hp → Prop}
/-- what is promised of one turn -/
def StepOk (F : Hp → V → α → Prop) (G : Hp → V → β → Prop) (f : α → Option β) (g : TG) (tt : TT) (te : TE) (vs : List Nat) (σ : L2.St) (H1 : Hp) (D : Addr) (es : List α) : Prop :=
  ∀ (x : V) (e : α) (H : Hp) (A : V → Hp → Prop) (B : Hp → Prop), e ∈ es → F H1 x e → ButD D H1 H → (∃ zs, H D = some (.lst zs)) →
    (∀ b y H4, f e = some b → Same H H4 → G H4 y b → A y H4) → (∀ H3, f e = none → Same H H3 → B H3) →
    g x (wipe σ vs) H fun σ2 H2 => wipe σ2 vs = wipe σ vs ∧ tt σ2 H2 fun b H3 => if b = true then te σ2 H3 A else B H3
def Stab (G : Hp → V → β → Prop) (D : Addr) : Prop := ∀ (H H' : Hp) (y : V) (b : β), ButD D H H' → (∃ zs, H D = some (.lst zs)) → G H y b → G H' y b
def LcInv (G : Hp → V → β → Prop) (f : α → Option β) (H1 : Hp) (D : Addr) (es : List α) (i : Nat) (H : Hp) : Prop :=
  ∃ ys, H D = some (.lst ys) ∧ ys.length ≤ i ∧ Paired (G H) ys ((es.take i).filterMap f) ∧ ButD D H1 H
variable {F : Hp → V → α → Prop} {G : Hp → V → β → Prop} {f : α → Option β}
theorem lc_turn (st : Stab G D) (h1000 : xs.length ≤ 1000) (pa : Paired (F H1) xs es) (step : StepOk F G f g tt te vs σ H1 D es) {i : Nat} {x : V} {H : Hp} (hx : xs[i]? = some x) (h : LcInv G f H1 D es i H) :
    g x (wipe σ vs) H fun σ2 H2 => wipe σ2 vs = wipe σ vs ∧ tt σ2 H2 fun b H3 =>
      if b = true then te σ2 H3 fun y H4 => ∃ acc, H4 D = some (.lst acc) ∧ acc.length < sizeLine ∧ LcInv G f H1 D es (i + 1) (L2.upd H4 D (.lst (acc ++ [y]))) else LcInv G f H1 D es (i + 1) H3 := by
  obtain ⟨ys, h1, h2, h3, h4⟩ := h
  obtain ⟨e, he, hF⟩ := pair_at pa hx
  have hi : i < xs.length := (List.getElem?_eq_some_iff.mp hx).1
  refine step x e H _ _ (List.mem_of_getElem? he) hF h4 ⟨ys, h1⟩ (fun b y H4 hf s hg => ?_) (fun H3 hf s => ?_)
  · refine ⟨ys, s _ _ h1, by rw [sizeLine_eq]; omega, ys ++ [y], upd_same, by simp; omega, ?_, (h4.more s).put⟩
    rw [filt_take f he, hf]
    have bt : ButD D H4 (L2.upd H4 D (.lst (ys ++ [y]))) := ButD.start
    have hd : ∃ zs, H4 D = some (.lst zs) := ⟨ys, s _ _ h1⟩
    have o1 : Paired (G (L2.upd H4 D (.lst (ys ++ [y])))) ys ((es.take i).filterMap f) := Paired.mapP h3 fun u v q => st _ _ _ _ (show ButD D H _ from fun c o ne z => bt c o ne (s _ _ z)) ⟨ys, h1⟩ q
    exact PySem.Paired.snoc o1 (st _ _ _ _ bt hd hg)
  · refine ⟨ys, s _ _ h1, by omega, ?_, h4.more s⟩
    rw [filt_take f he, hf]
    simp only [Option.toList, List.append_nil]
    exact Paired.mapP h3 fun u v q => st _ _ _ _ (fun c o _ z => s _ _ z) ⟨ys, h1⟩ q
theorem lc_mapL (st : Stab G D) (hl : H1 a = some (.lst xs)) (hD : H1 D = none) (h1000 : xs.length ≤ 1000) (pa : Paired (F H1) xs es) (step : StepOk F G f g tt te vs σ H1 D es)
    (fin : ∀ ys H, H D = some (.lst ys) → Paired (G H) ys (es.filterMap f) → ButD D H1 H → Qd H) :
    ∃ W : Nat → Nat → Hp → Prop, (∃ m, W 0 m (L2.upd H1 D (.lst []))) ∧ ∀ i m H, W i m H →
      ((Itl K a).stop i H ∧ Qd H) ∨ ((Itl K a).go i H ∧ ∃ Nx : Hp → Prop, (∀ H', Nx H' → ∃ m', m' < m ∧ W (i + 1) m' H') ∧ ∀ x H', (Itl K a).yld i H x H' → g x (wipe σ vs) H' fun σ2 H2 => wipe σ2 vs = wipe σ vs ∧ tt σ2 H2 fun b H3 =>
        if b = true then te σ2 H3 fun y H4 => ∃ acc, H4 D = some (.lst acc) ∧ acc.length < sizeLine ∧ Nx (L2.upd H4 D (.lst (acc ++ [y]))) else Nx H3) := by
  refine lc_list (xs := xs) (LcInv G f H1 D es) ⟨[], upd_same, Nat.le_refl _, .nil, .start⟩ (fun i H _ ⟨ys, _, _, _, h4⟩ => .inl (.inl (h4.new hD _ _ hl))) (fun i x H hx h => lc_turn st h1000 pa step hx h) ?_
  rintro H ⟨ys, h1, _, h3, h4⟩
  rw [PySem.Paired.length pa, List.take_length] at h3
  exact fin ys H h1 h3 h4
theorem lc_mapT (st : Stab G D) (hl : H1 a = some (.tup xs)) (hD : H1 D = none) (h1000 : xs.length ≤ 1000) (pa : Paired (F H1) xs es) (step : StepOk F G f g tt te vs σ H1 D es)
    (fin : ∀ ys H, H D = some (.lst ys) → Paired (G H) ys (es.filterMap f) → ButD D H1 H → Qd H) :
    ∃ W : Nat → Nat → Hp → Prop, (∃ m, W 0 m (L2.upd H1 D (.lst []))) ∧ ∀ i m H, W i m H →
      ((Itt K a).stop i H ∧ Qd H) ∨ ((Itt K a).go i H ∧ ∃ Nx : Hp → Prop, (∀ H', Nx H' → ∃ m', m' < m ∧ W (i + 1) m' H') ∧ ∀ x H', (Itt K a).yld i H x H' → g x (wipe σ vs) H' fun σ2 H2 => wipe σ2 vs = wipe σ vs ∧ tt σ2 H2 fun b H3 =>
        if b = true then te σ2 H3 fun y H4 => ∃ acc, H4 D = some (.lst acc) ∧ acc.length < sizeLine ∧ Nx (L2.upd H4 D (.lst (acc ++ [y]))) else Nx H3) := by
  refine lc_tup (xs := xs) (LcInv G f H1 D es) ⟨[], upd_same, Nat.le_refl _, .nil, .start⟩ (fun i H _ ⟨ys, _, _, _, h4⟩ => .inl (.inl (h4.new hD _ _ hl))) (fun i x H hx h => lc_turn st h1000 pa step hx h) ?_
  rintro H ⟨ys, h1, _, h3, h4⟩
  rw [PySem.Paired.length pa, List.take_length] at h3
  exact fin ys H h1 h3 h4
end
end L2.Gd
end

section
set_option Elab.async false
set_option linter.all false
set_option maxRecDepth 100000
set_option maxHeartbeats 2000000
/-! [f(i) for i in range(..)] -/
namespace L2.Gd
open PySem PySem.Spec PyProof.Rows
def rgI (lo : Int) (n : Nat) : List Int := (List.range n).map fun i : Nat => lo + (i : Int)
theorem rgI_len (lo : Int) (n : Nat) : (rgI lo n).length = n := by unfold rgI; rw [List.length_map, List.length_range]
theorem paired_int : ∀ ns : List Int, Paired (fun v e => v = V.int e) (ns.map V.int) ns
  | [] => .nil
  | n :: r => .cons rfl (paired_int r)
section
variable {β : Type} {lo : Int} {n : Nat} {g : TG} {tt : TT} {te : TE} {vs : List Nat} {σ : L2.St} {H1 : Hp} {D : Addr} {Qd : Hp → Prop} {G : Hp → V → β → Prop} {f : Int → Option β}
theorem lc_mapR (st : Stab G D) (h1000 : n ≤ 1000) (step : StepOk (fun _ v e => v = V.int e) G f g tt te vs σ H1 D (rgI lo n))
    (fin : ∀ ys H, H D = some (.lst ys) → Paired (G H) ys ((rgI lo n).filterMap f) → ButD D H1 H → Qd H) :
    ∃ W : Nat → Nat → Hp → Prop, (∃ m, W 0 m (L2.upd H1 D (.lst []))) ∧ ∀ i m H, W i m H →
      ((Itr lo n).stop i H ∧ Qd H) ∨ ((Itr lo n).go i H ∧ ∃ Nx : Hp → Prop, (∀ H', Nx H' → ∃ m', m' < m ∧ W (i + 1) m' H') ∧ ∀ x H', (Itr lo n).yld i H x H' → g x (wipe σ vs) H' fun σ2 H2 => wipe σ2 vs = wipe σ vs ∧ tt σ2 H2 fun b H3 =>
        if b = true then te σ2 H3 fun y H4 => ∃ acc, H4 D = some (.lst acc) ∧ acc.length < sizeLine ∧ Nx (L2.upd H4 D (.lst (acc ++ [y]))) else Nx H3) := by
  have pa := paired_int (rgI lo n)
  have len : ((rgI lo n).map V.int).length = n := by rw [List.length_map, rgI_len]
  refine lc_range (LcInv G f H1 D (rgI lo n)) ⟨[], upd_same, Nat.le_refl _, .nil, .start⟩ (fun i H hi h => ?_) ?_
  · refine lc_turn (xs := (rgI lo n).map V.int) (F := fun _ v e => v = V.int e) st (by rw [len]; exact h1000) pa step (i := i) (x := .int (lo + i)) ?_ h
    unfold rgI
    rw [List.getElem?_map, List.getElem?_map, List.getElem?_range hi]
    rfl
  · rintro H ⟨ys, h1, _, h3, h4⟩
    rw [List.take_of_length_le (Nat.le_of_eq (rgI_len lo n))] at h3
    exact fin ys H h1 h3 h4
end
end L2.Gd
end

section
set_option Elab.async false
set_option linter.all false
set_option maxRecDepth 100000
set_option maxHeartbeats 2000000
namespace L2.K21
open PySem PySem.Spec PyProof.Rows
def top (i : Nat) : Stmt := PySem.Challenge.pw_lonetill_k21_houses_as_values.main.body.getD i (.Pass ⟨0, 0, 0, 0⟩)
abbrev sIsInt : Stmt := top 1
abbrev sIsCount : Stmt := top 2
abbrev sIsList : Stmt := top 3
abbrev sIsDeed : Stmt := top 19
abbrev sCheck : Stmt := top 20
abbrev cHouse (i : Nat) : Stmt := inClass (top 21) i

/-- built-in names that the module leaves alone -/
structure Nm (mg : Str → Option Value) : Prop where
  isi : mg "isinstance" = none
  int : mg "int" = none
  bool : mg "bool" = none
  list : mg "list" = none
  tuple : mg "tuple" = none
  str : mg "str" = none
  len : mg "len" = none
  all : mg "all" = none
  any : mg "any" = none
  enumerate : mg "enumerate" = none
  range : mg "range" = none
  sorted : mg "sorted" = none
  abs : mg "abs" = none
  max : mg "max" = none
  min : mg "min" = none
  repr : mg "repr" = none
  divmod : mg "divmod" = none
  ni : mg "NotImplemented" = none

/-! ### deeds -/
structure Dd where
  p : Int
  c : Int
  g : Int
  w : Str
  deriving DecidableEq
def Dd.vs (x : Dd) : List V := [.int x.p, .int x.c, .int x.g, .str x.w]
def Dd.d (x : Dd) : PyData := .tuple [.int x.p, .int x.c, .int x.g, .str x.w]
structure Dd.Ok (n : Int) (x : Dd) : Prop where
  p0 : 0 ≤ x.p
  pn : x.p < n
  g0 : 0 ≤ x.g
  gn : x.g < n
  w : (x.w = "any" ∧ -1 ≤ x.c ∧ x.c ≤ 1) ∨ (x.w = "empty" ∧ 0 ≤ x.c ∧ x.c ≤ 1)
def DdAt (H : Hp) (v : V) (x : Dd) : Prop := ∃ t, v = .ref t ∧ H t = some (.tup x.vs)

section
variable {P : Program} {w : World} {K : PySem.W.Frag} {mg : Str → Option Value} {base : Heap}

/-- what isinstance(x, T) asks, T a built-in type -/
theorem isi_mk {H : Hp} {v : V} {t T : String} {b : Bool} {Q : VK} (h : TyX K H v (.type t)) (e : kitB t T = some b) (q : Q (.bl b) H) :
    rIsi K [v, .ty T] H Q := ⟨_, _, _, _, b, rfl, .ty _, h, kit_ty e, q⟩
def tIsi (K : PySem.W.Frag) (te : TE) (T : String) : TE := fun σ H Q => te σ H fun v H1 => rIsi K [v, .ty T] H1 Q
theorem blT {p : Prop} [Decidable p] {Q : VK} {H : Hp} (h : p) (k : Q (.bl true) H) : Q (.bl (decide p)) H := by
  rw [decide_eq_true h]
  exact k
theorem blF {p : Prop} [Decidable p] {Q : VK} {H : Hp} (h : ¬ p) (k : Q (.bl false) H) : Q (.bl (decide p)) H := by
  rw [decide_eq_false h]
  exact k
theorem blNT {p : Prop} [Decidable p] {Q : VK} {H : Hp} (h : ¬ p) (k : Q (.bl true) H) : Q (.bl (!decide p)) H := by
  rw [decide_eq_false h]
  exact k
theorem blNF {p : Prop} [Decidable p] {Q : VK} {H : Hp} (h : p) (k : Q (.bl false) H) : Q (.bl (!decide p)) H := by
  rw [decide_eq_true h]
  exact k
section
variable {X : Cx} {e : Expr} {te : TE} {p q pos : Pos}
theorem pe_isInt (n : Nm X.mg) (he : PE X e te) (g1 : Gl X "isinstance" := by rfl) (g2 : Gl X "int" := by rfl)
    (s1 : starEach [e, .Name "int" q] X.env = (false, eval e X.env) :: starEach [.Name "int" q] X.env := by rfl)
    (s2 : starEach [.Name "int" q] X.env = (false, eval (.Name "int" q) X.env) :: starEach [] X.env := by rfl)
    (hpl : (backTo pos (starEach [.Name "int" q] X.env)).any (·.1) = false := by rfl) :
    PE X (.Call (.Name "isinstance" p) [e, .Name "int" q] [] pos) (tIsi X.K te "int") :=
  pe_callB call_isi g1 n.isi (by decide +kernel) (pa_cons he (pa_cons (pe_bltn (v := .ty "int") g2 n.int (by decide +kernel) rfl) pa_nil s2) s1) (he := s1) (hpl := hpl)
theorem pe_isBool (n : Nm X.mg) (he : PE X e te) (g1 : Gl X "isinstance" := by rfl) (g2 : Gl X "bool" := by rfl)
    (s1 : starEach [e, .Name "bool" q] X.env = (false, eval e X.env) :: starEach [.Name "bool" q] X.env := by rfl)
    (s2 : starEach [.Name "bool" q] X.env = (false, eval (.Name "bool" q) X.env) :: starEach [] X.env := by rfl)
    (hpl : (backTo pos (starEach [.Name "bool" q] X.env)).any (·.1) = false := by rfl) :
    PE X (.Call (.Name "isinstance" p) [e, .Name "bool" q] [] pos) (tIsi X.K te "bool") :=
  pe_callB call_isi g1 n.isi (by decide +kernel) (pa_cons he (pa_cons (pe_bltn (v := .ty "bool") g2 n.bool (by decide +kernel) rfl) pa_nil s2) s1) (he := s1) (hpl := hpl)
theorem pe_isTuple (n : Nm X.mg) (he : PE X e te) (g1 : Gl X "isinstance" := by rfl) (g2 : Gl X "tuple" := by rfl)
    (s1 : starEach [e, .Name "tuple" q] X.env = (false, eval e X.env) :: starEach [.Name "tuple" q] X.env := by rfl)
    (s2 : starEach [.Name "tuple" q] X.env = (false, eval (.Name "tuple" q) X.env) :: starEach [] X.env := by rfl)
    (hpl : (backTo pos (starEach [.Name "tuple" q] X.env)).any (·.1) = false := by rfl) :
    PE X (.Call (.Name "isinstance" p) [e, .Name "tuple" q] [] pos) (tIsi X.K te "tuple") :=
  pe_callB call_isi g1 n.isi (by decide +kernel) (pa_cons he (pa_cons (pe_bltn (v := .ty "tuple") g2 n.tuple (by decide +kernel) rfl) pa_nil s2) s1) (he := s1) (hpl := hpl)
theorem pe_isStr (n : Nm X.mg) (he : PE X e te) (g1 : Gl X "isinstance" := by rfl) (g2 : Gl X "str" := by rfl)
    (s1 : starEach [e, .Name "str" q] X.env = (false, eval e X.env) :: starEach [.Name "str" q] X.env := by rfl)
    (s2 : starEach [.Name "str" q] X.env = (false, eval (.Name "str" q) X.env) :: starEach [] X.env := by rfl)
    (hpl : (backTo pos (starEach [.Name "str" q] X.env)).any (·.1) = false := by rfl) :
    PE X (.Call (.Name "isinstance" p) [e, .Name "str" q] [] pos) (tIsi X.K te "str") :=
  pe_callB call_isi g1 n.isi (by decide +kernel) (pa_cons he (pa_cons (pe_bltn (v := .ty "str") g2 n.str (by decide +kernel) rfl) pa_nil s2) s1) (he := s1) (hpl := hpl)
end

theorem yes_ite {σ : L2.St} {H : Hp} {A B : Hp → Prop} (h : A H) : tYes σ H (fun b H3 => if b = true then A H3 else B H3) := by
  show if true = true then A H else B H
  exact iteT h
def spIsInt : Sp := fun vs H Q _ => ∃ i, vs = [.int i] ∧ Q (.bl true) H
theorem scI : FnScope ["value"] ["value"] (defScope sIsInt) := ⟨rfl, rfl, rfl, by decide +kernel, rfl, by decide +kernel, by decide +kernel⟩
theorem ok_isInt {f : Addr} {fd : FuncData} (F : Fun K "is_integer" "is_integer" sIsInt f fd) (n : Nm mg) : FnOk P w K mg base CX0 1 f fd ["value"] spIsInt := by
  refine F.ok scI (fun vs H Q E h => ?_) (fun cdv A outer s H vs Q E hr h => ?_)
  · obtain ⟨i, rfl, _⟩ := h
    rfl
  · obtain ⟨i, rfl, k⟩ := h
    refine ⟨_, pss_one (ps_ret (pe_and (pe_isInt n (pv 0)) (pe_one (pe_not (pe_isBool n (pv 0)))))), ?_⟩
    refine ⟨_, rfl, isi_mk (t := "int") (b := true) (.base (.int _)) (by decide +kernel) ⟨true, rfl, iteT ?_⟩⟩
    exact ⟨_, rfl, isi_mk (t := "int") (b := false) (.base (.int _)) (by decide +kernel) ⟨false, rfl, k⟩⟩

/-- a def called by its name: what a caller needs of it -/
structure Fn (P : Program) (w : World) (K : PySem.W.Frag) (mg : Str → Option Value) (base : Heap) (k : Nat) (x : Str) (ps : List Str) (sp : Sp) : Prop where
  ex : ∃ f fd, mg x = some (.ref f) ∧ PySem.W.keepIn K (.ref f) = true ∧ Binds K fd ps [] ∧ FnOk P w K mg base CX0 k f fd ps sp
theorem pe_fn {X : Cx} {k : Nat} {x : Str} {ps : List Str} {sp : Sp} {e : Expr} {es : List Expr} {t : TA} {p pos : Pos}
    (F : Fn X.prog X.w X.K X.mg X.base k x ps sp) (hr : Room k X.A) (ha : PA X (e :: es) t) (gl : Gl X x := by rfl) (hdb : (x == ("__debug__" : Str)) = false := by decide)
    (he : starEach (e :: es) X.env = (false, eval e X.env) :: starEach es X.env := by rfl)
    (hpl : (backTo pos (starEach es X.env)).any (·.1) = false := by rfl) :
    PE X (.Call (.Name x p) (e :: es) [] pos) (tCall sp [] E0 t) := by
  obtain ⟨f, fd, m, kp, b, G⟩ := F.ex
  exact pe_call G hr gl m kp b .nil pass0 ha hdb he hpl

def spIsCount : Sp := fun vs H Q _ => ∃ i, vs = [.int i] ∧ 0 ≤ i ∧ Q (.bl true) H
theorem scC : FnScope ["value"] ["value"] (defScope sIsCount) := ⟨rfl, rfl, rfl, by decide +kernel, rfl, by decide +kernel, by decide +kernel⟩
theorem ok_isCount {f : Addr} {fd : FuncData} (F : Fun K "is_count" "is_count" sIsCount f fd) (G : Fn P w K mg base 1 "is_integer" ["value"] spIsInt) : FnOk P w K mg base CX0 2 f fd ["value"] spIsCount := by
  refine F.ok scC (fun vs H Q E h => ?_) (fun cdv A outer s H vs Q E hr h => ?_)
  · obtain ⟨i, rfl, _⟩ := h
    rfl
  · obtain ⟨i, rfl, h0, k⟩ := h
    refine ⟨_, pss_one (ps_ret (pe_and (pe_fn G hr (pa_cons (pv 0) pa_nil)) (pe_one (pe_cmpR op_ge (pv 0) pe_int (nomark _))))), ?_⟩
    refine ⟨_, rfl, _, rfl, true, rfl, iteT ?_⟩
    refine ⟨_, rfl, _, _, rfl, rfl, ?_⟩
    exact blT (Q := Q) h0 k

theorem same_upd {H : Hp} {p : Addr} {o : HO} (h : H p = none) : Same H (upd H p o) := fun a u e => by
  rw [upd_ne (ne_of_none e h)]
  exact e
/-- a list or a tuple of these -/
def Seq (K : PySem.W.Frag) (H : Hp) (a : Addr) (xs : List V) : Prop := H a = some (.lst xs) ∨ H a = some (.tup xs)
def spIsList (K : PySem.W.Frag) : Sp := fun vs H Q _ => ∃ a xs, vs = [.ref a] ∧ Seq K H a xs ∧ ∀ H', Same H H' → Q (.bl true) H'
theorem scL : FnScope ["value"] ["value"] (defScope sIsList) := ⟨rfl, rfl, rfl, by decide +kernel, rfl, by decide +kernel, by decide +kernel⟩
theorem ok_isList {f : Addr} {fd : FuncData} (F : Fun K "is_list" "is_list" sIsList f fd) (n : Nm mg) : FnOk P w K mg base CX0 1 f fd ["value"] (spIsList K) := by
  refine F.ok scL (fun vs H Q E h => ?_) (fun cdv A outer s H vs Q E hr h => ?_)
  · obtain ⟨i, _, rfl, _⟩ := h
    rfl
  · obtain ⟨a, xs, rfl, hs, k⟩ := h
    refine ⟨_, pss_one (ps_ret (pe_callB call_isiT (by rfl) n.isi (by decide +kernel) (pa_cons (pv 0) (pa_cons (pe_tup (pa_cons (pe_bltn (v := .ty "list") (by rfl) n.list (by decide +kernel) rfl) (pa_cons (pe_bltn (v := .ty "tuple") (by rfl) n.tuple (by decide +kernel) rfl) pa_nil))) pa_nil)))), ?_⟩
    refine ⟨_, rfl, (by show 2 ≤ sizeLine; decide), fun p hp => ?_⟩
    have cs : Paired ClsV [V.ty "list", V.ty "tuple"] [Value.type "list", Value.type "tuple"] := .cons (.ty _) (.cons (.ty _) .nil)
    rcases hs with hs | hs
    · refine ⟨_, p, _, _, _, true, rfl, upd_same, cs, .base (.lst (by rw [upd_ne (ne_of_none hs hp)]; exact hs)), ?_, k _ (same_upd hp)⟩
      exact kitAny_cons (kit_ty (b := "list") (r := true) (by decide +kernel)) (fun z => nomatch z) (fun _ => rfl)
    · refine ⟨_, p, _, _, _, true, rfl, upd_same, cs, .base (.tup (by rw [upd_ne (ne_of_none hs hp)]; exact hs)), ?_, k _ (same_upd hp)⟩
      exact kitAny_cons (kit_ty (b := "list") (r := false) (by decide +kernel)) (fun _ => kitAny_cons (kit_ty (b := "tuple") (r := true) (by decide +kernel)) (fun z => nomatch z) (fun _ => rfl)) (fun z => nomatch z)

/-! ### is_deed: asked of deeds alone -/
def spIsDeed : Sp := fun vs H Q _ => ∃ (t : Addr) (x : Dd) (n : Int), vs = [.ref t, .int n] ∧ H t = some (.tup x.vs) ∧ x.Ok n ∧ ∀ H', Same H H' → Q (.bl true) H'
theorem scD : FnScope ["value", "places", "place", "change", "goal", "when", "end"] ["value", "places"] (defScope sIsDeed) := ⟨rfl, rfl, rfl, by decide +kernel, rfl, by decide +kernel, by decide +kernel⟩
theorem ok_isDeed {f : Addr} {fd : FuncData} (F : Fun K "is_deed" "is_deed" sIsDeed f fd) (n : Nm mg)
    (GI : Fn P w K mg base 1 "is_integer" ["value"] spIsInt) (GC : Fn P w K mg base 2 "is_count" ["value"] spIsCount) :
    FnOk P w K mg base CX0 3 f fd ["value", "places"] spIsDeed := by
  refine F.ok scD (fun vs H Q E h => ?_) (fun cdv A outer s H vs Q E hr h => ?_)
  · obtain ⟨t, x, m, rfl, _⟩ := h
    rfl
  · obtain ⟨t, x, m, rfl, ht, ok, k⟩ := h
    have nd := scD.nd
    refine ⟨_, pss_cons (ps_if (pw_or (pt_not (pt_val (pe_isTuple n (pv 0))))
          (pw_or1 (pt_cmpR op_ne (pe_callB call_len_seq (by rfl) n.len PySem.boot_len (pa_cons (pv 0) pa_nil)) pe_int (nomark _)))).pt pss_never pss_nil)
      (pss_cons (ps_asg (pv 0) (pg_tup rfl (pgs_cons (pg_name (i := 2) nd rfl (.inl rfl)) (pgs_cons (pg_name (i := 3) nd rfl (.inl rfl)) (pgs_cons (pg_name (i := 4) nd rfl (.inl rfl)) (pgs_cons (pg_name (i := 5) nd rfl (.inl rfl)) pgs_nil))))))
      (pss_cons (ps_if (pt_not (pt_val (pe_callB (cr_all rfl) (by rfl) n.all (by decide +kernel) (pa_cons
          (pe_lc (own := [("end", 6)]) (g := gName 6) (tt := tYes) rfl nd (pi_tup (pe_tup (pa_cons (pv 2) (pa_cons (pv 4) pa_nil)))) (blkOk_by (N := ["value", "places", "place", "change", "goal", "when", "end"]) (sc := defScope sIsDeed) (by decide +kernel))
            (fun _ _ _ _ _ => pg_name (i := 6) nd rfl (.inl rfl)) (fun _ _ _ _ _ => pts_nil)
            (fun _ _ _ _ _ => pe_and (pe_fn GC hr (pa_cons (pv 6) pa_nil)) (pe_one (pe_cmpR op_lt (pv 6) (pv 1) (nomark _))))) pa_nil)))) pss_never pss_nil)
      (pss_cons (ps_if (pw_or (pt_not (pt_val (pe_fn GI (hr.mono (by decide)) (pa_cons (pv 3) pa_nil)))) (pw_or1 (pt_not (pt_val (pe_isStr n (pv 5)))))).pt pss_never pss_nil)
      (pss_one (ps_ret (pe_or (pe_and (pe_cmpR op_eq (pv 5) pe_str (nomark _)) (pe_one (pe_chain op_le op_le (pe_un un_neg pe_int) (pv 3) pe_int)))
        (pe_one (pe_and (pe_cmpR op_eq (pv 5) pe_str (nomark _)) (pe_one (pe_chain op_le op_le pe_int (pv 3) pe_int))))))))) ), ?_⟩
    -- the first test: a tuple, of four
    refine ⟨_, rfl, isi_mk (t := "tuple") (b := true) (.base (.tup ht)) (by decide +kernel) ⟨true, rfl, iteF ?_⟩⟩
    refine ⟨_, rfl, t, x.vs, rfl, .inr (.inl (.inl ht)), rfl, false, rfl, iteF ?_⟩
    refine ⟨_, rfl, t, x.vs, rfl, .inl (.inl ht), rfl, _, _, rfl, _, _, rfl, _, _, rfl, _, _, rfl, rfl, ?_⟩
    -- all([is_count(end) and end < places for end in (place, goal)])
    refine ⟨_, rfl, _, rfl, (by show 2 ≤ sizeLine; decide), fun q hq => ⟨q, rfl, ⟨_, .inl (.inl upd_same)⟩, fun D hD => ?_⟩⟩
    have s1 := same_upd (o := .tup [V.int x.p, V.int x.g]) hq
    have nqD : q ≠ D := ne_of_none upd_same hD
    refine lc_tup (xs := [V.int x.p, V.int x.g]) (fun i H' => H' D = some (.lst (List.replicate i (.bl true))) ∧ ∀ b o, b ≠ D → upd H q (.tup [V.int x.p, V.int x.g]) b = some o → H' b = some o) ⟨upd_same, fun b o hb e => by rw [upd_ne hb]; exact e⟩ (fun i H' _ hI => .inl (.inl (hI.2 _ _ nqD upd_same))) ?_ ?_
    · intro i y H' hi hI
      have hy : ∃ z, y = V.int z ∧ 0 ≤ z ∧ z < m := by
        match i, hi with
        | 0, hi => cases hi; exact ⟨_, rfl, ok.p0, ok.pn⟩
        | 1, hi => cases hi; exact ⟨_, rfl, ok.g0, ok.gn⟩
      obtain ⟨z, rfl, z0, zn⟩ := hy
      refine ⟨rfl, yes_ite ?_⟩
      refine ⟨_, rfl, _, rfl, z0, true, rfl, iteT ?_⟩
      refine ⟨_, rfl, _, rfl, _, _, rfl, rfl, ?_⟩
      have hl : i < 2 := (List.getElem?_eq_some_iff.mp hi).1
      refine ⟨_, hI.1, (by rw [List.length_replicate]; exact small1000 (by omega)), ?_, fun b o hb e => by rw [upd_ne hb]; exact hI.2 b o hb e⟩
      rw [upd_same, List.replicate_succ']
      show some (HO.lst (List.replicate i (V.bl true) ++ [V.bl (decide (z < m))])) = _
      rw [decide_eq_true zn]
    · intro H' ⟨hD', hK'⟩
      have s2 : Same H H' := fun b o e => hK' b o (ne_of_none (s1 b o e) hD) (s1 b o e)
      have ht' : H' t = some (.tup x.vs) := s2 _ _ ht
      refine ⟨D, [true, true], rfl, .inl (.inl hD'), true, rfl, ?_⟩
      refine iteF ?_
      refine ⟨_, rfl, _, rfl, true, rfl, ?_⟩
      refine iteF ?_
      refine ⟨_, rfl, isi_mk (t := "str") (b := true) (.base (.str _)) (by decide +kernel) ⟨true, rfl, ?_⟩⟩
      refine iteF ?_
      have fin := k H' s2
      rcases ok.w with ⟨e, l, u⟩ | ⟨e, l, u⟩
      · refine ⟨_, rfl, rfl, true, congrArg V.bl (decide_eq_true (by rw [e])), ?_⟩
        refine iteT ?_
        refine ⟨1, rfl, _, rfl, _, _, rfl, rfl, true, congrArg V.bl (decide_eq_true l), ?_⟩
        refine iteT ?_
        refine ⟨_, _, rfl, rfl, true, congrArg V.bl (decide_eq_true u), ?_⟩
        exact iteT fin
      · have ne : ¬ V.str x.w = V.str "any" := by
          rw [e]
          decide +kernel
        refine ⟨_, rfl, rfl, false, congrArg V.bl (decide_eq_false ne), ?_⟩
        refine iteF ?_
        refine ⟨false, rfl, ?_⟩
        refine iteF ?_
        refine ⟨_, rfl, rfl, true, congrArg V.bl (decide_eq_true (by rw [e])), ?_⟩
        refine iteT ?_
        refine ⟨_, rfl, _, _, rfl, rfl, true, congrArg V.bl (decide_eq_true l), ?_⟩
        refine iteT ?_
        exact ⟨_, _, rfl, rfl, blT (Q := Q) u fin⟩
end
end L2.K21
end

section
set_option Elab.async false
set_option linter.all false
set_option maxRecDepth 100000
set_option maxHeartbeats 2000000
namespace L2.K21
open PySem PySem.Spec PyProof.Rows L2.Gd

/-! ### deeds as data -/
theorem DdAt.dp {K : PySem.W.Frag} {H : Hp} {v : V} {x : Dd} (h : DdAt H v x) : Dp K H v x.d := by
  obtain ⟨t, rfl, ht⟩ := h
  exact .tup (.inl (.inl ht)) (.cons (.int _) (.cons (.int _) (.cons (.int _) (.cons (.str _) .nil))))
abbrev DdAll (H : Hp) : List V → List Dd → Prop := Paired (DdAt H)
theorem DdAll.dps {K : PySem.W.Frag} {H : Hp} : ∀ {vs : List V} {ds : List Dd}, DdAll H vs ds → DpAll K H vs (ds.map Dd.d)
  | _, _, .nil => .nil
  | _, _, .cons h t => .cons (DdAt.dp h) (DdAll.dps t)
def Dd.Wd (x : Dd) : Prop := x.w = "any" ∨ x.w = "empty"
theorem Dd.Ok.wd {n : Int} {x : Dd} (h : x.Ok n) : x.Wd := h.w.elim (fun q => .inl q.1) (fun q => .inr q.1)
theorem Dd.lay {x : Dd} (h : x.Wd) : x.d.canLay0 = true := by
  have e : PyData.strOk x.w = true := by
    rcases h with e | e <;> (rw [e]; decide +kernel)
  simp [Dd.d, PyData.canLay0, PyData.canLayAll0, e]
theorem Dd.dep (x : Dd) : x.d.depth = 1 := by simp [Dd.d, PyData.depth, PyData.depthAll]
theorem lays : ∀ {ds : List Dd}, (∀ x ∈ ds, x.Wd) → PyData.canLayAll0 (ds.map Dd.d) = true
  | [], _ => by simp [PyData.canLayAll0]
  | x :: r, h => by simp [PyData.canLayAll0, Dd.lay (h x List.mem_cons_self), lays (ds := r) fun y hy => h y (List.mem_cons_of_mem _ hy)]
theorem deps : ∀ ds : List Dd, PyData.depthAll (ds.map Dd.d) ≤ 1
  | [] => by simp [PyData.depthAll]
  | x :: r => by
    have h1 := deps r
    have h2 := x.dep
    simp only [List.map_cons, PyData.depthAll]
    omega
theorem Dd.shaped {x : Dd} (hx : x.Wd) : SeqAt.shaped x.d = true := by
  have h := x.dep
  show (x.d.canLay0 && decide (x.d.depth ≤ 64)) = true
  rw [Dd.lay hx, decide_eq_true (by omega)]
  rfl
theorem shapedL {ds : List Dd} (hd : ∀ x ∈ ds, x.Wd) : SeqAt.shaped (.list (ds.map Dd.d)) = true := by
  have h := deps ds
  have h2 : PyData.depth (.list (ds.map Dd.d)) ≤ 64 := by
    simp only [PyData.depth]
    omega
  show (PyData.canLay0 (.list (ds.map Dd.d)) && decide (PyData.depth (.list (ds.map Dd.d)) ≤ 64)) = true
  rw [Bool.and_eq_true]
  exact ⟨by simp only [PyData.canLay0]; exact lays hd, decide_eq_true h2⟩
theorem shapedT {ds : List Dd} (hd : ∀ x ∈ ds, x.Wd) : SeqAt.shaped (.tuple (ds.map Dd.d)) = true := by
  have h := deps ds
  have h2 : PyData.depth (.tuple (ds.map Dd.d)) ≤ 64 := by
    simp only [PyData.depth]
    omega
  show (PyData.canLay0 (.tuple (ds.map Dd.d)) && decide (PyData.depth (.tuple (ds.map Dd.d)) ≤ 64)) = true
  rw [Bool.and_eq_true]
  exact ⟨by simp only [PyData.canLay0]; exact lays hd, decide_eq_true h2⟩
theorem Dd.eqv (x y : Dd) : PyData.eqv x.d y.d = decide (x = y) := by
  obtain ⟨p, c, g, w⟩ := x
  obtain ⟨p', c', g', w'⟩ := y
  have e : PyData.eqv (Dd.d ⟨p, c, g, w⟩) (Dd.d ⟨p', c', g', w'⟩) = ((p == p') && ((c == c') && ((g == g') && ((w == w') && true)))) := by
    simp only [Dd.d, PyData.eqv, PyData.eqvAll]
  rw [e, Bool.eq_iff_iff]
  simp
theorem eqvs : ∀ xs ys : List Dd, PyData.eqvAll (xs.map Dd.d) (ys.map Dd.d) = decide (xs = ys)
  | [], [] => by simp [PyData.eqvAll]
  | [], y :: ys => by simp [PyData.eqvAll]
  | x :: xs, [] => by simp [PyData.eqvAll]
  | x :: xs, y :: ys => by
    simp only [List.map_cons, PyData.eqvAll, x.eqv y, eqvs xs ys]
    rw [Bool.eq_iff_iff]
    simp
theorem any_in (x : Dd) (ds : List Dd) : (ds.map Dd.d).any (fun z => PyData.eqv z x.d) = decide (x ∈ ds) := by
  rw [List.any_map, Bool.eq_iff_iff, List.any_eq_true, decide_eq_true_eq]
  constructor
  · rintro ⟨y, hy, e⟩
    have e2 : PyData.eqv y.d x.d = true := e
    rw [y.eqv x, decide_eq_true_eq] at e2
    exact e2 ▸ hy
  · intro h
    refine ⟨x, h, ?_⟩
    show PyData.eqv x.d x.d = true
    rw [x.eqv x]
    simp
theorem DdAt.same {H H' : Hp} {v : V} {x : Dd} (s : Same H H') (h : DdAt H v x) : DdAt H' v x := let ⟨t, e, q⟩ := h; ⟨t, e, s _ _ q⟩
theorem DdAll.same {H H' : Hp} {vs : List V} {ds : List Dd} (s : Same H H') (h : DdAll H vs ds) : DdAll H' vs ds := Paired.mapP h fun _ _ q => q.same s

theorem cutV_take (xs : List V) {i : Nat} (h : i ≤ xs.length) : cutV xs none (some (i : Int)) = xs.take i := by
  have e0 : HT.sIx xs.length 0 none = 0 := by simp [HT.sIx]
  have e1 : HT.sIx xs.length xs.length (some (i : Int)) = i := by
    simp only [HT.sIx]
    split <;> omega
  unfold cutV
  rw [e0, e1, List.drop_zero, Nat.sub_zero]
theorem Paired.at {α β : Type} {R : α → β → Prop} : ∀ {xs : List α} {ys : List β} {i : Nat} {x : α}, Paired R xs ys → xs[i]? = some x → ∃ y, ys[i]? = some y ∧ R x y
  | _, _, _, _, .nil, e => by simp at e
  | _, _, 0, _, .cons r _, e => by simp at e; subst e; exact ⟨_, rfl, r⟩
  | _, _, i + 1, x, .cons _ t, e => by
    obtain ⟨u, h1, h2⟩ := Paired.at (i := i) (x := x) t (by simpa using e)
    exact ⟨u, by simpa using h1, h2⟩
theorem Paired.takeP {α β : Type} {R : α → β → Prop} : ∀ {xs : List α} {ys : List β} (n : Nat), Paired R xs ys → Paired R (xs.take n) (ys.take n)
  | _, _, 0, _ => .nil
  | _, _, _ + 1, .nil => .nil
  | _, _, n + 1, .cons r t => .cons r (Paired.takeP n t)
theorem not_ahead {α : Type} {l : List α} {i : Nat} {x : α} (nd : l.Nodup) (h : l[i]? = some x) : x ∉ l.take i := by
  intro hm
  obtain ⟨j, hj⟩ := List.mem_iff_getElem?.mp hm
  obtain ⟨lt, e⟩ := List.getElem?_eq_some_iff.mp hj
  rw [List.length_take] at lt
  have e2 : l[j]? = some x := by
    rw [List.getElem?_take_of_lt (by omega)] at hj
    exact hj
  obtain ⟨l1, q1⟩ := List.getElem?_eq_some_iff.mp h
  obtain ⟨l2, q2⟩ := List.getElem?_eq_some_iff.mp e2
  exact (List.pairwise_iff_getElem.mp nd) j i l2 l1 (by omega) (q2.trans q1.symm)
theorem hu65 {k : Nat} {A : Around} (hr : Room k A) : A.units + 65 < cLine := by
  have := hr.un
  omega
/-- a for by an invariant, whatever is walked -/
theorem loop_of {J : It} {n : Nat} {g : TG} {tb : TS} {D : Ends} {σ : L2.St} {H : Hp} (Pv : Nat → L2.St → Hp → Prop) (h0 : Pv 0 σ H)
    (hd : ∀ σ H, Pv n σ H → J.stop n H ∧ D.nx σ H)
    (hs : ∀ i σ H, i < n → Pv i σ H → J.go i H ∧ ∀ x H', J.yld i H x H' → g x σ H' fun σ2 H2 => tb { D with nx := Pv (i + 1), ct := Pv (i + 1), bk := D.nx } σ2 H2) :
    ∃ W : Nat → Nat → L2.St → Hp → Prop, (∃ m, W 0 m σ H) ∧ ∀ i m σ H, W i m σ H → (J.stop i H ∧ D.nx σ H) ∨
      (J.go i H ∧ ∃ N : L2.St → Hp → Prop, (∀ σ' H', N σ' H' → ∃ m', m' < m ∧ W (i + 1) m' σ' H') ∧
        ∀ x H', J.yld i H x H' → g x σ H' fun σ2 H2 => tb { D with nx := N, ct := N, bk := D.nx } σ2 H2) := by
  refine ⟨fun i m σ H => m = n - i ∧ i ≤ n ∧ Pv i σ H, ⟨n, by simp, Nat.zero_le _, h0⟩, ?_⟩
  rintro i m σ H ⟨rfl, hi, hp⟩
  by_cases e : i < n
  · obtain ⟨go, k⟩ := hs i σ H e hp
    exact .inr ⟨go, Pv (i + 1), fun σ' H' q => ⟨n - (i + 1), by omega, rfl, e, q⟩, k⟩
  · obtain rfl : i = n := by omega
    exact .inl (hd σ H hp)
/-- x in s, s a list or a tuple -/
theorem op_inDT {X : Cx} (hu : X.A.units + 65 < cLine) : OpR X (compareOp .In) (fun x y H Q => ∃ d ds, Dp X.K H x d ∧ Dp X.K H y (.tuple ds) ∧ SeqAt.shaped d = true ∧ SeqAt.shaped (.tuple ds) = true ∧ Q (.bl (ds.any fun z => PyData.eqv z d)) H) := by
  rintro pins s σ H x y v u Q I rx ry ⟨d, ds, hd, he, sd, se, q⟩
  obtain ⟨as, r1⟩ := Dp.reads I d x v hd rx
  obtain ⟨bs, r2⟩ := Dp.reads I (.tuple ds) y u he ry
  refine SeqAt.in_tuple_reads r2 r1 (SeqAt.canLay_of_shaped se) (SeqAt.canLay_of_shaped sd) ?_ ⟨.bl _, H, I, rfl, q⟩
  exact room_in_shaped sd hu

section
variable {P : Program} {w : World} {K : PySem.W.Frag} {mg : Str → Option Value} {base : Heap}
theorem Seq.len {H : Hp} {a : Addr} {xs : List V} (h : Seq K H a xs) : SqL K H a xs ∨ SqT K H a xs := h.elim (fun q => .inl (.inl (.inl q))) (fun q => .inr (.inl (.inl q)))
theorem Seq.same {H H' : Hp} {a : Addr} {xs : List V} (s : Same H H') (h : Seq K H a xs) : Seq K H' a xs := h.elim (fun q => .inl (s _ _ q)) (fun q => .inr (s _ _ q))
def spCheck (K : PySem.W.Frag) : Sp := fun vs H Q _ => ∃ (m : Int) (a : Addr) (xs : List V) (ds : List Dd), vs = [.int m, .ref a] ∧ Seq K H a xs ∧ DdAll H xs ds ∧
  (∀ d ∈ ds, d.Ok m) ∧ ds.Nodup ∧ ds.length ≤ 60 ∧ ∀ H', Same H H' → Q .non H'
theorem scCk : FnScope ["places", "deeds", "position", "deed"] ["places", "deeds"] (defScope sCheck) := ⟨rfl, rfl, rfl, by decide +kernel, rfl, by decide +kernel, by decide +kernel⟩
theorem ok_check {f : Addr} {fd : FuncData} (F : Fun K "check_deeds" "check_deeds" sCheck f fd) (n : Nm mg)
    (GL : Fn P w K mg base 1 "is_list" ["value"] (spIsList K)) (GD : Fn P w K mg base 3 "is_deed" ["value", "places"] spIsDeed) {tk : Tok} (mm : mg "MOST_DEEDS" = some (.int 60 tk)) :
    FnOk P w K mg base CX0 4 f fd ["places", "deeds"] (spCheck K) := by
  refine F.ok scCk (fun vs H Q E h => ?_) (fun cdv A outer s H vs Q E hr h => ?_)
  · obtain ⟨m, a, xs, ds, rfl, _⟩ := h
    rfl
  · obtain ⟨m, a, xs, ds, rfl, hs, hd, ok, nd, hl, k⟩ := h
    have N := scCk.nd
    have lx : xs.length = ds.length := Paired.length hd
    refine ⟨_, pss_cons (ps_if (pt_not (pt_val (pe_fn GL (hr.mono (by decide)) (pa_cons (pv 1) pa_nil)))) pss_never pss_nil)
      (pss_cons (ps_for PassesOwn.never rfl (pi_enumA (by rfl) n.enumerate (pa_cons (pv 1) pa_nil)) (pg_tup rfl (pgs_cons (pg_name (i := 2) N rfl (.inl rfl)) (pgs_cons (pg_name (i := 3) N rfl (.inl rfl)) pgs_nil)))
        (pss_one (ps_if (pw_or (pt_not (pt_val (pe_fn GD hr (pa_cons (pv 3) (pa_cons (pv 0) pa_nil)))))
          (pw_or1 (pt_cmpR (OpR.or (op_inD (hu65 hr)) (op_inDT (hu65 hr))) (pv 3) (pe_slice (SlR.or sl_list sl_tupA) (pv 1) po_none (po_some (pv 2))) (by rfl)))).pt pss_never pss_nil)))
      (pss_one (ps_if (pt_cmpR op_gt (pe_callB call_len_seq (by rfl) n.len PySem.boot_len (pa_cons (pv 1) pa_nil)) (pe_glob (v := .int 60) (by rfl) mm ⟨_, rfl⟩) (nomark _)) pss_never pss_nil))), ?_⟩
    refine ⟨_, rfl, a, xs, rfl, hs, fun H1 s1 => ⟨true, rfl, ?_⟩⟩
    refine iteF ?_
    have hs1 := hs.same s1
    -- the loop: nothing but new things
    let Pv : Nat → L2.St → Hp → Prop := fun i σ H2 => ∃ v2 v3 : Option V, σ = [some (.int m), some (.ref a), v2, v3] ∧ Same H1 H2
    have body : ∀ (D : Ends) (i : Nat) (T : Addr) (y : V) (H2 : Hp) (v2 v3 : Option V), D.nx = Pv (i + 1) → Same H1 H2 → H2 T = none → xs[i]? = some y →
        (gTup K 2 (gCons (gName 2) (gCons (gName 3) gNil))) (.ref T) [some (.int m), some (.ref a), v2, v3] (upd H2 T (.tup [.int (i : Nat), y])) fun σ3 H3 => (tIfS
          (tOr (tNot (tB (tCall spIsDeed [] E0 (tCons (tVar 3) (tCons (tVar 0) tNil)))))
            (tTest (tOp (fun x y H Q => rInD K x y H Q ∨ ∃ d ds, Dp K H x d ∧ Dp K H y (.tuple ds) ∧ SeqAt.shaped d = true ∧ SeqAt.shaped (.tuple ds) = true ∧ Q (.bl (ds.any fun z => PyData.eqv z d)) H) (tVar 3)
              (tSl (fun x lo hi H Q => rSlL K x lo hi H Q ∨ rSlA K x lo hi H Q) (tVar 1) tNoPart (tPart (tVar 2)))))) tNever tNext) D σ3 H3 := by
      intro D i T y H2 v2 v3 hD s2 hT hy
      have ii : i < xs.length := (List.getElem?_eq_some_iff.mp hy).1
      have s3 : Same H1 (upd H2 T (.tup [.int (i : Nat), y])) := s2.trans (same_upd hT)
      obtain ⟨d, hdi, hdy⟩ := Paired.at hd hy
      have okd := ok d (List.mem_of_getElem? hdi)
      obtain ⟨t, rfl, ht⟩ := hdy
      refine ⟨T, _, rfl, .inl (.inl upd_same), rfl, _, _, rfl, _, _, rfl, rfl, ?_⟩
      refine ⟨_, rfl, _, rfl, t, d, m, rfl, s3 _ _ (s1 _ _ ht), okd, fun H4 s4 => ⟨true, rfl, ?_⟩⟩
      refine iteF ?_
      have sa : Same H H4 := s1.trans (s3.trans s4)
      refine ⟨_, rfl, _, rfl, _, rfl, i, rfl, ?_⟩
      have no : decide (d ∈ ds.take i) = false := decide_eq_false (not_ahead nd hdi)
      have dd : Dp K H4 (.ref t) d.d := DdAt.dp ⟨t, rfl, sa _ _ ht⟩
      have wd : ∀ x ∈ ds.take i, x.Wd := fun x hx => (ok x (List.mem_of_mem_take hx)).wd
      have dl : ∀ {H5 : Hp}, Same H4 H5 → DpAll K H5 (xs.take i) ((ds.take i).map Dd.d) := fun s5 => DdAll.dps (DdAll.same (sa.trans s5) (Paired.takeP i hd))
      rcases hs.same sa with h4 | h4
      · refine .inl ⟨a, xs, rfl, .inl (.inl h4), fun p hp => ?_⟩
        rw [cutV_take xs (Nat.le_of_lt ii)]
        have s5 : Same H4 (upd H4 p (.lst (xs.take i))) := same_upd hp
        refine .inl ⟨_, _, DdAt.dp ⟨t, rfl, s5 _ _ (sa _ _ ht)⟩, .lst (.inl (.inl upd_same)) (dl s5), Dd.shaped okd.wd, shapedL wd, false, ?_, ?_⟩
        · rw [any_in, no]
        · refine iteF ?_
          show D.nx _ _
          rw [hD]
          exact ⟨_, _, rfl, s3.trans (s4.trans s5)⟩
      · refine .inr ⟨a, xs, rfl, .inl (.inl h4), fun q => ?_, fun _ p hp => ?_⟩
        · exfalso
          have e1 : HT.sIx xs.length xs.length (some (i : Int)) = i := by
            simp only [HT.sIx]
            split <;> omega
          omega
        · rw [cutV_take xs (Nat.le_of_lt ii)]
          have s5 : Same H4 (upd H4 p (.tup (xs.take i))) := same_upd hp
          refine .inr ⟨_, _, DdAt.dp ⟨t, rfl, s5 _ _ (sa _ _ ht)⟩, .tup (.inl (.inl upd_same)) (dl s5), Dd.shaped okd.wd, shapedT wd, false, ?_, ?_⟩
          · rw [any_in, no]
          · refine iteF ?_
            show D.nx _ _
            rw [hD]
            exact ⟨_, _, rfl, s3.trans (s4.trans s5)⟩
    refine ⟨_, rfl, a, xs, rfl, ?_⟩
    have after : ∀ σ H2, Pv xs.length σ H2 → tIfS (tTest (tOp (rI0 fun i j => .bl (decide (j < i))) (tCB (fun xs H Q => ∃ p ys, xs = [.ref p] ∧ (SqL K H p ys ∨ SqT K H p ys) ∧ Q (.int ys.length) H) (tCons (tVar 1) tNil)) (tC (.int 60)))) tNever tNext { nx := fun _ H' => Q .non H', rt := Q } σ H2 := by
      rintro σ H2 ⟨v2, v3, rfl, s2⟩
      refine ⟨_, rfl, a, xs, rfl, (hs.same (s1.trans s2)).len, _, _, rfl, rfl, false, congrArg V.bl (decide_eq_false (by omega)), ?_⟩
      exact iteF (k _ (s1.trans s2))
    rcases hs1 with h1 | h1
    · refine .inl ⟨.inl (.inl h1), loop_of (n := xs.length) Pv ⟨none, none, rfl, fun _ _ q => q⟩ (fun σ H2 hp => ?_) ?_⟩
      · obtain ⟨v2, v3, e, s2⟩ := id hp
        exact ⟨⟨xs, .inl (.inl (s2 _ _ h1)), Nat.le_refl _⟩, after σ H2 hp⟩
      · rintro i σ H2 hi ⟨v2, v3, rfl, s2⟩
        refine ⟨⟨xs, _, .inl (.inl (s2 _ _ h1)), List.getElem?_eq_getElem hi⟩, ?_⟩
        rintro x H' ⟨T, y, rfl, hT, rfl, hy⟩
        exact body _ i T y H2 v2 v3 rfl s2 hT (hy xs (.inl (.inl (s2 _ _ h1))))
    · refine .inr ⟨.inl (.inl h1), loop_of (n := xs.length) Pv ⟨none, none, rfl, fun _ _ q => q⟩ (fun σ H2 hp => ?_) ?_⟩
      · obtain ⟨v2, v3, e, s2⟩ := id hp
        exact ⟨⟨xs, .inl (.inl (s2 _ _ h1)), Nat.le_refl _⟩, after σ H2 hp⟩
      · rintro i σ H2 hi ⟨v2, v3, rfl, s2⟩
        refine ⟨⟨xs, _, .inl (.inl (s2 _ _ h1)), List.getElem?_eq_getElem hi⟩, ?_⟩
        rintro x H' ⟨T, y, rfl, hT, rfl, hy⟩
        exact body _ i T y H2 v2 v3 rfl s2 hT (hy xs (.inl (.inl (s2 _ _ h1))))
end
end L2.K21
end

section
set_option Elab.async false
set_option linter.all false
set_option maxRecDepth 100000
set_option maxHeartbeats 2000000
namespace L2.K21
open PySem PySem.Spec PyProof.Rows L2.Gd

/-! ### a house: its attributes, its list -/
theorem kpd : ¬ (("_places" : Str) = "_deeds") := by decide +kernel
def flds (m : Int) (l : Addr) : List (Str × V) := putF "_deeds" (.ref l) (putF "_places" (.int m) [])
theorem flds_eq (m : Int) (l : Addr) : flds m l = ([("_places", V.int m), ("_deeds", V.ref l)] : List (Str × V)) := by
  show (if ("_places" : Str) = "_deeds" then [(("_places" : Str), V.ref l)] else (("_places" : Str), V.int m) :: putF "_deeds" (V.ref l) []) = ([("_places", V.int m), ("_deeds", V.ref l)] : List (Str × V))
  rw [if_neg kpd]
  all_goals rfl
theorem flds_p (m : Int) (l : Addr) : (flds m l).lookup ("_places" : Str) = some (.int m) := by
  unfold flds
  rw [lookup_putF, if_neg kpd, lookup_putF, if_pos rfl]
theorem flds_d (m : Int) (l : Addr) : (flds m l).lookup ("_deeds" : Str) = some (.ref l) := by
  unfold flds
  rw [lookup_putF, if_pos rfl]
theorem flds_no (m : Int) (l : Addr) {x : Str} (h1 : ¬ x = "_deeds") (h2 : ¬ x = "_places") : (flds m l).lookup x = none := by
  unfold flds
  rw [lookup_putF, if_neg h1, lookup_putF, if_neg h2]
  all_goals rfl
/-- a house at h with m places, its own list of the deeds ds at l -/
structure HouseL (C : Addr) (H : Hp) (h l : Addr) (m : Int) (xs : List V) (ds : List Dd) : Prop where
  ob : ∃ dx, H h = some (.ins C dx (flds m l))
  ls : H l = some (.lst xs)
  dd : DdAll H xs ds
structure WF (m : Int) (ds : List Dd) : Prop where
  m1 : 1 ≤ m
  m16 : m ≤ 16
  ok : ∀ d ∈ ds, d.Ok m
  nd : ds.Nodup
  len : ds.length ≤ 60
theorem WF.wd {m : Int} {ds : List Dd} (w : WF m ds) : ∀ d ∈ ds, d.Wd := fun d hd => (w.ok d hd).wd
theorem HouseL.same {C : Addr} {H H' : Hp} {h l : Addr} {m : Int} {xs : List V} {ds : List Dd} (s : Same H H') (x : HouseL C H h l m xs ds) : HouseL C H' h l m xs ds :=
  ⟨let ⟨dx, e⟩ := x.ob; ⟨dx, s _ _ e⟩, s _ _ x.ls, x.dd.same s⟩
theorem HouseL.lenE {C : Addr} {H : Hp} {h l : Addr} {m : Int} {xs : List V} {ds : List Dd} (x : HouseL C H h l m xs ds) : xs.length = ds.length := Paired.length x.dd

/-- what is known of the class -/
structure ClsT (K : PySem.W.Frag) (mg : Str → Option Value) (C : Addr) : Prop where
  isc : C8.InsC K C
  nP : NoAttr K C "_places"
  nD : NoAttr K C "_deeds"
  mgC : mg "House" = some (.ref C)
section
variable {P : Program} {w : World} {K : PySem.W.Frag} {mg : Str → Option Value} {base : Heap} {C : Addr}

/-! ### __init__ -/
def spInit (K : PySem.W.Frag) (C : Addr) : Sp := fun vs H Q _ => ∃ (x dx a : Addr) (m : Int) (xs : List V) (ds : List Dd), vs = [.ref x, .int m, .ref a] ∧ H x = some (.ins C dx []) ∧
  Seq K H a xs ∧ DdAll H xs ds ∧ WF m ds ∧
  ∀ (l : Addr) (H' : Hp), H l = none → H' x = some (.ins C dx (flds m l)) → H' l = some (.lst xs) → (∀ b o, b ≠ x → H b = some o → H' b = some o) → Q .non H'
theorem scIn : FnScope ["self", "places", "deeds"] ["self", "places", "deeds"] (defScope (cHouse 0)) := ⟨rfl, rfl, rfl, by decide +kernel, rfl, by decide +kernel, by decide +kernel⟩
theorem ok_init {f : Addr} {fd : FuncData} (F : Fun K "__init__" "House.__init__" (cHouse 0) f fd) (n : Nm mg) (T : ClsT K mg C)
    (GI : Fn P w K mg base 1 "is_integer" ["value"] spIsInt) (GC : Fn P w K mg base 4 "check_deeds" ["places", "deeds"] (spCheck K))
    {tk : Tok} (mm : mg "MOST_PLACES" = some (.int 16 tk)) : FnOk P w K mg base CX0 5 f fd ["self", "places", "deeds"] (spInit K C) := by
  refine F.ok scIn (fun vs H Q E h => ?_) (fun cdv A outer s H vs Q E hr h => ?_)
  · obtain ⟨x, dx, a, m, xs, ds, rfl, _⟩ := h
    rfl
  · obtain ⟨x, dx, a, m, xs, ds, rfl, hx, hs, hd, wf, k⟩ := h
    refine ⟨_, pss_cons (ps_if (pw_or (pt_not (pt_val (pe_fn GI (hr.mono (by decide)) (pa_cons (pv 1) pa_nil))))
          (pw_or1 (pt_not (pt_chain op_le op_le pe_int (pv 1) (pe_glob (v := .int 16) (by rfl) mm ⟨_, rfl⟩))))).pt pss_never pss_nil)
      (pss_cons (ps_expr (pe_fn GC hr (pa_cons (pv 1) (pa_cons (pv 2) pa_nil))))
      (pss_cons (ps_fld (pv 0) (pv 1) rfl)
      (pss_one (ps_fld (pv 0) (pe_callTy call_list_of (by rfl) n.list (by decide +kernel) (pa_cons (pv 2) pa_nil)) rfl)))), ?_⟩
    refine ⟨_, rfl, _, rfl, true, rfl, ?_⟩
    refine iteF ?_
    refine ⟨_, rfl, _, _, rfl, rfl, true, congrArg V.bl (decide_eq_true wf.m1), ?_⟩
    refine iteT ?_
    refine ⟨_, _, rfl, rfl, true, congrArg V.bl (decide_eq_true wf.m16), ?_⟩
    refine iteF ?_
    refine ⟨_, rfl, _, rfl, m, a, xs, ds, rfl, hs, hd, wf.ok, wf.nd, wf.len, fun H1 s1 => ?_⟩
    refine ⟨_, rfl, _, rfl, x, C, dx, [], rfl, s1 _ _ hx, T.isc.cl, T.nP, (by show 0 < 1000; decide), ?_⟩
    have nxa : ∀ {b : Addr} {ys : List V}, Seq K H b ys → b ≠ x := fun {b ys} q z => by
      subst z
      rcases q with q | q <;> (rw [hx] at q; exact nomatch q)
    have hs1 : Seq K (upd H1 x (.ins C dx (putF "_places" (.int m) []))) a xs := by
      rcases hs with q | q
      · exact .inl (by rw [upd_ne (nxa (.inl q))]; exact s1 _ _ q)
      · exact .inr (by rw [upd_ne (nxa (.inr q))]; exact s1 _ _ q)
    refine ⟨_, rfl, a, xs, rfl, hs1.len, fun l hl => ?_⟩
    have nl : x ≠ l := ne_of_none upd_same hl
    have hl0 : H l = none := by
      rw [upd_ne nl.symm] at hl
      exact s1.free hl
    refine ⟨_, rfl, x, C, dx, _, rfl, (by rw [upd_ne nl]; exact upd_same), T.isc.cl, T.nD, (by show 1 < 1000; decide), ?_⟩
    refine k l _ hl0 upd_same ?_ ?_
    · rw [upd_ne nl.symm, upd_same]
    · intro b o hb e
      rw [upd_ne hb, upd_ne (ne_of_none e hl0), upd_ne hb]
      exact s1 _ _ e
/-- C(..), a house: what the maker's promise wants -/
theorem init_read {H : Hp} {x dx a : Addr} {m : Int} {xs : List V} {ds : List Dd} {Q : VK} {E : XK} (nx : H x = none) (ndx : H dx = none) (ne : dx ≠ x)
    (hs : Seq K H a xs) (hd : DdAll H xs ds) (wf : WF m ds)
    (k : ∀ (l : Addr) (H' : Hp), H l = none → Same H H' → HouseL C H' x l m xs ds → Q (.ref x) H') :
    spInit K C [.ref x, .int m, .ref a] (upd (upd H dx (.own x)) x (.ins C dx [])) (fun v H2 => v = .non ∧ Q (.ref x) H2) E := by
  have s0 : Same H (upd (upd H dx (.own x)) x (.ins C dx [])) := fun b o e => by
    rw [upd_ne (ne_of_none e nx), upd_ne (ne_of_none e ndx)]
    exact e
  refine ⟨x, dx, a, m, xs, ds, rfl, upd_same, hs.same s0, hd.same s0, wf, fun l H' nl hx hl kp => ⟨rfl, ?_⟩⟩
  have s1 : Same H H' := fun b o e => kp b o (ne_of_none e nx) (s0 b o e)
  exact k l H' (s0.free nl) s1 ⟨⟨dx, hx⟩, hl, hd.same s1⟩
structure MkH (P : Program) (w : World) (K : PySem.W.Frag) (mg : Str → Option Value) (base : Heap) (C : Addr) : Prop where
  ex : ∃ f fd, Mk K C f ∧ Binds K fd ["self", "places", "deeds"] [] ∧ FnOk P w K mg base CX0 5 f fd ["self", "places", "deeds"] (spInit K C)
theorem pe_house {X : Cx} {e : Expr} {es : List Expr} {t : TA} {p pos : Pos} (M : MkH X.prog X.w X.K X.mg X.base C) (T : ClsT X.K X.mg C) (hr : Room 6 X.A) (ha : PA X (e :: es) t)
    (hg : Gl X "House" := by rfl) (he : starEach (e :: es) X.env = (false, eval e X.env) :: starEach es X.env := by rfl)
    (hpl : (backTo pos (starEach es X.env)).any (·.1) = false := by rfl) :
    PE X (.Call (.Name "House" p) (e :: es) [] pos) (tMake C (spInit X.K C) [] E0 t) := by
  obtain ⟨f, fd, mk, b, F⟩ := M.ex
  exact pe_make mk F hr hg T.mgC b .nil pass0 ha (by decide) he hpl

/-! ### places, deeds, len, is_plain -/
def spPlaces (C : Addr) : Sp := fun vs H Q _ => ∃ (h dx l : Addr) (m : Int), vs = [.ref h] ∧ H h = some (.ins C dx (flds m l)) ∧ Q (.int m) H
theorem scPl : FnScope ["self"] ["self"] (defScope (cHouse 1)) := ⟨rfl, rfl, rfl, by decide +kernel, rfl, by decide +kernel, by decide +kernel⟩
theorem ok_places {f : Addr} {fd : FuncData} (F : Fun K "places" "House.places" (cHouse 1) f fd) (T : ClsT K mg C) : FnOk P w K mg base CX0 1 f fd ["self"] (spPlaces C) := by
  refine F.ok scPl (fun vs H Q E h => ?_) (fun cdv A outer s H vs Q E hr h => ?_)
  · obtain ⟨h, dx, l, m, rfl, _⟩ := h
    rfl
  · obtain ⟨h, dx, l, m, rfl, hh, k⟩ := h
    refine ⟨_, pss_one (ps_ret (pe_fld (pv 0) rfl)), ?_⟩
    exact ⟨_, rfl, h, C, dx, _, _, rfl, hh, T.isc.cl, T.nP, flds_p _ _, k⟩
def spDeeds (C : Addr) : Sp := fun vs H Q _ => ∃ (h l : Addr) (m : Int) (xs : List V) (ds : List Dd), vs = [.ref h] ∧ HouseL C H h l m xs ds ∧ ∀ p, H p = none → Q (.ref p) (upd H p (.lst xs))
theorem scDe : FnScope ["self"] ["self"] (defScope (cHouse 3)) := ⟨rfl, rfl, rfl, by decide +kernel, rfl, by decide +kernel, by decide +kernel⟩
theorem ok_deeds {f : Addr} {fd : FuncData} (F : Fun K "deeds" "House.deeds" (cHouse 3) f fd) (n : Nm mg) (T : ClsT K mg C) : FnOk P w K mg base CX0 1 f fd ["self"] (spDeeds C) := by
  refine F.ok scDe (fun vs H Q E h => ?_) (fun cdv A outer s H vs Q E hr h => ?_)
  · obtain ⟨h, l, m, xs, ds, rfl, _⟩ := h
    rfl
  · obtain ⟨h, l, m, xs, ds, rfl, hh, k⟩ := h
    obtain ⟨dx, ob⟩ := hh.ob
    refine ⟨_, pss_one (ps_ret (pe_callTy call_list_of (by rfl) n.list (by decide +kernel) (pa_cons (pe_fld (pv 0) rfl) pa_nil))), ?_⟩
    exact ⟨_, rfl, h, C, dx, _, _, rfl, ob, T.isc.cl, T.nD, flds_d _ _, l, xs, rfl, .inl (.inl (.inl hh.ls)), k⟩
def spLen (C : Addr) : Sp := fun vs H Q _ => ∃ (h l : Addr) (m : Int) (xs : List V) (ds : List Dd), vs = [.ref h] ∧ HouseL C H h l m xs ds ∧ Q (.int ds.length) H
theorem scLe : FnScope ["self"] ["self"] (defScope (cHouse 4)) := ⟨rfl, rfl, rfl, by decide +kernel, rfl, by decide +kernel, by decide +kernel⟩
theorem ok_len {f : Addr} {fd : FuncData} (F : Fun K "__len__" "House.__len__" (cHouse 4) f fd) (n : Nm mg) (T : ClsT K mg C) : FnOk P w K mg base CX0 1 f fd ["self"] (spLen C) := by
  refine F.ok scLe (fun vs H Q E h => ?_) (fun cdv A outer s H vs Q E hr h => ?_)
  · obtain ⟨h, l, m, xs, ds, rfl, _⟩ := h
    rfl
  · obtain ⟨h, l, m, xs, ds, rfl, hh, k⟩ := h
    obtain ⟨dx, ob⟩ := hh.ob
    refine ⟨_, pss_one (ps_ret (pe_callB call_len_seq (by rfl) n.len PySem.boot_len (pa_cons (pe_fld (pv 0) rfl) pa_nil))), ?_⟩
    refine ⟨_, rfl, h, C, dx, _, _, rfl, ob, T.isc.cl, T.nD, flds_d _ _, l, xs, rfl, .inl (.inl (.inl hh.ls)), ?_⟩
    have e : ((xs.length : Nat) : Int) = (ds.length : Int) := by rw [hh.lenE]
    show Q (.int (xs.length : Int)) H
    rw [e]
    exact k
end
end L2.K21
end

section
set_option Elab.async false
set_option linter.all false
set_option maxRecDepth 100000
set_option maxHeartbeats 2000000
namespace L2.K21
open PySem PySem.Spec PyProof.Rows L2.Gd
section
variable {P : Program} {w : World} {K : PySem.W.Frag} {mg : Str → Option Value} {base : Heap} {C : Addr}

theorem take_map {α β : Type} (f : α → β) {l : List α} {i : Nat} {x : α} (h : l[i]? = some x) : (l.take (i + 1)).map f = (l.take i).map f ++ [f x] := by
  rw [List.take_succ, h, List.map_append]
  rfl
/-- all that stood, but for the list that is being made -/
def But (D : Addr) (H H' : Hp) : Prop := ∀ b o, b ≠ D → H b = some o → H' b = some o
theorem But.new {D : Addr} {H H' : Hp} (h : H D = none) (b : But D H H') : Same H H' := fun a o e => b a o (ne_of_none e h) e
theorem But.upd {D : Addr} {H H' : Hp} {o : HO} (b : But D H H') : But D H (upd H' D o) := fun a u ne e => by
  rw [upd_ne ne]
  exact b a u ne e
theorem But.more {D p : Addr} {H H' : Hp} {o : HO} (b : But D H H') (hp : H' p = none) : But D H (L2.upd H' p o) := fun a u ne e => by
  rw [upd_ne (ne_of_none (b a u ne e) hp)]
  exact b a u ne e
theorem But.start {D : Addr} {H : Hp} {o : HO} : But D H (L2.upd H D o) := fun a u ne e => by
  rw [upd_ne ne]
  exact e
theorem DdAll.but {D : Addr} {H H' : Hp} (hD : ∀ t ys, H t = some (.tup ys) → t ≠ D) (b : But D H H') {vs : List V} {ds : List Dd} (h : DdAll H vs ds) : DdAll H' vs ds :=
  Paired.mapP h fun v x ⟨t, e, q⟩ => ⟨t, e, b _ _ (hD _ _ q) q⟩

def isAny (d : Dd) : Bool := decide (d.w = "any")
def spPlain (C : Addr) : Sp := fun vs H Q _ => ∃ (h l : Addr) (m : Int) (xs : List V) (ds : List Dd), vs = [.ref h] ∧ HouseL C H h l m xs ds ∧ ds.length ≤ 60 ∧ ∀ H', Same H H' → Q (.bl (ds.all isAny)) H'
theorem scIp : FnScope ["self", "_", "when"] ["self"] (defScope (cHouse 2)) := ⟨rfl, rfl, rfl, by decide +kernel, rfl, by decide +kernel, by decide +kernel⟩
theorem ok_isPlain {f : Addr} {fd : FuncData} (F : Fun K "is_plain" "House.is_plain" (cHouse 2) f fd) (n : Nm mg) (T : ClsT K mg C) : FnOk P w K mg base CX0 1 f fd ["self"] (spPlain C) := by
  refine F.ok scIp (fun vs H Q E h => ?_) (fun cdv A outer s H vs Q E hr h => ?_)
  · obtain ⟨h, l, m, xs, ds, rfl, _⟩ := h
    rfl
  · obtain ⟨h, l, m, xs, ds, rfl, hh, le, k⟩ := h
    obtain ⟨dx, ob⟩ := hh.ob
    have N := scIp.nd
    refine ⟨_, pss_one (ps_ret (pe_callB (cr_all rfl) (by rfl) n.all (by decide +kernel) (pa_cons
      (pe_lc (own := [("_", 1), ("when", 2)]) (g := gTup K 4 (gCons (gName 1) (gCons (gName 1) (gCons (gName 1) (gCons (gName 2) gNil))))) (tt := tYes) rfl N (pi_list (pe_fld (pv 0) rfl)) (blkOk_by (N := ["self", "_", "when"]) (sc := defScope (cHouse 2)) (by decide +kernel))
        (fun _ _ _ _ _ => pg_tup rfl (pgs_cons (pg_name (i := 1) N rfl (.inl rfl)) (pgs_cons (pg_name (i := 1) N rfl (.inl rfl)) (pgs_cons (pg_name (i := 1) N rfl (.inl rfl)) (pgs_cons (pg_name (i := 2) N rfl (.inl rfl)) pgs_nil)))))
        (fun _ _ _ _ _ => pts_nil) (fun _ _ _ _ _ => pe_cmpR op_eq (pv 2) pe_str (nomark _))) pa_nil))), ?_⟩
    refine ⟨_, rfl, h, C, dx, _, _, rfl, ob, T.isc.cl, T.nD, flds_d _ _, l, rfl, ⟨xs, .inl (.inl hh.ls)⟩, fun D hD => ?_⟩
    refine lc_list (xs := xs) (fun i H' => H' D = some (.lst ((ds.take i).map fun d => V.bl (isAny d))) ∧ But D H H') ⟨upd_same, But.start⟩
      (fun i H' _ hI => .inl (.inl (hI.2.new hD _ _ hh.ls))) ?_ ?_
    · intro i x H' hx ⟨h1, h2⟩
      obtain ⟨d, hdi, t, rfl, ht⟩ := Paired.at hh.dd hx
      refine ⟨t, _, rfl, .inl (.inl (h2.new hD _ _ ht)), rfl, _, _, rfl, _, _, rfl, _, _, rfl, _, _, rfl, rfl, rfl, yes_ite ?_⟩
      refine ⟨_, rfl, rfl, _, h1, ?_, ?_, h2.upd⟩
      · rw [List.length_map]
        exact small1000 (by rw [List.length_take]; omega)
      · rw [upd_same, take_map _ hdi]
        have e : decide (V.str d.w = V.str "any") = isAny d := by
          unfold isAny
          rw [Bool.eq_iff_iff]
          simp
        show some (HO.lst (_ ++ [V.bl (decide (V.str d.w = V.str "any"))])) = _
        rw [e]
    · intro H' ⟨h1, h2⟩
      rw [hh.lenE, List.take_length] at h1
      refine ⟨D, ds.map isAny, rfl, .inl (.inl (by rw [h1, List.map_map]; rfl)), ?_⟩
      have e : (ds.map isAny).all id = ds.all isAny := by
        rw [List.all_map]
        rfl
      rw [e]
      exact k H' (h2.new hD)

/-! ### == -/
/-- what isinstance(.., House) says -/
structure KitH (K : PySem.W.Frag) (C : Addr) : Prop where
  none : PySem.W.kitOne K (.type "NoneType") (.ref C) = some false
  int : PySem.W.kitOne K (.type "int") (.ref C) = some false
  str : PySem.W.kitOne K (.type "str") (.ref C) = some false
  lst : PySem.W.kitOne K (.type "list") (.ref C) = some false
  tup : PySem.W.kitOne K (.type "tuple") (.ref C) = some false
  dct : PySem.W.kitOne K (.type "dict") (.ref C) = some false
theorem ty_house {H : Hp} (T : ClsT K mg C) {a dx : Addr} {fs : List (Str × V)} (e : H a = some (.ins C dx fs)) : TyX K H (.ref a) (.ref C) :=
  .base (TyOf.ins e T.isc.cl T.isc.ha T.isc.hn T.isc.htk T.isc.hm)
def spEq (C : Addr) : Sp := fun vs H Q _ => ∃ (a b l l' : Addr) (m m' : Int) (xs ys : List V) (ds es : List Dd), vs = [.ref a, .ref b] ∧ HouseL C H a l m xs ds ∧ HouseL C H b l' m' ys es ∧
  (∀ d ∈ ds, d.Wd) ∧ (∀ d ∈ es, d.Wd) ∧ Q (.bl (decide (m = m' ∧ ds = es))) H
theorem scEq : FnScope ["self", "other"] ["self", "other"] (defScope (cHouse 5)) := ⟨rfl, rfl, rfl, by decide +kernel, rfl, by decide +kernel, by decide +kernel⟩
theorem ok_eq {f : Addr} {fd : FuncData} (F : Fun K "__eq__" "House.__eq__" (cHouse 5) f fd) (n : Nm mg) (T : ClsT K mg C) : FnOk P w K mg base CX0 1 f fd ["self", "other"] (spEq C) := by
  refine F.ok scEq (fun vs H Q E h => ?_) (fun cdv A outer s H vs Q E hr h => ?_)
  · obtain ⟨a, b, l, l', m, m', xs, ys, ds, es, rfl, _⟩ := h
    rfl
  · obtain ⟨a, b, l, l', m, m', xs, ys, ds, es, rfl, ha, hb, wa, wb, k⟩ := h
    obtain ⟨dx, oa⟩ := ha.ob
    obtain ⟨dy, ob⟩ := hb.ob
    refine ⟨_, pss_cons (ps_if (pt_not (pt_val (pe_callB call_isi (by rfl) n.isi (by decide +kernel) (pa_cons (pv 1) (pa_cons (pe_glob (v := .ref C) (by rfl) T.mgC rfl) pa_nil))))) pss_never pss_nil)
      (pss_one (ps_ret (pe_and (pe_cmpR op_eq (pe_fld (pv 0) rfl) (pe_fld (pv 1) rfl) (nomark _)) (pe_one (pe_cmpR (op_eqD hr.units) (pe_fld (pv 0) rfl) (pe_fld (pv 1) rfl) (nomark _)))))), ?_⟩
    refine ⟨_, rfl, _, _, _, _, true, rfl, .own C, ty_house T ob, T.isc.me, true, rfl, ?_⟩
    refine iteF ?_
    refine ⟨_, rfl, a, C, dx, _, _, rfl, oa, T.isc.cl, T.nP, flds_p _ _, _, rfl, b, C, dy, _, _, rfl, ob, T.isc.cl, T.nP, flds_p _ _, rfl, decide (m = m'), ?_, ?_⟩
    · congr 1
      rw [Bool.eq_iff_iff]
      simp
    · by_cases e : m = m'
      · subst e
        rw [decide_eq_true rfl]
        refine iteT ?_
        refine ⟨_, rfl, a, C, dx, _, _, rfl, oa, T.isc.cl, T.nD, flds_d _ _, _, rfl, b, C, dy, _, _, rfl, ob, T.isc.cl, T.nD, flds_d _ _, ?_⟩
        refine ⟨_, _, .lst (.inl (.inl ha.ls)) ha.dd.dps, .lst (.inl (.inl hb.ls)) hb.dd.dps, shapedL wa, shapedL wb, ?_⟩
        have q : PyData.eqv (.list (ds.map Dd.d)) (.list (es.map Dd.d)) = decide (m = m ∧ ds = es) := by
          simp only [PyData.eqv, eqvs]
          rw [Bool.eq_iff_iff]
          simp
        show Q (.bl (PyData.eqv (.list (ds.map Dd.d)) (.list (es.map Dd.d)))) H
        rw [q]
        exact k
      · have q : decide (m = m' ∧ ds = es) = false := decide_eq_false fun z => e z.1
        rw [q] at k
        rw [decide_eq_false e]
        exact iteF k

/-! ### == beside another kind -/
/-- None, an int, a text, a list, a tuple, a dict -/
inductive Odd (H : Hp) : V → Prop
  | non : Odd H .non
  | int (i : Int) : Odd H (.int i)
  | str (z : Str) : Odd H (.str z)
  | lst {a : Addr} {xs : List V} : H a = some (.lst xs) → Odd H (.ref a)
  | tup {a : Addr} {xs : List V} : H a = some (.tup xs) → Odd H (.ref a)
  | dct {a : Addr} {kvs : List (Key × V)} : H a = some (.dK kvs) → Odd H (.ref a)
theorem Odd.ty {K : PySem.W.Frag} {H : Hp} {v : V} (h : Odd H v) (k : KitH K C) : ∃ t, TyX K H v t ∧ PySem.W.kitOne K t (.ref C) = some false := by
  cases h with
  | non => exact ⟨_, .base .non, k.none⟩
  | int i => exact ⟨_, .base (.int _), k.int⟩
  | str z => exact ⟨_, .base (.str _), k.str⟩
  | lst e => exact ⟨_, .base (.lst e), k.lst⟩
  | tup e => exact ⟨_, .base (.tup e), k.tup⟩
  | dct e => exact ⟨_, .base (.dK e), k.dct⟩
theorem declines {X : Cx} {f : Addr} {fd : FuncData} (F : Fun X.K "__eq__" "House.__eq__" (cHouse 5) f fd) (b : Binds X.K fd ["self", "other"] []) (n : Nm X.mg) (T : ClsT X.K X.mg C) (kit : KitH X.K C) (hr : Room 1 X.A) :
    Declines X C f (fun y H => Odd H y) := by
  intro pins s σ H x y v dx fs I hx ry odd
  have rv : Vals [V.ref x, y] [Value.ref x, v] := .cons rfl (.cons ry .nil)
  have bd := b s [.ref x, v] I.kIn rfl
  rw [List.append_nil] at bd
  refine wpAny_call (raw_call F scEq hr I.env0 bd rv rfl ?_)
  intro cdv s1 J
  obtain ⟨t, ty, ko⟩ := odd.ty kit
  refine wpAny_execs_cons (wpAny_If (thn ((pt_not (X := (cxOf CX0 X.prog X.w X.K X.mg X.base ["self", "other"] "House.__eq__" (defScope (cHouse 5)) f cdv X.A X.stack s H E0).nox)
    (pt_val (pe_callB call_isi (by rfl) n.isi (by decide +kernel) (pa_cons (pv 1) (pa_cons (pe_glob (v := .ref C) (by rfl) T.mgC rfl) pa_nil))))).run [] s1 _ H (fun c H1 => c = true ∧ H1 = H) J ?_) ?_))
  · exact ⟨_, rfl, _, _, _, _, false, rfl, .own C, ty, ko, false, rfl, rfl, rfl⟩
  · rintro c s2 ⟨H2, J2, rfl, rfl⟩
    show wpAny _ _ (execs _ _) _ _ _
    refine wpAny_execs_cons (wpAny_Return_some ?_)
    refine ld_blt (u := Value.notImplemented) J2 (by rfl) n.ni (by decide +kernel) ?_
    show _ = _ ∧ After X pins σ H2 s2
    exact ⟨rfl, H2, I.call' (ch := []) J2.os J2.base J2.hok J2.bare (fun b z => absurd z (by simp)), fun _ _ e => e⟩
end
end L2.K21
end

section
set_option Elab.async false
set_option linter.all false
set_option maxRecDepth 100000
set_option maxHeartbeats 2000000
namespace L2.K21
open PySem PySem.Spec PyProof.Rows L2.Gd

/-! ### what is told of deeds fits -/
theorem small_tab : ∀ k : Fin 70, (PyData.int ((k.val : Int) - 1)).intsShort 13 = true ∧ (PyData.int ((k.val : Int) - 1)).showable = true ∧ (PyData.int ((k.val : Int) - 1)).weight ≤ 8 := by
  decide +kernel
theorem small_int {i : Int} (h1 : -1 ≤ i) (h2 : i ≤ 68) : (PyData.int i).intsShort 13 = true ∧ (PyData.int i).showable = true ∧ (PyData.int i).weight ≤ 8 := by
  have e : (((i + 1).toNat : Nat) : Int) - 1 = i := by omega
  have := small_tab ⟨(i + 1).toNat, by omega⟩
  rw [show (((⟨(i + 1).toNat, by omega⟩ : Fin 70)).val : Int) - 1 = i from e] at this
  exact this
/-- plain data that is small: at most n in weight -/
structure Sml (d : PyData) (n : Nat) : Prop where
  lay : d.canLay0 = true
  sh : d.showable = true
  hd : d.hasDict = false
  is : d.intsShort 13 = true
  we : d.weight ≤ n
structure SmlAll (ds : List PyData) (n : Nat) : Prop where
  lay : PyData.canLayAll0 ds = true
  sh : PyData.showableAll ds = true
  hd : PyData.hasDictAll ds = false
  is : PyData.intsShortAll 13 ds = true
  we : PyData.weightAll ds ≤ n
theorem SmlAll.nil : SmlAll [] 0 := ⟨by simp [PyData.canLayAll0], by simp [PyData.showableAll], by simp [PyData.hasDictAll], by simp [PyData.intsShortAll], by simp [PyData.weightAll]⟩
theorem SmlAll.cons {d : PyData} {ds : List PyData} {n m : Nat} (a : Sml d n) (b : SmlAll ds m) : SmlAll (d :: ds) (n + 1 + m) :=
  ⟨by simp [PyData.canLayAll0, a.lay, b.lay], by simp [PyData.showableAll, a.sh, b.sh], by simp [PyData.hasDictAll, a.hd, b.hd], by simp [PyData.intsShortAll, a.is, b.is],
    by simp only [PyData.weightAll]; have := a.we; have := b.we; omega⟩
theorem SmlAll.tup {ds : List PyData} {n : Nat} (a : SmlAll ds n) : Sml (.tuple ds) n :=
  ⟨by simp only [PyData.canLay0, a.lay], by simp only [PyData.showable, a.sh], by simp only [PyData.hasDict, a.hd], by simp only [PyData.intsShort, a.is], by simp only [PyData.weight]; exact a.we⟩
theorem SmlAll.lst {ds : List PyData} {n : Nat} (a : SmlAll ds n) : Sml (.list ds) n :=
  ⟨by simp only [PyData.canLay0, a.lay], by simp only [PyData.showable, a.sh], by simp only [PyData.hasDict, a.hd], by simp only [PyData.intsShort, a.is], by simp only [PyData.weight]; exact a.we⟩
theorem Sml.int {i : Int} (h1 : -1 ≤ i) (h2 : i ≤ 68) : Sml (.int i) 8 :=
  let ⟨a, b, c⟩ := small_int h1 h2
  ⟨by simp [PyData.canLay0], b, by simp [PyData.hasDict], a, c⟩
theorem Sml.bool (b : Bool) : Sml (.bool b) 0 := ⟨by simp [PyData.canLay0], by simp [PyData.showable], by simp [PyData.hasDict], by simp [PyData.intsShort], by simp [PyData.weight]⟩
theorem Sml.word {x : Str} (h : x = "any" ∨ x = "empty") : Sml (.str x) 8 := by
  refine ⟨?_, by simp [PyData.showable], by simp [PyData.hasDict], by simp [PyData.intsShort], ?_⟩
  · rcases h with e | e <;> (rw [e]; decide +kernel)
  · rcases h with e | e <;> (rw [e]; decide +kernel)
theorem Dd.sml {m : Int} {x : Dd} (hm : m ≤ 16) (h : x.Ok m) : Sml x.d 36 := by
  have := h.p0
  have := h.pn
  have := h.g0
  have := h.gn
  have hc : -1 ≤ x.c ∧ x.c ≤ 68 := by rcases h.w with ⟨_, a, b⟩ | ⟨_, a, b⟩ <;> omega
  exact (SmlAll.cons (Sml.int (by omega) (by omega)) (.cons (Sml.int hc.1 hc.2) (.cons (Sml.int (by omega) (by omega)) (.cons (Sml.word h.wd) .nil)))).tup
theorem smls {m : Int} (hm : m ≤ 16) : ∀ {ds : List Dd}, (∀ d ∈ ds, d.Ok m) → SmlAll (ds.map Dd.d) (37 * ds.length)
  | [], _ => .nil
  | x :: r, h => by
    have a := SmlAll.cons (Dd.sml hm (h x List.mem_cons_self)) (smls hm (ds := r) fun y hy => h y (List.mem_cons_of_mem _ hy))
    have e : 36 + 1 + 37 * r.length = 37 * (x :: r).length := by
      rw [List.length_cons]
      omega
    rw [e] at a
    exact a
theorem Sml.short {d : PyData} {n : Nat} (a : Sml d n) (hn : n ≤ 100000) (hd : d.depth ≤ 20) : d.shown.length ≤ 15728653 := by
  have l : PyData.layable0 d = true := by
    show (PyData.canLay0 d && decide (PyData.depth d ≤ 64) && decide (PyData.weight d ≤ 2 ^ 20)) = true
    rw [a.lay, decide_eq_true (by omega : d.depth ≤ 64), decide_eq_true]
    · rfl
    · have := a.we
      have e : (2 : Nat) ^ 20 = 1048576 := by decide
      omega
  exact shown_le13 l a.is
theorem Sml.showy {d : PyData} {n : Nat} (a : Sml d n) (hn : n ≤ 100000) (hd : d.depth ≤ 20) : Showy d := by
  refine ⟨a.sh, a.hd, hd, ?_⟩
  have := a.short hn hd
  rw [sizeLine_eq]
  omega
theorem WF.short {m : Int} {ds : List Dd} (w : WF m ds) : (PyData.shown (.list (ds.map Dd.d))).length ≤ 15728653 := by
  refine (smls w.m16 w.ok).lst.short (by have := w.len; omega) ?_
  have := deps ds
  simp only [PyData.depth]
  omega
theorem WF.showy {m : Int} {ds : List Dd} (w : WF m ds) : Showy (.list (ds.map Dd.d)) := by
  refine (smls w.m16 w.ok).lst.showy (by have := w.len; omega) ?_
  have := deps ds
  simp only [PyData.depth]
  omega
/-- [places, deeds, len, is_plain] -/
def tellD (m : Int) (ds : List Dd) (n : Int) (b : Bool) : PyData := .list [.int m, .list (ds.map Dd.d), .int n, .bool b]
theorem WF.tell {m : Int} {ds : List Dd} (w : WF m ds) (b : Bool) : Showy (tellD m ds ds.length b) := by
  have := w.m1
  have := w.m16
  have := w.len
  have a := SmlAll.cons (Sml.int (i := m) (by omega) (by omega)) (.cons (smls w.m16 w.ok).lst (.cons (Sml.int (i := (ds.length : Int)) (by omega) (by omega)) (.cons (Sml.bool b) .nil)))
  refine a.lst.showy (by omega) ?_
  have := deps ds
  simp only [tellD, PyData.depth, PyData.depthAll]
  omega
end L2.K21
end

section
set_option Elab.async false
set_option linter.all false
set_option maxRecDepth 100000
set_option maxHeartbeats 2000000
namespace L2.K21
open PySem PySem.Spec PyProof.Rows L2.Gd
section
variable {P : Program} {w : World} {K : PySem.W.Frag} {mg : Str → Option Value} {base : Heap} {C N : Addr}
def deedsT (ds : List Dd) : Str := PyData.shown (.list (ds.map Dd.d))
def rep (m : Int) (ds : List Dd) : Str := Str.empty ++ "House(" ++ toString m ++ ", " ++ deedsT ds ++ ")"
theorem mlen {m : Int} (h1 : 1 ≤ m) (h2 : m ≤ 16) : (toString m : Str).length ≤ 13 := by
  have := (small_int (i := m) (by omega) (by omega)).1
  simp only [PyData.intsShort, PyData.shown] at this
  exact of_decide_eq_true this
def spRepr (C : Addr) : Sp := fun vs H Q _ => ∃ (h l : Addr) (m : Int) (xs : List V) (ds : List Dd), vs = [.ref h] ∧ HouseL C H h l m xs ds ∧ WF m ds ∧ Q (.str (rep m ds)) H
theorem scRe : FnScope ["self"] ["self"] (defScope (cHouse 6)) := ⟨rfl, rfl, rfl, by decide +kernel, rfl, by decide +kernel, by decide +kernel⟩
theorem ok_repr {f : Addr} {fd : FuncData} (F : Fun K "__repr__" "House.__repr__" (cHouse 6) f fd) (T : ClsT K mg C) : FnG P w K mg base 1 f fd ["self"] (spRepr C) := by
  refine okG F scRe (fun vs H Q h => ?_) (fun cdv A outer s H vs Q hg hr h => ?_)
  · obtain ⟨h, l, m, xs, ds, rfl, _⟩ := h
    rfl
  · obtain ⟨h, l, m, xs, ds, rfl, hh, wf, k⟩ := h
    obtain ⟨dx, ob⟩ := hh.ob
    refine ⟨_, pss_one (ps_ret (pe_joined (PJ.cons pe_str (PJ.cons (pe_fmt (pe_fld (pv 0) rfl)) (PJ.cons pe_str (PJ.cons (pe_fmtRD hg hr.units (pe_fld (pv 0) rfl)) (PJ.cons pe_str PJ.nil))))))), ?_⟩
    have sl := sizeLine_eq
    have l1 := mlen wf.m1 wf.m16
    have sh := wf.showy
    have l2 : (deedsT ds).length ≤ 15728653 := wf.short
    have e1 : ("House(" : Str).length = 6 := rfl
    have e2 : (", " : Str).length = 2 := rfl
    have e3 : (")" : Str).length = 1 := rfl
    have e0 : Str.empty.length = 0 := rfl
    have c1 : (Str.empty ++ ("House(" : Str)).length = 6 := by rw [strLen_append, e0, e1]
    have c2 : (Str.empty ++ ("House(" : Str) ++ (toString m : Str)).length ≤ 19 := by rw [strLen_append, c1]; omega
    have c3 : (Str.empty ++ ("House(" : Str) ++ (toString m : Str) ++ (", " : Str)).length ≤ 21 := by rw [strLen_append, e2]; omega
    have c4 : (Str.empty ++ ("House(" : Str) ++ (toString m : Str) ++ (", " : Str) ++ deedsT ds).length ≤ 15728674 := by rw [strLen_append]; omega
    have c5 : (rep m ds).length ≤ 15728675 := by
      unfold rep
      rw [strLen_append, e3]
      omega
    have lg : m.natAbs.log2 < 1920 := by
      have := (small_int (i := m) (by have := wf.m1; omega) (by have := wf.m16; omega)).2.1
      simpa only [PyData.showable, decide_eq_true_eq] using this
    refine ⟨_, rfl, by rw [sl, c1]; decide, ⟨_, rfl, h, C, dx, _, _, rfl, ob, T.isc.cl, T.nP, flds_p _ _, .inr ⟨m, rfl, lg, _, rfl, by rw [sl]; exact Nat.le_trans c2 (by decide), ⟨_, rfl, by rw [sl]; exact Nat.le_trans c3 (by decide),
      ⟨_, rfl, h, C, dx, _, _, rfl, ob, T.isc.cl, T.nD, flds_d _ _, l, _, rfl, .lst (.inl (.inl hh.ls)) hh.dd.dps, sh, _, rfl, by rw [sl]; exact Nat.le_trans c4 (by decide), ⟨_, rfl, by rw [sl]; exact Nat.le_trans c5 (by decide), k⟩⟩⟩⟩⟩⟩
/-- what the text's class must have for repr by its own __repr__ -/
structure ReC (K : PySem.W.Frag) (C f N : Addr) : Prop where
  cls : ∃ nm q bs sn sub ab col dd k0 k1 k2 k3 k5 newId, K.lookup C = some (excClassObj nm q C N bs [.type "object"] true sn sub ab col dd k0 k1 k2 k3 k5 newId)
  ok : PySem.W.nsOkIn K N = true
  at_ : PySem.W.nsIn K N "__repr__" = some (some (.ref f))
  fn : ∃ o, K.lookup f = some o ∧ o.cls = .type "function"
theorem repr_object : ∃ y, typeLookup (.type "object") "__repr__" = pure y := ⟨some (.builtin "object.__repr__"), by rw [typeLookup_type, builtinLookup_eq_fast]; kernel_rfl⟩
theorem ReC.heap {f : Addr} {h : Heap} (c : ReC K C f N) (k : K.In h) {x : Addr} {o : Obj} (hx : h.get? x = some o) (hc : o.cls = .ref C) : h.OwnSpecial x C f "object" "__repr__" := by
  obtain ⟨nm, q, bs, sn, sub, ab, col, dd, k0, k1, k2, k3, k5, newId, hC⟩ := c.cls
  obtain ⟨of, hf, ft⟩ := c.fn
  have ns := Heap.Ns.of_isNs (PySem.W.isNs_of_in k c.ok)
  obtain ⟨y, hy⟩ := repr_object
  exact ⟨o, of, nm, q, N, bs, _, true, sn, sub, ab, col, dd, k0, k1, k2, k3, k5, newId, _, _, hx, hc, k _ _ hC, ns, ns_some k ns c.at_, k _ _ hf, ft, PySem.F.cmp_object.mro, hy⟩
/-- repr(house) -/
theorem call_reprH {X : Cx} {f : Addr} {fd : FuncData} (F : FnG X.prog X.w X.K X.mg X.base 1 f fd ["self"] (spRepr C)) (b : Binds X.K fd ["self"] []) (c : ReC X.K C f N) (hg : X.A.guards = some []) (hr : Room 2 X.A) :
    CallR X (.builtin "repr") (fun xs H Q => ∃ (h l : Addr) (m : Int) (ys : List V) (ds : List Dd), xs = [.ref h] ∧ HouseL C H h l m ys ds ∧ WF m ds ∧ Q (.str (rep m ds)) H) := by
  rintro pins s σ H xs us Q I r ⟨h, l, m, ys, ds, rfl, hh, wf, q⟩
  cases r with
  | cons r1 r2 =>
    cases r2
    obtain rfl := r1
    obtain ⟨dx, ob⟩ := hh.ob
    obtain ⟨mA, J, _⟩ := ins_get I.hok ob
    obtain ⟨hp, g, d, t, os⟩ := s
    have bd := b ⟨hp, g, d, t, os⟩ [.ref h] I.kIn rfl
    rw [List.append_nil] at bd
    have e := I.env0
    have e1 : Env0 X.prog X.w X.K X.mg X.base X.A.in1 X.stack ⟨hp, g, d, t, os⟩ H := e.in1
    refine repr_own (c.heap I.kIn J.1 rfl) (by have := hr.units; show X.A.units + 1 < cLine; omega) ?_
    have sp : spRepr C [.ref h] H (fun v H' => (∃ z, v = .str z) ∧ Q v H') E0 := ⟨h, l, m, ys, ds, rfl, hh, wf, ⟨_, rfl⟩, q⟩
    refine wpAny_call (codeAny_mono (F.go X.A.in1 X.stack ⟨hp, g, d, t, os⟩ H ⟨[.ref h], []⟩ [.ref h] [.ref h] _ hg hr.in1 e1 bd (.cons rfl .nil) sp) ?_)
    intro res s' hq
    cases res with
    | error er => exact (show False from hq).elim
    | ok fl =>
      cases fl with
      | ret u =>
        obtain ⟨v, H', I', rv, ⟨z, rfl⟩, q'⟩ := I.after hq
        obtain ⟨tk, rfl⟩ := rv
        exact ⟨z, tk, rfl, .str z, H', I', ⟨tk, rfl⟩, q'⟩
      | next => exact hq.elim
      | brk => exact hq.elim
      | cont => exact hq.elim
end
end L2.K21
end

section
set_option Elab.async false
set_option linter.all false
set_option maxRecDepth 100000
set_option maxHeartbeats 2000000
namespace L2.K21
open PySem PySem.Spec PyProof.Rows L2.Gd
section
variable {P : Program} {w : World} {K : PySem.W.Frag} {mg : Str → Option Value} {base : Heap} {C : Addr}

/-- a new house, behind what stood -/
def Made (C : Addr) (H : Hp) (Q : VK) (m : Int) (ds : List Dd) : Prop := ∀ (h l : Addr) (xs : List V) (H' : Hp), H h = none → H l = none → Same H H' → HouseL C H' h l m xs ds → Q (.ref h) H'
theorem Made.same {H H' : Hp} {Q : VK} {m : Int} {ds : List Dd} (s : Same H H') (k : Made C H Q m ds) : Made C H' Q m ds := fun h l xs H2 n1 n2 s2 hh => k h l xs H2 (s.free n1) (s.free n2) (s.trans s2) hh
theorem make_end {H : Hp} {a : Addr} {m : Int} {xs : List V} {ds : List Dd} {Q : VK} {E : XK} (hs : Seq K H a xs) (hd : DdAll H xs ds) (wf : WF m ds) (k : Made C H Q m ds) :
    ∀ x dx, H x = none → H dx = none → dx ≠ x → spInit K C (.ref x :: ([.int m, .ref a] ++ [])) (upd (upd H dx (.own x)) x (.ins C dx [])) (fun v H2 => v = .non ∧ Q (.ref x) H2) E :=
  fun x dx nx ndx ne => init_read nx ndx ne hs hd wf fun l H' nl s hh => k x l xs H' nx nl s hh

/-! ### with_deed -/
def spWith (C : Addr) : Sp := fun vs H Q _ => ∃ (h l t : Addr) (m : Int) (xs : List V) (ds : List Dd) (d : Dd), vs = [.ref h, .ref t] ∧ HouseL C H h l m xs ds ∧ H t = some (.tup d.vs) ∧ WF m (ds ++ [d]) ∧ Made C H Q m (ds ++ [d])
theorem scWi : FnScope ["self", "deed"] ["self", "deed"] (defScope (cHouse 7)) := ⟨rfl, rfl, rfl, by decide +kernel, rfl, by decide +kernel, by decide +kernel⟩
theorem small_le {n k : Nat} (h : n ≤ k) (hk : k ≤ 1000 := by decide) : n ≤ sizeLine := by
  rw [sizeLine_eq]
  omega
theorem Paired.app {α β : Type} {R : α → β → Prop} : ∀ {xs xs' : List α} {ys ys' : List β}, Paired R xs ys → Paired R xs' ys' → Paired R (xs ++ xs') (ys ++ ys')
  | _, _, _, _, .nil, h => h
  | _, _, _, _, .cons r t, h => .cons r (Paired.app t h)
theorem ok_with {f : Addr} {fd : FuncData} (F : Fun K "with_deed" "House.with_deed" (cHouse 7) f fd) (T : ClsT K mg C)
    (GD : Fn P w K mg base 3 "is_deed" ["value", "places"] spIsDeed) (M : MkH P w K mg base C) : FnOk P w K mg base CX0 7 f fd ["self", "deed"] (spWith C) := by
  refine F.ok scWi (fun vs H Q E h => ?_) (fun cdv A outer s H vs Q E hr h => ?_)
  · obtain ⟨h, l, t, m, xs, ds, d, rfl, _⟩ := h
    rfl
  · obtain ⟨h, l, t, m, xs, ds, d, rfl, hh, ht, wf, k⟩ := h
    obtain ⟨dx, ob⟩ := hh.ob
    refine ⟨_, pss_cons (ps_if (pw_or (pt_not (pt_val (pe_fn GD (hr.mono (by decide)) (pa_cons (pv 1) (pa_cons (pe_fld (pv 0) rfl) pa_nil)))))
          (pw_or1 (pt_cmpR (op_inD (hu65 hr)) (pv 1) (pe_fld (pv 0) rfl) (by rfl)))).pt pss_never pss_nil)
      (pss_one (ps_ret (pe_house M T hr (pa_cons (pe_fld (pv 0) rfl) (pa_cons (pe_op op_cat (pe_fld (pv 0) rfl) (pe_lst (pa_cons (pv 1) pa_nil))) pa_nil))))), ?_⟩
    have okd : d.Ok m := wf.ok d (by simp)
    have nd : d ∉ ds := fun hm => by
      have := List.nodup_append.mp wf.nd
      exact this.2.2 d hm d (by simp) rfl
    refine ⟨_, rfl, _, rfl, h, C, dx, _, _, rfl, ob, T.isc.cl, T.nP, flds_p _ _, ?_⟩
    refine ⟨t, d, m, rfl, ht, okd, fun H1 s1 => ⟨true, rfl, ?_⟩⟩
    refine iteF ?_
    have hh1 := hh.same s1
    refine ⟨_, rfl, _, rfl, h, C, dx, _, _, rfl, s1 _ _ ob, T.isc.cl, T.nD, flds_d _ _, ?_⟩
    refine ⟨_, _, DdAt.dp ⟨t, rfl, s1 _ _ ht⟩, .lst (.inl (.inl hh1.ls)) hh1.dd.dps, Dd.shaped okd.wd, shapedL fun x hx => (wf.ok x (by simp [hx])).wd, false, ?_, ?_⟩
    · rw [any_in, decide_eq_false nd]
    refine iteF ?_
    refine ⟨_, rfl, h, C, dx, _, _, rfl, s1 _ _ ob, T.isc.cl, T.nP, flds_p _ _, ?_⟩
    refine ⟨_, rfl, h, C, dx, _, _, rfl, s1 _ _ ob, T.isc.cl, T.nD, flds_d _ _, ?_⟩
    refine ⟨_, rfl, by show 1 ≤ sizeLine; decide, fun p hp => ?_⟩
    have s2 : Same H1 (upd H1 p (.lst [.ref t])) := same_upd hp
    have hh2 := hh1.same s2
    refine ⟨l, p, xs, [.ref t], rfl, rfl, hh2.ls, upd_same, ?_, fun q hq => ?_⟩
    · have := wf.len
      rw [List.length_append] at this
      show xs.length + 1 ≤ sizeLine
      exact small_le (k := 60) (by rw [hh.lenE]; simpa using this)
    · have s3 : Same (upd H1 p (.lst [.ref t])) (upd (upd H1 p (.lst [.ref t])) q (.lst (xs ++ [.ref t]))) := same_upd hq
      have sa : Same H _ := s1.trans (s2.trans s3)
      exact make_end (K := K) (.inl upd_same) (Paired.app (hh.dd.same sa) (.cons ⟨t, rfl, sa _ _ ht⟩ .nil)) wf (k.same sa)

/-! ### without_deed -/
def spWout (C : Addr) : Sp := fun vs H Q _ => ∃ (h l : Addr) (m : Int) (xs : List V) (ds : List Dd) (j : Nat), vs = [.ref h, .int j] ∧ HouseL C H h l m xs ds ∧ j < ds.length ∧ ds.length ≤ 60 ∧ WF m (ds.take j ++ ds.drop (j + 1)) ∧ Made C H Q m (ds.take j ++ ds.drop (j + 1))
theorem scWo : FnScope ["self", "position"] ["self", "position"] (defScope (cHouse 8)) := ⟨rfl, rfl, rfl, by decide +kernel, rfl, by decide +kernel, by decide +kernel⟩
theorem cutV_drop (xs : List V) {i : Nat} (h : i ≤ xs.length) : cutV xs (some (i : Int)) none = xs.drop i := by
  have e0 : HT.sIx xs.length 0 (some (i : Int)) = i := by
    simp only [HT.sIx]
    split <;> omega
  have e1 : HT.sIx xs.length xs.length none = xs.length := by simp [HT.sIx]
  unfold cutV
  rw [e0, e1]
  exact List.take_of_length_le (by rw [List.length_drop]; omega)
theorem Paired.dropP {α β : Type} {R : α → β → Prop} : ∀ {xs : List α} {ys : List β} (n : Nat), Paired R xs ys → Paired R (xs.drop n) (ys.drop n)
  | _, _, 0, h => h
  | _, _, _ + 1, .nil => .nil
  | _, _, n + 1, .cons r t => Paired.dropP n t
theorem ok_wout {f : Addr} {fd : FuncData} (F : Fun K "without_deed" "House.without_deed" (cHouse 8) f fd) (n : Nm mg) (T : ClsT K mg C)
    (GC : Fn P w K mg base 2 "is_count" ["value"] spIsCount) (M : MkH P w K mg base C) : FnOk P w K mg base CX0 7 f fd ["self", "position"] (spWout C) := by
  refine F.ok scWo (fun vs H Q E h => ?_) (fun cdv A outer s H vs Q E hr h => ?_)
  · obtain ⟨h, l, m, xs, ds, j, rfl, _⟩ := h
    rfl
  · obtain ⟨h, l, m, xs, ds, j, rfl, hh, hj, h60, wf, k⟩ := h
    obtain ⟨dx, ob⟩ := hh.ob
    refine ⟨_, pss_cons (ps_if (pw_or (pt_not (pt_val (pe_fn GC (hr.mono (by decide)) (pa_cons (pv 1) pa_nil))))
          (pw_or1 (pt_cmpR op_ge (pv 1) (pe_callB call_len_seq (by rfl) n.len PySem.boot_len (pa_cons (pe_fld (pv 0) rfl) pa_nil)) (nomark _)))).pt pss_never pss_nil)
      (pss_one (ps_ret (pe_house M T hr (pa_cons (pe_fld (pv 0) rfl) (pa_cons (pe_op op_cat (pe_slice sl_list (pe_fld (pv 0) rfl) po_none (po_some (pv 1)))
        (pe_slice sl_list (pe_fld (pv 0) rfl) (po_some (pe_op op_add (pv 1) pe_int)) po_none)) pa_nil))))), ?_⟩
    have lx := hh.lenE
    refine ⟨_, rfl, _, rfl, by omega, true, rfl, ?_⟩
    refine iteF ?_
    refine ⟨_, rfl, _, rfl, h, C, dx, _, _, rfl, ob, T.isc.cl, T.nD, flds_d _ _, l, xs, rfl, .inl (.inl (.inl hh.ls)), _, _, rfl, rfl, false, congrArg V.bl (decide_eq_false (by omega)), ?_⟩
    refine iteF ?_
    refine ⟨_, rfl, h, C, dx, _, _, rfl, ob, T.isc.cl, T.nP, flds_p _ _, ?_⟩
    refine ⟨_, rfl, h, C, dx, _, _, rfl, ob, T.isc.cl, T.nD, flds_d _ _, ?_⟩
    refine ⟨_, rfl, j, rfl, l, xs, rfl, .inl (.inl hh.ls), fun p hp => ?_⟩
    rw [cutV_take xs (by omega)]
    have s2 : Same H (upd H p (.lst (xs.take j))) := same_upd hp
    refine ⟨_, rfl, h, C, dx, _, _, rfl, s2 _ _ ob, T.isc.cl, T.nD, flds_d _ _, ?_⟩
    refine ⟨_, rfl, _, _, rfl, rfl, _, rfl, l, xs, rfl, .inl (.inl (s2 _ _ hh.ls)), fun q hq => ?_⟩
    have ej : ((j : Int) + 1) = ((j + 1 : Nat) : Int) := by omega
    rw [ej, cutV_drop xs (by omega)]
    have s3 : Same (upd H p (.lst (xs.take j))) (upd (upd H p (.lst (xs.take j))) q (.lst (xs.drop (j + 1)))) := same_upd hq
    refine ⟨p, q, _, _, rfl, rfl, s3 _ _ upd_same, upd_same, ?_, fun r hr => ?_⟩
    · exact small_le (k := 60) (by rw [List.length_take, List.length_drop]; omega)
    · have s4 := same_upd (o := .lst (xs.take j ++ xs.drop (j + 1))) hr
      have sa : Same H _ := s2.trans (s3.trans s4)
      exact make_end (K := K) (.inl upd_same) (Paired.app (Paired.takeP j (hh.dd.same sa)) (Paired.dropP (j + 1) (hh.dd.same sa))) wf (k.same sa)
end
end L2.K21
end

section
set_option Elab.async false
set_option linter.all false
set_option maxRecDepth 100000
set_option maxHeartbeats 2000000
namespace L2.K21
open PySem PySem.Spec PyProof.Rows L2.Gd
section
variable {P : Program} {w : World} {K : PySem.W.Frag} {mg : Str → Option Value} {base : Heap} {C : Addr}

theorem stabD (D : Addr) : Stab DdAt D := fun H H' y d b ⟨zs, hD⟩ ⟨t, e, ht⟩ => ⟨t, e, b _ _ (fun z => by subst z; rw [hD] at ht; exact nomatch ht) ht⟩
theorem stabF (D : Addr) {H1 H : Hp} {t : Addr} {xs ys : List V} (b : ButD D H1 H) (hD : H D = some (.lst ys)) (h : H1 t = some (.tup xs)) (hD1 : H1 D = none) : H t = some (.tup xs) := b.new hD1 _ _ h
def keepD (p : Dd → Bool) (d : Dd) : Option Dd := if p d = true then some d else none
theorem keepD_filter (p : Dd → Bool) (ds : List Dd) : ds.filterMap (keepD p) = ds.filter p := by
  induction ds with
  | nil => rfl
  | cons d r ih =>
    by_cases h : p d = true
    · rw [List.filterMap_cons_some (show keepD p d = some d from if_pos h), List.filter_cons_of_pos h, ih]
    · rw [List.filterMap_cons_none (show keepD p d = none from if_neg h), List.filter_cons_of_neg h, ih]
theorem mapD (f : Dd → Dd) (ds : List Dd) : ds.filterMap (fun d => some (f d)) = ds.map f := by rw [List.filterMap_eq_map']

/-! ### plain -/
def spPln (C : Addr) : Sp := fun vs H Q _ => ∃ (h l : Addr) (m : Int) (xs : List V) (ds : List Dd), vs = [.ref h] ∧ HouseL C H h l m xs ds ∧ WF m ds ∧ Made C H Q m (ds.filter isAny)
theorem WF.filter {m : Int} {ds : List Dd} (w : WF m ds) (p : Dd → Bool) : WF m (ds.filter p) :=
  ⟨w.m1, w.m16, fun d hd => w.ok d (List.mem_filter.mp hd).1, w.nd.filter _, Nat.le_trans (List.length_filter_le _ _) w.len⟩
theorem scPn : FnScope ["self", "deed"] ["self"] (defScope (cHouse 11)) := ⟨rfl, rfl, rfl, by decide +kernel, rfl, by decide +kernel, by decide +kernel⟩
theorem anyE (d : Dd) : decide (V.str d.w = V.str "any") = isAny d := by
  unfold isAny
  rw [Bool.eq_iff_iff]
  simp
theorem ok_plain {f : Addr} {fd : FuncData} (F : Fun K "plain" "House.plain" (cHouse 11) f fd) (T : ClsT K mg C) (M : MkH P w K mg base C) : FnOk P w K mg base CX0 7 f fd ["self"] (spPln C) := by
  refine F.ok scPn (fun vs H Q E h => ?_) (fun cdv A outer s H vs Q E hr h => ?_)
  · obtain ⟨h, l, m, xs, ds, rfl, _⟩ := h
    rfl
  · obtain ⟨h, l, m, xs, ds, rfl, hh, wf, k⟩ := h
    obtain ⟨dx, ob⟩ := hh.ob
    have N := scPn.nd
    refine ⟨_, pss_one (ps_ret (pe_house M T hr (pa_cons (pe_fld (pv 0) rfl) (pa_cons
      (pe_lc (own := [("deed", 1)]) (g := gName 1) rfl N (pi_list (pe_fld (pv 0) rfl)) (blkOk_by (N := ["self", "deed"]) (sc := defScope (cHouse 11)) (by decide +kernel))
        (fun _ _ _ _ _ => pg_name (i := 1) N rfl (.inl rfl))
        (fun _ _ _ _ _ => pts_one (pt_cmpR op_eq (pe_ix (r := rIxT K) ix_tup (pv 1) pe_int (fun _ _ => rfl)) pe_str (nomark _))) (fun _ _ _ _ _ => pv 1)) pa_nil)))), ?_⟩
    refine ⟨_, rfl, h, C, dx, _, _, rfl, ob, T.isc.cl, T.nP, flds_p _ _, ?_⟩
    refine ⟨_, rfl, h, C, dx, _, _, rfl, ob, T.isc.cl, T.nD, flds_d _ _, l, rfl, ⟨xs, .inl (.inl hh.ls)⟩, fun D hD => ?_⟩
    refine lc_mapL (es := ds) (F := DdAt) (G := DdAt) (f := keepD isAny) (stabD D) hh.ls hD (Nat.le_trans (Nat.le_of_eq hh.lenE) (Nat.le_trans wf.len (by decide))) hh.dd ?_ ?_
    · rintro x e H2 A B he ⟨t, rfl, ht⟩ b ⟨zs, hz⟩ hA hB
      have ht2 := b.new hD _ _ ht
      refine ⟨rfl, _, rfl, _, _, _, _, rfl, rfl, .inl (.inl ht2), rfl, rfl, isAny e, congrArg V.bl (anyE e), ?_⟩
      cases q : isAny e with
      | true => exact iteT ⟨_, rfl, hA e _ H2 (if_pos q) (fun _ _ z => z) ⟨t, rfl, ht2⟩⟩
      | false => exact iteF (hB H2 (if_neg (by rw [q]; decide)) fun _ _ z => z)
    · intro ys H2 h1 h2 h3
      rw [keepD_filter] at h2
      exact make_end (K := K) (.inl h1) h2 (wf.filter _) (k.same (h3.new hD))

/-! ### turned -/
structure PrH (P : Program) (w : World) (K : PySem.W.Frag) (mg : Str → Option Value) (base : Heap) (C : Addr) (x : Str) (sp : Sp) : Prop where
  ex : ∃ p g fd, PropOf K C x p g ∧ Binds K fd ["self"] [] ∧ FnOk P w K mg base CX0 1 g fd ["self"] sp
theorem pe_prH {X : Cx} {x : Str} {sp : Sp} {e : Expr} {te : TE} {pos : Pos} (G : PrH X.prog X.w X.K X.mg X.base C x sp) (T : ClsT X.K X.mg C) (hr : Room 2 X.A) (he : PE X e te)
    (hab : attributeBase e x X.env (eval e X.env) = eval e X.env := by rfl) : PE X (.Attribute e x pos) (tProp C sp [] E0 te) := by
  obtain ⟨p, g, fd, hp, b, F⟩ := G.ex
  exact pe_prop he T.isc.cl hp F hr b .nil pass0 hab
def turnD (d : Dd) : Dd := ⟨d.g, 0 - d.c, d.p, d.w⟩
def spTrn (C : Addr) : Sp := fun vs H Q _ => ∃ (h l : Addr) (m : Int) (xs : List V) (ds : List Dd), vs = [.ref h] ∧ HouseL C H h l m xs ds ∧ ds.length ≤ 60 ∧ ds.all isAny = true ∧ WF m (ds.map turnD) ∧ Made C H Q m (ds.map turnD)
theorem scTn : FnScope ["self", "place", "change", "goal", "when"] ["self"] (defScope (cHouse 12)) := ⟨rfl, rfl, rfl, by decide +kernel, rfl, by decide +kernel, by decide +kernel⟩
theorem ok_turned {f : Addr} {fd : FuncData} (F : Fun K "turned" "House.turned" (cHouse 12) f fd) (T : ClsT K mg C) (M : MkH P w K mg base C) (G : PrH P w K mg base C "is_plain" (spPlain C)) :
    FnOk P w K mg base CX0 7 f fd ["self"] (spTrn C) := by
  refine F.ok scTn (fun vs H Q E h => ?_) (fun cdv A outer s H vs Q E hr h => ?_)
  · obtain ⟨h, l, m, xs, ds, rfl, _⟩ := h
    rfl
  · obtain ⟨h, l, m, xs, ds, rfl, hh, h60, ha, wf, k⟩ := h
    obtain ⟨dx, ob⟩ := hh.ob
    have N := scTn.nd
    refine ⟨_, pss_cons (ps_if (pt_not (pt_val (pe_prH G T (hr.mono (by decide)) (pv 0)))) pss_never pss_nil)
      (pss_one (ps_ret (pe_house M T hr (pa_cons (pe_fld (pv 0) rfl) (pa_cons
      (pe_lc (own := [("place", 1), ("change", 2), ("goal", 3), ("when", 4)]) (g := gTup K 4 (gCons (gName 1) (gCons (gName 2) (gCons (gName 3) (gCons (gName 4) gNil))))) (tt := tYes) rfl N (pi_list (pe_fld (pv 0) rfl)) (blkOk_by (N := ["self", "place", "change", "goal", "when"]) (sc := defScope (cHouse 12)) (by decide +kernel))
        (fun _ _ _ _ _ => pg_tup rfl (pgs_cons (pg_name (i := 1) N rfl (.inl rfl)) (pgs_cons (pg_name (i := 2) N rfl (.inl rfl)) (pgs_cons (pg_name (i := 3) N rfl (.inl rfl)) (pgs_cons (pg_name (i := 4) N rfl (.inl rfl)) pgs_nil)))))
        (fun _ _ _ _ _ => pts_nil) (fun _ _ _ _ _ => pe_tup (pa_cons (pv 3) (pa_cons (pe_op op_sub pe_int (pv 2)) (pa_cons (pv 1) (pa_cons (pv 4) pa_nil)))))) pa_nil))))), ?_⟩
    refine ⟨_, rfl, h, dx, _, rfl, ob, h, l, m, xs, ds, rfl, hh, h60, fun H1 s1 => ⟨true, congrArg V.bl ha, ?_⟩⟩
    refine iteF ?_
    have hh1 := hh.same s1
    refine ⟨_, rfl, h, C, dx, _, _, rfl, s1 _ _ ob, T.isc.cl, T.nP, flds_p _ _, ?_⟩
    refine ⟨_, rfl, h, C, dx, _, _, rfl, s1 _ _ ob, T.isc.cl, T.nD, flds_d _ _, l, rfl, ⟨xs, .inl (.inl hh1.ls)⟩, fun D hD => ?_⟩
    refine lc_mapL (es := ds) (F := DdAt) (G := DdAt) (f := fun d => some (turnD d)) (stabD D) hh1.ls hD (Nat.le_trans (Nat.le_of_eq hh.lenE) (Nat.le_trans h60 (by decide))) hh1.dd ?_ ?_
    · rintro x e H2 A B he ⟨t, rfl, ht⟩ b ⟨zs, hz⟩ hA hB
      have ht2 := b.new hD _ _ ht
      refine ⟨t, _, rfl, .inl (.inl ht2), rfl, _, _, rfl, _, _, rfl, _, _, rfl, _, _, rfl, rfl, rfl, yes_ite ?_⟩
      refine ⟨_, rfl, _, rfl, _, _, rfl, rfl, _, rfl, _, rfl, (by show 4 ≤ sizeLine; decide), fun p hp => ?_⟩
      exact hA (turnD e) _ _ rfl (same_upd hp) ⟨p, rfl, upd_same⟩
    · intro ys H2 h1 h2 h3
      rw [mapD] at h2
      exact make_end (K := K) (.inl h1) h2 wf (k.same (s1.trans (h3.new hD)))
end
end L2.K21
end

section
set_option Elab.async false
set_option linter.all false
set_option maxRecDepth 100000
set_option maxHeartbeats 2000000
namespace L2.K21
open PySem PySem.Spec PyProof.Rows L2.Gd
section
variable {P : Program} {w : World} {K : PySem.W.Frag} {mg : Str → Option Value} {base : Heap} {C : Addr}

theorem pe_fldK {X : Cx} (K : PySem.W.Frag) {e : Expr} {ta : TE} {f : Str} {pos : Pos} (he : PE X e ta) (hab : attributeBase e f X.env (eval e X.env) = eval e X.env := by rfl) (hK : X.K = K := by rfl) : PE X (.Attribute e f pos) (tFld K ta f) := by
  subst hK
  exact pe_fld he hab
/-! ### beside -/
def shiftD (m : Int) (d : Dd) : Dd := ⟨d.p + m, d.c, d.g + m, d.w⟩
def spBes (C : Addr) : Sp := fun vs H Q _ => ∃ (h l h' l' : Addr) (m m' : Int) (xs ys : List V) (ds es : List Dd), vs = [.ref h, .ref h'] ∧ HouseL C H h l m xs ds ∧ HouseL C H h' l' m' ys es ∧
  WF (m + m') (ds ++ es.map (shiftD m)) ∧ Made C H Q (m + m') (ds ++ es.map (shiftD m))
theorem scBe : FnScope ["self", "other", "moved", "place", "change", "goal", "when"] ["self", "other"] (defScope (cHouse 10)) := ⟨rfl, rfl, rfl, by decide +kernel, rfl, by decide +kernel, by decide +kernel⟩
theorem ok_beside {f : Addr} {fd : FuncData} (F : Fun K "beside" "House.beside" (cHouse 10) f fd) (n : Nm mg) (T : ClsT K mg C) (M : MkH P w K mg base C) {tk : Tok} (mm : mg "MOST_PLACES" = some (.int 16 tk)) :
    FnOk P w K mg base CX0 7 f fd ["self", "other"] (spBes C) := by
  refine F.ok scBe (fun vs H Q E h => ?_) (fun cdv A outer s H vs Q E hr h => ?_)
  · obtain ⟨h, l, h', l', m, m', xs, ys, ds, es, rfl, _⟩ := h
    rfl
  · obtain ⟨h, l, h', l', m, m', xs, ys, ds, es, rfl, hh, hh', wf, k⟩ := h
    obtain ⟨dx, ob⟩ := hh.ob
    obtain ⟨dy, ob'⟩ := hh'.ob
    have N := scBe.nd
    have h60 := wf.len
    rw [List.length_append, List.length_map] at h60
    refine ⟨_, pss_cons (ps_if (pt_not (pt_val (pe_callB call_isi (by rfl) n.isi (by decide +kernel) (pa_cons (pv 1) (pa_cons (pe_glob (v := .ref C) (by rfl) T.mgC rfl) pa_nil))))) pss_never pss_nil)
      (pss_cons (ps_if (pt_cmpR op_gt (pe_op op_add (pe_fld (pv 0) rfl) (pe_fld (pv 1) rfl)) (pe_glob (v := .int 16) (by rfl) mm ⟨_, rfl⟩) (nomark _)) pss_never pss_nil)
      (pss_cons (ps_setLc (i := 2) (own := [("place", 3), ("change", 4), ("goal", 5), ("when", 6)]) (g := gTup K 4 (gCons (gName 3) (gCons (gName 4) (gCons (gName 5) (gCons (gName 6) gNil))))) (tt := tYes) (by rfl) N rfl rfl (sw_true rfl rfl rfl (by decide +kernel)) (pi_list (pe_fld (pv 1) rfl)) (blkOk_by (N := ["self", "other", "moved", "place", "change", "goal", "when"]) (sc := defScope (cHouse 10)) (by decide +kernel))
        (fun _ _ _ _ _ => pg_tup rfl (pgs_cons (pg_name (i := 3) N rfl (.inl rfl)) (pgs_cons (pg_name (i := 4) N rfl (.inl rfl)) (pgs_cons (pg_name (i := 5) N rfl (.inl rfl)) (pgs_cons (pg_name (i := 6) N rfl (.inl rfl)) pgs_nil)))))
        (fun _ _ _ _ _ => pts_nil) (fun _ _ _ _ _ => pe_tup (pa_cons (pe_op op_add (pv 3) (pe_fldK K (pv 0))) (pa_cons (pv 4) (pa_cons (pe_op op_add (pv 5) (pe_fldK K (pv 0))) (pa_cons (pv 6) pa_nil))))))
      (pss_one (ps_ret (pe_house M T hr (pa_cons (pe_op op_add (pe_fld (pv 0) rfl) (pe_fld (pv 1) rfl)) (pa_cons (pe_op op_cat (pe_fld (pv 0) rfl) (pv 2)) pa_nil))))))), ?_⟩
    refine ⟨_, rfl, _, _, _, _, true, rfl, .own C, ty_house T ob', T.isc.me, true, rfl, ?_⟩
    refine iteF ?_
    refine ⟨_, rfl, h, C, dx, _, _, rfl, ob, T.isc.cl, T.nP, flds_p _ _, ?_⟩
    refine ⟨_, rfl, h', C, dy, _, _, rfl, ob', T.isc.cl, T.nP, flds_p _ _, _, _, rfl, rfl, ?_⟩
    refine ⟨_, _, rfl, rfl, false, congrArg V.bl (decide_eq_false (by have := wf.m16; omega)), ?_⟩
    refine iteF ?_
    refine ⟨_, rfl, h', C, dy, _, _, rfl, ob', T.isc.cl, T.nD, flds_d _ _, l', rfl, ⟨ys, .inl (.inl hh'.ls)⟩, fun D hD => ?_⟩
    refine lc_mapL (es := es) (F := DdAt) (G := DdAt) (f := fun d => some (shiftD m d)) (stabD D) hh'.ls hD (by rw [hh'.lenE]; omega) hh'.dd ?_ ?_
    · rintro x e H2 A B he ⟨t, rfl, ht⟩ b ⟨zs, hz⟩ hA hB
      have ht2 := b.new hD _ _ ht
      have ob2 := b.new hD _ _ ob
      refine ⟨t, _, rfl, .inl (.inl ht2), rfl, _, _, rfl, _, _, rfl, _, _, rfl, _, _, rfl, rfl, rfl, yes_ite ?_⟩
      refine ⟨_, rfl, _, rfl, h, C, dx, _, _, rfl, ob2, T.isc.cl, T.nP, flds_p _ _, _, _, rfl, rfl, ?_⟩
      refine ⟨_, rfl, _, rfl, _, rfl, h, C, dx, _, _, rfl, ob2, T.isc.cl, T.nP, flds_p _ _, _, _, rfl, rfl, ?_⟩
      refine ⟨_, rfl, (by show 4 ≤ sizeLine; decide), fun p hp => ?_⟩
      exact hA (shiftD m e) _ _ rfl (same_upd hp) ⟨p, rfl, upd_same⟩
    · intro zs H2 h1 h2 h3
      rw [mapD] at h2
      have s1 : Same H H2 := h3.new hD
      have hh2 := hh.same s1
      have zl := Paired.length h2
      rw [List.length_map] at zl
      refine ⟨_, rfl, h, C, dx, _, _, rfl, s1 _ _ ob, T.isc.cl, T.nP, flds_p _ _, ?_⟩
      refine ⟨_, rfl, h', C, dy, _, _, rfl, s1 _ _ ob', T.isc.cl, T.nP, flds_p _ _, _, _, rfl, rfl, ?_⟩
      refine ⟨_, rfl, h, C, dx, _, _, rfl, s1 _ _ ob, T.isc.cl, T.nD, flds_d _ _, ?_⟩
      refine ⟨_, rfl, l, D, xs, zs, rfl, rfl, hh2.ls, h1, small_le (k := 60) (by rw [hh.lenE, zl]; exact h60), fun p hp => ?_⟩
      have s2 : Same H2 (upd H2 p (.lst (xs ++ zs))) := same_upd hp
      exact make_end (K := K) (.inl upd_same) (Paired.app (hh2.dd.same s2) (DdAll.same s2 h2)) wf (k.same (s1.trans s2))
end
end L2.K21
end

section
set_option Elab.async false
set_option linter.all false
set_option maxRecDepth 100000
set_option maxHeartbeats 4000000
namespace L2.K21
open PySem PySem.Spec PyProof.Rows L2.Gd
section
variable {P : Program} {w : World} {K : PySem.W.Frag} {mg : Str → Option Value} {base : Heap} {C : Addr}

/-! ### renumbered -/
def renD (os : List Int) (d : Dd) : Dd := ⟨os.getD d.p.toNat 0, d.c, os.getD d.g.toNat 0, d.w⟩
/-- 0 .. m - 1 -/
def idL (m : Int) : List Int := (List.range m.toNat).map fun i : Nat => (i : Int)
theorem idL_rg (m : Int) : rgV 0 m = (idL m).map V.int := by
  unfold rgV idL
  rw [List.map_map, Int.sub_zero]
  refine List.map_congr_left fun i _ => ?_
  show V.int (0 + (i : Int)) = V.int (i : Int)
  rw [Int.zero_add]
theorem idL_len (m : Int) : (idL m).length = m.toNat := by unfold idL; rw [List.length_map, List.length_range]
theorem idL_up (m : Int) : (idL m).Pairwise (· ≤ ·) := by
  unfold idL
  rw [List.pairwise_map]
  exact List.pairwise_lt_range.imp fun {a b} h => by omega
theorem idL_mem {m x : Int} (h : x ∈ idL m) : 0 ≤ x ∧ x < m := by
  unfold idL at h
  obtain ⟨i, hi, rfl⟩ := List.mem_map.mp h
  have := List.mem_range.mp hi
  omega
theorem dps_ints {H : Hp} : ∀ ns : List Int, DpAll K H (ns.map V.int) (ns.map PyData.int)
  | [] => .nil
  | n :: r => .cons (.int n) (dps_ints r)
theorem ints_lay : ∀ ns : List Int, PyData.canLayAll0 (ns.map PyData.int) = true
  | [] => by simp [PyData.canLayAll0]
  | x :: r => by simp [PyData.canLayAll0, PyData.canLay0, ints_lay r]
theorem ints_dep : ∀ ns : List Int, PyData.depthAll (ns.map PyData.int) = 0
  | [] => by simp [PyData.depthAll]
  | x :: r => by simp [PyData.depthAll, PyData.depth, ints_dep r]
theorem ints_shaped (ns : List Int) : SeqAt.shaped (.list (ns.map PyData.int)) = true := by
  show (PyData.canLay0 (.list (ns.map PyData.int)) && decide (PyData.depth (.list (ns.map PyData.int)) ≤ 64)) = true
  rw [Bool.and_eq_true]
  refine ⟨by simp only [PyData.canLay0]; exact ints_lay ns, decide_eq_true ?_⟩
  simp only [PyData.depth, ints_dep]
  decide
theorem ints_eqv : ∀ ns : List Int, PyData.eqvAll (ns.map PyData.int) (ns.map PyData.int) = true
  | [] => by simp [PyData.eqvAll]
  | x :: r => by simp [PyData.eqvAll, PyData.eqv, ints_eqv r]
theorem paired_self {α β : Type} {R : α → β → Prop} (f : β → α) (h : ∀ b, R (f b) b) : ∀ bs : List β, Paired R (bs.map f) bs
  | [] => .nil
  | b :: r => .cons (h b) (paired_self f h r)
theorem sorted_id {m : Int} {os ns : List Int} (h : ns.Perm os) (hp : os.Perm (idL m)) (hs : ns.Pairwise (· ≤ ·)) : ns = idL m :=
  List.Perm.eq_of_pairwise (fun _ _ _ _ a b => Int.le_antisymm a b) hs (idL_up m) (h.trans hp)
theorem at_ren {os : List Int} {i : Int} (h0 : 0 ≤ i) (h1 : i < os.length) : atI (os.map V.int) i = some (.int (os.getD i.toNat 0)) := by
  obtain ⟨j, rfl⟩ : ∃ j : Nat, i = j := ⟨i.toNat, by omega⟩
  have hj : j < os.length := by omega
  refine atI_nat ?_
  rw [List.getElem?_map, Int.toNat_natCast, List.getD_eq_getElem?_getD, List.getElem?_eq_getElem hj]
  rfl
theorem mapE {α β : Type} (f : α → β) (ds : List α) : ds.filterMap (fun d => some (f d)) = ds.map f := by rw [List.filterMap_eq_map']
theorem bls_of : ∀ {zs : List V} {bs : List Bool}, Paired (fun v b => v = V.bl b) zs bs → zs = bs.map V.bl
  | _, _, .nil => rfl
  | _, _, .cons h t => by rw [h, bls_of t]; rfl
def Ints (H : Hp) (a : Addr) (ns : List Int) : Prop := H a = some (.lst (ns.map V.int)) ∨ H a = some (.tup (ns.map V.int))
def spRen (C : Addr) : Sp := fun vs H Q _ => ∃ (h l o : Addr) (m : Int) (xs : List V) (ds : List Dd) (os : List Int), vs = [.ref h, .ref o] ∧ HouseL C H h l m xs ds ∧ Ints H o os ∧ os.Perm (idL m) ∧ WF m ds ∧
  WF m (ds.map (renD os)) ∧ Made C H Q m (ds.map (renD os))
theorem scRn : FnScope ["self", "order", "place", "change", "goal", "when"] ["self", "order"] (defScope (cHouse 9)) := ⟨rfl, rfl, rfl, by decide +kernel, rfl, by decide +kernel, by decide +kernel⟩
theorem ok_ren {f : Addr} {fd : FuncData} (F : Fun K "renumbered" "House.renumbered" (cHouse 9) f fd) (n : Nm mg) (T : ClsT K mg C) (M : MkH P w K mg base C)
    (GL : Fn P w K mg base 1 "is_list" ["value"] (spIsList K)) (GC : Fn P w K mg base 2 "is_count" ["value"] spIsCount) :
    FnOk P w K mg base CX0 7 f fd ["self", "order"] (spRen C) := by
  refine F.ok scRn (fun vs H Q E h => ?_) (fun cdv A outer s H vs Q E hr h => ?_)
  · obtain ⟨h, l, o, m, xs, ds, os, rfl, _⟩ := h
    rfl
  · obtain ⟨h, l, o, m, xs, ds, os, rfl, hh, ho, hp, wf, wf', k⟩ := h
    obtain ⟨dx, ob⟩ := hh.ob
    have N := scRn.nd
    have hm := wf.m1
    have hm16 := wf.m16
    have ol : os.length = m.toNat := hp.length_eq.trans (idL_len m)
    have om : ∀ x ∈ os, 0 ≤ x ∧ x < m := fun x hx => idL_mem (hp.mem_iff.mp hx)
    rcases ho with ho | ho
    · refine ⟨_, pss_cons (ps_if (pw_or (pt_not (pt_val (pe_fn GL (hr.mono (by decide)) (pa_cons (pv 1) pa_nil))))
          (pw_or1 (pt_not (pt_val (pe_callB (cr_all rfl) (by rfl) n.all (by decide +kernel) (pa_cons
            (pe_lc (own := [("place", 2)]) (g := gName 2) (tt := tYes) rfl N (pi_list (pv 1)) (blkOk_by (N := ["self", "order", "place", "change", "goal", "when"]) (sc := defScope (cHouse 9)) (by decide +kernel))
              (fun _ _ _ _ _ => pg_name (i := 2) N rfl (.inl rfl)) (fun _ _ _ _ _ => pts_nil) (fun _ _ _ _ _ => pe_fn GC (hr.mono (by decide)) (pa_cons (pv 2) pa_nil))) pa_nil)))))).pt pss_never pss_nil)
        (pss_cons (ps_if (pt_cmpR (op_neD hr.units) (pe_callB cr_sortedI (by rfl) n.sorted (by decide +kernel) (pa_cons (pv 1) pa_nil)) (pe_listRg rfl (by rfl) n.list (prg_1 (by rfl) n.range (pe_fld (pv 0) rfl))) (nomark _)) pss_never pss_nil)
        (pss_one (ps_ret (pe_house M T hr (pa_cons (pe_fld (pv 0) rfl) (pa_cons
          (pe_lc (own := [("place", 2), ("change", 3), ("goal", 4), ("when", 5)]) (g := gTup K 4 (gCons (gName 2) (gCons (gName 3) (gCons (gName 4) (gCons (gName 5) gNil))))) (tt := tYes) rfl N (pi_list (pe_fld (pv 0) rfl)) (blkOk_by (N := ["self", "order", "place", "change", "goal", "when"]) (sc := defScope (cHouse 9)) (by decide +kernel))
            (fun _ _ _ _ _ => pg_tup rfl (pgs_cons (pg_name (i := 2) N rfl (.inl rfl)) (pgs_cons (pg_name (i := 3) N rfl (.inl rfl)) (pgs_cons (pg_name (i := 4) N rfl (.inl rfl)) (pgs_cons (pg_name (i := 5) N rfl (.inl rfl)) pgs_nil)))))
            (fun _ _ _ _ _ => pts_nil) (fun _ _ _ _ _ => pe_tup (pa_cons (pe_ix (r := rIxL K) ix_list (pv 1) (pv 2) (fun _ _ => rfl)) (pa_cons (pv 3) (pa_cons (pe_ix (r := rIxL K) ix_list (pv 1) (pv 4) (fun _ _ => rfl)) (pa_cons (pv 5) pa_nil)))))) pa_nil)))))), ?_⟩
      refine ⟨_, rfl, o, os.map V.int, rfl, .inl ho, fun H1 s1 => ⟨true, rfl, ?_⟩⟩
      refine iteF ?_
      have ho1 := s1 _ _ ho
      refine ⟨_, rfl, o, rfl, ⟨_, .inl (.inl ho1)⟩, fun D hD => ?_⟩
      refine lc_mapL (es := os) (F := fun _ v i => v = .int i) (G := fun _ v b => v = V.bl b) (f := fun _ => some true) (fun _ _ _ _ _ _ q => q) ho1 hD (by rw [List.length_map]; omega) (paired_self V.int (fun _ => rfl) os) ?_ ?_
      · rintro x i H2 A B hi rfl b ⟨zs, hz⟩ hA hB
        refine ⟨rfl, yes_ite ?_⟩
        exact ⟨_, rfl, i, rfl, (om i hi).1, hA true _ H2 rfl (fun _ _ z => z) rfl⟩
      intro zs H2 h1 h2 h3
      have s2 : Same H1 H2 := h3.new hD
      have ez : zs = (os.map fun _ => true).map V.bl := by
        rw [mapE] at h2
        exact bls_of h2
      refine ⟨D, _, rfl, .inl (.inl (ez ▸ h1)), true, congrArg V.bl (by simp), ?_⟩
      refine iteF ?_
      have sa := s1.trans s2
      refine ⟨_, rfl, o, os, rfl, .inl (.inl (sa _ _ ho)), fun ns p hn hs hp1 => ?_⟩
      have s3 : Same H2 (upd H2 p (.lst (ns.map V.int))) := same_upd hp1
      have hh3 := (hh.same sa).same s3
      have ob3 := s3 _ _ (sa _ _ ob)
      refine ⟨_, rfl, h, C, dx, _, _, rfl, ob3, T.isc.cl, T.nP, flds_p _ _, m, rfl, RgOk.of_le (by decide) (by omega) (by decide) (by omega), fun q hq => ?_⟩
      rw [idL_rg]
      have s4 := same_upd (o := .lst ((idL m).map V.int)) hq
      obtain rfl := sorted_id hn hp hs
      refine ⟨_, _, .lst (.inl (.inl (s4 _ _ upd_same))) (dps_ints _), .lst (.inl (.inl upd_same)) (dps_ints _), ints_shaped _, ints_shaped _, false, ?_, ?_⟩
      · show V.bl (!PyData.eqv (.list ((idL m).map PyData.int)) (.list ((idL m).map PyData.int))) = _
        simp only [PyData.eqv, ints_eqv]
        rfl
      refine iteF ?_
      have ob4 := s4 _ _ ob3
      have hh4 := hh3.same s4
      have ho4 := s4 _ _ (s3 _ _ (sa _ _ ho))
      refine ⟨_, rfl, h, C, dx, _, _, rfl, ob4, T.isc.cl, T.nP, flds_p _ _, ?_⟩
      refine ⟨_, rfl, h, C, dx, _, _, rfl, ob4, T.isc.cl, T.nD, flds_d _ _, l, rfl, ⟨xs, .inl (.inl hh4.ls)⟩, fun D2 hD2 => ?_⟩
      refine lc_mapL (es := ds) (F := DdAt) (G := DdAt) (f := fun d => some (renD os d)) (stabD D2) hh4.ls hD2 (Nat.le_trans (Nat.le_of_eq hh.lenE) (Nat.le_trans wf.len (by decide))) hh4.dd ?_ ?_
      · rintro x e H5 A B he ⟨t, rfl, ht⟩ b ⟨zs, hz⟩ hA hB
        have ht2 := b.new hD2 _ _ ht
        have ho5 := b.new hD2 _ _ ho4
        have oke := wf.ok e he
        have p0 := oke.p0
        have pn := oke.pn
        have g0 := oke.g0
        have gn := oke.gn
        refine ⟨t, _, rfl, .inl (.inl ht2), rfl, _, _, rfl, _, _, rfl, _, _, rfl, _, _, rfl, rfl, rfl, yes_ite ?_⟩
        refine ⟨_, rfl, _, rfl, o, _, _, _, rfl, rfl, .inl (.inl ho5), at_ren p0 (by omega), _, rfl, ?_⟩
        refine ⟨_, rfl, _, rfl, o, _, _, _, rfl, rfl, .inl (.inl ho5), at_ren g0 (by omega), _, rfl, ?_⟩
        refine ⟨(by show 4 ≤ sizeLine; decide), fun p2 hp2 => ?_⟩
        exact hA (renD os e) _ _ rfl (same_upd hp2) ⟨p2, rfl, upd_same⟩
      · intro ys H5 h1 h2 h3
        rw [mapD] at h2
        exact make_end (K := K) (.inl h1) h2 wf' (k.same ((sa.trans (s3.trans s4)).trans (h3.new hD2)))
    · refine ⟨_, pss_cons (ps_if (pw_or (pt_not (pt_val (pe_fn GL (hr.mono (by decide)) (pa_cons (pv 1) pa_nil))))
          (pw_or1 (pt_not (pt_val (pe_callB (cr_all rfl) (by rfl) n.all (by decide +kernel) (pa_cons
            (pe_lc (own := [("place", 2)]) (g := gName 2) (tt := tYes) rfl N (pi_tup (pv 1)) (blkOk_by (N := ["self", "order", "place", "change", "goal", "when"]) (sc := defScope (cHouse 9)) (by decide +kernel))
              (fun _ _ _ _ _ => pg_name (i := 2) N rfl (.inl rfl)) (fun _ _ _ _ _ => pts_nil) (fun _ _ _ _ _ => pe_fn GC (hr.mono (by decide)) (pa_cons (pv 2) pa_nil))) pa_nil)))))).pt pss_never pss_nil)
        (pss_cons (ps_if (pt_cmpR (op_neD hr.units) (pe_callB cr_sortedTI (by rfl) n.sorted (by decide +kernel) (pa_cons (pv 1) pa_nil)) (pe_listRg rfl (by rfl) n.list (prg_1 (by rfl) n.range (pe_fld (pv 0) rfl))) (nomark _)) pss_never pss_nil)
        (pss_one (ps_ret (pe_house M T hr (pa_cons (pe_fld (pv 0) rfl) (pa_cons
          (pe_lc (own := [("place", 2), ("change", 3), ("goal", 4), ("when", 5)]) (g := gTup K 4 (gCons (gName 2) (gCons (gName 3) (gCons (gName 4) (gCons (gName 5) gNil))))) (tt := tYes) rfl N (pi_list (pe_fld (pv 0) rfl)) (blkOk_by (N := ["self", "order", "place", "change", "goal", "when"]) (sc := defScope (cHouse 9)) (by decide +kernel))
            (fun _ _ _ _ _ => pg_tup rfl (pgs_cons (pg_name (i := 2) N rfl (.inl rfl)) (pgs_cons (pg_name (i := 3) N rfl (.inl rfl)) (pgs_cons (pg_name (i := 4) N rfl (.inl rfl)) (pgs_cons (pg_name (i := 5) N rfl (.inl rfl)) pgs_nil)))))
            (fun _ _ _ _ _ => pts_nil) (fun _ _ _ _ _ => pe_tup (pa_cons (pe_ix (r := rIxT K) ix_tup (pv 1) (pv 2) (fun _ _ => rfl)) (pa_cons (pv 3) (pa_cons (pe_ix (r := rIxT K) ix_tup (pv 1) (pv 4) (fun _ _ => rfl)) (pa_cons (pv 5) pa_nil)))))) pa_nil)))))), ?_⟩
      refine ⟨_, rfl, o, os.map V.int, rfl, .inr ho, fun H1 s1 => ⟨true, rfl, ?_⟩⟩
      refine iteF ?_
      have ho1 := s1 _ _ ho
      refine ⟨_, rfl, o, rfl, ⟨_, .inl (.inl ho1)⟩, fun D hD => ?_⟩
      refine lc_mapT (es := os) (F := fun _ v i => v = .int i) (G := fun _ v b => v = V.bl b) (f := fun _ => some true) (fun _ _ _ _ _ _ q => q) ho1 hD (by rw [List.length_map]; omega) (paired_self V.int (fun _ => rfl) os) ?_ ?_
      · rintro x i H2 A B hi rfl b ⟨zs, hz⟩ hA hB
        refine ⟨rfl, yes_ite ?_⟩
        exact ⟨_, rfl, i, rfl, (om i hi).1, hA true _ H2 rfl (fun _ _ z => z) rfl⟩
      intro zs H2 h1 h2 h3
      have s2 : Same H1 H2 := h3.new hD
      have ez : zs = (os.map fun _ => true).map V.bl := by
        rw [mapE] at h2
        exact bls_of h2
      refine ⟨D, _, rfl, .inl (.inl (ez ▸ h1)), true, congrArg V.bl (by simp), ?_⟩
      refine iteF ?_
      have sa := s1.trans s2
      refine ⟨_, rfl, o, os, rfl, .inl (.inl (sa _ _ ho)), fun ns p hn hs hp1 => ?_⟩
      have s3 : Same H2 (upd H2 p (.lst (ns.map V.int))) := same_upd hp1
      have hh3 := (hh.same sa).same s3
      have ob3 := s3 _ _ (sa _ _ ob)
      refine ⟨_, rfl, h, C, dx, _, _, rfl, ob3, T.isc.cl, T.nP, flds_p _ _, m, rfl, RgOk.of_le (by decide) (by omega) (by decide) (by omega), fun q hq => ?_⟩
      rw [idL_rg]
      have s4 := same_upd (o := .lst ((idL m).map V.int)) hq
      obtain rfl := sorted_id hn hp hs
      refine ⟨_, _, .lst (.inl (.inl (s4 _ _ upd_same))) (dps_ints _), .lst (.inl (.inl upd_same)) (dps_ints _), ints_shaped _, ints_shaped _, false, ?_, ?_⟩
      · show V.bl (!PyData.eqv (.list ((idL m).map PyData.int)) (.list ((idL m).map PyData.int))) = _
        simp only [PyData.eqv, ints_eqv]
        rfl
      refine iteF ?_
      have ob4 := s4 _ _ ob3
      have hh4 := hh3.same s4
      have ho4 := s4 _ _ (s3 _ _ (sa _ _ ho))
      refine ⟨_, rfl, h, C, dx, _, _, rfl, ob4, T.isc.cl, T.nP, flds_p _ _, ?_⟩
      refine ⟨_, rfl, h, C, dx, _, _, rfl, ob4, T.isc.cl, T.nD, flds_d _ _, l, rfl, ⟨xs, .inl (.inl hh4.ls)⟩, fun D2 hD2 => ?_⟩
      refine lc_mapL (es := ds) (F := DdAt) (G := DdAt) (f := fun d => some (renD os d)) (stabD D2) hh4.ls hD2 (Nat.le_trans (Nat.le_of_eq hh.lenE) (Nat.le_trans wf.len (by decide))) hh4.dd ?_ ?_
      · rintro x e H5 A B he ⟨t, rfl, ht⟩ b ⟨zs, hz⟩ hA hB
        have ht2 := b.new hD2 _ _ ht
        have ho5 := b.new hD2 _ _ ho4
        have oke := wf.ok e he
        have p0 := oke.p0
        have pn := oke.pn
        have g0 := oke.g0
        have gn := oke.gn
        refine ⟨t, _, rfl, .inl (.inl ht2), rfl, _, _, rfl, _, _, rfl, _, _, rfl, _, _, rfl, rfl, rfl, yes_ite ?_⟩
        refine ⟨_, rfl, _, rfl, o, _, _, _, rfl, rfl, .inl (.inl ho5), at_ren p0 (by omega), _, rfl, ?_⟩
        refine ⟨_, rfl, _, rfl, o, _, _, _, rfl, rfl, .inl (.inl ho5), at_ren g0 (by omega), _, rfl, ?_⟩
        refine ⟨(by show 4 ≤ sizeLine; decide), fun p2 hp2 => ?_⟩
        exact hA (renD os e) _ _ rfl (same_upd hp2) ⟨p2, rfl, upd_same⟩
      · intro ys H5 h1 h2 h3
        rw [mapD] at h2
        exact make_end (K := K) (.inl h1) h2 wf' (k.same ((sa.trans (s3.trans s4)).trans (h3.new hD2)))
end
end L2.K21
end

section
set_option Elab.async false
set_option linter.all false
set_option maxRecDepth 100000
set_option maxHeartbeats 4000000
namespace L2.K21
open PySem PySem.Spec PyProof.Rows L2.Gd
section
variable {P : Program} {w : World} {K : PySem.W.Frag} {mg : Str → Option Value} {base : Heap} {C : Addr}

/-! ### the pot -/
abbrev sPot : Stmt := top 23
abbrev sDraw : Stmt := top 24
def PotAt (H : Hp) (p : Addr) : Prop := ∃ a b : Int, H p = some (.lst [.int a, .int b]) ∧ 0 ≤ a ∧ 0 ≤ b ∧ b < 2147483587
def spPot (K : PySem.W.Frag) : Sp := fun vs H Q _ => ∃ (s : Addr) (k : Nat) (ns : List Int), vs = [.ref s, .int k] ∧ SqL K H s (ns.map V.int) ∧ (ns.length ≤ 100000) ∧
  ∀ p H', H p = none → Same H H' → PotAt H' p → Q (.ref p) H'
theorem scPot : FnScope ["_law_script", "_law_k", "_law_cell"] ["_law_script", "_law_k"] (defScope sPot) := ⟨rfl, rfl, rfl, by decide +kernel, rfl, by decide +kernel, by decide +kernel⟩
def tailPot : TE := tLst (tCons (tCB (fun xs H Q => ∃ i j, xs = [V.int i, V.int j] ∧ Q (.int (if j > i then j else i)) H) (tCons (tC (.int 0)) (tCons (tOp (rI0 fun i j => .int (i - j)) (tVar 2) (tOp (rI CPow fun i j => .int (i ^ j.toNat)) (tC (.int 10)) (tC (.int 18)))) tNil)))
  (tCons (tOp (rI0 fun i j => .int (i + j)) (tOp (rI (fun _ j => 0 < j) fun i j => .int (i % j)) (tCB (fun xs H Q => (∃ i, xs = [V.int i] ∧ Q (.int i) H) ∨ ∃ k, xs = [V.bl k] ∧ Q (.int (if k then 1 else 0)) H) (tCons
    (tOp (rI0 fun i j => .int (i + j)) (tOp (rI0 fun i j => .int (i + j)) (tOp (rI CMul fun i j => .int (i * j)) (tOp (rI (fun _ j => 0 < j) fun i j => .int (i % j)) (tCB (fun xs H Q => (∃ i, xs = [V.int i] ∧ Q (.int i) H) ∨ ∃ k, xs = [V.bl k] ∧ Q (.int (if k then 1 else 0)) H) (tCons (tVar 2) tNil)) (tC (.int 2147483549))) (tC (.int 48271)))
      (tOp (rI CMul fun i j => .int (i * j)) (tC (.int 5003)) (tVar 1))) (tC (.int 47))) tNil)) (tC (.int 2147483563))) (tC (.int 1))) tNil))
theorem ok_pot {f : Addr} {fd : FuncData} (F : Fun K "_law_pot" "_law_pot" sPot f fd) (n : Nm mg) : FnOk P w K mg base CX0 1 f fd ["_law_script", "_law_k"] (spPot K) := by
  refine F.ok scPot (fun vs H Q E h => ?_) (fun cdv A outer s H vs Q E hr h => ?_)
  · obtain ⟨s, k, ns, rfl, _⟩ := h
    rfl
  · obtain ⟨s, k, ns, rfl, hs, hz, q⟩ := h
    have N := scPot.nd
    refine ⟨_, pss_cons (ps_set (i := 2) N rfl (.inl rfl) (pe_op op_add (pe_op op_mul pe_int (pv 1)) pe_int))
      (pss_cons (ps_if (pt_cmpR op_lt (pv 1) (pe_callB call_len_seq (by rfl) n.len PySem.boot_len (pa_cons (pv 0) pa_nil)) (nomark _))
        (pss_one (ps_set (i := 2) N rfl (.inl rfl) (pe_callB call_abs (by rfl) n.abs (by decide +kernel) (pa_cons (pe_ix ix_list (pv 0) (pv 1) (fun _ _ => rfl)) pa_nil)))) pss_nil)
      (pss_one (ps_ret (pe_lst (pa_cons (pe_callB (call_max2 rfl) (by rfl) n.max (by decide +kernel) (pa_cons pe_int (pa_cons (pe_op op_sub (pv 2) (pe_op op_pow pe_int pe_int)) pa_nil)))
        (pa_cons (pe_op op_add (pe_op op_mod (pe_callTy call_int1 (by rfl) n.int (by decide +kernel) (pa_cons (pe_op op_add (pe_op op_add (pe_op op_mul (pe_op op_mod (pe_callTy call_int1 (by rfl) n.int (by decide +kernel) (pa_cons (pv 2) pa_nil)) pe_int) pe_int) (pe_op op_mul pe_int (pv 1))) pe_int) pa_nil)) pe_int) pe_int) pa_nil)))))), ?_⟩
    refine ⟨_, rfl, _, _, rfl, rfl, .inl (by decide), _, _, rfl, rfl, ?_⟩
    have tail : ∀ c : Int, tailPot [some (.ref s), some (.int k), some (.int c)] H Q := by
      intro c
      refine ⟨_, rfl, _, _, rfl, rfl, ⟨by decide, by decide, by decide⟩, _, _, rfl, rfl, _, _, rfl, ?_⟩
      refine ⟨_, rfl, .inl ⟨_, rfl, _, _, rfl, rfl, (by show (0 : Int) < 2147483549; decide), _, _, rfl, rfl, .inr (by decide), _, rfl, _, _, rfl, rfl, .inl (by decide), _, _, rfl, rfl, _, _, rfl, rfl, .inl ⟨_, rfl, ?_⟩⟩⟩
      refine ⟨_, _, rfl, rfl, (by show (0 : Int) < 2147483563; decide), _, _, rfl, rfl, (by show 2 ≤ sizeLine; decide), fun p hp => ?_⟩
      refine q p _ hp (same_upd hp) ⟨_, _, upd_same, ?_, ?_, ?_⟩
      · split <;> omega
      · omega
      · omega
    by_cases hk : k < ns.length
    all_goals
      refine ⟨_, rfl, _, rfl, s, _, rfl, .inl hs, _, _, rfl, rfl, decide ((k : Int) < (ns.map V.int).length), rfl, ?_⟩
      rw [List.length_map]
    · rw [decide_eq_true (by omega)]
      refine iteT ?_
      refine ⟨_, rfl, _, rfl, s, _, _, _, rfl, rfl, hs, atI_nat (by rw [List.getElem?_map, List.getElem?_eq_getElem hk]; rfl), _, rfl, ?_⟩
      exact tail _
    · rw [decide_eq_false (by omega)]
      refine iteF ?_
      exact tail _

/-! ### a digit of the pot -/
theorem PotAt.same {H H' : Hp} {p : Addr} (s : Same H H') (h : PotAt H p) : PotAt H' p := let ⟨a, b, e, r⟩ := h; ⟨a, b, s _ _ e, r⟩
def spDraw : Sp := fun vs H Q _ => ∃ (p : Addr) (n : Int), vs = [.ref p, .int n] ∧ PotAt H p ∧ 1 ≤ n ∧ n < 1000000 ∧ ∀ d H', 0 ≤ d → d < n → PotAt H' p → ButD p H H' → Q (.int d) H'
theorem scDr : FnScope ["_law_pot_here", "_law_many", "_law_digit"] ["_law_pot_here", "_law_many"] (defScope sDraw) := ⟨rfl, rfl, rfl, by decide +kernel, rfl, by decide +kernel, by decide +kernel⟩
theorem ok_draw {f : Addr} {fd : FuncData} (F : Fun K "_law_draw" "_law_draw" sDraw f fd) (n : Nm mg) : FnOk P w K mg base CX0 1 f fd ["_law_pot_here", "_law_many"] spDraw := by
  refine F.ok scDr (fun vs H Q E h => ?_) (fun cdv A outer s H vs Q E hr h => ?_)
  · obtain ⟨p, m, rfl, _⟩ := h
    rfl
  · obtain ⟨p, m, rfl, ⟨a, b, hp, a0, b0, bu⟩, m1, mu, q⟩ := h
    have N := scDr.nd
    refine ⟨_, pss_cons (ps_if (pt_cmpR op_gt (pe_ix ix_list (pv 0) pe_int (fun _ _ => rfl)) pe_int (nomark _))
        (pss_cons (ps_asg (pe_callB call_divmod (by rfl) n.divmod (by decide +kernel) (pa_cons (pe_ix ix_list (pv 0) pe_int (fun _ _ => rfl)) (pa_cons (pv 1) pa_nil)))
            (pg_tup rfl (pgs_cons (pg_sub (pv 0) pe_int set_list) (pgs_cons (pg_name (i := 2) N rfl (.inl rfl)) pgs_nil))))
          (pss_one (ps_ret (pv 2)))) pss_nil)
      (pss_cons (ps_asg (pe_op op_mod (pe_callTy call_int1 (by rfl) n.int (by decide +kernel) (pa_cons (pe_op op_add (pe_op op_mul (pe_ix ix_list (pv 0) pe_int (fun _ _ => rfl)) pe_int) pe_int) pa_nil)) pe_int) (pg_sub (pv 0) pe_int set_list))
      (pss_one (ps_ret (pe_op op_mod (pe_callTy call_int1 (by rfl) n.int (by decide +kernel) (pa_cons (pe_op op_fdiv (pe_op op_mod (pe_callTy call_int1 (by rfl) n.int (by decide +kernel) (pa_cons
        (pe_op op_mul (pe_ix ix_list (pv 0) pe_int (fun _ _ => rfl)) (pe_ix ix_list (pv 0) pe_int (fun _ _ => rfl))) pa_nil)) pe_int) pe_int) pa_nil)) (pv 1))))), ?_⟩
    refine ⟨_, rfl, p, _, _, _, rfl, rfl, .inl (.inl hp), rfl, _, _, rfl, rfl, decide (a > 0), rfl, ?_⟩
    by_cases ha : a > 0
    · rw [decide_eq_true ha]
      refine iteT ?_
      refine ⟨_, rfl, p, _, _, _, rfl, rfl, .inl (.inl hp), rfl, _, rfl, _, _, rfl, ⟨by omega, by omega⟩, fun t ht => ?_⟩
      have hpt : upd H t (.tup [.int (a / m), .int (a % m)]) p = some (.lst [.int a, .int b]) := same_upd ht _ _ hp
      refine ⟨t, _, rfl, .inl (.inl upd_same), rfl, ?_⟩
      refine ⟨_, _, rfl, _, rfl, p, _, _, 0, rfl, rfl, hpt, rfl, _, _, rfl, rfl, ?_⟩
      refine ⟨_, rfl, q _ _ (Int.emod_nonneg _ (by omega)) (Int.emod_lt_of_pos _ (by omega)) ⟨_, _, upd_same, Int.ediv_nonneg a0 (by omega), b0, bu⟩ ?_⟩
      intro c o ne e
      rw [upd_ne ne]
      exact same_upd ht _ _ e
    · rw [decide_eq_false ha]
      refine iteF ?_
      refine ⟨_, rfl, p, _, _, _, rfl, rfl, .inl (.inl hp), rfl, _, _, rfl, rfl, .inr (by decide), _, _, rfl, rfl, .inl ⟨_, rfl, _, _, rfl, rfl, (by show (0 : Int) < 2147483587; decide), ?_⟩⟩
      refine ⟨_, rfl, p, _, _, 1, rfl, rfl, hp, rfl, ?_⟩
      have c0 : 0 ≤ (b * 39373 + 47) % 2147483587 := by omega
      have cu : (b * 39373 + 47) % 2147483587 < 2147483587 := by omega
      have hc : upd H p (.lst ([V.int a, V.int b].set 1 ((fun i j => V.int (i % j)) (b * 39373 + 47) 2147483587))) p = some (.lst [.int a, .int ((b * 39373 + 47) % 2147483587)]) := upd_same
      refine ⟨_, rfl, p, _, _, _, rfl, rfl, .inl (.inl hc), rfl, _, rfl, p, _, _, _, rfl, rfl, .inl (.inl hc), rfl, _, _, rfl, rfl, .inl ⟨by omega, by omega⟩, ?_⟩
      refine .inl ⟨_, rfl, _, _, rfl, rfl, (by show (0 : Int) < 2147483563; decide), _, _, rfl, rfl, ⟨by decide, by decide⟩, .inl ⟨_, rfl, _, rfl, _, _, rfl, rfl, (by show (0 : Int) < m; omega), ?_⟩⟩
      refine q _ _ (Int.emod_nonneg _ (by omega)) (Int.emod_lt_of_pos _ (by omega)) ⟨_, _, hc, a0, c0, cu⟩ ?_
      intro k o ne e
      rw [upd_ne ne]
      exact e
end
end L2.K21
end

section
set_option Elab.async false
set_option linter.all false
set_option maxRecDepth 100000
set_option maxHeartbeats 4000000
namespace L2.K21
open PySem PySem.Spec PyProof.Rows L2.Gd
section
variable {P : Program} {w : World} {K : PySem.W.Frag} {mg : Str → Option Value} {base : Heap} {C : Addr}
theorem ButD.refl {D : Addr} {H : Hp} : ButD D H H := fun _ _ _ e => e
theorem ButD.trans {D : Addr} {H1 H2 H3 : Hp} (a : ButD D H1 H2) (b : ButD D H2 H3) : ButD D H1 H3 := fun c o ne e => b c o ne (a c o ne e)
theorem Same.but {D : Addr} {H1 H2 : Hp} (a : Same H1 H2) : ButD D H1 H2 := fun c o _ e => a c o e
/-- tuples stay, the pot is a list -/
theorem pot_ne {H : Hp} {p t : Addr} {xs : List V} (hp : PotAt H p) (ht : H t = some (.tup xs)) : t ≠ p := by
  rintro rfl
  obtain ⟨a, b, e, _⟩ := hp
  rw [ht] at e
  exact nomatch e
theorem DdAll.pot {H H' : Hp} {p : Addr} {vs : List V} {ds : List Dd} (hp : PotAt H p) (b : ButD p H H') (h : DdAll H vs ds) : DdAll H' vs ds :=
  Paired.mapP h fun _ _ ⟨t, e, q⟩ => ⟨t, e, b _ _ (pot_ne hp q) q⟩

/-! ### deeds of the pot -/
abbrev sDeeds : Stmt := top 26
def spDeedsL : Sp := fun vs H Q _ => ∃ (p : Addr) (m : Int) (k : Nat), vs = [.ref p, .int m, .int k, .bl true] ∧ PotAt H p ∧ 1 ≤ m ∧ m ≤ 100 ∧ k ≤ 60 ∧
  ∀ l xs ds H', H l = none → H' l = some (.lst xs) → PotAt H' p → ButD p H H' → DdAll H' xs ds → (∀ d ∈ ds, d.Ok m) → ds.Nodup → ds.length ≤ k → Q (.ref l) H'
def NDe : List Str := ["_law_pot_here", "_law_places", "_law_many", "_law_has_empty", "_law_found", "_law_turn", "_law_place", "_law_goal", "_law_deed"]
theorem scDs : FnScope NDe ["_law_pot_here", "_law_places", "_law_many", "_law_has_empty"] (defScope sDeeds) := ⟨rfl, rfl, rfl, by decide +kernel, rfl, by decide +kernel, by decide +kernel⟩
theorem ok_deedsL {f : Addr} {fd : FuncData} (F : Fun K "_law_deeds" "_law_deeds" sDeeds f fd) (n : Nm mg) (GD : Fn P w K mg base 1 "_law_draw" ["_law_pot_here", "_law_many"] spDraw) :
    FnOk P w K mg base CX0 2 f fd ["_law_pot_here", "_law_places", "_law_many", "_law_has_empty"] spDeedsL := by
  refine F.ok scDs (fun vs H Q E h => ?_) (fun cdv A outer s H vs Q E hr h => ?_)
  · obtain ⟨p, m, k, rfl, _⟩ := h
    rfl
  · obtain ⟨p, m, k, rfl, hp, m1, mu, ku, q⟩ := h
    have N := scDs.nd
    refine ⟨_, pss_cons (ps_set (i := 4) N rfl (.inl rfl) (pe_lst pa_nil))
      (pss_cons (ps_for PassesOwn.never rfl (pi_range1 (by rfl) n.range (pa_cons (pv 2) pa_nil)) (pg_name (i := 5) N rfl (.inl rfl))
        (pss_cons (ps_par (i := 6) (j := 7) rfl N rfl rfl (by decide) rfl rfl (pa_cons (pe_fn GD hr (pa_cons (pv 0) (pa_cons (pv 1) pa_nil))) (pa_cons (pe_fn GD hr (pa_cons (pv 0) (pa_cons (pv 1) pa_nil))) pa_nil)) (by rfl))
        (pss_cons (ps_set (i := 8) N rfl (.inl rfl) (pe_tup (pa_cons (pv 6) (pa_cons (pe_op op_sub (pe_fn GD hr (pa_cons (pv 0) (pa_cons pe_int pa_nil))) pe_int) (pa_cons (pv 7) (pa_cons pe_str pa_nil))))))
        (pss_cons (ps_if (pw_and (pt_val (pv 3)) (pw_and1 (pt_cmpR op_eq (pe_fn GD hr (pa_cons (pv 0) (pa_cons pe_int pa_nil))) pe_int (nomark _)))).pt
          (pss_one (ps_set (i := 8) N rfl (.inl rfl) (pe_tup (pa_cons (pv 6) (pa_cons (pe_fn GD hr (pa_cons (pv 0) (pa_cons pe_int pa_nil))) (pa_cons (pv 7) (pa_cons pe_str pa_nil))))))) pss_nil)
        (pss_one (ps_if (pt_cmpR (op_notInD (hu65 hr)) (pv 8) (pv 4) (by rfl))
          (pss_one (ps_expr (pe_bm PySem.F.plainAttrs_list PySem.F.slot_list_append PySem.F.type_list_append mt_append (pv 4) (pa_cons (pv 8) pa_nil)))) pss_nil))))))
      (pss_one (ps_ret (pv 4)))), ?_⟩
    refine ⟨(by show 0 ≤ sizeLine; decide), fun l hl => ?_⟩
    have nlp : l ≠ p := by
      rintro rfl
      obtain ⟨a, b, e, _⟩ := hp
      rw [hl] at e
      exact nomatch e
    refine ⟨_, rfl, k, rfl, by omega, by omega, for_range (lo := 0) (n := (k : Int).toNat) (fun i σ H2 => ∃ (a5 a6 a7 a8 : Option V) (xs : List V) (ds : List Dd),
      σ = [some (.ref p), some (.int m), some (.int k), some (.bl true), some (.ref l), a5, a6, a7, a8] ∧ PotAt H2 p ∧ ButD p H H2 ∧ H2 l = some (.lst xs) ∧ DdAll H2 xs ds ∧ (∀ d ∈ ds, d.Ok m) ∧ ds.Nodup ∧ ds.length ≤ i)
      ⟨none, none, none, none, [], [], rfl, hp.same (same_upd hl), Same.but (same_upd hl), upd_same, .nil, (by simp), List.nodup_nil, Nat.le_refl _⟩ ?_ ?_⟩
    · rintro i σ H2 hi ⟨a5, a6, a7, a8, xs, ds, rfl, hp2, b2, hl2, dd, ok, nd, len⟩
      refine ⟨_, rfl, _, rfl, p, m, rfl, hp2, m1, by omega, fun pl H3 pl0 pln hp3 b3 => ?_⟩
      refine ⟨_, rfl, _, rfl, p, m, rfl, hp3, m1, by omega, fun gl H4 gl0 gln hp4 b4 => ⟨_, _, rfl, ?_⟩⟩
      refine ⟨_, rfl, _, rfl, p, 3, rfl, hp4, by decide, by decide, fun ch H5 c0 cn hp5 b5 => ⟨_, _, rfl, rfl, _, rfl, (by show 4 ≤ sizeLine; decide), fun t1 ht1 => ?_⟩⟩
      have s5 := same_upd (o := .tup [.int pl, .int (ch - 1), .int gl, .str "any"]) ht1
      have hp6 := hp5.same s5
      refine ⟨_, rfl, true, rfl, iteT ?_⟩
      refine ⟨_, rfl, p, 4, rfl, hp6, by decide, by decide, fun z H7 z0 zn hp7 b7 => ?_⟩
      have b27 : ButD p H2 H7 := ButD.trans b3 (ButD.trans b4 (ButD.trans b5 (ButD.trans (Same.but s5) b7)))
      have ht7 : H7 t1 = some (.tup [.int pl, .int (ch - 1), .int gl, .str "any"]) := b7 _ _ (pot_ne hp6 upd_same) upd_same
      refine ⟨rfl, decide (V.int z = V.int 0), rfl, ?_⟩
      have e1 : Dd.vs ⟨pl, ch - 1, gl, "any"⟩ = [.int pl, .int (ch - 1), .int gl, .str "any"] := rfl
      by_cases hz : z = 0
      · subst hz
        rw [decide_eq_true rfl]
        refine iteT ?_
        refine ⟨_, rfl, _, rfl, p, 2, rfl, hp7, by decide, by decide, fun c2 H9 c20 c2n hp9 b9 => ⟨_, rfl, (by show 4 ≤ sizeLine; decide), fun t2 ht2 => ?_⟩⟩
        have s9 := same_upd (o := .tup [.int pl, .int c2, .int gl, .str "empty"]) ht2
        have e2 : Dd.vs ⟨pl, c2, gl, "empty"⟩ = [.int pl, .int c2, .int gl, .str "empty"] := rfl
        have okd : Dd.Ok m ⟨pl, c2, gl, "empty"⟩ := ⟨pl0, pln, gl0, gln, .inr ⟨rfl, c20, by show c2 ≤ 1; omega⟩⟩
        have hpn := hp9.same s9
        have bn : ButD p H2 _ := ButD.trans b27 (ButD.trans b9 (Same.but s9))
        have htn : (upd H9 t2 (.tup [.int pl, .int c2, .int gl, .str "empty"])) t2 = some (.tup (Dd.vs ⟨pl, c2, gl, "empty"⟩)) := upd_same
        generalize upd H9 t2 (.tup [.int pl, .int c2, .int gl, .str "empty"]) = Hn at hpn bn htn ⊢
        clear e1 e2
        generalize (⟨pl, c2, gl, "empty"⟩ : Dd) = dn at okd htn ⊢
        have hln := bn _ _ nlp hl2
        have ddn := DdAll.pot hp2 bn dd
        refine ⟨_, rfl, _, rfl, dn.d, ds.map Dd.d, DdAt.dp ⟨_, rfl, htn⟩, .lst (.inl (.inl hln)) ddn.dps, Dd.shaped okd.wd, shapedL (fun x hx => (ok x hx).wd), _, rfl, ?_⟩
        rw [any_in]
        by_cases hin : dn ∈ ds
        · rw [decide_eq_true hin]
          refine iteF ?_
          exact ⟨_, _, _, _, xs, ds, rfl, hpn, ButD.trans b2 bn, hln, ddn, ok, nd, Nat.le_succ_of_le len⟩
        · rw [decide_eq_false hin]
          refine iteT ?_
          have xl := Paired.length ddn
          refine ⟨_, rfl, .inl ⟨rfl, _, .inl (.inl hln)⟩, _, rfl, l, _, _, rfl, rfl, hln, by rw [sizeLine_eq]; omega, ?_⟩
          refine ⟨_, _, _, _, xs ++ [.ref t2], ds ++ [dn], rfl, ?_, ?_, upd_same, ?_, ?_, ?_, by simp; omega⟩
          · obtain ⟨a, b, e, r⟩ := hpn
            exact ⟨a, b, by rw [upd_ne nlp.symm]; exact e, r⟩
          · intro c o ne e
            rw [upd_ne (ne_of_none e hl)]
            exact bn _ _ ne (b2 _ _ ne e)
          · have st : ∀ {y d}, DdAt Hn y d → DdAt (upd Hn l (.lst (xs ++ [.ref t2]))) y d := fun {y d} ⟨t, e, q⟩ => ⟨t, e, by
              rw [upd_ne (fun z => by subst z; rw [hln] at q; exact nomatch q)]
              exact q⟩
            exact PySem.Paired.snoc (Paired.mapP ddn fun _ _ q => st q) (st ⟨_, rfl, htn⟩)
          · intro d hd
            rcases List.mem_append.mp hd with hd | hd
            · exact ok d hd
            · rw [List.mem_singleton.mp hd]
              exact okd
          · rw [List.nodup_append]
            exact ⟨nd, by simp, fun a ha b hb => by rw [List.mem_singleton.mp hb]; exact fun z => hin (z ▸ ha)⟩
      · have okd : Dd.Ok m ⟨pl, ch - 1, gl, "any"⟩ := ⟨pl0, pln, gl0, gln, .inl ⟨rfl, by show -1 ≤ ch - 1; omega, by show ch - 1 ≤ 1; omega⟩⟩
        rw [decide_eq_false (by simpa using hz)]
        refine iteF ?_
        have htn : H7 t1 = some (.tup (Dd.vs ⟨pl, ch - 1, gl, "any"⟩)) := ht7
        have hpn := hp7
        have bn := b27
        generalize H7 = Hn at hpn bn htn ⊢
        clear e1
        generalize (⟨pl, ch - 1, gl, "any"⟩ : Dd) = dn at okd htn ⊢
        have hln := bn _ _ nlp hl2
        have ddn := DdAll.pot hp2 bn dd
        refine ⟨_, rfl, _, rfl, dn.d, ds.map Dd.d, DdAt.dp ⟨_, rfl, htn⟩, .lst (.inl (.inl hln)) ddn.dps, Dd.shaped okd.wd, shapedL (fun x hx => (ok x hx).wd), _, rfl, ?_⟩
        rw [any_in]
        by_cases hin : dn ∈ ds
        · rw [decide_eq_true hin]
          refine iteF ?_
          exact ⟨_, _, _, _, xs, ds, rfl, hpn, ButD.trans b2 bn, hln, ddn, ok, nd, Nat.le_succ_of_le len⟩
        · rw [decide_eq_false hin]
          refine iteT ?_
          have xl := Paired.length ddn
          refine ⟨_, rfl, .inl ⟨rfl, _, .inl (.inl hln)⟩, _, rfl, l, _, _, rfl, rfl, hln, by rw [sizeLine_eq]; omega, ?_⟩
          refine ⟨_, _, _, _, xs ++ [.ref t1], ds ++ [dn], rfl, ?_, ?_, upd_same, ?_, ?_, ?_, by simp; omega⟩
          · obtain ⟨a, b, e, r⟩ := hpn
            exact ⟨a, b, by rw [upd_ne nlp.symm]; exact e, r⟩
          · intro c o ne e
            rw [upd_ne (ne_of_none e hl)]
            exact bn _ _ ne (b2 _ _ ne e)
          · have st : ∀ {y d}, DdAt Hn y d → DdAt (upd Hn l (.lst (xs ++ [.ref t1]))) y d := fun {y d} ⟨t, e, q⟩ => ⟨t, e, by
              rw [upd_ne (fun z => by subst z; rw [hln] at q; exact nomatch q)]
              exact q⟩
            exact PySem.Paired.snoc (Paired.mapP ddn fun _ _ q => st q) (st ⟨_, rfl, htn⟩)
          · intro d hd
            rcases List.mem_append.mp hd with hd | hd
            · exact ok d hd
            · rw [List.mem_singleton.mp hd]
              exact okd
          · rw [List.nodup_append]
            exact ⟨nd, by simp, fun a ha b hb => by rw [List.mem_singleton.mp hb]; exact fun z => hin (z ▸ ha)⟩
    · rintro σ H2 ⟨a5, a6, a7, a8, xs, ds, rfl, hp2, b2, hl2, dd, ok, nd, len⟩
      have hlk : ds.length ≤ k := by omega
      exact ⟨_, rfl, q l xs ds H2 hl hl2 hp2 b2 dd ok nd hlk⟩

/-! ### a list in another sequence -/
abbrev sMixed : Stmt := top 27
def spMixed : Sp := fun vs H Q _ => ∃ (p a : Addr) (ns : List Int), vs = [.ref p, .ref a] ∧ PotAt H p ∧ H a = some (.lst (ns.map V.int)) ∧ ns.length ≤ 100 ∧
  ∀ (l : Addr) (os : List Int) (H' : Hp), H l = none → H' l = some (.lst (os.map V.int)) → os.Perm ns → PotAt H' p → ButD p H H' → Q (.ref l) H'
theorem scMx : FnScope ["_law_pot_here", "_law_some", "_law_left", "_law_found", "_law_turn"] ["_law_pot_here", "_law_some"] (defScope sMixed) := ⟨rfl, rfl, rfl, by decide +kernel, rfl, by decide +kernel, by decide +kernel⟩
theorem seqIndex_nat {i n : Nat} (h : i < n) : seqIndex? (i : Int) n = some i := by
  have e := (atI_get (atI_nat (xs := List.range n) (j := i) (v := i) (by rw [List.getElem?_range h])))
  obtain ⟨j, h1, h2, h3, _⟩ := e
  rw [List.length_range] at h1 h3
  rw [List.getElem?_range h3] at h2
  rw [h1, Option.some.inj h2]
theorem pick_perm : ∀ {rest : List Int} {k : Nat} {x : Int}, rest[k]? = some x → (x :: rest.eraseIdx k).Perm rest
  | [], k, x, h => by simp at h
  | y :: r, 0, x, h => by
    simp at h
    subst h
    exact List.Perm.refl _
  | y :: r, k + 1, x, h => (List.Perm.swap y x _).trans (List.Perm.cons y (pick_perm (by simpa using h)))
theorem erase_map {α β : Type} (f : α → β) : ∀ (l : List α) (k : Nat), (l.map f).eraseIdx k = (l.eraseIdx k).map f
  | [], _ => rfl
  | _ :: _, 0 => rfl
  | x :: r, k + 1 => congrArg (f x :: ·) (erase_map f r k)
theorem perm_pick {os rest : List Int} {k : Nat} {x : Int} (h : rest[k]? = some x) : ((os ++ [x]) ++ rest.eraseIdx k).Perm (os ++ rest) := by
  rw [List.append_assoc]
  exact List.Perm.append_left os (pick_perm h)
theorem ok_mixed {f : Addr} {fd : FuncData} (F : Fun K "_law_mixed" "_law_mixed" sMixed f fd) (n : Nm mg) (GD : Fn P w K mg base 1 "_law_draw" ["_law_pot_here", "_law_many"] spDraw) :
    FnOk P w K mg base CX0 2 f fd ["_law_pot_here", "_law_some"] spMixed := by
  refine F.ok scMx (fun vs H Q E h => ?_) (fun cdv A outer s H vs Q E hr h => ?_)
  · obtain ⟨p, a, ns, rfl, _⟩ := h
    rfl
  · obtain ⟨p, a, ns, rfl, hp, ha, hz, q⟩ := h
    have N := scMx.nd
    refine ⟨_, pss_cons (ps_par (i := 2) (j := 3) rfl N rfl rfl (by decide) rfl rfl (pa_cons (pe_callTy call_list_of (by rfl) n.list (by decide +kernel) (pa_cons (pv 1) pa_nil)) (pa_cons (pe_lst pa_nil) pa_nil)) (by rfl))
      (pss_cons (ps_for PassesOwn.never rfl (pi_range1 (by rfl) n.range (pa_cons (pe_callB call_len_seq (by rfl) n.len PySem.boot_len (pa_cons (pv 2) pa_nil)) pa_nil)) (pg_name (i := 4) N rfl (.inl rfl))
        (pss_one (ps_expr (pe_bm PySem.F.plainAttrs_list PySem.F.slot_list_append PySem.F.type_list_append mt_append (pv 3) (pa_cons
          (pe_bm PySem.F.plainAttrs_list PySem.F.slot_list_pop PySem.F.type_list_pop mt_popAt (pv 2) (pa_cons (pe_fn GD hr (pa_cons (pv 0) (pa_cons (pe_callB call_len_seq (by rfl) n.len PySem.boot_len (pa_cons (pv 2) pa_nil)) pa_nil))) pa_nil)) pa_nil)))))
      (pss_one (ps_ret (pv 3)))), ?_⟩
    refine ⟨_, rfl, a, _, rfl, .inl (.inl (.inl ha)), fun l hl => ?_⟩
    have s1 := same_upd (o := .lst (ns.map V.int)) hl
    refine ⟨(by show 0 ≤ sizeLine; decide), fun r hr2 => ⟨_, _, rfl, ?_⟩⟩
    have s2 := same_upd (o := .lst []) hr2
    have sa := s1.trans s2
    have npot : ∀ {x : Addr}, H x = none → x ≠ p := by
      rintro x hx rfl
      obtain ⟨a, b, e, _⟩ := hp
      rw [hx] at e
      exact nomatch e
    have nl := npot hl
    have nr := npot (s1.free hr2)
    have nlr : l ≠ r := ne_of_none upd_same hr2
    have hr0 : H r = none := s1.free hr2
    refine ⟨_, rfl, l, _, rfl, .inl (.inl (.inl (s2 _ _ upd_same))), ns.length, by rw [List.length_map], by omega, by omega, ?_⟩
    refine for_range (lo := 0) (n := (ns.length : Int).toNat) (fun i σ H2 => ∃ (a4 : Option V) (rest os : List Int),
      σ = [some (.ref p), some (.ref a), some (.ref l), some (.ref r), a4] ∧ PotAt H2 p ∧ ButD p H H2 ∧ H2 l = some (.lst (rest.map V.int)) ∧ H2 r = some (.lst (os.map V.int)) ∧ (os ++ rest).Perm ns ∧ rest.length + i = ns.length)
      ⟨none, ns, [], rfl, hp.same sa, Same.but sa, s2 _ _ upd_same, upd_same, List.Perm.refl _, rfl⟩ ?_ ?_
    · rintro i σ H2 hi ⟨a4, rest, os, rfl, hp2, b2, hl2, hr2', pm, len⟩
      have il : i < ns.length := by omega
      refine ⟨_, rfl, .inl ⟨rfl, _, .inl (.inl hr2')⟩, ?_⟩
      refine ⟨_, rfl, .inl ⟨rfl, _, .inl (.inl hl2)⟩, ?_⟩
      refine ⟨_, rfl, _, rfl, l, _, rfl, .inl (.inl (.inl hl2)), p, (rest.length : Int), by rw [List.length_map]; rfl, hp2, by omega, by omega, fun d H3 d0 dn hp3 b3 => ?_⟩
      obtain ⟨k, rfl⟩ : ∃ k : Nat, d = k := ⟨d.toNat, by omega⟩
      have hk : k < rest.length := by omega
      have hl3 := b3 _ _ nl hl2
      have hr3 := b3 _ _ nr hr2'
      refine ⟨l, _, _, k, .int rest[k], rfl, rfl, hl3, by omega, by omega, by rw [List.length_map]; exact seqIndex_nat hk, by rw [List.getElem?_map, List.getElem?_eq_getElem hk]; rfl, ?_⟩
      refine ⟨r, _, _, rfl, rfl, by rw [upd_ne nlr.symm]; exact hr3, ?_, ?_⟩
      · rw [List.length_map, sizeLine_eq]
        have := pm.length_eq
        rw [List.length_append] at this
        omega
      · refine ⟨_, rest.eraseIdx k, os ++ [rest[k]], rfl, ?_, ?_, ?_, ?_, ?_, ?_⟩
        · obtain ⟨x, y, e, z⟩ := hp3
          exact ⟨x, y, by rw [upd_ne nr.symm, upd_ne nl.symm]; exact e, z⟩
        · intro c o ne e
          rw [upd_ne (ne_of_none e hr0), upd_ne (ne_of_none e hl)]
          exact b3 _ _ ne (b2 _ _ ne e)
        · rw [upd_ne nlr, upd_same, erase_map]
        · rw [upd_same, List.map_append]
          rfl
        · exact (perm_pick (List.getElem?_eq_getElem hk)).trans pm
        · rw [List.length_eraseIdx_of_lt hk]
          omega
    · rintro σ H2 ⟨a4, rest, os, rfl, hp2, b2, hl2, hr2', pm, len⟩
      have e : rest = [] := List.eq_nil_of_length_eq_zero (by omega)
      subst e
      rw [List.append_nil] at pm
      exact ⟨_, rfl, q r os H2 hr0 hr2' pm hp2 b2⟩
end
end L2.K21
end

section
set_option Elab.async false
set_option linter.all false
set_option maxRecDepth 100000
set_option maxHeartbeats 4000000
namespace L2.K21
open PySem PySem.Spec PyProof.Rows L2.Gd
theorem make_any {K : PySem.W.Frag} {C : Addr} {R : Addr → VK} {H : Hp} {a : Addr} {m : Int} {xs : List V} {ds : List Dd} {E : XK} (hs : Seq K H a xs) (hd : DdAll H xs ds) (wf : WF m ds)
    (k : ∀ (x l : Addr) (H' : Hp), H x = none → H l = none → Same H H' → HouseL C H' x l m xs ds → R x .non H') :
    ∀ x dx, H x = none → H dx = none → dx ≠ x → spInit K C (.ref x :: ([.int m, .ref a] ++ [])) (upd (upd H dx (.own x)) x (.ins C dx [])) (R x) E := by
  intro x dx nx ndx ne
  have s0 : Same H (upd (upd H dx (.own x)) x (.ins C dx [])) := fun b o e => by
    rw [upd_ne (ne_of_none e nx), upd_ne (ne_of_none e ndx)]
    exact e
  refine ⟨x, dx, a, m, xs, ds, rfl, upd_same, hs.same s0, hd.same s0, wf, fun l H' nl hx hl kp => ?_⟩
  have s1 : Same H H' := fun b o e => kp b o (ne_of_none e nx) (s0 b o e)
  exact k x l H' nx (s0.free nl) s1 ⟨⟨dx, hx⟩, hl, hd.same s1⟩
/-- a method -/
structure MeH (P : Program) (w : World) (K : PySem.W.Frag) (mg : Str → Option Value) (base : Heap) (C : Addr) (x : Str) (k : Nat) (ps : List Str) (sp : Sp) : Prop where
  ex : ∃ f fd, Meth K C x f ∧ Binds K fd ps [] ∧ FnOk P w K mg base CX0 k f fd ps sp
section
variable {X : Cx} {C : Addr} {x : Str} {k : Nat} {ps : List Str} {sp : Sp} {o : Expr} {ta : TE} {apos pos : Pos}
theorem pe_mH0 {pl : Sem Bool} (M : MeH X.prog X.w X.K X.mg X.base C x k ps sp) (T : ClsT X.K X.mg C) (hr : Room k X.A) (he : PE X o ta)
    (ht : eval (.Call (.Attribute o x apos) [] [] pos) X.env = (do
      let ov ← eval o X.env
      standAt apos.atName
      let (f, first) ← holding [ov] (getMethod ov x pl)
      callWith pos f first (backTo pos (starEach [] X.env)) (backToKw pos (keywordEach [] X.env))) := by rfl) :
    PE X (.Call (.Attribute o x apos) [] [] pos) (tMeth C x sp [] E0 ta tNil) := by
  obtain ⟨f, fd, hm, b, F⟩ := M.ex
  exact pe_meth0 he T.isc.cl hm F hr b .nil pass0 ht
end
section
variable {X : Cx} {C : Addr} {x : Str} {k : Nat} {ps : List Str} {sp : Sp} {o e : Expr} {es : List Expr} {ta : TE} {t : TA} {apos pos : Pos}
theorem pe_mH {pl : Sem Bool} (M : MeH X.prog X.w X.K X.mg X.base C x k ps sp) (T : ClsT X.K X.mg C) (hr : Room k X.A) (he : PE X o ta) (ha : PA X (e :: es) t)
    (hst : starEach (e :: es) X.env = (false, eval e X.env) :: starEach es X.env := by rfl) (hpl : (backTo pos (starEach es X.env)).any (·.1) = false := by rfl)
    (ht : eval (.Call (.Attribute o x apos) (e :: es) [] pos) X.env = (do
      let ov ← eval o X.env
      standAt apos.atName
      let (f, first) ← holding [ov] (getMethod ov x pl)
      callWith pos f first (backTo pos (starEach (e :: es) X.env)) (backToKw pos (keywordEach [] X.env))) := by rfl) :
    PE X (.Call (.Attribute o x apos) (e :: es) [] pos) (tMeth C x sp [] E0 ta t) := by
  obtain ⟨f, fd, hm, b, F⟩ := M.ex
  exact pe_meth he T.isc.cl hm F hr b .nil pass0 ha hst hpl ht
end
/-- == of two houses -/
structure EqH (P : Program) (w : World) (K : PySem.W.Frag) (mg : Str → Option Value) (base : Heap) (C : Addr) : Prop where
  ex : ∃ f fd N, PySem.W.findIn K (.ref C) "__eq__" = some (some (.ref f)) ∧ PySem.W.isFn K (.ref f) = true ∧ Binds K fd ["self", "other"] [] ∧ Fun K "__eq__" "House.__eq__" (cHouse 5) f fd ∧ NeC K C f N
structure LenH (P : Program) (w : World) (K : PySem.W.Frag) (mg : Str → Option Value) (base : Heap) (C : Addr) : Prop where
  ex : ∃ f fd, PySem.W.findIn K (.ref C) "__len__" = some (some (.ref f)) ∧ PySem.W.isFn K (.ref f) = true ∧ Binds K fd ["self"] [] ∧ FnOk P w K mg base CX0 1 f fd ["self"] (spLen C)
structure ReH (P : Program) (w : World) (K : PySem.W.Frag) (mg : Str → Option Value) (base : Heap) (C : Addr) : Prop where
  ex : ∃ f fd N, ReC K C f N ∧ Binds K fd ["self"] [] ∧ FnG P w K mg base 1 f fd ["self"] (spRepr C)
/-- all that is known of houses -/
structure HK (P : Program) (w : World) (K : PySem.W.Frag) (mg : Str → Option Value) (base : Heap) (C : Addr) : Prop where
  n : Nm mg
  T : ClsT K mg C
  kit : KitH K C
  nk : NoKin K C
  M : MkH P w K mg base C
  pl : PrH P w K mg base C "places" (spPlaces C)
  ip : PrH P w K mg base C "is_plain" (spPlain C)
  de : MeH P w K mg base C "deeds" 1 ["self"] (spDeeds C)
  len : LenH P w K mg base C
  eq : EqH P w K mg base C
  re : ReH P w K mg base C
  wi : MeH P w K mg base C "with_deed" 7 ["self", "deed"] (spWith C)
  wo : MeH P w K mg base C "without_deed" 7 ["self", "position"] (spWout C)
  rn : MeH P w K mg base C "renumbered" 7 ["self", "order"] (spRen C)
  be : MeH P w K mg base C "beside" 7 ["self", "other"] (spBes C)
  pn : MeH P w K mg base C "plain" 7 ["self"] (spPln C)
  tn : MeH P w K mg base C "turned" 7 ["self"] (spTrn C)
section
variable {X : Cx} {C : Addr}
theorem call_lenH (L : LenH X.prog X.w X.K X.mg X.base C) (hr : Room 2 X.A) : CallR X (.builtin "len") (fun xs H Q => ∃ (h l : Addr) (m : Int) (ys : List V) (ds : List Dd), xs = [.ref h] ∧ HouseL C H h l m ys ds ∧ ds.length ≤ 60 ∧ Q (.int ds.length) H) := by
  obtain ⟨f, fd, hs, hf, b, F⟩ := L.ex
  rintro pins s σ H xs us Q I r ⟨h, l, m, ys, ds, rfl, hh, h60, q⟩
  obtain ⟨dx, ob⟩ := hh.ob
  exact call_lenOwn hr F b hs hf pins s σ H _ us Q I r ⟨h, dx, _, rfl, ob, h, l, m, ys, ds, rfl, hh, ⟨ds.length, rfl, by omega⟩, q⟩
theorem call_reH (R : ReH X.prog X.w X.K X.mg X.base C) (hg : X.A.guards = some []) (hr : Room 2 X.A) :
    CallR X (.builtin "repr") (fun xs H Q => ∃ (h l : Addr) (m : Int) (ys : List V) (ds : List Dd), xs = [.ref h] ∧ HouseL C H h l m ys ds ∧ WF m ds ∧ Q (.str (rep m ds)) H) := by
  obtain ⟨f, fd, N, c, b, F⟩ := R.ex
  exact call_reprH F b c hg hr
theorem op_eqH (G : EqH X.prog X.w X.K X.mg X.base C) (n : Nm X.mg) (T : ClsT X.K X.mg C) (hr : Room 1 X.A) : OpR X (compareOp .Eq) (fun x y H Q => ∃ (a b l l' : Addr) (m m' : Int) (xs ys : List V) (ds es : List Dd),
    x = .ref a ∧ y = .ref b ∧ HouseL C H a l m xs ds ∧ HouseL C H b l' m' ys es ∧ (∀ d ∈ ds, d.Wd) ∧ (∀ d ∈ es, d.Wd) ∧ Q (.bl (decide (m = m' ∧ ds = es))) H) := by
  obtain ⟨f, fd, N, hs, hf, b, F, _⟩ := G.ex
  rintro pins s σ H x y u v Q I rx ry ⟨a, b', l, l', m, m', xs, ys, ds, es, rfl, rfl, ha, hb, wa, wb, q⟩
  obtain ⟨dx, oa⟩ := ha.ob
  obtain ⟨dy, ob⟩ := hb.ob
  exact op_eqOwn hr (ok_eq F n T) b hs hf pins s σ H _ _ u v Q I rx ry ⟨a, b', dx, dy, _, _, rfl, rfl, oa, ob, a, b', l, l', m, m', xs, ys, ds, es, rfl, ha, hb, wa, wb, ⟨_, rfl⟩, q⟩
theorem op_neH (G : EqH X.prog X.w X.K X.mg X.base C) (n : Nm X.mg) (T : ClsT X.K X.mg C) (hr : Room 2 X.A) : OpR X (compareOp .NotEq) (fun x y H Q => ∃ (a b l l' : Addr) (m m' : Int) (xs ys : List V) (ds es : List Dd),
    x = .ref a ∧ y = .ref b ∧ HouseL C H a l m xs ds ∧ HouseL C H b l' m' ys es ∧ (∀ d ∈ ds, d.Wd) ∧ (∀ d ∈ es, d.Wd) ∧ Q (.bl (!decide (m = m' ∧ ds = es))) H) := by
  obtain ⟨f, fd, N, hs, hf, b, F, ne⟩ := G.ex
  rintro pins s σ H x y u v Q I rx ry ⟨a, b', l, l', m, m', xs, ys, ds, es, rfl, rfl, ha, hb, wa, wb, q⟩
  obtain ⟨dx, oa⟩ := ha.ob
  obtain ⟨dy, ob⟩ := hb.ob
  exact op_neOwn hr (ok_eq F n T) b ne pins s σ H _ _ u v Q I rx ry ⟨a, b', dx, dy, _, _, rfl, rfl, oa, ob, a, b', l, l', m, m', xs, ys, ds, es, rfl, ha, hb, wa, wb, _, rfl, q⟩
end
end L2.K21
end

section
set_option Elab.async false
set_option linter.all false
set_option maxRecDepth 100000
set_option maxHeartbeats 4000000
namespace L2.K21
open PySem PySem.Spec PyProof.Rows L2.Gd
section
variable {P : Program} {w : World} {K : PySem.W.Frag} {mg : Str → Option Value} {base : Heap} {C : Addr}
abbrev sTells : Stmt := top 28
def spTells (C : Addr) : Sp := fun vs H Q _ => ∃ (h l a : Addr) (m : Int) (xs ys : List V) (ds : List Dd), vs = [.ref h, .int m, .ref a] ∧ HouseL C H h l m xs ds ∧ H a = some (.lst ys) ∧ DdAll H ys ds ∧ WF m ds ∧
  ∀ H', Same H H' → Q (.bl true) H'
def NTe : List Str := ["_law_house", "_law_places", "_law_deeds_here", "_law_plain", "_law_told", "_law_deed"]
theorem scTe : FnScope NTe ["_law_house", "_law_places", "_law_deeds_here"] (defScope sTells) := ⟨rfl, rfl, rfl, by decide +kernel, rfl, by decide +kernel, by decide +kernel⟩
def isEm (d : Dd) : Bool := decide (d.w = "empty")
theorem emE (d : Dd) : decide (V.str d.w = V.str "empty") = isEm d := by
  unfold isEm
  rw [Bool.eq_iff_iff]
  simp
theorem em_all {ds : List Dd} (h : ∀ d ∈ ds, d.Wd) : decide (ds.filter isEm = []) = ds.all isAny := by
  rw [Bool.eq_iff_iff, decide_eq_true_eq, List.filter_eq_nil_iff, List.all_eq_true]
  have ne : ¬ (("any" : Str) = "empty") := by decide +kernel
  refine ⟨fun q d hd => ?_, fun q d hd z => ?_⟩
  · rcases h d hd with e | e
    · exact decide_eq_true e
    · exact absurd (decide_eq_true e) (q d hd)
  · have e1 : d.w = "any" := of_decide_eq_true (q d hd)
    have e2 : d.w = "empty" := of_decide_eq_true z
    exact ne (e1.symm.trans e2)
theorem rep_eq {m : Int} {ds : List Dd} : (("House(" : Str) ++ toString m ++ ", " ++ PyData.shown (.list (ds.map Dd.d)) ++ ")") = rep m ds := by
  have e : Str.empty ++ ("House(" : Str) = "House(" := by decide +kernel
  unfold rep deedsT
  rw [e]
theorem ok_tells {f : Addr} {fd : FuncData} (F : Fun K "_law_tells" "_law_tells" sTells f fd) (k : HK P w K mg base C) : FnG P w K mg base 8 f fd ["_law_house", "_law_places", "_law_deeds_here"] (spTells C) := by
  refine okG F scTe (fun vs H Q h => ?_) (fun cdv A outer s H vs Q hg hr h => ?_)
  · obtain ⟨h, l, a, m, xs, ys, ds, rfl, _⟩ := h
    rfl
  · obtain ⟨h, l, a, m, xs, ys, ds, rfl, hh, ha, dd, wf, q⟩ := h
    have N := scTe.nd
    have n := k.n
    have T := k.T
    have r1 := hr.mono (k := 7) (j := 1) (by decide)
    have r2 := hr.mono (k := 7) (j := 2) (by decide)
    have r6 := hr.mono (k := 7) (j := 6) (by decide)
    refine ⟨_, pss_cons (ps_set (i := 3) N rfl (.inl rfl) (pe_cmpR (op_eqD hr.units)
        (pe_lc (own := [("_law_deed", 5)]) (g := gName 5) rfl N (pi_list (pv 2)) (blkOk_by (N := NTe) (sc := defScope sTells) (by decide +kernel))
          (fun _ _ _ _ _ => pg_name (i := 5) N rfl (.inl rfl)) (fun _ _ _ _ _ => pts_one (pt_cmpR op_eq (pe_ix (r := rIxT K) ix_tup (pv 5) pe_int (fun _ _ => rfl)) pe_str (nomark _))) (fun _ _ _ _ _ => pv 5)) (pe_lst pa_nil) (nomark _)))
      (pss_cons (ps_if (pt_cmpR op_ne
          (pe_callB (call_reprD hg hr.units) (by rfl) n.repr (by decide +kernel) (pa_cons (pe_lst (pa_cons (pe_prH k.pl T r2 (pv 0)) (pa_cons (pe_mH0 k.de T r1 (pv 0)) (pa_cons (pe_callB (call_lenH k.len r2) (by rfl) n.len PySem.boot_len (pa_cons (pv 0) pa_nil)) (pa_cons (pe_prH k.ip T r2 (pv 0)) pa_nil))))) pa_nil))
          (pe_callB (call_reprD hg hr.units) (by rfl) n.repr (by decide +kernel) (pa_cons (pe_lst (pa_cons (pv 1) (pa_cons (pv 2) (pa_cons (pe_callB call_len_seq (by rfl) n.len PySem.boot_len (pa_cons (pv 2) pa_nil)) (pa_cons (pv 3) pa_nil))))) pa_nil)) (nomark _))
          (pss_one (ps_ret pe_bl)) pss_nil)
      (pss_cons (ps_set (i := 4) N rfl (.inl rfl) (pe_mH0 k.de T r1 (pv 0)))
      (pss_cons (ps_expr (pe_bm PySem.F.plainAttrs_list PySem.F.slot_list_append PySem.F.type_list_append mt_append (pv 4) (pa_cons pe_non pa_nil)))
      (pss_cons (ps_if (pw_or (pt_cmpR (op_neD hr.units) (pe_mH0 k.de T r1 (pv 0)) (pv 2) (nomark _))
          (pw_or1 (pt_cmpR op_ne (pe_callB (call_reH k.re hg r2) (by rfl) n.repr (by decide +kernel) (pa_cons (pv 0) pa_nil))
            (pe_op op_add_str (pe_op op_add_str (pe_op op_add_str (pe_op op_add_str pe_str (pe_callTy call_str_int (by rfl) n.str (by decide +kernel) (pa_cons (pv 1) pa_nil))) pe_str)
              (pe_callB (call_reprD hg hr.units) (by rfl) n.repr (by decide +kernel) (pa_cons (pv 2) pa_nil))) pe_str) (nomark _)))).pt (pss_one (ps_ret pe_bl)) pss_nil)
      (pss_one (ps_ret (pe_and (pe_cmpR (op_eqH k.eq n T r1) (pv 0) (pe_house k.M T r6 (pa_cons (pv 1) (pa_cons (pe_callTy call_tuple_of (by rfl) n.tuple (by decide +kernel) (pa_cons (pv 2) pa_nil)) pa_nil))) (nomark _))
        (pe_one (pe_cmpR (op_eqH k.eq n T r1) (pe_house k.M T r6 (pa_cons (pv 1) (pa_cons (pv 2) pa_nil))) (pv 0) (nomark _)))))))))), ?_⟩
    obtain ⟨dx, ob⟩ := hh.ob
    have wd := wf.wd
    have yl : ys.length = ds.length := Paired.length dd
    have h60 := wf.len
    have sl := sizeLine_eq
    refine ⟨_, rfl, a, rfl, ⟨ys, .inl (.inl ha)⟩, fun D hD => ?_⟩
    refine lc_mapL (es := ds) (F := DdAt) (G := DdAt) (f := keepD isEm) (stabD D) ha hD (by omega) dd ?_ ?_
    · rintro x e H2 A B he ⟨t, rfl, ht⟩ b ⟨zs, hz⟩ hA hB
      have ht2 := b.new hD _ _ ht
      refine ⟨rfl, _, rfl, _, _, _, _, rfl, rfl, .inl (.inl ht2), rfl, rfl, isEm e, congrArg V.bl (emE e), ?_⟩
      cases q : isEm e with
      | true => exact iteT ⟨_, rfl, hA e _ H2 (if_pos q) (fun _ _ z => z) ⟨t, rfl, ht2⟩⟩
      | false => exact iteF (hB H2 (if_neg (by rw [q]; decide)) fun _ _ z => z)
    intro zs H2 h1 h2 h3
    rw [keepD_filter] at h2
    have s2 : Same H H2 := h3.new hD
    refine ⟨(by show 0 ≤ sizeLine; decide), fun e he => ?_⟩
    have s3 : Same H2 (upd H2 e (.lst [])) := same_upd he
    have e3 : PyData.eqv (.list ((ds.filter isEm).map Dd.d)) (.list (([] : List Dd).map Dd.d)) = ds.all isAny := by
      simp only [PyData.eqv, eqvs]
      exact em_all wd
    refine ⟨.list ((ds.filter isEm).map Dd.d), .list (([] : List Dd).map Dd.d), .lst (.inl (.inl (s3 _ _ h1))) (DdAll.dps (DdAll.same s3 h2)), .lst (.inl (.inl upd_same)) .nil, shapedL (fun x hx => wd x (List.mem_filter.mp hx).1), shapedL (by simp), ?_⟩
    rw [e3]
    have sa := s2.trans s3
    generalize upd H2 e (.lst []) = H3 at sa
    clear s3 s2 h1 h2 h3 he e3 hD
    -- the first test
    have hh3 := hh.same sa
    have ob3 := sa _ _ ob
    have nd : ∀ x : Str, x ≠ "_deeds" → x ≠ "_places" → (flds m l).lookup x = none := fun x a b => flds_no m l a b
    refine ⟨_, rfl, h, dx, _, rfl, ob3, h, dx, l, m, rfl, ob3, ?_⟩
    refine ⟨_, rfl, h, dx, _, rfl, ob3, nd _ (by decide +kernel) (by decide +kernel), h, l, m, xs, ds, rfl, hh3, fun p hp => ?_⟩
    have s4 : Same H3 (upd H3 p (.lst xs)) := same_upd hp
    refine ⟨_, rfl, h, l, m, xs, ds, rfl, hh3.same s4, h60, ?_⟩
    refine ⟨_, rfl, h, dx, _, rfl, s4 _ _ ob3, h, l, m, xs, ds, rfl, hh3.same s4, h60, fun H5 s5 => ?_⟩
    refine ⟨(by show 4 ≤ sizeLine; decide), fun r hr5 => ?_⟩
    have s6 := same_upd (o := .lst [.int m, .ref p, .int ds.length, .bl (ds.all isAny)]) hr5
    have hp6 := s6 _ _ (s5 _ _ upd_same)
    have s36 := s4.trans (s5.trans s6)
    have s06 := sa.trans s36
    refine ⟨r, tellD m ds ds.length (ds.all isAny), rfl, .lst (.inl (.inl upd_same)) (.cons (.int _) (.cons (.lst (.inl (.inl hp6)) (hh.same s06).dd.dps) (.cons (.int _) (.cons (.bl _) .nil)))), wf.tell _, ?_⟩
    refine ⟨_, rfl, _, rfl, _, rfl, a, ys, rfl, .inl (.inl (.inl (s06 _ _ ha))), _, rfl, (by show 4 ≤ sizeLine; decide), fun r2 hr6 => ?_⟩
    have s7 := same_upd (o := .lst [.int m, .ref a, .int (ys.length : Int), .bl (ds.all isAny)]) hr6
    have s07 := s06.trans s7
    refine ⟨r2, tellD m ds ds.length (ds.all isAny), rfl, .lst (.inl (.inl upd_same)) (.cons (.int _) (.cons (.lst (.inl (.inl (s07 _ _ ha))) (DdAll.same s07 dd).dps) (.cons (by rw [yl]; exact .int _) (.cons (.bl _) .nil)))), wf.tell _, ?_⟩
    refine ⟨rfl, false, congrArg V.bl (by simp), ?_⟩
    refine iteF ?_
    have so : Same H _ := s07
    generalize upd _ r2 _ = H7 at so
    clear s7 s06 s36 hp6 s6 s5 s4 hr6 hr5 hp
    have hh7 := hh.same so
    -- what was told is changed
    refine ⟨_, rfl, h, dx, _, rfl, so _ _ ob, nd _ (by decide +kernel) (by decide +kernel), h, l, m, xs, ds, rfl, hh7, fun p hp => ?_⟩
    have s8 : Same H7 (upd H7 p (.lst xs)) := same_upd hp
    have hp8 : upd H7 p (.lst xs) p = some (.lst xs) := upd_same
    have xl := hh.lenE
    refine ⟨_, rfl, .inl ⟨rfl, _, .inl (.inl hp8)⟩, p, xs, .non, rfl, rfl, hp8, by rw [sl]; omega, ?_⟩
    have s9 : Same H7 (upd (upd H7 p (.lst xs)) p (.lst (xs ++ [.non]))) := fun b o e => by
      rw [upd_ne (ne_of_none e hp), upd_ne (ne_of_none e hp)]
      exact e
    generalize upd (upd H7 p (.lst xs)) p (.lst (xs ++ [.non])) = H9 at s9
    have sp := so.trans s9
    have hh9 := hh.same sp
    -- deeds() asked again
    refine ⟨_, rfl, h, dx, _, rfl, sp _ _ ob, nd _ (by decide +kernel) (by decide +kernel), h, l, m, xs, ds, rfl, hh9, fun p2 hp2 => ?_⟩
    have s10 := same_upd (o := .lst xs) hp2
    have sq := sp.trans s10
    have hh10 := hh.same sq
    have dd10 := DdAll.same sq dd
    refine ⟨_, rfl, _, _, .lst (.inl (.inl upd_same)) hh10.dd.dps, .lst (.inl (.inl (sq _ _ ha))) dd10.dps, shapedL wd, shapedL wd, false, congrArg V.bl ?_, ?_⟩
    · simp only [PyData.eqv, eqvs]
      simp
    refine iteF ?_
    -- repr(house)
    have l1 := mlen wf.m1 wf.m16
    have l2 : (PyData.shown (.list (ds.map Dd.d))).length ≤ 15728653 := wf.short
    have e1 : ("House(" : Str).length = 6 := rfl
    have e2 : (", " : Str).length = 2 := rfl
    have e3 : (")" : Str).length = 1 := rfl
    have c2 : (("House(" : Str) ++ (toString m : Str)).length ≤ 19 := by rw [strLen_append]; omega
    have c3 : (("House(" : Str) ++ (toString m : Str) ++ (", " : Str)).length ≤ 21 := by rw [strLen_append, e2]; omega
    have c4 : (("House(" : Str) ++ (toString m : Str) ++ (", " : Str) ++ PyData.shown (.list (ds.map Dd.d))).length ≤ 15728674 := by rw [strLen_append]; omega
    have lg : m.natAbs.log2 < 1920 := by
      have := (small_int (i := m) (by have := wf.m1; omega) (by have := wf.m16; omega)).2.1
      simpa only [PyData.showable, decide_eq_true_eq] using this
    refine ⟨_, rfl, h, l, m, xs, ds, rfl, hh10, wf, ?_⟩
    refine ⟨_, rfl, m, rfl, lg, _, _, rfl, rfl, by rw [sl]; omega, _, _, rfl, rfl, by rw [sl]; omega, ?_⟩
    refine ⟨_, rfl, a, _, rfl, .lst (.inl (.inl (sq _ _ ha))) dd10.dps, wf.showy, _, _, rfl, rfl, by rw [sl]; omega, _, _, rfl, rfl, by rw [sl]; omega, ?_⟩
    refine ⟨rfl, false, ?_, ?_⟩
    · rw [rep_eq]
      simp
    refine iteF ?_
    -- == of new ones
    refine ⟨_, rfl, _, rfl, _, rfl, a, ys, rfl, .inl ⟨.inl (.inl (sq _ _ ha)), fun t ht => ?_⟩⟩
    have s11 := same_upd (o := .tup ys) ht
    have sr := sq.trans s11
    refine make_any (K := K) (C := C) (.inr upd_same) (DdAll.same sr dd) wf (fun h2 k2 H12 n1 n2 s12 hh2 => ⟨rfl, ?_⟩)
    have st := sr.trans s12
    have dt : decide (m = m ∧ ds = ds) = true := decide_eq_true ⟨rfl, rfl⟩
    refine ⟨h, h2, l, k2, m, m, xs, ys, ds, ds, rfl, rfl, hh.same st, hh2, wd, wd, true, congrArg V.bl dt, ?_⟩
    refine iteT ?_
    refine ⟨_, rfl, _, rfl, ?_⟩
    refine make_any (K := K) (C := C) (.inl (st _ _ ha)) (DdAll.same st dd) wf (fun h3 k3 H13 n3 n4 s13 hh3 => ⟨rfl, ?_⟩)
    have su := st.trans s13
    refine ⟨_, rfl, h3, h, k3, l, m, m, ys, xs, ds, ds, rfl, rfl, hh3, hh.same su, wd, wd, ?_⟩
    rw [dt]
    exact q H13 su
end
end L2.K21
end

section
set_option Elab.async false
set_option linter.all false
set_option maxRecDepth 100000
set_option maxHeartbeats 4000000
namespace L2.K21
open PySem PySem.Spec PyProof.Rows L2.Gd
section
variable {X : Cx} {C : Addr}
theorem op_eqOdd (G : EqH X.prog X.w X.K X.mg X.base C) (n : Nm X.mg) (T : ClsT X.K X.mg C) (kit : KitH X.K C) (nk : NoKin X.K C) (hr : Room 1 X.A) :
    OpR X (compareOp .Eq) (fun x y H Q => ∃ (a dx : Addr) (fs : List (Str × V)), x = .ref a ∧ H a = some (.ins C dx fs) ∧ Odd H y ∧ ∀ H', Same H H' → Q (.bl false) H') := by
  obtain ⟨f, fd, N, hs, hf, b, F, _⟩ := G.ex
  have D := declines F b n T kit hr
  have go := op_eqNI hr.units hs hf D
  rintro pins s σ H x y u v Q I rx ry ⟨a, dx, fs, rfl, ha, odd, q⟩
  cases id odd with
  | non => exact go pins s σ H _ _ u v Q I rx ry ⟨a, dx, fs, _, _, rfl, ha, kind_none nk, trivial, odd, q⟩
  | int i => exact go pins s σ H _ _ u v Q I rx ry ⟨a, dx, fs, _, _, rfl, ha, kind_int i nk, trivial, odd, q⟩
  | str z => exact go pins s σ H _ _ u v Q I rx ry ⟨a, dx, fs, _, _, rfl, ha, kind_str z nk, trivial, odd, q⟩
  | lst e => exact go pins s σ H _ _ u v Q I rx ry ⟨a, dx, fs, _, _, rfl, ha, kind_list _ nk, ⟨_, e⟩, odd, q⟩
  | tup e => exact go pins s σ H _ _ u v Q I rx ry ⟨a, dx, fs, _, _, rfl, ha, kind_tup _ nk, ⟨_, e⟩, odd, q⟩
  | dct e => exact go pins s σ H _ _ u v Q I rx ry ⟨a, dx, fs, _, _, rfl, ha, kind_dict _ nk, ⟨_, e⟩, odd, q⟩
end
theorem Odd.same {H H' : Hp} {v : V} (s : Same H H') (h : Odd H v) : Odd H' v := by
  cases h with
  | non => exact .non
  | int i => exact .int i
  | str z => exact .str z
  | lst e => exact .lst (s _ _ e)
  | tup e => exact .tup (s _ _ e)
  | dct e => exact .dct (s _ _ e)
theorem WF.up {m : Int} {ds : List Dd} (w : WF m ds) (h : m < 16) : WF (m + 1) ds :=
  ⟨by have := w.m1; omega, by omega, fun d hd => let o := w.ok d hd; ⟨o.p0, by have := o.pn; omega, o.g0, by have := o.gn; omega, o.w⟩, w.nd, w.len⟩
theorem WF.drop1 {m : Int} {ds : List Dd} (w : WF m ds) : WF m (ds.drop 1) :=
  ⟨w.m1, w.m16, fun d hd => w.ok d (List.mem_of_mem_drop hd), w.nd.sublist (List.drop_sublist _ _), by rw [List.length_drop]; have := w.len; omega⟩
theorem WF.rev {m : Int} {ds : List Dd} (w : WF m ds) : WF m ds.reverse :=
  ⟨w.m1, w.m16, fun d hd => w.ok d (List.mem_reverse.mp hd), List.pairwise_reverse.mpr (w.nd.imp fun h => h.symm), by rw [List.length_reverse]; exact w.len⟩
def d0 : Dd := ⟨0, 0, 0, "any"⟩
theorem WF.one {m : Int} {ds : List Dd} (w : WF m ds) : WF m [d0] :=
  ⟨w.m1, w.m16, fun d hd => by
    rw [List.mem_singleton.mp hd]
    have := w.m1
    exact ⟨Int.le_refl _, by show (0 : Int) < m; omega, Int.le_refl _, by show (0 : Int) < m; omega, .inl ⟨rfl, by decide, by decide⟩⟩, by simp, by decide⟩
section
variable {P : Program} {w : World} {K : PySem.W.Frag} {mg : Str → Option Value} {base : Heap} {C : Addr}
theorem via {Good : V → Hp → Prop} {t : TE} {σ : L2.St} {H : Hp} {Q : VK} (h : ∀ Q' : VK, (∀ v H2, Good v H2 → Q' v H2) → t σ H Q') (hk : ∀ v H2, Good v H2 → Q v H2) : t σ H Q := h Q hk
theorem Paired.rev {α β : Type} {R : α → β → Prop} : ∀ {xs : List α} {ys : List β}, Paired R xs ys → Paired R xs.reverse ys.reverse
  | _, _, .nil => .nil
  | _, _, .cons h t => by
    rw [List.reverse_cons, List.reverse_cons]
    exact PySem.Paired.snoc (Paired.rev t) h
/-- a house as (places, deeds) -/
def HsAt (C : Addr) (H : Hp) (v : V) (e : Int × List Dd) : Prop := ∃ h l xs, v = .ref h ∧ HouseL C H h l e.1 xs e.2 ∧ ∀ d ∈ e.2, d.Wd
theorem HsAt.same {H H' : Hp} {v : V} {e : Int × List Dd} (s : Same H H') (h : HsAt C H v e) : HsAt C H' v e := let ⟨h, l, xs, a, b, c⟩ := h; ⟨h, l, xs, a, b.same s, c⟩
abbrev sEqR : Stmt := top 29
def spEqR (C : Addr) : Sp := fun vs H Q _ => ∃ (p h l a : Addr) (m : Int) (xs ys : List V) (ds : List Dd), vs = [.ref p, .ref h, .int m, .ref a] ∧ HouseL C H h l m xs ds ∧ H a = some (.lst ys) ∧ DdAll H ys ds ∧ WF m ds ∧ m < 16 ∧
  ∀ H', Same H H' → Q (.bl true) H'
def NEq : List Str := ["_law_pot_here", "_law_house", "_law_places", "_law_deeds_here", "_law_others", "_law_turned", "_law_other", "_law_some"]
theorem scER : FnScope NEq ["_law_pot_here", "_law_house", "_law_places", "_law_deeds_here"] (defScope sEqR) := ⟨rfl, rfl, rfl, by decide +kernel, rfl, by decide +kernel, by decide +kernel⟩
theorem ok_eqR {f : Addr} {fd : FuncData} (F : Fun K "_law_equal_right" "_law_equal_right" sEqR f fd) (k : HK P w K mg base C) : FnG P w K mg base 8 f fd ["_law_pot_here", "_law_house", "_law_places", "_law_deeds_here"] (spEqR C) := by
  refine okG F scER (fun vs H Q h => ?_) (fun cdv A outer s H vs Q hg hr h => ?_)
  · obtain ⟨p, h, l, a, m, xs, ys, ds, rfl, _⟩ := h
    rfl
  · obtain ⟨p, h, l, a, m, xs, ys, ds, rfl, hh, ha, dd, wf, m16, q⟩ := h
    have N := scER.nd
    have n := k.n
    have T := k.T
    have r1 := hr.mono (k := 7) (j := 1) (by decide)
    have r2 := hr.mono (k := 7) (j := 2) (by decide)
    have r6 := hr.mono (k := 7) (j := 6) (by decide)
    refine ⟨_, pss_cons (ps_set (i := 4) N rfl (.inl rfl) (pe_lst (pa_cons (pe_house k.M T r6 (pa_cons (pe_op op_add (pv 2) pe_int) (pa_cons (pv 3) pa_nil)))
        (pa_cons (pe_ifExp (pt_cmpR (op_neD hr.units) (pv 3) (pe_lst pa_nil) (nomark _)) (pe_house k.M T r6 (pa_cons (pv 2) (pa_cons (pe_slice sl_list (pv 3) (po_some pe_int) po_none) pa_nil)))
          (pe_house k.M T r6 (pa_cons (pv 2) (pa_cons (pe_lst (pa_cons (pe_tup (pa_cons pe_int (pa_cons pe_int (pa_cons pe_int (pa_cons pe_str pa_nil))))) pa_nil)) pa_nil)))) pa_nil))))
      (pss_cons (ps_set (i := 5) N rfl (.inl rfl) (pe_revL (pv 3)))
      (pss_cons (ps_set (i := 4) N rfl (.inl rfl) (pe_op op_cat (pv 4) (pe_ifExp (pt_cmpR (op_neD hr.units) (pv 5) (pv 3) (nomark _)) (pe_lst (pa_cons (pe_house k.M T r6 (pa_cons (pv 2) (pa_cons (pv 5) pa_nil))) pa_nil)) (pe_lst pa_nil))))
      (pss_cons (ps_if (pt_cmpR (op_neD hr.units)
          (pe_lc (own := [("_law_other", 6)]) (g := gName 6) rfl N (pi_list (pv 4)) (blkOk_by (N := NEq) (sc := defScope sEqR) (by decide +kernel))
            (fun _ _ _ _ _ => pg_name (i := 6) N rfl (.inl rfl)) (fun _ _ _ _ _ => pts_one (pw_or (pt_cmpR (op_eqH k.eq n T r1) (pv 1) (pv 6) (nomark _)) (pw_or1 (pt_cmpR (op_eqH k.eq n T r1) (pv 6) (pv 1) (nomark _)))).pt) (fun _ _ _ _ _ => pv 6)) (pe_lst pa_nil) (nomark _))
          (pss_one (ps_ret pe_bl)) pss_nil)
      (pss_one (ps_ret (pe_not (pe_callB (cr_any rfl) (by rfl) n.any (by decide +kernel) (pa_cons
          (pe_lc (own := [("_law_some", 7)]) (g := gName 7) (tt := tYes) rfl N (pi_list (pe_lst (pa_cons pe_non (pa_cons pe_int (pa_cons (pv 3) (pa_cons (pe_tup (pa_cons (pv 2) (pa_cons (pv 3) pa_nil))) (pa_cons (pe_callB (call_reH k.re hg r2) (by rfl) n.repr (by decide +kernel) (pa_cons (pv 1) pa_nil)) (pa_cons pe_dnewK pa_nil)))))))) (blkOk_by (N := NEq) (sc := defScope sEqR) (by decide +kernel))
            (fun _ _ _ _ _ => pg_name (i := 7) N rfl (.inl rfl)) (fun _ _ _ _ _ => pts_nil) (fun _ _ _ _ _ => pe_cmpR (op_eqOdd k.eq n T k.kit k.nk r1) (pv 1) (pv 7) (nomark _))) pa_nil)))))))), ?_⟩
    have wd := wf.wd
    have yl : ys.length = ds.length := Paired.length dd
    have h60 := wf.len
    have sl := sizeLine_eq
    obtain ⟨dx, ob⟩ := hh.ob
    refine ⟨_, rfl, _, _, rfl, rfl, _, rfl, ?_⟩
    refine make_any (K := K) (C := C) (.inl ha) dd (wf.up m16) (fun h1 k1 H1 n1 n1' s1 hh1 => ⟨rfl, ?_⟩)
    have hs1 : HsAt C H1 (.ref h1) (m + 1, ds) := ⟨h1, k1, ys, rfl, hh1, wd⟩
    show tIf _ _ _ _ _ _
    refine via (Good := fun v H2 => Same H1 H2 ∧ ∃ e, HsAt C H2 v (m, e) ∧ e ≠ ds) ?_ ?_
    · intro Q' hk
      refine ⟨_, rfl, (by show 0 ≤ sizeLine; decide), fun e he => ?_⟩
      have s2 := same_upd (o := .lst []) he
      have s02 := s1.trans s2
      have e3 : PyData.eqv (.list (ds.map Dd.d)) (.list (([] : List Dd).map Dd.d)) = decide (ds = []) := by
        simp only [PyData.eqv, eqvs]
      refine ⟨.list (ds.map Dd.d), .list (([] : List Dd).map Dd.d), .lst (.inl (.inl (s02 _ _ ha))) (DdAll.same s02 dd).dps, .lst (.inl (.inl upd_same)) .nil, shapedL wd, shapedL (by simp), !decide (ds = []), congrArg (fun b => V.bl (!b)) e3, ?_⟩
      by_cases hds : ds = []
      · rw [decide_eq_true hds]
        refine iteF ?_
        refine ⟨_, rfl, (by show 4 ≤ sizeLine; decide), fun t ht => ?_⟩
        have s3 := same_upd (o := .tup d0.vs) ht
        refine ⟨(by show 1 ≤ sizeLine; decide), fun r hr3 => ?_⟩
        have s4 := same_upd (o := .lst [.ref t]) hr3
        refine make_any (K := K) (C := C) (xs := [.ref t]) (ds := [d0]) (.inl upd_same) (.cons ⟨t, rfl, s4 _ _ upd_same⟩ .nil) wf.one (fun h2 k2 H2 n2 n2' s5 hh2 => ⟨rfl, ?_⟩)
        exact hk _ _ ⟨s2.trans (s3.trans (s4.trans s5)), [d0], ⟨h2, k2, _, rfl, hh2, wf.one.wd⟩, by rw [hds]; simp⟩
      · rw [decide_eq_false hds]
        refine iteT ?_
        refine ⟨_, rfl, _, rfl, _, rfl, a, ys, rfl, .inl (.inl (s02 _ _ ha)), fun r hr3 => ?_⟩
        rw [show (1 : Int) = ((1 : Nat) : Int) from rfl, cutV_drop ys (by
          cases ds with
          | nil => exact absurd rfl hds
          | cons d r => rw [yl]; simp)]
        have s4 := same_upd (o := .lst (ys.drop 1)) hr3
        refine make_any (K := K) (C := C) (.inl upd_same) (Paired.dropP 1 (DdAll.same (s02.trans s4) dd)) wf.drop1 (fun h2 k2 H2 n2 n2' s5 hh2 => ⟨rfl, ?_⟩)
        refine hk _ _ ⟨s2.trans (s4.trans s5), ds.drop 1, ⟨h2, k2, _, rfl, hh2, wf.drop1.wd⟩, fun z => ?_⟩
        have := congrArg List.length z
        rw [List.length_drop] at this
        cases ds with
        | nil => exact hds rfl
        | cons d r => simp at this
    rintro v2 H2 ⟨s2, e2, hs2, ne2⟩
    refine ⟨(by show 2 ≤ sizeLine; decide), fun o ho => ?_⟩
    have s3 := same_upd (o := .lst [.ref h1, v2]) ho
    have s03 := s1.trans (s2.trans s3)
    refine ⟨_, rfl, a, ys, rfl, .inl (.inl (s03 _ _ ha)), fun r hr3 => ?_⟩
    have s4 := same_upd (o := .lst ys.reverse) hr3
    have s04 := s03.trans s4
    have ho4 := s4 _ _ (show upd H2 o (.lst [.ref h1, v2]) o = some (.lst [.ref h1, v2]) from upd_same)
    have hr4 : upd (upd H2 o (.lst [.ref h1, v2])) r (.lst ys.reverse) r = some (.lst ys.reverse) := upd_same
    have hs24 := hs2.same (s3.trans s4)
    have hs14 := hs1.same (s2.trans (s3.trans s4))
    generalize upd (upd H2 o (.lst [.ref h1, v2])) r (.lst ys.reverse) = H4 at s04 ho4 hr4 hs24 hs14
    clear s4 hr3 s03 s3 ho
    refine ⟨_, rfl, ?_⟩
    show tIf _ _ _ _ _ _
    refine via (Good := fun v H5 => Same H4 H5 ∧ ∃ r3 hs3 es3, v = .ref r3 ∧ H5 r3 = some (.lst hs3) ∧ Paired (HsAt C H5) hs3 es3 ∧ (∀ e ∈ es3, e ≠ (m, ds)) ∧ hs3.length ≤ 1) ?_ ?_
    · intro Q' hk
      have e4 : PyData.eqv (.list (ds.reverse.map Dd.d)) (.list (ds.map Dd.d)) = decide (ds.reverse = ds) := by
        simp only [PyData.eqv, eqvs]
      have dd4 := DdAll.same s04 dd
      refine ⟨_, rfl, _, rfl, .list (ds.reverse.map Dd.d), .list (ds.map Dd.d), .lst (.inl (.inl hr4)) (DdAll.dps (Paired.rev dd4)), .lst (.inl (.inl (s04 _ _ ha))) dd4.dps, shapedL (fun x hx => wd x (List.mem_reverse.mp hx)), shapedL wd, !decide (ds.reverse = ds), congrArg (fun b => V.bl (!b)) e4, ?_⟩
      by_cases hrev : ds.reverse = ds
      · rw [decide_eq_true hrev]
        refine iteF ?_
        refine ⟨(by show 0 ≤ sizeLine; decide), fun r3 hr3 => ?_⟩
        exact hk _ _ ⟨same_upd hr3, r3, [], [], rfl, upd_same, .nil, by simp, by simp⟩
      · rw [decide_eq_false hrev]
        refine iteT ?_
        refine ⟨_, rfl, _, rfl, ?_⟩
        refine make_any (K := K) (C := C) (.inl hr4) (Paired.rev dd4) wf.rev (fun h3 k3 H5 n3 n3' s5 hh3 => ⟨rfl, ?_⟩)
        refine ⟨(by show 1 ≤ sizeLine; decide), fun r3 hr3 => ?_⟩
        have s6 := same_upd (o := .lst [.ref h3]) hr3
        exact hk _ _ ⟨s5.trans s6, r3, [.ref h3], [(m, ds.reverse)], rfl, upd_same, .cons ⟨h3, k3, _, rfl, hh3.same s6, wf.rev.wd⟩ .nil, fun e he z => by
          rw [List.mem_singleton.mp he] at z
          exact hrev (Prod.mk.inj z).2, by simp⟩
    rintro v5 H5 ⟨s5, r3, hs3, es3, rfl, hr3, pa3, ne3, len3⟩
    refine ⟨o, r3, _, hs3, rfl, rfl, s5 _ _ ho4, hr3, by show 2 + hs3.length ≤ sizeLine; omega, fun p6 hp6 => ?_⟩
    have s6 := same_upd (o := .lst ([.ref h1, v2] ++ hs3)) hp6
    have s06 := s04.trans (s5.trans s6)
    have hp6' : upd H5 p6 (.lst ([.ref h1, v2] ++ hs3)) p6 = some (.lst ([.ref h1, v2] ++ hs3)) := upd_same
    have pa6 : Paired (HsAt C (upd H5 p6 (.lst ([.ref h1, v2] ++ hs3)))) ([.ref h1, v2] ++ hs3) ((m + 1, ds) :: (m, e2) :: es3) :=
      .cons (hs14.same (s5.trans s6)) (.cons (hs24.same (s5.trans s6)) (Paired.mapP pa3 fun _ _ z => z.same s6))
    have len6 : ([V.ref h1, v2] ++ hs3).length ≤ 1000 := by
      show hs3.length + 1 + 1 ≤ 1000
      omega
    generalize upd H5 p6 (.lst ([.ref h1, v2] ++ hs3)) = H6 at s06 hp6' pa6
    generalize [V.ref h1, v2] ++ hs3 = vs6 at hp6' pa6 len6
    refine ⟨_, rfl, p6, rfl, ⟨_, .inl (.inl hp6')⟩, fun D hD => ?_⟩
    refine lc_mapL (es := (m + 1, ds) :: (m, e2) :: es3) (F := HsAt C) (G := fun _ _ (_ : Unit) => True) (f := fun _ => none) (fun _ _ _ _ _ _ z => z) hp6' hD len6 pa6 ?_ ?_
    · rintro x e H7 A B he ⟨hx, lx, xsx, rfl, hhx, wdx⟩ b ⟨zs, hz⟩ hA hB
      have s7 : Same H6 H7 := b.new hD
      have nee : ¬ (m = e.1 ∧ ds = e.2) := by
        rintro ⟨z1, z2⟩
        rcases List.mem_cons.mp he with rfl | he
        · have : m = m + 1 := z1
          omega
        · rcases List.mem_cons.mp he with rfl | he
          · exact ne2 z2.symm
          · exact ne3 e he (by rw [z1, z2])
      have nee2 : ¬ (e.1 = m ∧ e.2 = ds) := fun z => nee ⟨z.1.symm, z.2.symm⟩
      refine ⟨rfl, _, rfl, _, rfl, h, hx, l, lx, m, e.1, xs, xsx, ds, e.2, rfl, rfl, hh.same (s06.trans s7), hhx.same s7, wd, wdx, false, congrArg V.bl (decide_eq_false nee), ?_⟩
      refine iteF ?_
      refine ⟨_, rfl, _, rfl, hx, h, lx, l, e.1, m, xsx, xs, e.2, ds, rfl, rfl, hhx.same s7, hh.same (s06.trans s7), wdx, wd, false, congrArg V.bl (decide_eq_false nee2), ?_⟩
      exact iteF (hB H7 rfl fun _ _ z => z)
    intro ys7 H7 g1 g2 g3
    have y7 : ys7 = [] := by
      have := Paired.length g2
      rw [List.filterMap_eq_nil_iff.mpr (fun _ _ => rfl)] at this
      exact List.eq_nil_of_length_eq_zero this
    subst y7
    have s07 := s06.trans (g3.new hD)
    refine ⟨(by show 0 ≤ sizeLine; decide), fun e he => ?_⟩
    have s8 := same_upd (o := .lst []) he
    refine ⟨.list [], .list [], .lst (.inl (.inl (s8 _ _ g1))) .nil, .lst (.inl (.inl upd_same)) .nil, by decide +kernel, by decide +kernel, false, rfl, ?_⟩
    refine iteF ?_
    have s08 := s07.trans s8
    generalize upd H7 e (.lst []) = H8 at s08
    refine ⟨_, rfl, _, rfl, _, rfl, (by show 2 ≤ sizeLine; decide), fun t ht => ?_⟩
    have s9 := same_upd (o := .tup [.int m, .ref a]) ht
    have s09 := s08.trans s9
    have ht9 : upd H8 t (.tup [.int m, .ref a]) t = some (.tup [.int m, .ref a]) := upd_same
    generalize upd H8 t (.tup [.int m, .ref a]) = H9 at s09 ht9
    refine ⟨_, rfl, h, l, m, xs, ds, rfl, hh.same s09, wf, fun d hd => ?_⟩
    have s10 := same_upd (o := .dK []) hd
    refine ⟨(by show 6 ≤ sizeLine; decide), fun r hr9 => ?_⟩
    have s11 := same_upd (o := .lst [.non, .int 0, .ref a, .ref t, .str (rep m ds), .ref d]) hr9
    have s0b := s09.trans (s10.trans s11)
    have hrb : upd (upd H9 d (.dK [])) r (.lst [.non, .int 0, .ref a, .ref t, .str (rep m ds), .ref d]) r = _ := upd_same
    refine ⟨r, rfl, ⟨_, .inl (.inl hrb)⟩, fun D2 hD2 => ?_⟩
    refine lc_mapL (es := [.non, .int 0, .ref a, .ref t, .str (rep m ds), .ref d]) (F := fun H v e => v = e ∧ Odd H v) (G := fun _ v b => v = V.bl b) (f := fun _ => some false) (fun _ _ _ _ _ _ z => z) hrb hD2 (by show 6 ≤ 1000; decide)
      (.cons ⟨rfl, .non⟩ (.cons ⟨rfl, .int 0⟩ (.cons ⟨rfl, .lst (s0b _ _ ha)⟩ (.cons ⟨rfl, .tup (s11 _ _ (s10 _ _ ht9))⟩ (.cons ⟨rfl, .str _⟩ (.cons ⟨rfl, .dct (s11 _ _ upd_same)⟩ .nil)))))) ?_ ?_
    · rintro x e Hc A B he ⟨rfl, odd⟩ b ⟨zs, hz⟩ hA hB
      have sc := b.new hD2
      refine ⟨rfl, yes_ite ?_⟩
      exact ⟨_, rfl, _, rfl, h, dx, _, rfl, sc _ _ (s0b _ _ ob), odd.same sc, fun H' s' => hA false _ H' rfl s' rfl⟩
    intro zs Hc g4 g5 g6
    rw [mapE] at g5
    rw [bls_of g5] at g4
    refine ⟨D2, _, rfl, .inl (.inl g4), false, congrArg V.bl (by simp), ?_⟩
    exact q Hc (s0b.trans (g6.new hD2))
end
end L2.K21
end

section
set_option Elab.async false
set_option linter.all false
set_option maxRecDepth 100000
set_option maxHeartbeats 4000000
namespace L2.K21
open PySem PySem.Spec PyProof.Rows L2.Gd
section
variable {K : PySem.W.Frag}
theorem kb_of {x qual : Str} {st : Stmt} {f : Addr} {fd : FuncData} {ps ks : List Str} {n : Nat} (F : Fun K x qual st f fd)
    (h : ∀ (kV doc pm : Value) (an : Option Addr) (cdv ct : Value) (us ws : List Value), us.length = n → ws.length = ks.length →
      bindArgs (PySem.W.fnOf x qual (defArgs st) (defBody st) (defScope st) .none kV doc pm an cdv ct) ⟨us, ks.zip ws⟩ = pure (ps.zip (us ++ ws))) :
    KBn K fd ps n ks (fun us ws => us ++ ws) (fun vs zs => vs ++ zs) := by
  obtain ⟨oc, od, kV, doc, pm, an, cdv, ct, osl, rfl, lk, hcd⟩ := F.ex
  exact ⟨fun s us ws _ l1 l2 => .of_eq (h kV doc pm an cdv ct us ws l1 l2), fun r1 r2 => r1.append r2⟩
end
/-- a method, called with one keyword -/
structure MeK (P : Program) (w : World) (K : PySem.W.Frag) (mg : Str → Option Value) (base : Heap) (C : Addr) (x : Str) (k : Nat) (y : Str) (sp : Sp) : Prop where
  ex : ∃ f fd, Meth K C x f ∧ KBn K fd ["self", y] 1 [y] (fun us ws => us ++ ws) (fun vs zs => vs ++ zs) ∧ FnOk P w K mg base CX0 k f fd ["self", y] sp
section
variable {X : Cx} {C : Addr} {x y : Str} {k : Nat} {sp : Sp} {o : Expr} {kws : List Keyword} {ta : TE} {tks : TA} {apos pos : Pos}
theorem pe_mHK {pl : Sem Bool} (M : MeK X.prog X.w X.K X.mg X.base C x k y sp) (T : ClsT X.K X.mg C) (hr : Room k X.A) (he : PE X o ta) (hkw : PK X kws tks)
    (hall : (backToKw pos (keywordEach kws X.env)).all (·.1.isSome) = true := by rfl)
    (hks : (backToKw pos (keywordEach kws X.env)).filterMap (·.1) = [y] := by rfl)
    (hpl : ((backTo pos (starEach [] X.env)).any (·.1) || (backToKw pos (keywordEach kws X.env)).any (·.1.isNone)) = false := by rfl)
    (ht : eval (.Call (.Attribute o x apos) [] kws pos) X.env = (do
      let ov ← eval o X.env
      standAt apos.atName
      let (f, first) ← holding [ov] (getMethod ov x pl)
      callWith pos f first (backTo pos (starEach [] X.env)) (backToKw pos (keywordEach kws X.env))) := by rfl) :
    PE X (.Call (.Attribute o x apos) [] kws pos) (tMethK C x 1 sp (fun vs zs => vs ++ zs) ta tks) := by
  obtain ⟨f, fd, hm, b, F⟩ := M.ex
  exact pe_methK0 he T.isc.cl hm F hr b hkw hall hks hpl ht
end
theorem viaS {Good : L2.St → Hp → Prop} {s : TS} {D : Ends} {σ : L2.St} {H : Hp} (h : ∀ nx : L2.St → Hp → Prop, (∀ σ2 H2, Good σ2 H2 → nx σ2 H2) → s { D with nx := nx } σ H)
    (hk : ∀ σ2 H2, Good σ2 H2 → D.nx σ2 H2) : s D σ H := by
  have := h D.nx hk
  cases D
  exact this
/-! ### a house, a list of deeds, beside the pot at p -/
def HAt (C p : Addr) (H : Hp) (h : Addr) (m : Int) (ds : List Dd) : Prop := ∃ l xs, l ≠ p ∧ HouseL C H h l m xs ds
def LAt (p : Addr) (H : Hp) (a : Addr) (ds : List Dd) : Prop := ∃ ys, a ≠ p ∧ H a = some (.lst ys) ∧ DdAll H ys ds
theorem HAt.but {C p : Addr} {H H' : Hp} {h : Addr} {m : Int} {ds : List Dd} (hp : PotAt H p) (b : ButD p H H') (x : HAt C p H h m ds) : HAt C p H' h m ds := by
  obtain ⟨l, xs, ne, hh⟩ := x
  obtain ⟨dx, ob⟩ := hh.ob
  refine ⟨l, xs, ne, ⟨dx, b _ _ (fun z => ?_) ob⟩, b _ _ ne hh.ls, hh.dd.pot hp b⟩
  subst z
  obtain ⟨a, c, e, _⟩ := hp
  rw [ob] at e
  exact nomatch e
theorem LAt.but {p : Addr} {H H' : Hp} {a : Addr} {ds : List Dd} (hp : PotAt H p) (b : ButD p H H') (x : LAt p H a ds) : LAt p H' a ds := by
  obtain ⟨ys, ne, ha, dd⟩ := x
  exact ⟨ys, ne, b _ _ ne ha, dd.pot hp b⟩
theorem PotAt.ne {H : Hp} {p x : Addr} (hp : PotAt H p) (hx : H x = none) : x ≠ p := by
  rintro rfl
  obtain ⟨a, b, e, _⟩ := hp
  rw [hx] at e
  exact nomatch e
/-- what a maker gives, beside the pot -/
theorem made_at {C p : Addr} {H : Hp} {Q : VK} {m : Int} {ds : List Dd} (hp : PotAt H p) (k : ∀ h H', Same H H' → HAt C p H' h m ds → Q (.ref h) H') : Made C H Q m ds :=
  fun h l xs H' _ nl s hh => k h H' s ⟨l, xs, hp.ne nl, hh⟩
theorem WF.snoc {m : Int} {ds : List Dd} {d : Dd} (w : WF m ds) (ok : d.Ok m) (nin : d ∉ ds) (h : ds.length < 60) : WF m (ds ++ [d]) :=
  ⟨w.m1, w.m16, fun x hx => by
    rcases List.mem_append.mp hx with hx | hx
    · exact w.ok x hx
    · rw [List.mem_singleton.mp hx]
      exact ok, by
    rw [List.nodup_append]
    exact ⟨w.nd, by simp, fun a ha b hb => by rw [List.mem_singleton.mp hb]; exact fun z => nin (z ▸ ha)⟩, by
    rw [List.length_append]
    show ds.length + 1 ≤ 60
    omega⟩
theorem WF.cut {m : Int} {ds : List Dd} (w : WF m ds) (j : Nat) : WF m (ds.take j ++ ds.drop (j + 1)) := by
  have sub : (ds.take j ++ ds.drop (j + 1)).Sublist ds := by
    conv => rhs; rw [← List.take_append_drop j ds]
    refine List.Sublist.append (List.Sublist.refl _) ?_
    rw [← List.drop_drop]
    exact List.drop_sublist _ _
  exact ⟨w.m1, w.m16, fun x hx => w.ok x (sub.subset hx), w.nd.sublist sub, Nat.le_trans sub.length_le w.len⟩
theorem renD_ok {m : Int} {os : List Int} (hp : os.Perm (idL m)) {d : Dd} (ok : d.Ok m) : (renD os d).Ok m := by
  have ol : os.length = m.toNat := hp.length_eq.trans (idL_len m)
  have g : ∀ i : Int, 0 ≤ i → i < m → 0 ≤ os.getD i.toNat 0 ∧ os.getD i.toNat 0 < m := fun i h0 h1 => by
    have : i.toNat < os.length := by omega
    rw [List.getD_eq_getElem?_getD, List.getElem?_eq_getElem this]
    exact idL_mem (hp.mem_iff.mp (List.getElem_mem _))
  have a := g d.p ok.p0 ok.pn
  have b := g d.g ok.g0 ok.gn
  exact ⟨a.1, a.2, b.1, b.2, ok.w⟩
theorem idL_nd (m : Int) : (idL m).Nodup := by
  unfold idL
  refine List.Pairwise.map _ (fun a b h z => h ?_) (List.nodup_range (n := m.toNat))
  exact Int.ofNat.inj z
theorem renD_inj {m : Int} {os : List Int} (hp : os.Perm (idL m)) {d e : Dd} (okd : d.Ok m) (oke : e.Ok m) (h : renD os d = renD os e) : d = e := by
  have ol : os.length = m.toNat := hp.length_eq.trans (idL_len m)
  have nd : os.Nodup := hp.nodup_iff.mpr (idL_nd m)
  have g : ∀ i j : Int, 0 ≤ i → i < m → 0 ≤ j → j < m → os.getD i.toNat 0 = os.getD j.toNat 0 → i = j := fun i j i0 i1 j0 j1 z => by
    have hi : i.toNat < os.length := by omega
    have hj : j.toNat < os.length := by omega
    rw [List.getD_eq_getElem?_getD, List.getElem?_eq_getElem hi, List.getD_eq_getElem?_getD, List.getElem?_eq_getElem hj] at z
    have := (List.getElem_inj nd).mp z
    omega
  obtain ⟨p, c, q, w⟩ := d
  obtain ⟨p', c', q', w'⟩ := e
  simp only [renD, Dd.mk.injEq] at h
  obtain ⟨h1, h2, h3, h4⟩ := h
  have a := g p p' okd.p0 okd.pn oke.p0 oke.pn h1
  have b := g q q' okd.g0 okd.gn oke.g0 oke.gn h3
  subst a; subst b; subst h2; subst h4
  rfl
theorem nodup_mapOn {α β : Type} (f : α → β) : ∀ {l : List α}, (∀ a ∈ l, ∀ b ∈ l, f a = f b → a = b) → l.Nodup → (l.map f).Nodup
  | [], _, _ => List.nodup_nil
  | a :: r, h, nd => by
    rw [List.map_cons, List.nodup_cons]
    obtain ⟨n1, n2⟩ := List.nodup_cons.mp nd
    refine ⟨fun hm => ?_, nodup_mapOn f (fun x hx y hy => h x (List.mem_cons_of_mem _ hx) y (List.mem_cons_of_mem _ hy)) n2⟩
    obtain ⟨b, hb, e⟩ := List.mem_map.mp hm
    exact n1 (h b (List.mem_cons_of_mem _ hb) a List.mem_cons_self e ▸ hb)
theorem WF.ren {m : Int} {os : List Int} {ds : List Dd} (hp : os.Perm (idL m)) (w : WF m ds) : WF m (ds.map (renD os)) :=
  ⟨w.m1, w.m16, fun d hd => by
    obtain ⟨e, he, rfl⟩ := List.mem_map.mp hd
    exact renD_ok hp (w.ok e he), nodup_mapOn _ (fun a ha b hb => renD_inj hp (w.ok a ha) (w.ok b hb)) w.nd, by rw [List.length_map]; exact w.len⟩
theorem WF.turn {m : Int} {ds : List Dd} (w : WF m ds) (h : ds.all isAny = true) : WF m (ds.map turnD) :=
  ⟨w.m1, w.m16, fun d hd => by
    obtain ⟨e, he, rfl⟩ := List.mem_map.mp hd
    have o := w.ok e he
    have a : e.w = "any" := of_decide_eq_true (List.all_eq_true.mp h e he)
    have ne : ¬ (("any" : Str) = "empty") := by decide +kernel
    refine ⟨o.g0, o.gn, o.p0, o.pn, .inl ⟨a, ?_⟩⟩
    rcases o.w with ⟨_, b, c⟩ | ⟨z, _⟩
    · exact ⟨by show -1 ≤ 0 - e.c; omega, by show 0 - e.c ≤ 1; omega⟩
    · exact absurd (a.symm.trans z) ne, nodup_mapOn _ (fun a _ b _ z => by
      obtain ⟨p, c, g, x⟩ := a
      obtain ⟨p', c', g', x'⟩ := b
      simp only [turnD, Dd.mk.injEq] at z ⊢
      obtain ⟨h1, h2, h3, h4⟩ := z
      exact ⟨h3, by omega, h1, h4⟩) w.nd, by rw [List.length_map]; exact w.len⟩
theorem WF.join {m k : Int} {ds es : List Dd} (w : WF m ds) (v : WF k es) (h : m + k ≤ 16) (l : ds.length + es.length ≤ 60) : WF (m + k) (ds ++ es.map (shiftD m)) := by
  have m1 := w.m1
  have k1 := v.m1
  refine ⟨by omega, h, fun d hd => ?_, ?_, by rw [List.length_append, List.length_map]; exact l⟩
  · rcases List.mem_append.mp hd with hd | hd
    · have o := w.ok d hd
      exact ⟨o.p0, by have := o.pn; omega, o.g0, by have := o.gn; omega, o.w⟩
    · obtain ⟨e, he, rfl⟩ := List.mem_map.mp hd
      have o := v.ok e he
      have a := o.p0
      have b := o.pn
      have c := o.g0
      have f := o.gn
      exact ⟨by show 0 ≤ e.p + m; omega, by show e.p + m < m + k; omega, by show 0 ≤ e.g + m; omega, by show e.g + m < m + k; omega, o.w⟩
  · rw [List.nodup_append]
    refine ⟨w.nd, nodup_mapOn _ (fun a _ b _ z => ?_) v.nd, fun a ha b hb z => ?_⟩
    · obtain ⟨p, c, g, x⟩ := a
      obtain ⟨p', c', g', x'⟩ := b
      simp only [shiftD, Dd.mk.injEq] at z ⊢
      obtain ⟨h1, h2, h3, h4⟩ := z
      exact ⟨by omega, h2, by omega, h4⟩
    · subst z
      obtain ⟨e, he, rfl⟩ := List.mem_map.mp hb
      have o := v.ok e he
      have a := o.p0
      have b := (w.ok _ ha).pn
      have b2 : e.p + m < m := b
      omega
end L2.K21
end

section
set_option Elab.async false
set_option linter.all false
set_option maxRecDepth 100000
set_option maxHeartbeats 8000000
namespace L2.K21
open PySem PySem.Spec PyProof.Rows L2.Gd
/-- the keyword calls, and the law's own defs -/
structure HKk (P : Program) (w : World) (K : PySem.W.Frag) (mg : Str → Option Value) (base : Heap) (C : Addr) : Prop where
  wi : MeK P w K mg base C "with_deed" 7 "deed" (spWith C)
  wo : MeK P w K mg base C "without_deed" 7 "position" (spWout C)
  rn : MeK P w K mg base C "renumbered" 7 "order" (spRen C)
  be : MeK P w K mg base C "beside" 7 "other" (spBes C)
  dr : Fn P w K mg base 1 "_law_draw" ["_law_pot_here", "_law_many"] spDraw
  ds : Fn P w K mg base 2 "_law_deeds" ["_law_pot_here", "_law_places", "_law_many", "_law_has_empty"] spDeedsL
  mx : Fn P w K mg base 2 "_law_mixed" ["_law_pot_here", "_law_some"] spMixed
section
variable {P : Program} {w : World} {K : PySem.W.Frag} {mg : Str → Option Value} {base : Heap} {C : Addr}
theorem seqV {Good : L2.St → Hp → Prop} {t u : TS} {D : Ends} {σ : L2.St} {H : Hp} (h : ∀ nx : L2.St → Hp → Prop, (∀ σ2 H2, Good σ2 H2 → nx σ2 H2) → t { D with nx := nx } σ H)
    (hk : ∀ σ2 H2, Good σ2 H2 → u D σ2 H2) : tSeq t u D σ H := h (u D) hk
theorem nxt {D : Ends} {σ : L2.St} {H : Hp} (h : D.nx σ H) : tNext D σ H := h
theorem retV {Good : V → Hp → Prop} {t : TE} {ts : TA} {D : Ends} {σ : L2.St} {H : Hp} (h : ∀ Q' : VK, (∀ v H2, Good v H2 → Q' v H2) → t σ H Q')
    (hk : ∀ v H2, Good v H2 → ts σ H2 fun xs H3 => (v :: xs).length ≤ sizeLine ∧ ∀ p, H3 p = none → D.rt (.ref p) (upd H3 p (.tup (v :: xs)))) : tRet (tTup (tCons t ts)) D σ H := h _ hk
abbrev sMade : Stmt := top 30
def spMade (C : Addr) : Sp := fun vs H Q _ => ∃ (p h a : Addr) (m : Int) (ds : List Dd) (n : Nat), vs = [.ref p, .ref h, .int m, .ref a] ∧ PotAt H p ∧ HAt C p H h m ds ∧ LAt p H a ds ∧ WF m ds ∧ m ≤ 10 ∧ ds.length ≤ n ∧ n ≤ 50 ∧
  ∀ (t h' a' : Addr) (m' : Int) (ds' : List Dd) (H' : Hp), H' t = some (.tup [.ref h', .int m', .ref a']) → HAt C p H' h' m' ds' → LAt p H' a' ds' → WF m' ds' → m' ≤ 10 → ds'.length ≤ n + 2 → PotAt H' p → ButD p H H' → Q (.ref t) H'
def NMa : List Str := ["_law_pot_here", "_law_house", "_law_places", "_law_deeds_here", "_law_way", "_law_fresh", "_law_at", "_law_order", "_law_later", "_law_more", "_law_left", "_law_place", "_law_change", "_law_goal", "_law_when", "_law_deed"]
theorem scMa : FnScope NMa ["_law_pot_here", "_law_house", "_law_places", "_law_deeds_here"] (defScope sMade) := ⟨rfl, rfl, rfl, by decide +kernel, rfl, by decide +kernel, by decide +kernel⟩
theorem ok_made {f : Addr} {fd : FuncData} (F : Fun K "_law_made" "_law_made" sMade f fd) (k : HK P w K mg base C) (k2 : HKk P w K mg base C) : FnOk P w K mg base CX0 8 f fd ["_law_pot_here", "_law_house", "_law_places", "_law_deeds_here"] (spMade C) := by
  refine F.ok scMa (fun vs H Q E h => ?_) (fun cdv A outer s H vs Q E hr h => ?_)
  · obtain ⟨p, h, a, m, ds, nn, rfl, _⟩ := h
    rfl
  · obtain ⟨p, h, a, m, ds, nn, rfl, hp, hh, hl, wf, m10, dn, n50, q⟩ := h
    have N := scMa.nd
    have n := k.n
    have T := k.T
    have r1 := hr.mono (k := 7) (j := 1) (by decide)
    have r2 := hr.mono (k := 7) (j := 2) (by decide)
    have r6 := hr.mono (k := 7) (j := 6) (by decide)
    refine ⟨_, pss_cons (ps_set (i := 4) N rfl (.inl rfl) (pe_fn k2.dr r1 (pa_cons (pv 0) (pa_cons pe_int pa_nil))))
      (pss_cons (ps_if (pt_cmpR op_eq (pv 4) pe_int (nomark _)) (pss_cons (ps_set (i := 5) N rfl (.inl rfl) (pe_tup (pa_cons (pe_fn k2.dr r1 (pa_cons (pv 0) (pa_cons (pv 2) pa_nil))) (pa_cons (pe_op op_sub (pe_fn k2.dr r1 (pa_cons (pv 0) (pa_cons pe_int pa_nil))) pe_int) (pa_cons (pe_fn k2.dr r1 (pa_cons (pv 0) (pa_cons (pv 2) pa_nil))) (pa_cons pe_str pa_nil)))))) (pss_cons (ps_if (pt_cmpR (op_inD (hu65 hr)) (pv 5) (pv 3) (by rfl)) (pss_one (ps_ret (pe_tup (pa_cons (pv 1) (pa_cons (pv 2) (pa_cons (pv 3) pa_nil)))))) pss_nil) (pss_one (ps_ret (pe_tup (pa_cons (pe_ifExp (pt_cmpR op_eq (pe_fn k2.dr r1 (pa_cons (pv 0) (pa_cons pe_int pa_nil))) pe_int (nomark _)) (pe_mH k.wi T hr (pv 1) (pa_cons (pv 5) pa_nil)) (pe_mHK k2.wi T hr (pv 1) (pk_cons (pv 5) pk_nil))) (pa_cons (pv 2) (pa_cons (pe_op op_cat (pv 3) (pe_lst (pa_cons (pv 5) pa_nil))) pa_nil)))))))) pss_nil)
      (pss_cons (ps_if (pw_and (pt_cmpR op_eq (pv 4) pe_int (nomark _)) (pw_and1 (pt_cmpR (op_neD hr.units) (pv 3) (pe_lst pa_nil) (nomark _)))).pt (pss_cons (ps_set (i := 6) N rfl (.inl rfl) (pe_fn k2.dr r1 (pa_cons (pv 0) (pa_cons (pe_callB call_len_seq (by rfl) n.len PySem.boot_len (pa_cons (pv 3) pa_nil)) pa_nil)))) (pss_one (ps_ret (pe_tup (pa_cons (pe_ifExp (pt_cmpR op_eq (pe_fn k2.dr r1 (pa_cons (pv 0) (pa_cons pe_int pa_nil))) pe_int (nomark _)) (pe_mH k.wo T hr (pv 1) (pa_cons (pv 6) pa_nil)) (pe_mHK k2.wo T hr (pv 1) (pk_cons (pv 6) pk_nil))) (pa_cons (pv 2) (pa_cons (pe_op op_cat (pe_slice sl_list (pv 3) po_none (po_some (pv 6))) (pe_slice sl_list (pv 3) (po_some (pe_op op_add (pv 6) pe_int)) po_none)) pa_nil))))))) pss_nil)
      (pss_cons (ps_if (pt_cmpR op_eq (pv 4) pe_int (nomark _)) (pss_cons (ps_set (i := 7) N rfl (.inr rfl) (pe_fn k2.mx r2 (pa_cons (pv 0) (pa_cons (pe_listRg rfl (by rfl) n.list (prg_1 (by rfl) n.range (pv 2))) pa_nil)))) (pss_cons (ps_setLc (i := 8) (own := [("_law_place", 11), ("_law_change", 12), ("_law_goal", 13), ("_law_when", 14)]) (g := (gTup K 4 (gCons (gName 11) (gCons (gName 12) (gCons (gName 13) (gCons (gName 14) gNil)))))) (tt := tYes) (by rfl) N rfl rfl (sw_true rfl rfl rfl (by decide +kernel)) (pi_list (pv 3)) (blkOk_by (N := NMa) (sc := defScope sMade) (by decide +kernel)) (fun _ _ _ _ _ => pg_tup rfl (pgs_cons (pg_name (i := 11) N rfl (.inl rfl)) (pgs_cons (pg_name (i := 12) N rfl (.inl rfl)) (pgs_cons (pg_name (i := 13) N rfl (.inl rfl)) (pgs_cons (pg_name (i := 14) N rfl (.inl rfl)) pgs_nil))))) (fun _ _ _ _ _ => pts_nil) (fun _ _ _ _ _ => (pe_tup (pa_cons (pe_ix (r := rIxL K) ix_list (pv 7) (pv 11) (fun _ _ => rfl)) (pa_cons (pv 12) (pa_cons (pe_ix (r := rIxL K) ix_list (pv 7) (pv 13) (fun _ _ => rfl)) (pa_cons (pv 14) pa_nil))))))) (pss_one (ps_ret (pe_tup (pa_cons (pe_ifExp (pt_cmpR op_eq (pe_fn k2.dr r1 (pa_cons (pv 0) (pa_cons pe_int pa_nil))) pe_int (nomark _)) (pe_mH k.rn T hr (pv 1) (pa_cons (pv 7) pa_nil)) (pe_mHK k2.rn T hr (pv 1) (pk_cons (pe_callTy call_tuple_of (by rfl) n.tuple (by decide +kernel) (pa_cons (pv 7) pa_nil)) pk_nil))) (pa_cons (pv 2) (pa_cons (pv 8) pa_nil)))))))) pss_nil)
      (pss_cons (ps_if (pw_and (pt_cmpR op_eq (pv 4) pe_int (nomark _)) (pw_and (pt_cmpR op_lt (pv 2) pe_int (nomark _)) (pw_and1 (pt_cmpR op_lt (pe_callB call_len_seq (by rfl) n.len PySem.boot_len (pa_cons (pv 3) pa_nil)) pe_int (nomark _))))).pt (pss_cons (ps_set (i := 9) N rfl (.inl rfl) (pe_fn k2.ds r2 (pa_cons (pv 0) (pa_cons pe_int (pa_cons pe_int (pa_cons pe_bl pa_nil)))))) (pss_cons (ps_setLc (i := 8) (own := [("_law_place", 11), ("_law_change", 12), ("_law_goal", 13), ("_law_when", 14)]) (g := (gTup K 4 (gCons (gName 11) (gCons (gName 12) (gCons (gName 13) (gCons (gName 14) gNil)))))) (tt := tYes) (by rfl) N rfl rfl (sw_true rfl rfl rfl (by decide +kernel)) (pi_list (pv 9)) (blkOk_by (N := NMa) (sc := defScope sMade) (by decide +kernel)) (fun _ _ _ _ _ => pg_tup rfl (pgs_cons (pg_name (i := 11) N rfl (.inl rfl)) (pgs_cons (pg_name (i := 12) N rfl (.inl rfl)) (pgs_cons (pg_name (i := 13) N rfl (.inl rfl)) (pgs_cons (pg_name (i := 14) N rfl (.inl rfl)) pgs_nil))))) (fun _ _ _ _ _ => pts_nil) (fun _ _ _ _ _ => (pe_tup (pa_cons (pe_op op_add (pv 11) (pv 2)) (pa_cons (pv 12) (pa_cons (pe_op op_add (pv 13) (pv 2)) (pa_cons (pv 14) pa_nil))))))) (pss_one (ps_ret (pe_tup (pa_cons (pe_ifExp (pt_cmpR op_eq (pe_fn k2.dr r1 (pa_cons (pv 0) (pa_cons pe_int pa_nil))) pe_int (nomark _)) (pe_mH k.be T hr (pv 1) (pa_cons (pe_house k.M T r6 (pa_cons pe_int (pa_cons (pv 9) pa_nil))) pa_nil)) (pe_mHK k2.be T hr (pv 1) (pk_cons (pe_house k.M T r6 (pa_cons pe_int (pa_cons (pv 9) pa_nil))) pk_nil))) (pa_cons (pe_op op_add (pv 2) pe_int) (pa_cons (pe_op op_cat (pv 3) (pv 8)) pa_nil)))))))) pss_nil)
      (pss_cons (ps_if (pt_cmpR op_eq (pv 4) pe_int (nomark _)) (pss_one (ps_ret (pe_tup (pa_cons (pe_mH0 k.pn T hr (pv 1)) (pa_cons (pv 2) (pa_cons (pe_lc (own := [("_law_deed", 15)]) (g := gName 15) rfl N (pi_list (pv 3)) (blkOk_by (N := NMa) (sc := defScope sMade) (by decide +kernel)) (fun _ _ _ _ _ => pg_name (i := 15) N rfl (.inl rfl)) (fun _ _ _ _ _ => pts_one (pt_cmpR op_eq (pe_ix (r := rIxT K) ix_tup (pv 15) pe_int (fun _ _ => rfl)) pe_str (nomark _))) (fun _ _ _ _ _ => pv 15)) pa_nil)))))) pss_nil)
      (pss_cons (ps_setLc (i := 10) (own := [("_law_deed", 15)]) (g := gName 15) (by rfl) N rfl rfl (sw_true rfl rfl rfl (by decide +kernel)) (pi_list (pv 3)) (blkOk_by (N := NMa) (sc := defScope sMade) (by decide +kernel)) (fun _ _ _ _ _ => pg_name (i := 15) N rfl (.inl rfl)) (fun _ _ _ _ _ => pts_one (pt_cmpR op_eq (pe_ix (r := rIxT K) ix_tup (pv 15) pe_int (fun _ _ => rfl)) pe_str (nomark _))) (fun _ _ _ _ _ => pv 15)) (pss_one (ps_ret (pe_tup (pa_cons (pe_mH0 k.tn T hr (pe_mH0 k.pn T hr (pv 1))) (pa_cons (pv 2) (pa_cons (pe_lc (own := [("_law_place", 11), ("_law_change", 12), ("_law_goal", 13), ("_law_when", 14)]) (g := (gTup K 4 (gCons (gName 11) (gCons (gName 12) (gCons (gName 13) (gCons (gName 14) gNil)))))) (tt := tYes) rfl N (pi_list (pv 10)) (blkOk_by (N := NMa) (sc := defScope sMade) (by decide +kernel)) (fun _ _ _ _ _ => pg_tup rfl (pgs_cons (pg_name (i := 11) N rfl (.inl rfl)) (pgs_cons (pg_name (i := 12) N rfl (.inl rfl)) (pgs_cons (pg_name (i := 13) N rfl (.inl rfl)) (pgs_cons (pg_name (i := 14) N rfl (.inl rfl)) pgs_nil))))) (fun _ _ _ _ _ => pts_nil) (fun _ _ _ _ _ => (pe_tup (pa_cons (pv 13) (pa_cons (pe_op op_sub pe_int (pv 12)) (pa_cons (pv 11) (pa_cons (pv 14) pa_nil))))))) pa_nil)))))))))))), ?_⟩
    have wd := wf.wd
    have nd : ∀ {l : Addr} (x : Str), x ≠ "_deeds" → x ≠ "_places" → (flds m l).lookup x = none := fun {l} x a b => flds_no m l a b
    have sl := sizeLine_eq
    have fin : ∀ (h' a' : Addr) (m' : Int) (ds' : List Dd) (H8 : Hp), PotAt H8 p → ButD p H H8 → HAt C p H8 h' m' ds' → LAt p H8 a' ds' → WF m' ds' → m' ≤ 10 → ds'.length ≤ nn + 2 →
        (3 ≤ sizeLine ∧ ∀ t, H8 t = none → Q (.ref t) (upd H8 t (.tup [.ref h', .int m', .ref a']))) := fun h' a' m' ds' H8 hp8 b8 hh8 hl8 w8 u8 n8 =>
      ⟨by decide, fun t ht => q t h' a' m' ds' _ upd_same (hh8.but hp8 (Same.but (same_upd ht))) (hl8.but hp8 (Same.but (same_upd ht))) w8 u8 n8 (hp8.same (same_upd ht)) (ButD.trans b8 (Same.but (same_upd ht)))⟩
    refine seqV (Good := fun σ2 H2 => ∃ way : Int, 0 ≤ way ∧ way < 6 ∧ σ2 = [some (.ref p), some (.ref h), some (.int m), some (.ref a), some (.int way), none, none, none, none, none, none, none, none, none, none, none] ∧ PotAt H2 p ∧ ButD p H H2)
      (fun nx hnx => ⟨_, rfl, p, 6, rfl, hp, by decide, by decide, fun way H1 w0 w6 hp1 b1 => hnx _ _ ⟨way, w0, w6, rfl, hp1, b1⟩⟩) ?_
    rintro _ H1 ⟨way, w0, w6, rfl, hp1, b1⟩
    -- way 0
    refine seqV (Good := fun σ2 H2 => σ2 = [some (.ref p), some (.ref h), some (.int m), some (.ref a), some (.int way), none, none, none, none, none, none, none, none, none, none, none] ∧ PotAt H2 p ∧ ButD p H H2) ?_ ?_
    · intro nx hnx
      refine ⟨_, rfl, rfl, decide (V.int way = V.int 0), rfl, ?_⟩
      by_cases hw : way = 0
      · subst hw
        rw [decide_eq_true rfl]
        refine iteT ?_
        refine seqV (Good := fun σ2 H2 => ∃ (t : Addr) (dn : Dd), dn.Ok m ∧ H2 t = some (.tup dn.vs) ∧ PotAt H2 p ∧ ButD p H H2 ∧ σ2 = [some (.ref p), some (.ref h), some (.int m), some (.ref a), some (.int 0), some (.ref t), none, none, none, none, none, none, none, none, none, none]) ?_ ?_
        · intro nx2 hnx2
          refine ⟨_, rfl, _, rfl, p, m, rfl, hp1, wf.m1, by omega, fun pl H3 pl0 pln hp3 b3 => ?_⟩
          refine ⟨_, rfl, p, 3, rfl, hp3, by decide, by decide, fun ch H4 c0 c3 hp4 b4 => ⟨_, _, rfl, rfl, ?_⟩⟩
          refine ⟨_, rfl, _, rfl, p, m, rfl, hp4, wf.m1, by omega, fun gl H5 gl0 gln hp5 b5 => ?_⟩
          refine ⟨(by show 4 ≤ sizeLine; decide), fun t ht => ?_⟩
          have okd : Dd.Ok m ⟨pl, ch - 1, gl, "any"⟩ := ⟨pl0, pln, gl0, gln, .inl ⟨rfl, by show -1 ≤ ch - 1; omega, by show ch - 1 ≤ 1; omega⟩⟩
          have s6 := same_upd (o := .tup [.int pl, .int (ch - 1), .int gl, .str "any"]) ht
          exact hnx2 _ _ ⟨t, ⟨pl, ch - 1, gl, "any"⟩, okd, upd_same, hp5.same s6, ButD.trans b1 (ButD.trans b3 (ButD.trans b4 (ButD.trans b5 (Same.but s6)))), rfl⟩
        rintro _ H6 ⟨t, dn, okd, ht6, hp6, b6, rfl⟩
        have hh6 := hh.but hp b6
        have hl6 := hl.but hp b6
        obtain ⟨ys, na, ha6, dd6⟩ := id hl6
        refine seqV (Good := fun σ2 H2 => dn ∉ ds ∧ σ2 = [some (.ref p), some (.ref h), some (.int m), some (.ref a), some (.int 0), some (.ref t), none, none, none, none, none, none, none, none, none, none] ∧ H6 = H2) ?_ ?_
        · intro nx2 hnx2
          refine ⟨_, rfl, _, rfl, dn.d, ds.map Dd.d, DdAt.dp ⟨_, rfl, ht6⟩, .lst (.inl (.inl ha6)) dd6.dps, Dd.shaped okd.wd, shapedL wd, _, rfl, ?_⟩
          rw [any_in]
          by_cases hin : dn ∈ ds
          · rw [decide_eq_true hin]
            refine iteT ?_
            exact ⟨_, rfl, _, rfl, _, rfl, fin h a m ds H6 hp6 b6 hh6 hl6 wf m10 (by omega)⟩
          · rw [decide_eq_false hin]
            exact iteF (hnx2 _ _ ⟨hin, rfl, rfl⟩)
        · rintro _ _ ⟨hin, rfl, rfl⟩
          have wn : WF m (ds ++ [dn]) := wf.snoc okd hin (by omega)
          refine retV (Good := fun v H7 => ∃ h', v = .ref h' ∧ PotAt H7 p ∧ ButD p H6 H7 ∧ HAt C p H7 h' m (ds ++ [dn])) ?_ ?_
          · intro Q' hk
            refine ⟨_, rfl, p, 2, rfl, hp6, by decide, by decide, fun z H7 z0 z2 hp7 b7 => ⟨rfl, decide (V.int z = V.int 0), rfl, ?_⟩⟩
            have mk : Made C H7 Q' m (ds ++ [dn]) := made_at hp7 (fun h' H' s hh' => hk _ _ ⟨h', rfl, hp7.same s, ButD.trans b7 (Same.but s), hh'⟩)
            obtain ⟨l, xs, nl, hh7⟩ := hh6.but hp6 b7
            have ht7 := b7 _ _ (pot_ne hp6 ht6) ht6
            obtain ⟨dx, ob⟩ := hh7.ob
            by_cases hz : z = 0
            · rw [decide_eq_true (by rw [hz])]
              exact iteT ⟨_, rfl, h, dx, _, rfl, ob, nd _ (by decide +kernel) (by decide +kernel), _, rfl, h, l, t, m, xs, ds, dn, rfl, hh7, ht7, wn, mk⟩
            · rw [decide_eq_false (by simpa using hz)]
              exact iteF ⟨_, rfl, h, dx, _, rfl, ob, nd _ (by decide +kernel) (by decide +kernel), _, rfl, rfl, h, l, t, m, xs, ds, dn, rfl, hh7, ht7, wn, mk⟩
          · rintro _ H7 ⟨h', rfl, hp7, b7, hh7⟩
            have ha7 := b7 _ _ na ha6
            have dd7 := dd6.pot hp6 b7
            have ht7 := b7 _ _ (pot_ne hp6 ht6) ht6
            refine ⟨_, rfl, _, rfl, _, rfl, (by show 1 ≤ sizeLine; decide), fun r hr7 => ?_⟩
            have s8 := same_upd (o := .lst [.ref t]) hr7
            have yl := Paired.length dd6
            refine ⟨a, r, ys, [.ref t], rfl, rfl, s8 _ _ ha7, upd_same, by show ys.length + 1 ≤ sizeLine; omega, fun u hu => ?_⟩
            have s9 := same_upd (o := .lst (ys ++ [.ref t])) hu
            have s79 := s8.trans s9
            have dd9 := dd7.same s79
            exact fin h' u m (ds ++ [dn]) _ (hp7.same s79) (ButD.trans b6 (ButD.trans b7 (Same.but s79))) (hh7.but hp7 (Same.but s79))
              ⟨_, (hp7.same s8).ne hu, upd_same, Paired.app dd9 (.cons ⟨t, rfl, s79 _ _ ht7⟩ .nil)⟩ wn m10 (by rw [List.length_append]; show ds.length + 1 ≤ nn + 2; omega)
      · rw [decide_eq_false (by simpa using hw)]
        exact iteF (hnx _ _ ⟨rfl, hp1, b1⟩)
    clear hp1 b1 H1
    rintro σ2 H1 ⟨rfl, hp1, b1⟩
    have hh1 := hh.but hp b1
    have hl1 := hl.but hp b1
    -- way 1
    refine seqV (Good := fun σ2 H2 => σ2 = [some (.ref p), some (.ref h), some (.int m), some (.ref a), some (.int way), none, none, none, none, none, none, none, none, none, none, none] ∧ PotAt H2 p ∧ ButD p H H2) ?_ ?_
    · intro nx hnx
      refine ⟨_, rfl, rfl, decide (V.int way = V.int 1), rfl, ?_⟩
      by_cases hw : way = 1
      · subst hw
        rw [decide_eq_true rfl]
        refine iteT ?_
        obtain ⟨ys, na, ha1, dd1⟩ := id hl1
        refine ⟨_, rfl, (by show 0 ≤ sizeLine; decide), fun e he => ?_⟩
        have s2 := same_upd (o := .lst []) he
        have e3 : PyData.eqv (.list (ds.map Dd.d)) (.list (([] : List Dd).map Dd.d)) = decide (ds = []) := by
          simp only [PyData.eqv, eqvs]
        refine ⟨.list (ds.map Dd.d), .list (([] : List Dd).map Dd.d), .lst (.inl (.inl (s2 _ _ ha1))) (DdAll.same s2 dd1).dps, .lst (.inl (.inl upd_same)) .nil, shapedL wd, shapedL (by simp), !decide (ds = []), congrArg (fun b => V.bl (!b)) e3, ?_⟩
        have hp2 := hp1.same s2
        have b2 := ButD.trans b1 (Same.but s2)
        generalize upd H1 e (.lst []) = H2 at hp2 b2
        by_cases hds : ds = []
        · rw [decide_eq_true hds]
          exact iteF (hnx _ _ ⟨rfl, hp2, b2⟩)
        · rw [decide_eq_false hds]
          refine iteT ?_
          have hpos : 0 < ds.length := List.length_pos_iff.mpr hds
          have hh2 := hh.but hp b2
          have hl2 := hl.but hp b2
          obtain ⟨ys, na, ha2, dd2⟩ := id hl2
          have yl := Paired.length dd2
          refine seqV (Good := fun σ2 H3 => ∃ j : Nat, j < ds.length ∧ PotAt H3 p ∧ ButD p H2 H3 ∧ σ2 = [some (.ref p), some (.ref h), some (.int m), some (.ref a), some (.int 1), none, some (.int j), none, none, none, none, none, none, none, none, none]) ?_ ?_
          · intro nx2 hnx2
            refine ⟨_, rfl, _, rfl, a, ys, rfl, .inl (.inl (.inl ha2)), p, (ys.length : Int), rfl, hp2, by omega, by omega, fun d H3 d0 dn hp3 b3 => ?_⟩
            obtain ⟨j, rfl⟩ : ∃ j : Nat, d = j := ⟨d.toNat, by omega⟩
            exact hnx2 _ _ ⟨j, by omega, hp3, b3, rfl⟩
          rintro _ H3 ⟨j, hj, hp3, b3, rfl⟩
          have wn := wf.cut j
          refine retV (Good := fun v H7 => ∃ h', v = .ref h' ∧ PotAt H7 p ∧ ButD p H3 H7 ∧ HAt C p H7 h' m (ds.take j ++ ds.drop (j + 1))) ?_ ?_
          · intro Q' hk
            refine ⟨_, rfl, p, 2, rfl, hp3, by decide, by decide, fun z H7 z0 z2 hp7 b7 => ⟨rfl, decide (V.int z = V.int 0), rfl, ?_⟩⟩
            have mk : Made C H7 Q' m (ds.take j ++ ds.drop (j + 1)) := made_at hp7 (fun h' H' s hh' => hk _ _ ⟨h', rfl, hp7.same s, ButD.trans b7 (Same.but s), hh'⟩)
            obtain ⟨l, xs, nl, hh7⟩ := hh2.but hp2 (ButD.trans b3 b7)
            obtain ⟨dx, ob⟩ := hh7.ob
            by_cases hz : z = 0
            · rw [decide_eq_true (by rw [hz])]
              exact iteT ⟨_, rfl, h, dx, _, rfl, ob, nd _ (by decide +kernel) (by decide +kernel), _, rfl, h, l, m, xs, ds, j, rfl, hh7, hj, by omega, wn, mk⟩
            · rw [decide_eq_false (by simpa using hz)]
              exact iteF ⟨_, rfl, h, dx, _, rfl, ob, nd _ (by decide +kernel) (by decide +kernel), _, rfl, rfl, h, l, m, xs, ds, j, rfl, hh7, hj, by omega, wn, mk⟩
          · rintro _ H7 ⟨h', rfl, hp7, b7, hh7⟩
            have b27 := ButD.trans b3 b7
            have ha7 := b27 _ _ na ha2
            have dd7 := dd2.pot hp2 b27
            refine ⟨_, rfl, _, rfl, _, rfl, j, rfl, a, ys, rfl, .inl (.inl ha7), fun r hr7 => ?_⟩
            rw [cutV_take ys (by omega)]
            have s8 := same_upd (o := .lst (ys.take j)) hr7
            refine ⟨_, rfl, _, rfl, _, _, rfl, rfl, _, rfl, a, ys, rfl, .inl (.inl (s8 _ _ ha7)), fun u hu => ?_⟩
            rw [show ((j : Int) + 1) = ((j + 1 : Nat) : Int) by omega, cutV_drop ys (by omega)]
            have s9 := same_upd (o := .lst (ys.drop (j + 1))) hu
            refine ⟨r, u, _, _, rfl, rfl, s9 _ _ upd_same, upd_same, small_le (k := 60) (by rw [List.length_take, List.length_drop]; omega), fun x hx => ?_⟩
            have s10 := same_upd (o := .lst (ys.take j ++ ys.drop (j + 1))) hx
            have s70 := s8.trans (s9.trans s10)
            have dd10 := dd7.same s70
            exact fin h' x m (ds.take j ++ ds.drop (j + 1)) _ (hp7.same s70) (ButD.trans b2 (ButD.trans b27 (Same.but s70))) (hh7.but hp7 (Same.but s70))
              ⟨_, (hp7.same (s8.trans s9)).ne hx, upd_same, Paired.app (Paired.takeP j dd10) (Paired.dropP (j + 1) dd10)⟩ wn m10 (by rw [List.length_append, List.length_take, List.length_drop]; omega)
      · rw [decide_eq_false (by simpa using hw)]
        exact iteF (iteF (hnx _ _ ⟨rfl, hp1, b1⟩))
    clear hh1 hl1 hp1 b1 H1
    rintro σ2 H1 ⟨rfl, hp1, b1⟩
    have hh1 := hh.but hp b1
    have hl1 := hl.but hp b1
    -- way 2
    refine seqV (Good := fun σ2 H2 => σ2 = [some (.ref p), some (.ref h), some (.int m), some (.ref a), some (.int way), none, none, none, none, none, none, none, none, none, none, none] ∧ PotAt H2 p ∧ ButD p H H2) ?_ ?_
    · intro nx hnx
      refine ⟨_, rfl, rfl, decide (V.int way = V.int 2), rfl, ?_⟩
      by_cases hw : way = 2
      · subst hw
        rw [decide_eq_true rfl]
        refine iteT ?_
        have m1 := wf.m1
        refine seqV (Good := fun σ2 H3 => ∃ (o : Addr) (os : List Int), o ≠ p ∧ os.Perm (idL m) ∧ H3 o = some (.lst (os.map V.int)) ∧ PotAt H3 p ∧ ButD p H H3 ∧ σ2 = [some (.ref p), some (.ref h), some (.int m), some (.ref a), some (.int 2), none, none, some (.ref o), none, none, none, none, none, none, none, none]) ?_ ?_
        · intro nx2 hnx2
          refine ⟨_, rfl, _, rfl, m, rfl, RgOk.of_le (by decide) (by omega) (by decide) (by omega), fun r hr2 => ?_⟩
          rw [idL_rg]
          have s2 := same_upd (o := .lst ((idL m).map V.int)) hr2
          exact ⟨p, r, idL m, rfl, hp1.same s2, upd_same, by rw [idL_len]; omega, fun o os H3 no ho pm hp3 b3 => hnx2 _ _ ⟨o, os, (hp1.same s2).ne no, pm, ho, hp3, ButD.trans b1 (ButD.trans (Same.but s2) b3), rfl⟩⟩
        rintro _ H3 ⟨o, os, nop, pm, ho, hp3, b3, rfl⟩
        have hl3 := hl.but hp b3
        have ol : os.length = m.toNat := pm.length_eq.trans (idL_len m)
        have wn := wf.ren pm
        obtain ⟨ys, na, ha3, dd3⟩ := id hl3
        have yl := Paired.length dd3
        refine seqV (Good := fun σ2 H4 => ∃ (D : Addr) (zs : List V), D ≠ p ∧ H4 D = some (.lst zs) ∧ DdAll H4 zs (ds.map (renD os)) ∧ Same H3 H4 ∧ σ2 = [some (.ref p), some (.ref h), some (.int m), some (.ref a), some (.int 2), none, none, some (.ref o), some (.ref D), none, none, none, none, none, none, none]) ?_ ?_
        · intro nx2 hnx2
          refine ⟨_, rfl, a, rfl, ⟨ys, .inl (.inl ha3)⟩, fun D hD => ?_⟩
          refine lc_mapL (es := ds) (F := DdAt) (G := DdAt) (f := fun d => some (renD os d)) (stabD D) ha3 hD (by omega) dd3 ?_ ?_
          · rintro x e H5 A B he ⟨t, rfl, ht⟩ b ⟨zs, hz⟩ hA hB
            have ht2 := b.new hD _ _ ht
            have ho5 := b.new hD _ _ ho
            have oke := wf.ok e he
            have p0 := oke.p0
            have pn := oke.pn
            have g0 := oke.g0
            have gn := oke.gn
            refine ⟨t, _, rfl, .inl (.inl ht2), rfl, _, _, rfl, _, _, rfl, _, _, rfl, _, _, rfl, rfl, rfl, yes_ite ?_⟩
            refine ⟨_, rfl, _, rfl, o, _, _, _, rfl, rfl, .inl (.inl ho5), at_ren p0 (by omega), _, rfl, ?_⟩
            refine ⟨_, rfl, _, rfl, o, _, _, _, rfl, rfl, .inl (.inl ho5), at_ren g0 (by omega), _, rfl, ?_⟩
            exact ⟨(by show 4 ≤ sizeLine; decide), fun p2 hp2 => hA (renD os e) _ _ rfl (same_upd hp2) ⟨p2, rfl, upd_same⟩⟩
          · intro zs H5 h1 h2 h3
            rw [mapD] at h2
            exact hnx2 _ _ ⟨D, zs, hp3.ne hD, h1, h2, h3.new hD, rfl⟩
        rintro _ H4 ⟨D, zs, nD, hD, ddD, s4, rfl⟩
        have hp4 := hp3.same s4
        have b4 := ButD.trans b3 (Same.but s4)
        have hh4 := hh.but hp b4
        have ho4 := s4 _ _ ho
        refine retV (Good := fun v H7 => ∃ h', v = .ref h' ∧ PotAt H7 p ∧ ButD p H4 H7 ∧ HAt C p H7 h' m (ds.map (renD os))) ?_ ?_
        · intro Q' hk
          refine ⟨_, rfl, p, 2, rfl, hp4, by decide, by decide, fun z H7 z0 z2 hp7 b7 => ⟨rfl, decide (V.int z = V.int 0), rfl, ?_⟩⟩
          have mk : Made C H7 Q' m (ds.map (renD os)) := made_at hp7 (fun h' H' s hh' => hk _ _ ⟨h', rfl, hp7.same s, ButD.trans b7 (Same.but s), hh'⟩)
          obtain ⟨l, xs, nl, hh7⟩ := hh4.but hp4 b7
          have ho7 := b7 _ _ nop ho4
          obtain ⟨dx, ob⟩ := hh7.ob
          by_cases hz : z = 0
          · rw [decide_eq_true (by rw [hz])]
            exact iteT ⟨_, rfl, h, dx, _, rfl, ob, nd _ (by decide +kernel) (by decide +kernel), _, rfl, h, l, o, m, xs, ds, os, rfl, hh7, .inl ho7, pm, wf, wn, mk⟩
          · rw [decide_eq_false (by simpa using hz)]
            refine iteF ⟨_, rfl, h, dx, _, rfl, ob, nd _ (by decide +kernel) (by decide +kernel), _, rfl, o, _, rfl, .inl ⟨.inl (.inl ho7), fun t ht => ?_⟩⟩
            have s8 := same_upd (o := .tup (os.map V.int)) ht
            exact ⟨rfl, h, l, t, m, xs, ds, os, rfl, hh7.same s8, .inr upd_same, pm, wf, wn, mk.same s8⟩
        · rintro _ H7 ⟨h', rfl, hp7, b7, hh7⟩
          refine ⟨_, rfl, _, rfl, fin h' D m (ds.map (renD os)) H7 hp7 (ButD.trans b4 b7) hh7 (LAt.but hp4 b7 ⟨zs, nD, hD, ddD⟩) wn m10 (by rw [List.length_map]; omega)⟩
      · rw [decide_eq_false (by simpa using hw)]
        exact iteF (hnx _ _ ⟨rfl, hp1, b1⟩)
    clear hh1 hl1 hp1 b1 H1
    rintro σ2 H1 ⟨rfl, hp1, b1⟩
    have hh1 := hh.but hp b1
    have hl1 := hl.but hp b1
    -- way 3
    refine seqV (Good := fun σ2 H2 => σ2 = [some (.ref p), some (.ref h), some (.int m), some (.ref a), some (.int way), none, none, none, none, none, none, none, none, none, none, none] ∧ PotAt H2 p ∧ ButD p H H2) ?_ ?_
    · intro nx hnx
      obtain ⟨ys, na, ha1, dd1⟩ := id hl1
      have yl := Paired.length dd1
      refine ⟨_, rfl, rfl, decide (V.int way = V.int 3), rfl, ?_⟩
      by_cases hw : way = 3
      · subst hw
        rw [decide_eq_true rfl]
        refine iteT ?_
        refine ⟨_, rfl, _, _, rfl, rfl, decide (m < 9), rfl, ?_⟩
        by_cases hm9 : m < 9
        · rw [decide_eq_true hm9]
          refine iteT ?_
          refine ⟨_, rfl, a, ys, rfl, .inl (.inl (.inl ha1)), _, _, rfl, rfl, decide ((ys.length : Int) < 20), rfl, ?_⟩
          by_cases hl20 : (ys.length : Int) < 20
          · rw [decide_eq_true hl20]
            refine iteT ?_
            refine seqV (Good := fun σ2 H3 => ∃ (e : Addr) (es : List Dd), LAt p H3 e es ∧ WF 2 es ∧ es.length ≤ 2 ∧ PotAt H3 p ∧ ButD p H H3 ∧ σ2 = [some (.ref p), some (.ref h), some (.int m), some (.ref a), some (.int 3), none, none, none, none, some (.ref e), none, none, none, none, none, none]) ?_ ?_
            · intro nx2 hnx2
              exact ⟨_, rfl, p, 2, 2, rfl, hp1, by decide, by decide, by decide, fun e xs es H3 ne he hp3 b3 dde oke nde le => hnx2 _ _ ⟨e, es, ⟨xs, hp1.ne ne, he, dde⟩, ⟨by decide, by decide, oke, nde, by omega⟩, le, hp3, ButD.trans b1 b3, rfl⟩⟩
            rintro _ H3 ⟨e, es, he3, we, le, hp3, b3, rfl⟩
            have wn : WF (m + 2) (ds ++ es.map (shiftD m)) := wf.join we (by omega) (by omega)
            obtain ⟨zs, ne, hze, dde⟩ := id he3
            have zl := Paired.length dde
            refine seqV (Good := fun σ2 H4 => ∃ (D : Addr) (us : List V), D ≠ p ∧ H4 D = some (.lst us) ∧ DdAll H4 us (es.map (shiftD m)) ∧ Same H3 H4 ∧ σ2 = [some (.ref p), some (.ref h), some (.int m), some (.ref a), some (.int 3), none, none, none, some (.ref D), some (.ref e), none, none, none, none, none, none]) ?_ ?_
            · intro nx2 hnx2
              refine ⟨_, rfl, e, rfl, ⟨zs, .inl (.inl hze)⟩, fun D hD => ?_⟩
              refine lc_mapL (es := es) (F := DdAt) (G := DdAt) (f := fun d => some (shiftD m d)) (stabD D) hze hD (by omega) dde ?_ ?_
              · rintro x e H5 A B he ⟨t, rfl, ht⟩ b ⟨zs, hz⟩ hA hB
                have ht2 := b.new hD _ _ ht
                refine ⟨t, _, rfl, .inl (.inl ht2), rfl, _, _, rfl, _, _, rfl, _, _, rfl, _, _, rfl, rfl, rfl, yes_ite ?_⟩
                refine ⟨_, rfl, _, rfl, _, _, rfl, rfl, _, rfl, _, rfl, _, rfl, _, _, rfl, rfl, _, rfl, (by show 4 ≤ sizeLine; decide), fun p2 hp2 => ?_⟩
                exact hA (shiftD m e) _ _ rfl (same_upd hp2) ⟨p2, rfl, upd_same⟩
              · intro us H5 h1 h2 h3
                rw [mapD] at h2
                exact hnx2 _ _ ⟨D, us, hp3.ne hD, h1, h2, h3.new hD, rfl⟩
            rintro _ H4 ⟨D, us, nD, hD, ddD, s4, rfl⟩
            have hp4 := hp3.same s4
            have b4 := ButD.trans b3 (Same.but s4)
            have hh4 := hh.but hp b4
            have he4 := he3.but hp3 (Same.but s4)
            have hl4 := hl.but hp b4
            refine retV (Good := fun v H7 => ∃ h', v = .ref h' ∧ PotAt H7 p ∧ ButD p H4 H7 ∧ HAt C p H7 h' (m + 2) (ds ++ es.map (shiftD m))) ?_ ?_
            · intro Q' hk
              refine ⟨_, rfl, p, 2, rfl, hp4, by decide, by decide, fun z H7 z0 z2 hp7 b7 => ⟨rfl, decide (V.int z = V.int 0), rfl, ?_⟩⟩
              have mk : Made C H7 Q' (m + 2) (ds ++ es.map (shiftD m)) := made_at hp7 (fun h' H' s hh' => hk _ _ ⟨h', rfl, hp7.same s, ButD.trans b7 (Same.but s), hh'⟩)
              obtain ⟨l, xs, nl, hh7⟩ := hh4.but hp4 b7
              obtain ⟨zs, ne, hze, dde⟩ := he4.but hp4 b7
              obtain ⟨dx, ob⟩ := hh7.ob
              by_cases hz : z = 0
              · rw [decide_eq_true (by rw [hz])]
                refine iteT ⟨_, rfl, h, dx, _, rfl, ob, nd _ (by decide +kernel) (by decide +kernel), _, rfl, ?_⟩
                refine make_any (K := K) (C := C) (.inl hze) dde we (fun h2 k2 H8 n2 n2' s8 hh8 => ⟨rfl, ?_⟩)
                exact ⟨h, l, h2, k2, m, 2, xs, zs, ds, es, rfl, hh7.same s8, hh8, wn, mk.same s8⟩
              · rw [decide_eq_false (by simpa using hz)]
                refine iteF ⟨_, rfl, h, dx, _, rfl, ob, nd _ (by decide +kernel) (by decide +kernel), _, rfl, ?_⟩
                refine make_any (K := K) (C := C) (.inl hze) dde we (fun h2 k2 H8 n2 n2' s8 hh8 => ⟨rfl, ?_⟩)
                exact ⟨rfl, h, l, h2, k2, m, 2, xs, zs, ds, es, rfl, hh7.same s8, hh8, wn, mk.same s8⟩
            · rintro _ H7 ⟨h', rfl, hp7, b7, hh7⟩
              obtain ⟨ys, na, ha7, dd7⟩ := hl4.but hp4 b7
              have yl := Paired.length dd7
              have ul := Paired.length ddD
              rw [List.length_map] at ul
              have hD7 := b7 _ _ nD hD
              have ddD7 := ddD.pot hp4 b7
              refine ⟨_, rfl, _, _, rfl, rfl, _, rfl, _, rfl, a, D, ys, us, rfl, rfl, ha7, hD7, small_le (k := 60) (by omega), fun x hx => ?_⟩
              have s8 := same_upd (o := .lst (ys ++ us)) hx
              exact fin h' x (m + 2) (ds ++ es.map (shiftD m)) _ (hp7.same s8) (ButD.trans b4 (ButD.trans b7 (Same.but s8))) (hh7.but hp7 (Same.but s8))
                ⟨_, hp7.ne hx, upd_same, Paired.app (DdAll.same s8 dd7) (DdAll.same s8 ddD7)⟩ wn (by omega) (by rw [List.length_append, List.length_map]; omega)
          · rw [decide_eq_false hl20]
            exact iteF (hnx _ _ ⟨rfl, hp1, b1⟩)
        · rw [decide_eq_false hm9]
          exact iteF (iteF (hnx _ _ ⟨rfl, hp1, b1⟩))
      · rw [decide_eq_false (by simpa using hw)]
        exact iteF (iteF (hnx _ _ ⟨rfl, hp1, b1⟩))
    clear hh1 hl1 hp1 b1 H1
    rintro σ2 H1 ⟨rfl, hp1, b1⟩
    have hh1 := hh.but hp b1
    have hl1 := hl.but hp b1
    -- way 4
    have fl : (ds.filter isAny).length ≤ ds.length := List.length_filter_le _ _
    have wf5 : WF m (ds.filter isAny) := wf.filter _
    refine seqV (Good := fun σ2 H2 => σ2 = [some (.ref p), some (.ref h), some (.int m), some (.ref a), some (.int way), none, none, none, none, none, none, none, none, none, none, none] ∧ PotAt H2 p ∧ ButD p H H2) ?_ ?_
    · intro nx hnx
      refine ⟨_, rfl, rfl, decide (V.int way = V.int 4), rfl, ?_⟩
      by_cases hw : way = 4
      · subst hw
        rw [decide_eq_true rfl]
        refine iteT ?_
        obtain ⟨l, xs, nl, hh2⟩ := id hh1
        obtain ⟨dx, ob⟩ := hh2.ob
        refine retV (Good := fun v H7 => ∃ h', v = .ref h' ∧ Same H1 H7 ∧ HAt C p H7 h' m (ds.filter isAny)) ?_ ?_
        · intro Q' hk
          have mk : Made C H1 Q' m (ds.filter isAny) := made_at hp1 (fun h' H' s hh' => hk _ _ ⟨h', rfl, s, hh'⟩)
          exact ⟨_, rfl, h, dx, _, rfl, ob, nd _ (by decide +kernel) (by decide +kernel), h, l, m, xs, ds, rfl, hh2, wf, mk⟩
        · rintro _ H7 ⟨h', rfl, s7, hh7⟩
          have hp7 := hp1.same s7
          have b7 := ButD.trans b1 (Same.but s7)
          obtain ⟨ys, na, ha7, dd7⟩ := hl.but hp b7
          have yl := Paired.length dd7
          refine ⟨_, rfl, _, rfl, a, rfl, ⟨ys, .inl (.inl ha7)⟩, fun D hD => ?_⟩
          refine lc_mapL (es := ds) (F := DdAt) (G := DdAt) (f := keepD isAny) (stabD D) ha7 hD (by omega) dd7 ?_ ?_
          · rintro x e H5 A B he ⟨t, rfl, ht⟩ b ⟨zs, hz⟩ hA hB
            have ht2 := b.new hD _ _ ht
            refine ⟨rfl, _, rfl, _, _, _, _, rfl, rfl, .inl (.inl ht2), rfl, rfl, isAny e, congrArg V.bl (anyE e), ?_⟩
            cases q : isAny e with
            | true => exact iteT ⟨_, rfl, hA e _ H5 (if_pos q) (fun _ _ z => z) ⟨t, rfl, ht2⟩⟩
            | false => exact iteF (hB H5 (if_neg (by rw [q]; decide)) fun _ _ z => z)
          intro zs H8 h1 h2 h3
          rw [keepD_filter] at h2
          have s8 := h3.new hD
          exact fin h' D m (ds.filter isAny) H8 (hp7.same s8) (ButD.trans b7 (Same.but s8)) (hh7.but hp7 (Same.but s8)) ⟨zs, hp7.ne hD, h1, h2⟩ wf5 m10 (by omega)
      · rw [decide_eq_false (by simpa using hw)]
        exact iteF (hnx _ _ ⟨rfl, hp1, b1⟩)
    clear hh1 hl1 hp1 b1 H1
    rintro σ2 H1 ⟨rfl, hp1, b1⟩
    have hh1 := hh.but hp b1
    have hl1 := hl.but hp b1
    -- the rest
    refine seqV (Good := fun σ2 H2 => ∃ (D : Addr) (zs : List V), D ≠ p ∧ H2 D = some (.lst zs) ∧ DdAll H2 zs (ds.filter isAny) ∧ Same H1 H2 ∧ σ2 = [some (.ref p), some (.ref h), some (.int m), some (.ref a), some (.int way), none, none, none, none, none, some (.ref D), none, none, none, none, none]) ?_ ?_
    · intro nx2 hnx2
      obtain ⟨ys, na, ha1, dd1⟩ := id hl1
      have yl := Paired.length dd1
      refine ⟨_, rfl, a, rfl, ⟨ys, .inl (.inl ha1)⟩, fun D hD => ?_⟩
      refine lc_mapL (es := ds) (F := DdAt) (G := DdAt) (f := keepD isAny) (stabD D) ha1 hD (by omega) dd1 ?_ ?_
      · rintro x e H5 A B he ⟨t, rfl, ht⟩ b ⟨zs, hz⟩ hA hB
        have ht2 := b.new hD _ _ ht
        refine ⟨rfl, _, rfl, _, _, _, _, rfl, rfl, .inl (.inl ht2), rfl, rfl, isAny e, congrArg V.bl (anyE e), ?_⟩
        cases q : isAny e with
        | true => exact iteT ⟨_, rfl, hA e _ H5 (if_pos q) (fun _ _ z => z) ⟨t, rfl, ht2⟩⟩
        | false => exact iteF (hB H5 (if_neg (by rw [q]; decide)) fun _ _ z => z)
      intro zs H8 h1 h2 h3
      rw [keepD_filter] at h2
      exact hnx2 _ _ ⟨D, zs, hp1.ne hD, h1, h2, h3.new hD, rfl⟩
    rintro _ H2 ⟨D, zs, nD, hD, ddD, s2, rfl⟩
    have hp2 := hp1.same s2
    have b2 := ButD.trans b1 (Same.but s2)
    have al : (ds.filter isAny).all isAny = true := List.all_eq_true.mpr fun d hd => (List.mem_filter.mp hd).2
    have wn : WF m ((ds.filter isAny).map turnD) := wf5.turn al
    refine retV (Good := fun v H7 => ∃ h', v = .ref h' ∧ Same H2 H7 ∧ HAt C p H7 h' m ((ds.filter isAny).map turnD)) ?_ ?_
    · intro Q' hk
      obtain ⟨l, xs, nl, hh2⟩ := hh.but hp b2
      obtain ⟨dx, ob⟩ := hh2.ob
      refine ⟨_, rfl, h, dx, _, rfl, ob, nd _ (by decide +kernel) (by decide +kernel), h, l, m, xs, ds, rfl, hh2, wf, ?_⟩
      intro h5 l5 xs5 H5 n5 n5' s5 hh5
      obtain ⟨dx5, ob5⟩ := hh5.ob
      refine ⟨h5, dx5, _, rfl, ob5, nd _ (by decide +kernel) (by decide +kernel), h5, l5, m, xs5, ds.filter isAny, rfl, hh5, wf5.len, al, wn, ?_⟩
      exact made_at (hp2.same s5) (fun h' H' s hh' => hk _ _ ⟨h', rfl, s5.trans s, hh'⟩)
    · rintro _ H7 ⟨h', rfl, s7, hh7⟩
      have hp7 := hp2.same s7
      have b7 := ButD.trans b2 (Same.but s7)
      have hD7 := s7 _ _ hD
      have ddD7 := DdAll.same s7 ddD
      have zl := Paired.length ddD7
      refine ⟨_, rfl, _, rfl, D, rfl, ⟨zs, .inl (.inl hD7)⟩, fun D2 hD2 => ?_⟩
      refine lc_mapL (es := ds.filter isAny) (F := DdAt) (G := DdAt) (f := fun d => some (turnD d)) (stabD D2) hD7 hD2 (by omega) ddD7 ?_ ?_
      · rintro x e H5 A B he ⟨t, rfl, ht⟩ b ⟨zs, hz⟩ hA hB
        have ht2 := b.new hD2 _ _ ht
        refine ⟨t, _, rfl, .inl (.inl ht2), rfl, _, _, rfl, _, _, rfl, _, _, rfl, _, _, rfl, rfl, rfl, yes_ite ?_⟩
        refine ⟨_, rfl, _, rfl, _, _, rfl, rfl, _, rfl, _, rfl, (by show 4 ≤ sizeLine; decide), fun p2 hp2 => ?_⟩
        exact hA (turnD e) _ _ rfl (same_upd hp2) ⟨p2, rfl, upd_same⟩
      · intro us H8 h1 h2 h3
        rw [mapD] at h2
        have s8 := h3.new hD2
        exact fin h' D2 m ((ds.filter isAny).map turnD) H8 (hp7.same s8) (ButD.trans b7 (Same.but s8)) (hh7.but hp7 (Same.but s8)) ⟨us, hp7.ne hD2, h1, h2⟩ wn m10 (by rw [List.length_map]; omega)
end
end L2.K21
end

section
set_option Elab.async false
set_option linter.all false
set_option maxRecDepth 100000
set_option maxHeartbeats 4000000
namespace L2.K21
open PySem PySem.Spec PyProof.Rows L2.Gd
/-! ### back by the index -/
def backL (os : List Int) (m : Int) : List Int := (idL m).map fun j => ((os.idxOf j : Nat) : Int)
theorem rgI_id (m : Int) : rgI 0 m.toNat = idL m := by
  unfold rgI idL
  refine List.map_congr_left fun i _ => ?_
  show (0 : Int) + (i : Int) = (i : Int)
  rw [Int.zero_add]
theorem idL_in {m x : Int} (h0 : 0 ≤ x) (h1 : x < m) : x ∈ idL m := by
  unfold idL
  exact List.mem_map.mpr ⟨x.toNat, List.mem_range.mpr (by omega), by show ((x.toNat : Nat) : Int) = x; omega⟩
theorem idx_lt : ∀ {os : List Int} {x : Int}, x ∈ os → os.idxOf x < os.length
  | y :: r, x, h => by
    rw [List.idxOf_cons]
    by_cases e : y = x
    · subst e
      simp
    · have h2 : x ∈ r := (List.mem_cons.mp h).resolve_left fun z => e z.symm
      have := idx_lt h2
      rw [show (y == x) = false from by simpa using e]
      simp
      omega
theorem back_perm {m : Int} {os : List Int} (hp : os.Perm (idL m)) : (backL os m).Perm (idL m) := by
  have nd : os.Nodup := hp.nodup_iff.mpr (idL_nd m)
  have ol : os.length = m.toNat := hp.length_eq.trans (idL_len m)
  refine (List.perm_ext_iff_of_nodup (nodup_mapOn _ (fun a ha b hb z => ?_) (idL_nd m)) (idL_nd m)).mpr fun x => ⟨fun h => ?_, fun h => ?_⟩
  · have la := idx_lt (hp.mem_iff.mpr ha)
    have lb := idx_lt (hp.mem_iff.mpr hb)
    have e1 := List.getElem_idxOf la
    have e2 := List.getElem_idxOf lb
    have : os.idxOf a = os.idxOf b := Int.ofNat.inj z
    rw [← e1, ← e2]
    simp only [this]
  · obtain ⟨j, hj, rfl⟩ := List.mem_map.mp h
    have := idx_lt (hp.mem_iff.mpr hj)
    exact idL_in (by omega) (by omega)
  · obtain ⟨x0, x1⟩ := idL_mem h
    have lt : x.toNat < os.length := by omega
    refine List.mem_map.mpr ⟨os[x.toNat], hp.mem_iff.mp (List.getElem_mem lt), ?_⟩
    show ((os.idxOf os[x.toNat] : Nat) : Int) = x
    rw [nd.idxOf_getElem _ lt]
    omega
theorem back_at {m : Int} {os : List Int} (hp : os.Perm (idL m)) {i : Int} (h0 : 0 ≤ i) (h1 : i < m) : (backL os m).getD (os.getD i.toNat 0).toNat 0 = i := by
  have nd : os.Nodup := hp.nodup_iff.mpr (idL_nd m)
  have ol : os.length = m.toNat := hp.length_eq.trans (idL_len m)
  have lt : i.toNat < os.length := by omega
  have e : os.getD i.toNat 0 = os[i.toNat] := by rw [List.getD_eq_getElem?_getD, List.getElem?_eq_getElem lt]; rfl
  rw [e]
  obtain ⟨x0, x1⟩ := idL_mem (hp.mem_iff.mp (List.getElem_mem lt))
  have lt2 : (os[i.toNat]).toNat < m.toNat := by omega
  unfold backL idL
  rw [List.map_map, List.getD_eq_getElem?_getD, List.getElem?_map, List.getElem?_range lt2]
  show ((os.idxOf ((os[i.toNat]).toNat : Int) : Nat) : Int) = i
  rw [show (((os[i.toNat]).toNat : Nat) : Int) = os[i.toNat] by omega, nd.idxOf_getElem _ lt]
  omega
theorem ren_back {m : Int} {os : List Int} {ds : List Dd} (hp : os.Perm (idL m)) (h : ∀ d ∈ ds, d.Ok m) : (ds.map (renD os)).map (renD (backL os m)) = ds := by
  rw [List.map_map]
  conv => rhs; rw [← List.map_id ds]
  refine List.map_congr_left fun d hd => ?_
  have o := h d hd
  obtain ⟨p, c, g, w⟩ := d
  show renD (backL os m) (renD os ⟨p, c, g, w⟩) = ⟨p, c, g, w⟩
  simp only [renD]
  rw [back_at hp o.p0 o.pn, back_at hp o.g0 o.gn]
theorem turn_turn (ds : List Dd) : (ds.map turnD).map turnD = ds := by
  rw [List.map_map]
  conv => rhs; rw [← List.map_id ds]
  refine List.map_congr_left fun d _ => ?_
  obtain ⟨p, c, g, w⟩ := d
  show turnD (turnD ⟨p, c, g, w⟩) = ⟨p, c, g, w⟩
  simp only [turnD, Dd.mk.injEq, true_and, and_true]
  omega
theorem all_filter (ds : List Dd) : (ds.filter isAny).all isAny = true := List.all_eq_true.mpr fun d hd => (List.mem_filter.mp hd).2
theorem all_turn {ds : List Dd} (h : ds.all isAny = true) : (ds.map turnD).all isAny = true := by
  rw [List.all_eq_true] at h ⊢
  intro d hd
  obtain ⟨e, he, rfl⟩ := List.mem_map.mp hd
  exact h e he
theorem filt_filt (ds : List Dd) : (ds.filter isAny).filter isAny = ds.filter isAny := by rw [List.filter_filter]; simp
/-- a list is changed that is not the house's -/
theorem HouseL.butL {C g : Addr} {H H' : Hp} {h l : Addr} {m : Int} {xs zs : List V} {ds : List Dd} (hg : H g = some (.lst zs)) (nl : l ≠ g) (b : ButD g H H') (x : HouseL C H h l m xs ds) : HouseL C H' h l m xs ds := by
  obtain ⟨dx, ob⟩ := x.ob
  refine ⟨⟨dx, b _ _ (fun z => ?_) ob⟩, b _ _ nl x.ls, Paired.mapP x.dd fun _ _ ⟨t, e, q⟩ => ⟨t, e, b _ _ (fun z => ?_) q⟩⟩
  · subst z; rw [hg] at ob; exact nomatch ob
  · subst z; rw [hg] at q; exact nomatch q
end L2.K21
end

section
set_option Elab.async false
set_option linter.all false
set_option maxRecDepth 100000
set_option maxHeartbeats 8000000
namespace L2.K21
open PySem PySem.Spec PyProof.Rows L2.Gd
theorem ButD.free {p g : Addr} {H H2 : Hp} (b : ButD p H H2) (np : g ≠ p) (h : H2 g = none) : H g = none := by
  cases e : H g with
  | none => rfl
  | some o =>
    rw [b _ _ np e] at h
    exact nomatch h
theorem ints_of : ∀ {zs : List V} {bs : List Int}, Paired (fun v b => v = V.int b) zs bs → zs = bs.map V.int
  | _, _, .nil => rfl
  | _, _, .cons h t => by rw [h, ints_of t]; rfl
/-- a def called by its name, where nothing is being shown -/
structure FnGd (P : Program) (w : World) (K : PySem.W.Frag) (mg : Str → Option Value) (base : Heap) (k : Nat) (x : Str) (ps : List Str) (sp : Sp) : Prop where
  ex : ∃ f fd, mg x = some (.ref f) ∧ PySem.W.keepIn K (.ref f) = true ∧ Binds K fd ps [] ∧ FnG P w K mg base k f fd ps sp
theorem pe_fnG {X : Cx} {k : Nat} {x : Str} {ps : List Str} {sp : Sp} {e : Expr} {es : List Expr} {t : TA} {p pos : Pos}
    (F : FnGd X.prog X.w X.K X.mg X.base k x ps sp) (hg : X.A.guards = some []) (hr : Room k X.A) (ha : PA X (e :: es) t) (gl : Gl X x := by rfl) (hdb : (x == ("__debug__" : Str)) = false := by decide)
    (he : starEach (e :: es) X.env = (false, eval e X.env) :: starEach es X.env := by rfl)
    (hpl : (backTo pos (starEach es X.env)).any (·.1) = false := by rfl) :
    PE X (.Call (.Name x p) (e :: es) [] pos) (tCall sp [] E0 t) := by
  obtain ⟨f, fd, m, kp, b, G⟩ := F.ex
  exact pe_callG G hg hr gl m kp b ha hdb he hpl
theorem pe_indexK {X : Cx} (K : PySem.W.Frag) {o e : Expr} {es : List Expr} {to : TE} {t : TA} {apos cpos : Pos} (ho : PE X o to) (ha : PA X (e :: es) t)
    (hbase : attributeBase o "index" X.env (eval o X.env) = eval o X.env := by rfl)
    (hfew : ((backTo cpos (starEach (e :: es) X.env)).all (fun x => !x.1) && (backToKw cpos (keywordEach [] X.env)).all (fun x => x.1.isSome)
      && decide ((e :: es).length + ([] : List Keyword).length + (if ([] : List Keyword).isEmpty then 0 else 1) < 30)) = true := by rfl)
    (hline : (apos.endLine == cpos.line) = true := by rfl) (hs : starEach (e :: es) X.env = (false, eval e X.env) :: starEach es X.env := by rfl) (hplain : (backTo cpos (starEach es X.env)).any (·.1) = false := by rfl) (hK : X.K = K := by rfl) :
    PE X (.Call (.Attribute o "index" apos) (e :: es) [] cpos) (tBM K "list" (rIndex K) to t) := by
  subst hK
  exact pe_bm PySem.F.plainAttrs_list PySem.F.slot_list_index PySem.F.type_list_index mt_index ho ha hbase hfew hline hs hplain
/-- House(places=.., deeds=..) -/
structure MkK (P : Program) (w : World) (K : PySem.W.Frag) (mg : Str → Option Value) (base : Heap) (C : Addr) : Prop where
  ex : ∃ f fd, Mk K C f ∧ KBn K fd ["self", "places", "deeds"] 1 ["places", "deeds"] (fun us ws => us ++ ws) (fun vs zs => vs ++ zs) ∧ FnOk P w K mg base CX0 5 f fd ["self", "places", "deeds"] (spInit K C)
theorem pe_houseK {X : Cx} {C : Addr} {kws : List Keyword} {tk : TA} {p pos : Pos} (M : MkK X.prog X.w X.K X.mg X.base C) (T : ClsT X.K X.mg C) (hr : Room 6 X.A) (hkw : PK X kws tk)
    (hg : Gl X "House" := by rfl) (hall : (backToKw pos (keywordEach kws X.env)).all (·.1.isSome) = true := by rfl) (hks : (backToKw pos (keywordEach kws X.env)).filterMap (·.1) = (["places", "deeds"] : List Str) := by rfl)
    (hpl : ((backTo pos (starEach [] X.env)).any (·.1) || (backToKw pos (keywordEach kws X.env)).any (·.1.isNone)) = false := by rfl) :
    PE X (.Call (.Name "House" p) [] kws pos) (tMakeK C 0 2 (spInit X.K C) (fun vs zs => vs ++ zs) E0 tNil tk) := by
  obtain ⟨f, fd, mk, b, F⟩ := M.ex
  exact pe_makeK0 mk F hr hg T.mgC b pass0 hkw hall hks (by decide) hpl
structure HKr (P : Program) (w : World) (K : PySem.W.Frag) (mg : Str → Option Value) (base : Heap) (C : Addr) : Prop where
  te : FnGd P w K mg base 8 "_law_tells" ["_law_house", "_law_places", "_law_deeds_here"] (spTells C)
  er : FnGd P w K mg base 8 "_law_equal_right" ["_law_pot_here", "_law_house", "_law_places", "_law_deeds_here"] (spEqR C)
  ma : Fn P w K mg base 8 "_law_made" ["_law_pot_here", "_law_house", "_law_places", "_law_deeds_here"] (spMade C)
  mkk : MkK P w K mg base C
section
variable {P : Program} {w : World} {K : PySem.W.Frag} {mg : Str → Option Value} {base : Heap} {C : Addr}
abbrev sRight : Stmt := top 31
def spRight : Sp := fun vs H Q _ => ∃ (p : Addr), vs = [.ref p] ∧ PotAt H p ∧ ∀ H', ButD p H H' → Q (.bl true) H'
def NRi : List Str := ["_law_pot_here", "_law_places", "_law_deeds_here", "_law_given", "_law_house", "_law_turn", "_law_ahead", "_law_order", "_law_back", "_law_place"]
theorem scRi : FnScope NRi ["_law_pot_here"] (defScope sRight) := ⟨rfl, rfl, rfl, by decide +kernel, rfl, by decide +kernel, by decide +kernel⟩
theorem ok_right {f : Addr} {fd : FuncData} (F : Fun K "_law_right" "_law_right" sRight f fd) (k : HK P w K mg base C) (k2 : HKk P w K mg base C) (k3 : HKr P w K mg base C) : FnG P w K mg base 9 f fd ["_law_pot_here"] spRight := by
  refine okG F scRi (fun vs H Q h => ?_) (fun cdv A outer s H vs Q hg hr h => ?_)
  · obtain ⟨p, rfl, _⟩ := h
    rfl
  · obtain ⟨p, rfl, hp, q⟩ := h
    have N := scRi.nd
    have n := k.n
    have T := k.T
    have r1 := hr.mono (k := 8) (j := 1) (by decide)
    have r2 := hr.mono (k := 8) (j := 2) (by decide)
    have r6 := hr.mono (k := 8) (j := 6) (by decide)
    have r7 := hr.mono (k := 8) (j := 7) (by decide)
    refine ⟨_, pss_cons (ps_set (i := 1) N rfl (.inl rfl) (pe_op op_add pe_int (pe_fn k2.dr r1 (pa_cons (pv 0) (pa_cons pe_int pa_nil)))))
      (pss_cons (ps_set (i := 2) N rfl (.inl rfl) (pe_fn k2.ds r2 (pa_cons (pv 0) (pa_cons (pv 1) (pa_cons (pe_fn k2.dr r1 (pa_cons (pv 0) (pa_cons pe_int pa_nil))) (pa_cons pe_bl pa_nil))))))
      (pss_cons (ps_set (i := 3) N rfl (.inl rfl) (pe_callTy call_list_of (by rfl) n.list (by decide +kernel) (pa_cons (pv 2) pa_nil)))
      (pss_cons (ps_set (i := 4) N rfl (.inl rfl) (pe_houseK k3.mkk T r6 (pk_cons (pv 1) (pk_cons (pe_ifExp (pt_cmpR op_eq (pe_fn k2.dr r1 (pa_cons (pv 0) (pa_cons pe_int pa_nil))) pe_int (nomark _)) (pv 3) (pe_callTy call_tuple_of (by rfl) n.tuple (by decide +kernel) (pa_cons (pv 3) pa_nil))) pk_nil))))
      (pss_cons (ps_expr (pe_bm PySem.F.plainAttrs_list PySem.F.slot_list_append PySem.F.type_list_append mt_append (pv 3) (pa_cons (pe_tup (pa_cons pe_int (pa_cons pe_int (pa_cons pe_int (pa_cons pe_str pa_nil))))) pa_nil)))
      (pss_cons (ps_if (pw_or (pt_not (pt_val (pe_fnG k3.te hg hr (pa_cons (pv 4) (pa_cons (pv 1) (pa_cons (pv 2) pa_nil)))))) (pw_or1 (pt_not (pt_val (pe_fnG k3.er hg hr (pa_cons (pv 0) (pa_cons (pv 4) (pa_cons (pv 1) (pa_cons (pv 2) pa_nil))))))))).pt (pss_one (ps_ret pe_bl)) pss_nil)
      (pss_cons (ps_for PassesOwn.never rfl (pi_range1 (by rfl) n.range (pa_cons pe_int pa_nil)) (pg_name (i := 5) N rfl (.inl rfl)) (pss_cons (ps_set (i := 6) N rfl (.inl rfl) (pe_tup (pa_cons (pv 4) (pa_cons (pv 1) (pa_cons (pv 2) pa_nil))))) (pss_cons (ps_asg (pe_fn k3.ma hr (pa_cons (pv 0) (pa_cons (pv 4) (pa_cons (pv 1) (pa_cons (pv 2) pa_nil))))) (pg_tup rfl (pgs_cons (pg_name (i := 4) N rfl (.inl rfl)) (pgs_cons (pg_name (i := 1) N rfl (.inl rfl)) (pgs_cons (pg_name (i := 2) N rfl (.inl rfl)) pgs_nil))))) (pss_one (ps_if (pw_or (pt_not (pt_val (pe_fnG k3.te hg hr (pa_cons (pv 4) (pa_cons (pv 1) (pa_cons (pv 2) pa_nil)))))) (pw_or1 (pt_not (pt_val (pe_fnG k3.te hg hr (pa_cons (pe_ix ix_tup (pv 6) pe_int (fun _ _ => rfl)) (pa_cons (pe_ix ix_tup (pv 6) pe_int (fun _ _ => rfl)) (pa_cons (pe_ix ix_tup (pv 6) pe_int (fun _ _ => rfl)) pa_nil)))))))).pt (pss_one (ps_ret pe_bl)) pss_nil)))))
      (pss_cons (ps_set (i := 7) N rfl (.inr rfl) (pe_fn k2.mx r2 (pa_cons (pv 0) (pa_cons (pe_listRg rfl (by rfl) n.list (prg_1 (by rfl) n.range (pv 1))) pa_nil))))
      (pss_cons (ps_setLc (i := 8) (own := [("_law_place", 9)]) (g := gName 9) (tt := tYes) (by rfl) N rfl rfl (sw_true rfl rfl rfl (by decide +kernel)) (pi_range1 (by rfl) n.range (pa_cons (pv 1) pa_nil)) (blkOk_by (N := NRi) (sc := defScope sRight) (by decide +kernel)) (fun _ _ _ _ _ => pg_name (i := 9) N rfl (.inl rfl)) (fun _ _ _ _ _ => pts_nil) (fun _ _ _ _ _ => pe_indexK K (pv 7) (pa_cons (pv 9) pa_nil)))
      (pss_cons (ps_if (pw_or (pt_cmpR (op_neH k.eq n T r2) (pe_mH k.rn T r7 (pe_mH k.rn T r7 (pv 4) (pa_cons (pv 7) pa_nil)) (pa_cons (pv 8) pa_nil)) (pv 4) (nomark _)) (pw_or1 (pt_cmpR (op_neH k.eq n T r2) (pe_mH0 k.pn T r7 (pe_mH0 k.pn T r7 (pv 4))) (pe_mH0 k.pn T r7 (pv 4)) (nomark _)))).pt (pss_one (ps_ret pe_bl)) pss_nil)
      (pss_one (ps_ret (pe_and (pe_cmpR (op_eqH k.eq n T r1) (pe_mH0 k.tn T r7 (pe_mH0 k.tn T r7 (pe_mH0 k.pn T r7 (pv 4)))) (pe_mH0 k.pn T r7 (pv 4)) (nomark _)) (pe_one (pe_fnG k3.te hg hr (pa_cons (pe_house k.M T r6 (pa_cons pe_int (pa_cons (pe_lst pa_nil) pa_nil))) (pa_cons pe_int (pa_cons (pe_lst pa_nil) pa_nil))))))))))))))))), ?_⟩
    have ne_pot : ∀ {H' : Hp} {x : Addr}, PotAt H' p → H' x = none → x ≠ p := fun a b => a.ne b
    -- places
    refine seqV (Good := fun σ2 H2 => ∃ m : Int, 1 ≤ m ∧ m ≤ 5 ∧ PotAt H2 p ∧ ButD p H H2 ∧ σ2 = [some (.ref p), some (.int m), none, none, none, none, none, none, none, none])
      (fun nx hnx => ⟨_, rfl, p, 5, rfl, hp, by decide, by decide, fun d H1 d0 d5 hp1 b1 => ⟨_, _, rfl, rfl, hnx _ _ ⟨1 + d, by omega, by omega, hp1, b1, rfl⟩⟩⟩) ?_
    rintro _ H1 ⟨m, m1, m5, hp1, b1, rfl⟩
    -- deeds
    refine seqV (Good := fun σ2 H2 => ∃ (a : Addr) (ds : List Dd), LAt p H2 a ds ∧ WF m ds ∧ ds.length ≤ 8 ∧ PotAt H2 p ∧ ButD p H H2 ∧ σ2 = [some (.ref p), some (.int m), some (.ref a), none, none, none, none, none, none, none]) ?_ ?_
    · intro nx hnx
      refine ⟨_, rfl, _, rfl, _, rfl, p, 9, rfl, hp1, by decide, by decide, fun d H2 d0 d9 hp2 b2 => ?_⟩
      obtain ⟨k9, rfl⟩ : ∃ k9 : Nat, d = k9 := ⟨d.toNat, by omega⟩
      exact ⟨p, m, k9, rfl, hp2, m1, by omega, by omega, fun a xs ds H3 na ha hp3 b3 dd ok nd le => hnx _ _ ⟨a, ds, ⟨xs, hp2.ne na, ha, dd⟩, ⟨m1, by omega, ok, nd, by omega⟩, by omega, hp3, ButD.trans b1 (ButD.trans b2 b3), rfl⟩⟩
    clear hp1 b1 H1
    rintro _ H2 ⟨a, ds, hl2, wf, d8, hp2, b2, rfl⟩
    -- given
    refine seqV (Good := fun σ2 H3 => ∃ (g : Addr) (ys : List V), g ≠ p ∧ g ≠ a ∧ H g = none ∧ H3 g = some (.lst ys) ∧ DdAll H3 ys ds ∧ LAt p H3 a ds ∧ PotAt H3 p ∧ ButD p H H3 ∧ σ2 = [some (.ref p), some (.int m), some (.ref a), some (.ref g), none, none, none, none, none, none]) ?_ ?_
    · intro nx hnx
      obtain ⟨ys, na, ha, dd⟩ := id hl2
      refine ⟨_, rfl, a, ys, rfl, .inl (.inl (.inl ha)), fun g hgn => ?_⟩
      have s3 := same_upd (o := .lst ys) hgn
      exact hnx _ _ ⟨g, ys, hp2.ne hgn, (ne_of_none ha hgn).symm, ButD.free b2 (hp2.ne hgn) hgn, upd_same, DdAll.same s3 dd, hl2.but hp2 (Same.but s3), hp2.same s3, ButD.trans b2 (Same.but s3), rfl⟩
    clear hp2 b2 hl2 H2
    rintro _ H3 ⟨g, ys, ngp, nga, g0, hgl, ddg, hl3, hp3, b3, rfl⟩
    have yl := Paired.length ddg
    -- house
    refine seqV (Good := fun σ2 H4 => ∃ (h l : Addr) (xs zs : List V), l ≠ p ∧ l ≠ g ∧ HouseL C H4 h l m xs ds ∧ H4 g = some (.lst zs) ∧ zs.length ≤ 8 ∧ LAt p H4 a ds ∧ PotAt H4 p ∧ ButD p H H4 ∧ σ2 = [some (.ref p), some (.int m), some (.ref a), some (.ref g), some (.ref h), none, none, none, none, none]) ?_ ?_
    · intro nx hnx
      refine ⟨_, rfl, ?_⟩
      show tIf _ _ _ _ _ _
      refine via (Good := fun v H4 => ∃ u, v = .ref u ∧ Seq K H4 u ys ∧ PotAt H4 p ∧ ButD p H3 H4) ?_ ?_
      · intro Q' hk
        refine ⟨_, rfl, p, 2, rfl, hp3, by decide, by decide, fun z H4 z0 z2 hp4 b4 => ⟨rfl, decide (V.int z = V.int 0), rfl, ?_⟩⟩
        have hg4 := b4 _ _ ngp hgl
        by_cases hz : z = 0
        · rw [decide_eq_true (by rw [hz])]
          exact iteT ⟨_, rfl, hk _ _ ⟨g, rfl, .inl hg4, hp4, b4⟩⟩
        · rw [decide_eq_false (by simpa using hz)]
          refine iteF ⟨_, rfl, g, ys, rfl, .inl ⟨.inl (.inl hg4), fun t ht => ?_⟩⟩
          have s5 := same_upd (o := .tup ys) ht
          exact hk _ _ ⟨t, rfl, .inr upd_same, hp4.same s5, ButD.trans b4 (Same.but s5)⟩
      · rintro _ H4 ⟨u, rfl, sq, hp4, b4⟩
        refine ⟨rfl, rfl, ?_⟩
        refine make_any (K := K) (C := C) sq (ddg.pot hp3 b4) wf (fun h l H5 n5 n5' s5 hh5 => ⟨rfl, ?_⟩)
        have hg4 := b4 _ _ ngp hgl
        exact hnx _ _ ⟨h, l, ys, ys, hp4.ne n5', (ne_of_none hg4 n5').symm, hh5, s5 _ _ hg4, by omega, (hl3.but hp3 b4).but hp4 (Same.but s5), hp4.same s5, ButD.trans b3 (ButD.trans b4 (Same.but s5)), rfl⟩
    clear hp3 b3 hl3 hgl ddg yl H3 ys
    rintro _ H4 ⟨h, l, xs, zs, nlp, nlg, hh4, hg4, z8, hl4, hp4, b4, rfl⟩
    -- given is changed
    refine seqV (Good := fun σ2 H5 => HAt C p H5 h m ds ∧ LAt p H5 a ds ∧ PotAt H5 p ∧ ButD p H H5 ∧ σ2 = [some (.ref p), some (.int m), some (.ref a), some (.ref g), some (.ref h), none, none, none, none, none]) ?_ ?_
    · intro nx hnx
      refine ⟨_, rfl, .inl ⟨rfl, _, .inl (.inl hg4)⟩, (by show 4 ≤ sizeLine; decide), fun t ht => ?_⟩
      have s5 := same_upd (o := .tup [.int 0, .int 0, .int 0, .str "any"]) ht
      refine ⟨g, zs, _, rfl, rfl, s5 _ _ hg4, by rw [sizeLine_eq]; omega, ?_⟩
      have bg : ButD g H4 (upd (upd H4 t (.tup [.int 0, .int 0, .int 0, .str "any"])) g (.lst (zs ++ [.ref t]))) := (Same.but s5).put
      obtain ⟨ys, na, ha, dd⟩ := hl4
      have hp6 : PotAt (upd (upd H4 t (.tup [.int 0, .int 0, .int 0, .str "any"])) g (.lst (zs ++ [.ref t]))) p := by
        obtain ⟨x, y, e, r⟩ := hp4
        exact ⟨x, y, bg _ _ ngp.symm e, r⟩
      refine hnx _ _ ⟨⟨l, xs, nlp, hh4.butL hg4 nlg bg⟩, ⟨ys, na, bg _ _ nga.symm ha, Paired.mapP dd fun _ _ ⟨t2, e, r⟩ => ⟨t2, e, bg _ _ (fun z => by subst z; rw [hg4] at r; exact nomatch r) r⟩⟩, hp6, fun c o ne e => ?_, rfl⟩
      exact bg _ _ (ne_of_none e g0) (b4 _ _ ne e)
    clear hp4 b4 hl4 hh4 hg4 z8 nlp nlg H4 l xs zs
    rintro _ H5 ⟨hh5, hl5, hp5, b5, rfl⟩
    -- told right, equal right
    refine seqV (Good := fun σ2 H6 => HAt C p H6 h m ds ∧ LAt p H6 a ds ∧ PotAt H6 p ∧ ButD p H H6 ∧ σ2 = [some (.ref p), some (.int m), some (.ref a), some (.ref g), some (.ref h), none, none, none, none, none]) ?_ ?_
    · intro nx hnx
      obtain ⟨l, xs, nl, hx⟩ := id hh5
      obtain ⟨ys, na, ha, dd⟩ := id hl5
      refine ⟨_, rfl, _, rfl, _, rfl, h, l, a, m, xs, ys, ds, rfl, hx, ha, dd, wf, fun H6 s6 => ⟨true, rfl, ?_⟩⟩
      refine iteF ?_
      refine ⟨_, rfl, _, rfl, _, rfl, _, rfl, p, h, l, a, m, xs, ys, ds, rfl, hx.same s6, s6 _ _ ha, DdAll.same s6 dd, wf, by omega, fun H7 s7 => ⟨true, rfl, ?_⟩⟩
      have s57 := Same.but (D := p) (s6.trans s7)
      exact iteF (hnx _ _ ⟨hh5.but hp5 s57, hl5.but hp5 s57, hp5.same (s6.trans s7), ButD.trans b5 s57, rfl⟩)
    clear hh5 hl5 hp5 b5 H5
    rintro _ H6 ⟨hh6, hl6, hp6, b6, rfl⟩
    -- seven turns
    refine seqV (Good := fun σ2 H7 => ∃ (h a : Addr) (m : Int) (ds : List Dd) (a5 a6 : Option V), HAt C p H7 h m ds ∧ LAt p H7 a ds ∧ WF m ds ∧ m ≤ 10 ∧ PotAt H7 p ∧ ButD p H H7 ∧ σ2 = [some (.ref p), some (.int m), some (.ref a), some (.ref g), some (.ref h), a5, a6, none, none, none]) ?_ ?_
    · intro nx hnx
      refine ⟨7, rfl, by decide, by decide, for_range (lo := 0) (n := (7 : Int).toNat) (fun i σ2 H7 => ∃ (h a : Addr) (m : Int) (ds : List Dd) (a5 a6 : Option V), HAt C p H7 h m ds ∧ LAt p H7 a ds ∧ WF m ds ∧ m ≤ 10 ∧ ds.length ≤ 8 + 2 * i ∧ PotAt H7 p ∧ ButD p H H7 ∧ σ2 = [some (.ref p), some (.int m), some (.ref a), some (.ref g), some (.ref h), a5, a6, none, none, none])
        ⟨h, a, m, ds, none, none, hh6, hl6, wf, by omega, by omega, hp6, b6, rfl⟩ ?_ ?_⟩
      · rintro i σ2 H7 hi ⟨h, a, m, ds, a5, a6, hh, hl, wf, m10, dl, hp7, b7, rfl⟩
        have i7 : i < 7 := hi
        refine ⟨_, rfl, _, rfl, _, rfl, (by show 3 ≤ sizeLine; decide), fun t ht => ?_⟩
        have s8 := same_upd (o := .tup [.ref h, .int m, .ref a]) ht
        refine ⟨_, rfl, _, rfl, _, rfl, _, rfl, p, h, a, m, ds, 8 + 2 * i, rfl, hp7.same s8, hh.but hp7 (Same.but s8), hl.but hp7 (Same.but s8), wf, m10, dl, by omega, fun t2 h2 a2 m2 ds2 H9 ht2 hh9 hl9 wf9 m9 dl9 hp9 b9 => ?_⟩
        refine ⟨t2, _, rfl, .inl (.inl ht2), rfl, _, _, rfl, _, _, rfl, _, _, rfl, rfl, ?_⟩
        obtain ⟨l9, xs9, nl9, hx9⟩ := id hh9
        obtain ⟨ys9, na9, ha9, dd9⟩ := id hl9
        refine ⟨_, rfl, _, rfl, _, rfl, h2, l9, a2, m2, xs9, ys9, ds2, rfl, hx9, ha9, dd9, wf9, fun H10 s10 => ⟨true, rfl, ?_⟩⟩
        refine iteF ?_
        have b710 : ButD p H7 H10 := ButD.trans (Same.but s8) (ButD.trans b9 (Same.but s10))
        obtain ⟨l, xs, nl, hx⟩ := hh.but hp7 b710
        obtain ⟨ys, na, ha, dd⟩ := hl.but hp7 b710
        have ht10 : H10 t = some (.tup [.ref h, .int m, .ref a]) := s10 _ _ (b9 _ _ (pot_ne (hp7.same s8) upd_same) upd_same)
        refine ⟨_, rfl, t, _, _, _, rfl, rfl, .inl (.inl ht10), rfl, _, rfl, t, _, _, _, rfl, rfl, .inl (.inl ht10), rfl, _, rfl, t, _, _, _, rfl, rfl, .inl (.inl ht10), rfl,
          h, l, a, m, xs, ys, ds, rfl, hx, ha, dd, wf, fun H11 s11 => ⟨true, rfl, ?_⟩⟩
        have s911 := s10.trans s11
        exact iteF ⟨h2, a2, m2, ds2, _, _, hh9.but hp9 (Same.but s911), hl9.but hp9 (Same.but s911), wf9, m9, by omega, hp9.same s911, ButD.trans b7 (ButD.trans b710 (Same.but s11)), rfl⟩
      · rintro σ2 H7 ⟨h, a, m, ds, a5, a6, hh, hl, wf, m10, dl, hp7, b7, rfl⟩
        exact hnx _ _ ⟨h, a, m, ds, a5, a6, hh, hl, wf, m10, hp7, b7, rfl⟩
    clear hh6 hl6 hp6 b6 H6 wf d8 m1 m5 nga h a m ds
    rintro _ H7 ⟨h, a, m, ds, a5, a6, hh7, hl7, wf, m10, hp7, b7, rfl⟩
    have m1 := wf.m1
    -- another sequence
    refine seqV (Good := fun σ2 H8 => ∃ (o : Addr) (os : List Int), o ≠ p ∧ os.Perm (idL m) ∧ H8 o = some (.lst (os.map V.int)) ∧ HAt C p H8 h m ds ∧ PotAt H8 p ∧ ButD p H H8 ∧ σ2 = [some (.ref p), some (.int m), some (.ref a), some (.ref g), some (.ref h), a5, a6, some (.ref o), none, none]) ?_ ?_
    · intro nx2 hnx2
      refine ⟨_, rfl, _, rfl, m, rfl, RgOk.of_le (by decide) (by omega) (by decide) (by omega), fun r hr2 => ?_⟩
      rw [idL_rg]
      have s2 := same_upd (o := .lst ((idL m).map V.int)) hr2
      exact ⟨p, r, idL m, rfl, hp7.same s2, upd_same, by rw [idL_len]; omega, fun o os H3 no ho pm hp3 b3 => hnx2 _ _ ⟨o, os, (hp7.same s2).ne no, pm, ho, hh7.but hp7 (ButD.trans (Same.but s2) b3), hp3, ButD.trans b7 (ButD.trans (Same.but s2) b3), rfl⟩⟩
    clear hh7 hl7 hp7 b7 H7
    rintro _ H8 ⟨o, os, nop, pm, ho, hh8, hp8, b8, rfl⟩
    have ndo : os.Nodup := pm.nodup_iff.mpr (idL_nd m)
    refine seqV (Good := fun σ2 H9 => ∃ D : Addr, H9 D = some (.lst ((backL os m).map V.int)) ∧ H9 o = some (.lst (os.map V.int)) ∧ HAt C p H9 h m ds ∧ PotAt H9 p ∧ ButD p H H9 ∧ σ2 = [some (.ref p), some (.int m), some (.ref a), some (.ref g), some (.ref h), a5, a6, some (.ref o), some (.ref D), none]) ?_ ?_
    · intro nx2 hnx2
      refine ⟨_, rfl, m, rfl, by omega, by omega, fun D hD => ?_⟩
      refine lc_mapR (lo := 0) (n := m.toNat) (G := fun _ v b => v = V.int b) (f := fun j => some ((os.idxOf j : Nat) : Int)) (fun _ _ _ _ _ _ z => z) (by omega) ?_ ?_
      · rintro x e H9 A B he rfl b ⟨zs, hz⟩ hA hB
        have ein : e ∈ os := pm.mem_iff.mpr (by rw [rgI_id] at he; exact he)
        have ho9 := b.new hD _ _ ho
        have lt := idx_lt ein
        have ge := List.getElem_idxOf lt
        refine ⟨rfl, yes_ite ?_⟩
        refine ⟨_, rfl, .inl ⟨rfl, _, .inl (.inl ho9)⟩, _, rfl, o, os.map V.int, .int e, os.idxOf e, .int e, rfl, rfl, .inl (.inl ho9), rfl, ?_, ?_, ?_, ?_, hA _ _ H9 rfl (fun _ _ z => z) rfl⟩
        · rw [List.all_map, List.all_eq_true]
          intro z _
          rfl
        · rw [List.getElem?_map, List.getElem?_eq_getElem lt, ge]
          rfl
        · simp [eqV]
        · intro j z' hj hz'
          rw [List.getElem?_map, List.getElem?_eq_getElem (Nat.lt_trans hj lt)] at hz'
          obtain rfl := (Option.some.inj hz').symm
          show (os[j] == e) = false
          rw [beq_eq_false_iff_ne]
          intro z
          have := ndo.idxOf_getElem j (Nat.lt_trans hj lt)
          rw [z] at this
          omega
      · intro ys H9 h1 h2 h3
        rw [mapE] at h2
        have e : ys = (backL os m).map V.int := by
          rw [rgI_id] at h2
          exact ints_of h2
        rw [e] at h1
        have s9 := h3.new hD
        exact hnx2 _ _ ⟨D, h1, s9 _ _ ho, hh8.but hp8 (Same.but s9), hp8.same s9, ButD.trans b8 (Same.but s9), rfl⟩
    clear hh8 hp8 b8 ho H8
    rintro _ H9 ⟨D, hD, ho, hh9, hp9, b9, rfl⟩
    have nd : ∀ {l : Addr} (x : Str), x ≠ "_deeds" → x ≠ "_places" → (flds m l).lookup x = none := fun {l} x a b => flds_no m l a b
    have wd := wf.wd
    have wr := wf.ren pm
    have pm' := back_perm pm
    have wr' := wr.ren pm'
    have rb : (ds.map (renD os)).map (renD (backL os m)) = ds := ren_back pm wf.ok
    have wp : WF m (ds.filter isAny) := wf.filter _
    have wpd := wp.wd
    obtain ⟨l, xs, nl, hx⟩ := id hh9
    obtain ⟨dx, ob⟩ := hx.ob
    -- renumbered there and back, plain of plain
    refine seqV (Good := fun σ2 H10 => Same H9 H10 ∧ σ2 = [some (.ref p), some (.int m), some (.ref a), some (.ref g), some (.ref h), a5, a6, some (.ref o), some (.ref D), none]) ?_ ?_
    · intro nx2 hnx2
      refine ⟨_, rfl, h, dx, _, rfl, ob, nd _ (by decide +kernel) (by decide +kernel), _, rfl, h, l, o, m, xs, ds, os, rfl, hx, .inl ho, pm, wf, wr, fun h1 l1 xs1 H1 n1 n1' s1 hh1 => ?_⟩
      obtain ⟨dx1, ob1⟩ := hh1.ob
      refine ⟨h1, dx1, _, rfl, ob1, nd _ (by decide +kernel) (by decide +kernel), _, rfl, h1, l1, D, m, xs1, ds.map (renD os), backL os m, rfl, hh1, .inl (s1 _ _ hD), pm', wr, wr', fun h2 l2 xs2 H2 n2 n2' s2 hh2 => ?_⟩
      have s12 := s1.trans s2
      refine ⟨_, rfl, h2, h, l2, l, m, m, xs2, xs, _, ds, rfl, rfl, hh2, hx.same s12, wr'.wd, wd, false, ?_, ?_⟩
      · rw [rb]
        exact congrArg (fun b => V.bl (!b)) (decide_eq_true ⟨rfl, rfl⟩)
      refine iteF ?_
      refine ⟨_, rfl, h, dx, _, rfl, s12 _ _ ob, nd _ (by decide +kernel) (by decide +kernel), h, l, m, xs, ds, rfl, hx.same s12, wf, fun h3 l3 xs3 H3 n3 n3' s3 hh3 => ?_⟩
      obtain ⟨dx3, ob3⟩ := hh3.ob
      refine ⟨h3, dx3, _, rfl, ob3, nd _ (by decide +kernel) (by decide +kernel), h3, l3, m, xs3, ds.filter isAny, rfl, hh3, wp, fun h4 l4 xs4 H4 n4 n4' s4 hh4 => ?_⟩
      have s14 := s12.trans (s3.trans s4)
      refine ⟨_, rfl, h, dx, _, rfl, s14 _ _ ob, nd _ (by decide +kernel) (by decide +kernel), h, l, m, xs, ds, rfl, hx.same s14, wf, fun h5 l5 xs5 H5 n5 n5' s5 hh5 => ?_⟩
      refine ⟨h4, h5, l4, l5, m, m, xs4, xs5, _, _, rfl, rfl, hh4.same s5, hh5, (wp.filter _).wd, wpd, false, ?_, ?_⟩
      · rw [filt_filt]
        exact congrArg (fun b => V.bl (!b)) (decide_eq_true ⟨rfl, rfl⟩)
      exact iteF (hnx2 _ _ ⟨s14.trans s5, rfl⟩)
    rintro _ H10 ⟨s10, rfl⟩
    -- turned twice
    have af := all_filter ds
    have wt := wp.turn af
    have wtt := wt.turn (all_turn af)
    refine ⟨_, rfl, h, dx, _, rfl, s10 _ _ ob, nd _ (by decide +kernel) (by decide +kernel), h, l, m, xs, ds, rfl, hx.same s10, wf, fun h1 l1 xs1 H1 n1 n1' s1 hh1 => ?_⟩
    obtain ⟨dx1, ob1⟩ := hh1.ob
    refine ⟨h1, dx1, _, rfl, ob1, nd _ (by decide +kernel) (by decide +kernel), h1, l1, m, xs1, _, rfl, hh1, wp.len, af, wt, fun h2 l2 xs2 H2 n2 n2' s2 hh2 => ?_⟩
    obtain ⟨dx2, ob2⟩ := hh2.ob
    refine ⟨h2, dx2, _, rfl, ob2, nd _ (by decide +kernel) (by decide +kernel), h2, l2, m, xs2, _, rfl, hh2, wt.len, all_turn af, wtt, fun h3 l3 xs3 H3 n3 n3' s3 hh3 => ?_⟩
    have s13 := s10.trans (s1.trans (s2.trans s3))
    refine ⟨_, rfl, h, dx, _, rfl, s13 _ _ ob, nd _ (by decide +kernel) (by decide +kernel), h, l, m, xs, ds, rfl, hx.same s13, wf, fun h4 l4 xs4 H4 n4 n4' s4 hh4 => ?_⟩
    refine ⟨h3, h4, l3, l4, m, m, xs3, xs4, _, _, rfl, rfl, hh3.same s4, hh4, wtt.wd, wpd, true, ?_, ?_⟩
    · rw [turn_turn]
      exact congrArg V.bl (decide_eq_true ⟨rfl, rfl⟩)
    refine iteT ?_
    -- a house of one place
    have w1 : WF 1 [] := ⟨by decide, by decide, fun d hd => absurd hd (by simp), List.nodup_nil, by decide⟩
    refine ⟨(by show 0 ≤ sizeLine; decide), fun e he => ?_⟩
    have s5 := same_upd (o := .lst []) he
    refine make_any (K := K) (C := C) (xs := []) (ds := []) (.inl upd_same) .nil w1 (fun h6 l6 H6 n6 n6' s6 hh6 => ⟨rfl, ?_⟩)
    refine ⟨(by show 0 ≤ sizeLine; decide), fun r hr6 => ?_⟩
    have s7 := same_upd (o := .lst []) hr6
    refine ⟨h6, l6, r, 1, [], [], [], rfl, hh6.same s7, upd_same, .nil, w1, fun H8 s8 => ?_⟩
    exact q H8 (ButD.trans b9 (Same.but (s13.trans (s4.trans (s5.trans (s6.trans (s7.trans s8)))))))
end
end L2.K21
end

section
set_option Elab.async false
set_option linter.all false
set_option maxRecDepth 100000
set_option maxHeartbeats 4000000
namespace L2.K21
open PySem PySem.Spec PyProof.Rows L2.Gd
section
variable {P : Program} {w : World} {K : PySem.W.Frag} {mg : Str → Option Value} {base : Heap} {C : Addr}
abbrev sLaw : Stmt := top 32
def spLaw (K : PySem.W.Frag) : Sp := fun vs H Q _ => ∃ (a : Addr) (ns : List Int), vs = [.ref a] ∧ SqL K H a (ns.map V.int) ∧ ns.length ≤ 63 ∧ ∀ H', Q (.bl true) H'
theorem scLaw : FnScope ["_law_script", "_law_k"] ["_law_script"] (defScope sLaw) := ⟨rfl, rfl, rfl, by decide +kernel, rfl, by decide +kernel, by decide +kernel⟩
theorem ok_law {f : Addr} {fd : FuncData} (F : Fun K "law" "law" sLaw f fd) (n : Nm mg) (GP : Fn P w K mg base 1 "_law_pot" ["_law_script", "_law_k"] (spPot K)) (GR : FnGd P w K mg base 9 "_law_right" ["_law_pot_here"] spRight) :
    FnG P w K mg base 10 f fd ["_law_script"] (spLaw K) := by
  refine okG F scLaw (fun vs H Q h => ?_) (fun cdv A outer s H vs Q hg hr h => ?_)
  · obtain ⟨a, ns, rfl, _⟩ := h
    rfl
  · obtain ⟨a, ns, rfl, hs, hl, q⟩ := h
    have N := scLaw.nd
    have r1 := hr.mono (k := 9) (j := 1) (by decide)
    refine ⟨_, pss_one (ps_ret (pe_callB (cr_all rfl) (by rfl) n.all (by decide +kernel) (pa_cons
      (pe_lc (own := [("_law_k", 1)]) (g := gName 1) (tt := tYes) rfl N (pi_range1 (by rfl) n.range (pa_cons (pe_callB (call_max2 rfl) (by rfl) n.max (by decide +kernel) (pa_cons pe_int (pa_cons
          (pe_callB (call_min2 rfl) (by rfl) n.min (by decide +kernel) (pa_cons pe_int (pa_cons (pe_callB call_len_seq (by rfl) n.len PySem.boot_len (pa_cons (pv 0) pa_nil)) pa_nil))) pa_nil))) pa_nil))
        (blkOk_by (N := ["_law_script", "_law_k"]) (sc := defScope sLaw) (by decide +kernel)) (fun _ _ _ _ _ => pg_name (i := 1) N rfl (.inl rfl)) (fun _ _ _ _ _ => pts_nil)
        (fun _ _ _ _ _ => pe_fnG GR hg hr (pa_cons (pe_fn GP r1 (pa_cons (pv 0) (pa_cons (pv 1) pa_nil))) pa_nil))) pa_nil))), ?_⟩
    refine ⟨_, rfl, a, _, rfl, .inl hs, _, _, rfl, _, _, rfl, ?_⟩
    have hlen : (ns.map V.int).length = ns.length := List.length_map _
    generalize hr' : (if (if ((ns.map V.int).length : Int) < 3 then ((ns.map V.int).length : Int) else 3) > 1 then (if ((ns.map V.int).length : Int) < 3 then ((ns.map V.int).length : Int) else 3) else 1) = R
    have R1 : 1 ≤ R ∧ R ≤ 3 := by
      rw [hlen] at hr'
      subst hr'
      split <;> split <;> omega
    refine ⟨R, rfl, by omega, by omega, fun D hD => ?_⟩
    refine lc_mapR (lo := 0) (n := R.toNat) (G := fun _ v b => v = V.bl b) (f := fun _ => some true) (fun _ _ _ _ _ _ z => z) (by omega) ?_ ?_
    · rintro x e H2 A B he rfl b ⟨zs, hz⟩ hA hB
      unfold rgI at he
      obtain ⟨i, hi, rfl⟩ := List.mem_map.mp he
      have s2 := b.new hD
      refine ⟨rfl, yes_ite ?_⟩
      refine ⟨_, rfl, _, rfl, a, i, ns, by rw [Int.zero_add]; rfl, s2.seq hs, by omega, fun p H4 np s4 hp4 => ?_⟩
      refine ⟨p, rfl, hp4, fun H5 b5 => hA true _ H5 rfl (fun c o z => ?_) rfl⟩
      exact b5 _ _ (ne_of_none z np) (s4 _ _ z)
    · intro ys H2 h1 h2 h3
      rw [mapE] at h2
      rw [bls_of h2] at h1
      exact ⟨D, _, rfl, .inl (.inl h1), by
        have : ((rgI 0 R.toNat).map fun _ => true).all id = true := by simp
        rw [this]
        exact q H2⟩
end
end L2.K21
end

section
set_option Elab.async false
set_option linter.all false
set_option maxRecDepth 100000
set_option maxHeartbeats 4000000
namespace L2.K21
open PySem PySem.Spec PyProof.Rows L2.Gd
section
variable {K : PySem.W.Frag} {mg : Str → Option Value} {h : Heap} {C f p g N : Addr} {x qual : Str} {st : Stmt} {oc kV doc pm cdv ct : Value} {od an : Option Addr} {osl : Array (Option Value)}
/-- a def of the top -/
def MFact (K : PySem.W.Frag) (mg : Str → Option Value) (x : Str) (st : Stmt) : Prop := ∃ f fd, mg x = some (.ref f) ∧ Fun K x x st f fd
theorem mfact (X : K.In h) (G : h.Ns mainGlobals mg) (a : PySem.W.nsIn K mainGlobals x = some (some (.ref f)))
    (l : K.lookup f = some ⟨oc, od, .func (PySem.W.fnOf x x (defArgs st) (defBody st) (defScope st) .none kV doc pm an cdv ct), osl⟩) (c : PySem.W.codeIn K cdv x = true) (k : PySem.W.keepIn K (.ref f) = true) : MFact K mg x st :=
  ⟨f, _, PySem.W.mg_of X G a, fun_mk l c k⟩
/-- a method -/
def CFact (K : PySem.W.Frag) (C : Addr) (x qual : Str) (st : Stmt) : Prop := ∃ f fd, Meth K C x f ∧ Fun K x qual st f fd
theorem cfact (a : PySem.W.findIn K (.ref C) x = some (some (.ref f))) (i : PySem.W.isFn K (.ref f) = true)
    (l : K.lookup f = some ⟨oc, od, .func (PySem.W.fnOf x qual (defArgs st) (defBody st) (defScope st) .none kV doc pm an cdv ct), osl⟩) (c : PySem.W.codeIn K cdv qual = true) (k : PySem.W.keepIn K (.ref f) = true) : CFact K C x qual st :=
  ⟨f, _, ⟨a, i, k⟩, fun_mk l c k⟩
/-- a property -/
def PFact (K : PySem.W.Frag) (C : Addr) (x qual : Str) (st : Stmt) : Prop := ∃ p g fd, PropOf K C x p g ∧ Fun K x qual st g fd
theorem pfact {rest : List Value} (a : PySem.W.findIn K (.ref C) x = some (some (.ref p))) (b : PySem.W.specialIn K (.ref p) "__get__" = some (some (.builtin "property.__get__"))) (t : PySem.W.takesIn K (.ref p) = some true)
    (r : PySem.W.recIn K p "property" = some (.ref g :: rest))
    (l : K.lookup g = some ⟨oc, od, .func (PySem.W.fnOf x qual (defArgs st) (defBody st) (defScope st) .none kV doc pm an cdv ct), osl⟩) (c : PySem.W.codeIn K cdv qual = true) (k : PySem.W.keepIn K (.ref g) = true) : PFact K C x qual st :=
  ⟨p, g, _, ⟨a, b, t, ⟨rest, r⟩⟩, fun_mk l c k⟩
def EqFact (K : PySem.W.Frag) (C : Addr) : Prop := ∃ f fd N, Meth K C "__eq__" f ∧ Fun K "__eq__" "House.__eq__" (cHouse 5) f fd ∧ NeC K C f N
def ReFact (K : PySem.W.Frag) (C : Addr) : Prop := ∃ f fd N, Meth K C "__repr__" f ∧ Fun K "__repr__" "House.__repr__" (cHouse 6) f fd ∧ ReC K C f N
end
/-- all that the top has left -/
structure Facts (K : PySem.W.Frag) (mg : Str → Option Value) (C : Addr) : Prop where
  n : Nm mg
  m16 : ∃ t, mg "MOST_PLACES" = some (.int 16 t)
  m60 : ∃ t, mg "MOST_DEEDS" = some (.int 60 t)
  T : ClsT K mg C
  kit : KitH K C
  nk : NoKin K C
  mkC : PySem.W.makesIn K C = true
  kpC : PySem.W.keepIn K (.ref C) = true
  ii : MFact K mg "is_integer" sIsInt
  ic : MFact K mg "is_count" sIsCount
  il : MFact K mg "is_list" sIsList
  id : MFact K mg "is_deed" sIsDeed
  ck : MFact K mg "check_deeds" sCheck
  init : CFact K C "__init__" "House.__init__" (cHouse 0)
  pl : PFact K C "places" "House.places" (cHouse 1)
  ip : PFact K C "is_plain" "House.is_plain" (cHouse 2)
  de : CFact K C "deeds" "House.deeds" (cHouse 3)
  ln : CFact K C "__len__" "House.__len__" (cHouse 4)
  eq : EqFact K C
  re : ReFact K C
  wi : CFact K C "with_deed" "House.with_deed" (cHouse 7)
  wo : CFact K C "without_deed" "House.without_deed" (cHouse 8)
  rn : CFact K C "renumbered" "House.renumbered" (cHouse 9)
  be : CFact K C "beside" "House.beside" (cHouse 10)
  pn : CFact K C "plain" "House.plain" (cHouse 11)
  tn : CFact K C "turned" "House.turned" (cHouse 12)
  pot : MFact K mg "_law_pot" sPot
  dr : MFact K mg "_law_draw" sDraw
  ds : MFact K mg "_law_deeds" sDeeds
  mx : MFact K mg "_law_mixed" sMixed
  te : MFact K mg "_law_tells" sTells
  er : MFact K mg "_law_equal_right" sEqR
  ma : MFact K mg "_law_made" sMade
  ri : MFact K mg "_law_right" sRight
section
variable {P : Program} {w : World} {K : PySem.W.Frag} {mg : Str → Option Value} {base : Heap} {C : Addr}
theorem fn_mk {x : Str} {st : Stmt} {k : Nat} {ps : List Str} {sp : Sp} (m : MFact K mg x st)
    (b : ∀ (kV doc pm : Value) (an : Option Addr) (cdv ct : Value) (us : List Value), us.length = ps.length → bindArgs (PySem.W.fnOf x x (defArgs st) (defBody st) (defScope st) .none kV doc pm an cdv ct) ⟨us, []⟩ = pure (ps.zip us))
    (ok : ∀ f fd, Fun K x x st f fd → FnOk P w K mg base CX0 k f fd ps sp) : Fn P w K mg base k x ps sp := by
  obtain ⟨f, fd, e, F⟩ := m
  exact ⟨f, fd, e, F.kp, F.binds b, ok f fd F⟩
theorem fnG_mk {x : Str} {st : Stmt} {k : Nat} {ps : List Str} {sp : Sp} (m : MFact K mg x st)
    (b : ∀ (kV doc pm : Value) (an : Option Addr) (cdv ct : Value) (us : List Value), us.length = ps.length → bindArgs (PySem.W.fnOf x x (defArgs st) (defBody st) (defScope st) .none kV doc pm an cdv ct) ⟨us, []⟩ = pure (ps.zip us))
    (ok : ∀ f fd, Fun K x x st f fd → FnG P w K mg base k f fd ps sp) : FnGd P w K mg base k x ps sp := by
  obtain ⟨f, fd, e, F⟩ := m
  exact ⟨f, fd, e, F.kp, F.binds b, ok f fd F⟩
theorem me_mk {x qual : Str} {st : Stmt} {k : Nat} {ps : List Str} {sp : Sp} (m : CFact K C x qual st)
    (b : ∀ (kV doc pm : Value) (an : Option Addr) (cdv ct : Value) (us : List Value), us.length = ps.length → bindArgs (PySem.W.fnOf x qual (defArgs st) (defBody st) (defScope st) .none kV doc pm an cdv ct) ⟨us, []⟩ = pure (ps.zip us))
    (ok : ∀ f fd, Fun K x qual st f fd → FnOk P w K mg base CX0 k f fd ps sp) : MeH P w K mg base C x k ps sp := by
  obtain ⟨f, fd, e, F⟩ := m
  exact ⟨f, fd, e, F.binds b, ok f fd F⟩
theorem mk_mk {x qual y : Str} {st : Stmt} {k : Nat} {sp : Sp} (m : CFact K C x qual st)
    (b : ∀ (kV doc pm : Value) (an : Option Addr) (cdv ct : Value) (us ws : List Value), us.length = 1 → ws.length = [y].length →
      bindArgs (PySem.W.fnOf x qual (defArgs st) (defBody st) (defScope st) .none kV doc pm an cdv ct) ⟨us, [y].zip ws⟩ = pure ((["self", y] : List Str).zip (us ++ ws)))
    (ok : ∀ f fd, Fun K x qual st f fd → FnOk P w K mg base CX0 k f fd ["self", y] sp) : MeK P w K mg base C x k y sp := by
  obtain ⟨f, fd, e, F⟩ := m
  exact ⟨f, fd, e, kb_of F b, ok f fd F⟩
theorem pr_mk {x qual : Str} {st : Stmt} {sp : Sp} (m : PFact K C x qual st)
    (b : ∀ (kV doc pm : Value) (an : Option Addr) (cdv ct : Value) (us : List Value), us.length = (["self"] : List Str).length → bindArgs (PySem.W.fnOf x qual (defArgs st) (defBody st) (defScope st) .none kV doc pm an cdv ct) ⟨us, []⟩ = pure ((["self"] : List Str).zip us))
    (ok : ∀ f fd, Fun K x qual st f fd → FnOk P w K mg base CX0 1 f fd ["self"] sp) : PrH P w K mg base C x sp := by
  obtain ⟨p, g, fd, e, F⟩ := m
  exact ⟨p, g, fd, e, F.binds b, ok g fd F⟩
theorem law_of (z : Facts K mg C) {f : Addr} {fd : FuncData} (F : Fun K "law" "law" sLaw f fd) : FnG P w K mg base 10 f fd ["_law_script"] (spLaw K) := by
  obtain ⟨t16, m16⟩ := z.m16
  obtain ⟨t60, m60⟩ := z.m60
  have n := z.n
  have T := z.T
  have II : Fn P w K mg base 1 "is_integer" ["value"] spIsInt := fn_mk z.ii (fun _ _ _ _ _ _ us hl => match us, hl with | [_], _ => rfl) fun f fd F => ok_isInt F n
  have IC : Fn P w K mg base 2 "is_count" ["value"] spIsCount := fn_mk z.ic (fun _ _ _ _ _ _ us hl => match us, hl with | [_], _ => rfl) fun f fd F => ok_isCount F II
  have IL : Fn P w K mg base 1 "is_list" ["value"] (spIsList K) := fn_mk z.il (fun _ _ _ _ _ _ us hl => match us, hl with | [_], _ => rfl) fun f fd F => ok_isList F n
  have ID : Fn P w K mg base 3 "is_deed" ["value", "places"] spIsDeed := fn_mk z.id (fun _ _ _ _ _ _ us hl => match us, hl with | [_, _], _ => rfl) fun f fd F => ok_isDeed F n II IC
  have CK : Fn P w K mg base 4 "check_deeds" ["places", "deeds"] (spCheck K) := fn_mk z.ck (fun _ _ _ _ _ _ us hl => match us, hl with | [_, _], _ => rfl) fun f fd F => ok_check F n IL ID m60
  have MK : MkH P w K mg base C := by
    obtain ⟨f, fd, me, F⟩ := z.init
    exact ⟨f, fd, ⟨z.mkC, me.at_, me.fn, z.kpC⟩, F.binds (fun _ _ _ _ _ _ us hl => match us, hl with | [_, _, _], _ => rfl), ok_init F n T II CK m16⟩
  have MKK : MkK P w K mg base C := by
    obtain ⟨f, fd, me, F⟩ := z.init
    exact ⟨f, fd, ⟨z.mkC, me.at_, me.fn, z.kpC⟩, kb_of F (fun _ _ _ _ _ _ us ws l1 l2 => match us, ws, l1, l2 with | [_], [_, _], _, _ => rfl), ok_init F n T II CK m16⟩
  have PL : PrH P w K mg base C "places" (spPlaces C) := pr_mk z.pl (fun _ _ _ _ _ _ us hl => match us, hl with | [_], _ => rfl) fun f fd F => ok_places F T
  have IP : PrH P w K mg base C "is_plain" (spPlain C) := pr_mk z.ip (fun _ _ _ _ _ _ us hl => match us, hl with | [_], _ => rfl) fun f fd F => ok_isPlain F n T
  have k : HK P w K mg base C := {
    n := n, T := T, kit := z.kit, nk := z.nk, M := MK, pl := PL, ip := IP
    de := me_mk z.de (fun _ _ _ _ _ _ us hl => match us, hl with | [_], _ => rfl) fun f fd F => ok_deeds F n T
    len := by
      obtain ⟨f, fd, me, F⟩ := z.ln
      exact ⟨f, fd, me.at_, me.fn, F.binds (fun _ _ _ _ _ _ us hl => match us, hl with | [_], _ => rfl), ok_len F n T⟩
    eq := by
      obtain ⟨f, fd, N, me, F, ne⟩ := z.eq
      exact ⟨f, fd, N, me.at_, me.fn, F.binds (fun _ _ _ _ _ _ us hl => match us, hl with | [_, _], _ => rfl), F, ne⟩
    re := by
      obtain ⟨f, fd, N, me, F, rc⟩ := z.re
      exact ⟨f, fd, N, rc, F.binds (fun _ _ _ _ _ _ us hl => match us, hl with | [_], _ => rfl), ok_repr F T⟩
    wi := me_mk z.wi (fun _ _ _ _ _ _ us hl => match us, hl with | [_, _], _ => rfl) fun f fd F => ok_with F T ID MK
    wo := me_mk z.wo (fun _ _ _ _ _ _ us hl => match us, hl with | [_, _], _ => rfl) fun f fd F => ok_wout F n T IC MK
    rn := me_mk z.rn (fun _ _ _ _ _ _ us hl => match us, hl with | [_, _], _ => rfl) fun f fd F => ok_ren F n T MK IL IC
    be := me_mk z.be (fun _ _ _ _ _ _ us hl => match us, hl with | [_, _], _ => rfl) fun f fd F => ok_beside F n T MK m16
    pn := me_mk z.pn (fun _ _ _ _ _ _ us hl => match us, hl with | [_], _ => rfl) fun f fd F => ok_plain F T MK
    tn := me_mk z.tn (fun _ _ _ _ _ _ us hl => match us, hl with | [_], _ => rfl) fun f fd F => ok_turned F T MK IP }
  have DR : Fn P w K mg base 1 "_law_draw" ["_law_pot_here", "_law_many"] spDraw := fn_mk z.dr (fun _ _ _ _ _ _ us hl => match us, hl with | [_, _], _ => rfl) fun f fd F => ok_draw F n
  have k2 : HKk P w K mg base C := {
    wi := mk_mk z.wi (fun _ _ _ _ _ _ us ws l1 l2 => match us, ws, l1, l2 with | [_], [_], _, _ => rfl) fun f fd F => ok_with F T ID MK
    wo := mk_mk z.wo (fun _ _ _ _ _ _ us ws l1 l2 => match us, ws, l1, l2 with | [_], [_], _, _ => rfl) fun f fd F => ok_wout F n T IC MK
    rn := mk_mk z.rn (fun _ _ _ _ _ _ us ws l1 l2 => match us, ws, l1, l2 with | [_], [_], _, _ => rfl) fun f fd F => ok_ren F n T MK IL IC
    be := mk_mk z.be (fun _ _ _ _ _ _ us ws l1 l2 => match us, ws, l1, l2 with | [_], [_], _, _ => rfl) fun f fd F => ok_beside F n T MK m16
    dr := DR
    ds := fn_mk z.ds (fun _ _ _ _ _ _ us hl => match us, hl with | [_, _, _, _], _ => rfl) fun f fd F => ok_deedsL F n DR
    mx := fn_mk z.mx (fun _ _ _ _ _ _ us hl => match us, hl with | [_, _], _ => rfl) fun f fd F => ok_mixed F n DR }
  have k3 : HKr P w K mg base C := {
    te := fnG_mk z.te (fun _ _ _ _ _ _ us hl => match us, hl with | [_, _, _], _ => rfl) fun f fd F => ok_tells F k
    er := fnG_mk z.er (fun _ _ _ _ _ _ us hl => match us, hl with | [_, _, _, _], _ => rfl) fun f fd F => ok_eqR F k
    ma := fn_mk z.ma (fun _ _ _ _ _ _ us hl => match us, hl with | [_, _, _, _], _ => rfl) fun f fd F => ok_made F k k2
    mkk := MKK }
  have RI : FnGd P w K mg base 9 "_law_right" ["_law_pot_here"] spRight := fnG_mk z.ri (fun _ _ _ _ _ _ us hl => match us, hl with | [_], _ => rfl) fun f fd F => ok_right F k k2 k3
  have PO : Fn P w K mg base 1 "_law_pot" ["_law_script", "_law_k"] (spPot K) := fn_mk z.pot (fun _ _ _ _ _ _ us hl => match us, hl with | [_, _], _ => rfl) fun f fd F => ok_pot F n
  exact ok_law F n PO RI
theorem law_all (z : Facts K mg C) (l : MFact K mg "law" sLaw) {fa : Addr} (hfa : mg "law" = some (.ref fa)) :
    ∃ fd : FuncData, (∀ (s : Shared) (v : Value), BindsTo s fd ⟨[v], []⟩ [("_law_script", v)]) ∧ ∀ base : Heap, K.In base → base.Ns mainGlobals mg → FnG P w K mg base 10 fa fd ["_law_script"] (spLaw K) := by
  obtain ⟨f, fd, e, F⟩ := l
  cases hfa.symm.trans e
  refine ⟨fd, ?_, fun base _ _ => law_of z F⟩
  obtain ⟨oc, od, kV, doc, pm, an, cdv, ct, osl, rfl, _, _⟩ := F.ex
  exact fun s v => .of_eq rfl
end
end L2.K21
end

section
set_option Elab.async false
set_option linter.all false
set_option maxRecDepth 100000
set_option maxHeartbeats 2000000
namespace L2.K21
open PySem PySem.Spec PyProof.Rows L2.Gd
section
variable {K : PySem.W.Frag} {mg : Str → Option Value} {h : Heap} {C f N : Addr} {oc kV doc pm cdv ct : Value} {od an : Option Addr} {osl : Array (Option Value)}
  {nm q : Str} {bs : List Value} {sn : List Str} {sub : List Value} {ab : Bool} {col : Option Bool} {dd : Option Addr} {k0 k1 k2 k3 k5 : Option Value} {newId : String}
  {nc : Value} {nd : Option Addr} {es : Array DictEntry} {en : Nat} {nsl : Array (Option Value)}
theorem nsok (l : K.lookup N = some ⟨nc, nd, .dict es en, nsl⟩) (e : (es.all fun e => match e.key with | .str _ _ => true | _ => false) = true) : PySem.W.nsOkIn K N = true := by
  unfold PySem.W.nsOkIn
  rw [l]
  exact e
theorem eqfact (a : PySem.W.findIn K (.ref C) "__eq__" = some (some (.ref f))) (i : PySem.W.isFn K (.ref f) = true)
    (l : K.lookup f = some ⟨oc, od, .func (PySem.W.fnOf "__eq__" "House.__eq__" (defArgs (cHouse 5)) (defBody (cHouse 5)) (defScope (cHouse 5)) .none kV doc pm an cdv ct), osl⟩) (c : PySem.W.codeIn K cdv "House.__eq__" = true) (k : PySem.W.keepIn K (.ref f) = true)
    (cls : K.lookup C = some (excClassObj nm q C N bs [.type "object"] true sn sub ab col dd k0 k1 k2 k3 k5 newId)) (nl : K.lookup N = some ⟨nc, nd, .dict es en, nsl⟩)
    (ok : (es.all fun e => match e.key with | .str _ _ => true | _ => false) = true) (e1 : PySem.W.nsIn K N "__eq__" = some (some (.ref f))) (e2 : PySem.W.nsIn K N "__ne__" = some none) (hoc : oc = .type "function") : EqFact K C :=
  ⟨f, _, N, ⟨a, i, k⟩, fun_mk l c k, ⟨⟨nm, q, bs, sn, sub, ab, col, dd, k0, k1, k2, k3, k5, newId, cls⟩, nsok nl ok, e1, e2, ⟨_, l, hoc⟩⟩⟩
theorem refact (a : PySem.W.findIn K (.ref C) "__repr__" = some (some (.ref f))) (i : PySem.W.isFn K (.ref f) = true)
    (l : K.lookup f = some ⟨oc, od, .func (PySem.W.fnOf "__repr__" "House.__repr__" (defArgs (cHouse 6)) (defBody (cHouse 6)) (defScope (cHouse 6)) .none kV doc pm an cdv ct), osl⟩) (c : PySem.W.codeIn K cdv "House.__repr__" = true) (k : PySem.W.keepIn K (.ref f) = true)
    (cls : K.lookup C = some (excClassObj nm q C N bs [.type "object"] true sn sub ab col dd k0 k1 k2 k3 k5 newId)) (nl : K.lookup N = some ⟨nc, nd, .dict es en, nsl⟩)
    (ok : (es.all fun e => match e.key with | .str _ _ => true | _ => false) = true) (e1 : PySem.W.nsIn K N "__repr__" = some (some (.ref f))) (hoc : oc = .type "function") : ReFact K C :=
  ⟨f, _, N, ⟨a, i, k⟩, fun_mk l c k, ⟨⟨nm, q, bs, sn, sub, ab, col, dd, k0, k1, k2, k3, k5, newId, cls⟩, nsok nl ok, e1, ⟨_, l, hoc⟩⟩⟩
theorem kit_ref {T : String} {b : Bool} (c1 : PySem.W.isClsIn K C = true) (c2 : PySem.W.typeIn K (.ref C) = some (.type "type")) (s : PySem.W.subIn K (.type T) (.ref C) = some b) : PySem.W.kitOne K (.type T) (.ref C) = some b := by
  unfold PySem.W.kitOne
  rw [if_neg (show ¬ (Value.type T == Value.ref C) = true from fun z => nomatch z)]
  unfold PySem.W.kitCls
  have c1' : (PySem.W.clsIn K C).isSome = true := c1
  show (if ((PySem.W.clsIn K C).isSome && PySem.W.typeIn K (.ref C) == some (.type "type")) = true then PySem.W.subIn K (.type T) (.ref C) else none) = some b
  rw [c1', c2, if_pos (by rfl)]
  exact s
theorem kitH_of (c1 : PySem.W.isClsIn K C = true) (c2 : PySem.W.typeIn K (.ref C) = some (.type "type")) (nk : NoKin K C) : KitH K C :=
  ⟨kit_ref c1 c2 nk.none, kit_ref c1 c2 nk.int, kit_ref c1 c2 nk.str, kit_ref c1 c2 nk.lst, kit_ref c1 c2 nk.tup, kit_ref c1 c2 nk.dct⟩
theorem kit_self : PySem.W.kitOne K (.ref C) (.ref C) = some true := by
  unfold PySem.W.kitOne
  rw [if_pos (show (Value.ref C == Value.ref C) = true by simp)]
theorem ifact {x : Str} {n : Int} {t : Tok} (X : K.In h) (G : h.Ns mainGlobals mg) (a : PySem.W.nsIn K mainGlobals x = some (some (.int n t))) : ∃ t, mg x = some (.int n t) := ⟨t, PySem.W.mg_of X G a⟩
theorem clsT_of (mC : mg "House" = some (.ref C)) (pg : PySem.W.plainGet K C Str.empty = true) (hd : PySem.W.hasDictIn K C = true) (po : PySem.W.plainOver K C = true) (sa : PySem.W.findIn K (.ref C) "__setattr__" = some (some (.builtin "object.__setattr__")))
    (ha : PySem.W.findIn K (.ref C) "__class__" = some (some (.builtin "object.__class__"))) (hn : PySem.W.specialIn K (.builtin "object.__class__") "__get__" = some (some (.builtin "getset_descriptor.__get__"))) (ht : PySem.W.takesIn K (.builtin "object.__class__") = some true)
    (hm : PySem.W.mroIn K C (.type "object") = some true) (nP : PySem.W.findIn K (.ref C) "_places" = some none) (nD : PySem.W.findIn K (.ref C) "_deeds" = some none) : ClsT K mg C :=
  ⟨⟨⟨pg, hd, po, sa⟩, ha, hn, ht, hm, kit_self⟩, nP, nD, mC⟩
end
end L2.K21
end

section
set_option Elab.async false
set_option linter.all false
open PySem PySem.W PyProof.Rows L2.K21
set_option maxRecDepth 100000 in
set_option maxHeartbeats 0 in
theorem PySem.Challenge.cw_lonetill_k21_houses_as_values_holds : PySem.Challenge.rw_lonetill_k21_houses_as_values.Holds := by
  w_on; o_law; k_head; (case hw => w_witness2)
  k_fill
  refine L2.Gd.walk_ofG (l := PySem.Challenge.rw_lonetill_k21_houses_as_values) (n := 63) (k := 10) (x := "_law_script") (sp := L2.K21.spLaw) rfl (by decide) rfl ⟨rfl, by decide, by decide⟩ (fun w h Y => PySem.W.kIn_of Y) ?F ?hsp
  case hsp =>
    intro K H a ns hl _ hS
    exact ⟨a, ns, rfl, hS, hl, fun _ => rfl⟩
  case F =>
    intro w mg fa h KX G hmg
    refine' (fun {C : Addr} (aC : PySem.W.nsIn _ mainGlobals "House" = some (some (.ref C))) (z : (mg "House" = some (.ref C)) → Facts _ mg C ∧ MFact _ mg "law" sLaw) => law_all (z (PySem.W.mg_of KX G aC)).1 (z (PySem.W.mg_of KX G aC)).2 hmg) ?aC ?z
    (case aC => k_is)
    case z =>
      intro mC
      refine' ⟨⟨?n, ?m16, ?m60, ?T, ?kit, ?nk, ?mkC, ?kpC, ?ii, ?ic, ?il, ?id, ?ck, ?init, ?pl, ?ip, ?de, ?ln, ?eq, ?re, ?wi, ?wo, ?rn, ?be, ?pn, ?tn, ?pot, ?dr, ?ds, ?mx, ?te, ?er, ?ma, ?ri⟩, ?law⟩
      case n =>
        refine' ⟨PySem.W.mg_none_of KX G ?b0, PySem.W.mg_none_of KX G ?b1, PySem.W.mg_none_of KX G ?b2, PySem.W.mg_none_of KX G ?b3, PySem.W.mg_none_of KX G ?b4, PySem.W.mg_none_of KX G ?b5, PySem.W.mg_none_of KX G ?b6, PySem.W.mg_none_of KX G ?b7, PySem.W.mg_none_of KX G ?b8, PySem.W.mg_none_of KX G ?b9, PySem.W.mg_none_of KX G ?b10, PySem.W.mg_none_of KX G ?b11, PySem.W.mg_none_of KX G ?b12, PySem.W.mg_none_of KX G ?b13, PySem.W.mg_none_of KX G ?b14, PySem.W.mg_none_of KX G ?b15, PySem.W.mg_none_of KX G ?b16, PySem.W.mg_none_of KX G ?b17⟩
        (case b0 => k_is); (case b1 => k_is); (case b2 => k_is); (case b3 => k_is); (case b4 => k_is); (case b5 => k_is); (case b6 => k_is); (case b7 => k_is); (case b8 => k_is); (case b9 => k_is); (case b10 => k_is); (case b11 => k_is); (case b12 => k_is); (case b13 => k_is); (case b14 => k_is); (case b15 => k_is); (case b16 => k_is); (case b17 => k_is)
      case m16 =>
        refine' ifact KX G ?a
        case a => k_is
      case m60 =>
        refine' ifact KX G ?a
        case a => k_is
      case T =>
        refine' clsT_of mC ?pg ?hd ?po ?sa ?ha ?hn ?ht ?hm ?nP ?nD
        (case pg => k_is); (case hd => k_is); (case po => k_is); (case sa => k_is); (case ha => k_is); (case hn => k_is); (case ht => k_is); (case hm => k_is); (case nP => k_is); (case nD => k_is)
      case kit =>
        refine' kitH_of ?c1 ?c2 ⟨?s0, ?s1, ?s2, ?s3, ?s4, ?s5, ?s6, ?s7, ?s8⟩
        (case c1 => k_is); (case c2 => k_is); (case s0 => k_is); (case s1 => k_is); (case s2 => k_is); (case s3 => k_is); (case s4 => k_is); (case s5 => k_is); (case s6 => k_is); (case s7 => k_is); (case s8 => k_is)
      case nk =>
        refine' ⟨?s0, ?s1, ?s2, ?s3, ?s4, ?s5, ?s6, ?s7, ?s8⟩
        (case s0 => k_is); (case s1 => k_is); (case s2 => k_is); (case s3 => k_is); (case s4 => k_is); (case s5 => k_is); (case s6 => k_is); (case s7 => k_is); (case s8 => k_is)
      case mkC => k_is
      case kpC => k_is
      case ii =>
        refine' mfact KX G ?a ?l ?c ?k
        (case a => k_is); (case l => k_is); (case c => k_is); (case k => k_is)
      case ic =>
        refine' mfact KX G ?a ?l ?c ?k
        (case a => k_is); (case l => k_is); (case c => k_is); (case k => k_is)
      case il =>
        refine' mfact KX G ?a ?l ?c ?k
        (case a => k_is); (case l => k_is); (case c => k_is); (case k => k_is)
      case id =>
        refine' mfact KX G ?a ?l ?c ?k
        (case a => k_is); (case l => k_is); (case c => k_is); (case k => k_is)
      case ck =>
        refine' mfact KX G ?a ?l ?c ?k
        (case a => k_is); (case l => k_is); (case c => k_is); (case k => k_is)
      case pot =>
        refine' mfact KX G ?a ?l ?c ?k
        (case a => k_is); (case l => k_is); (case c => k_is); (case k => k_is)
      case dr =>
        refine' mfact KX G ?a ?l ?c ?k
        (case a => k_is); (case l => k_is); (case c => k_is); (case k => k_is)
      case ds =>
        refine' mfact KX G ?a ?l ?c ?k
        (case a => k_is); (case l => k_is); (case c => k_is); (case k => k_is)
      case mx =>
        refine' mfact KX G ?a ?l ?c ?k
        (case a => k_is); (case l => k_is); (case c => k_is); (case k => k_is)
      case te =>
        refine' mfact KX G ?a ?l ?c ?k
        (case a => k_is); (case l => k_is); (case c => k_is); (case k => k_is)
      case er =>
        refine' mfact KX G ?a ?l ?c ?k
        (case a => k_is); (case l => k_is); (case c => k_is); (case k => k_is)
      case ma =>
        refine' mfact KX G ?a ?l ?c ?k
        (case a => k_is); (case l => k_is); (case c => k_is); (case k => k_is)
      case ri =>
        refine' mfact KX G ?a ?l ?c ?k
        (case a => k_is); (case l => k_is); (case c => k_is); (case k => k_is)
      case law =>
        refine' mfact KX G ?a ?l ?c ?k
        (case a => k_is); (case l => k_is); (case c => k_is); (case k => k_is)
      case init =>
        refine' cfact ?a ?i ?l ?c ?k
        (case a => k_is); (case i => k_is); (case l => k_is); (case c => k_is); (case k => k_is)
      case de =>
        refine' cfact ?a ?i ?l ?c ?k
        (case a => k_is); (case i => k_is); (case l => k_is); (case c => k_is); (case k => k_is)
      case ln =>
        refine' cfact ?a ?i ?l ?c ?k
        (case a => k_is); (case i => k_is); (case l => k_is); (case c => k_is); (case k => k_is)
      case wi =>
        refine' cfact ?a ?i ?l ?c ?k
        (case a => k_is); (case i => k_is); (case l => k_is); (case c => k_is); (case k => k_is)
      case wo =>
        refine' cfact ?a ?i ?l ?c ?k
        (case a => k_is); (case i => k_is); (case l => k_is); (case c => k_is); (case k => k_is)
      case rn =>
        refine' cfact ?a ?i ?l ?c ?k
        (case a => k_is); (case i => k_is); (case l => k_is); (case c => k_is); (case k => k_is)
      case be =>
        refine' cfact ?a ?i ?l ?c ?k
        (case a => k_is); (case i => k_is); (case l => k_is); (case c => k_is); (case k => k_is)
      case pn =>
        refine' cfact ?a ?i ?l ?c ?k
        (case a => k_is); (case i => k_is); (case l => k_is); (case c => k_is); (case k => k_is)
      case tn =>
        refine' cfact ?a ?i ?l ?c ?k
        (case a => k_is); (case i => k_is); (case l => k_is); (case c => k_is); (case k => k_is)
      case pl =>
        refine' pfact ?a ?b ?t ?r ?l ?c ?k
        (case a => k_is); (case b => k_is); (case t => k_is); (case r => k_is); (case l => k_is); (case c => k_is); (case k => k_is)
      case ip =>
        refine' pfact ?a ?b ?t ?r ?l ?c ?k
        (case a => k_is); (case b => k_is); (case t => k_is); (case r => k_is); (case l => k_is); (case c => k_is); (case k => k_is)
      case eq =>
        refine' eqfact ?a ?i ?l ?c ?k ?cls ?nl ?ok ?e1 ?e2 ?hoc
        (case a => k_is); (case i => k_is); (case l => k_is); (case c => k_is); (case k => k_is); (case cls => k_is); (case nl => k_is); (case e1 => k_is); (case e2 => k_is)
        (case ok => first | kernel_rfl | (simp; done)); (case hoc => rfl)
      case re =>
        refine' refact ?a ?i ?l ?c ?k ?cls ?nl ?ok ?e1 ?hoc
        (case a => k_is); (case i => k_is); (case l => k_is); (case c => k_is); (case k => k_is); (case cls => k_is); (case nl => k_is); (case e1 => k_is)
        (case ok => first | kernel_rfl | (simp; done)); (case hoc => rfl)
end
