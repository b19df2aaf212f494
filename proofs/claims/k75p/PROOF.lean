import PyProof.Rows.All
import Wide.All
import OpenK.AllK
import Wide.FinOn
import PyProof.EqAt
import PyProof.EqKinds
import PyProof.TupleCall
import HandS.ForMost
import HandS.FStr
import HandS.RaiseMore
import HandS.IsInst
import PyProof.FactsAll.dict
import HandS.OwnEq
import PyProof.InstNe
import HandS.Defaults
import HandS.MakeKwOnly
import HandS.Conv
import HandS.Property
import HandS.Style
import PySem.Challenge.RW_lonetill_k75_whole_roofs_of_goings
import HandS.Iter
import PyProof.EnumMake
import PyProof.EnumIter
import HandS.Deep
import HandS.TupAny
import PyProof.P3In
import HandS.Codes
import HandS.Comp
import OpenK.KOps
import PyProof.Draws
import PyProof.FString3
import PyProof.Rows.StrIntSpec
import HandS.Wide
import PyProof.FitsInt
import PyProof.ReprLen

section
set_option Elab.async false
set_option linter.all false
set_option maxRecDepth 100000
set_option maxHeartbeats 2000000
/-! Defs that are called while nothing is being shown (no repr runs around): their promise, their calls, the law's end. -/
namespace L2.Gd
open PySem PySem.Spec PyProof.Rows

structure FnG (P : Program) (w : World) (K : PySem.W.Frag) (mg : Str → Option Value) (base : Heap)
    (k : Nat) (f : Addr) (fd : FuncData) (ps : List Str) (sp : Sp) : Prop where
  cnt : ∀ (vs : List V) (H : Hp) (Q : VK), sp vs H Q E0 → vs.length = ps.length
  go : ∀ (A : Around) (outer : List Env) (s : Shared) (H : Hp) (args : Args)
      (us : List Value) (vs : List V) (Q : VK), A.guards = some [] → Room k A →
    Env0 P w K mg base A outer s H → BindsTo s fd args (ps.zip us) → Vals vs us →
    sp vs H Q E0 → codeAny (model P w) A (.call (.ref f) args) (CR CX0 outer P w H s Q E0) s

section
variable {P : Program} {w : World} {K : PySem.W.Frag} {mg : Str → Option Value} {base : Heap}
  {k : Nat} {f : Addr} {fd : FuncData} {ps N : List Str} {sp : Sp}

theorem FnG.of (F : FnOk P w K mg base CX0 k f fd ps sp) : FnG P w K mg base k f fd ps sp :=
  ⟨fun vs H Q h => F.len vs H Q E0 h,
   fun A outer s H args us vs Q _ hr e0 hb r h => F.run A outer s H args us vs Q E0 hr e0 hb r h⟩

theorem FnG.mono {j : Nat} (F : FnG P w K mg base j f fd ps sp) (h : j ≤ k) : FnG P w K mg base k f fd ps sp :=
  ⟨F.cnt, fun A outer s H args us vs Q hg hr => F.go A outer s H args us vs Q hg (hr.mono h)⟩

/-- a def of the text, by its body, where nothing is being shown around it -/
theorem okG {x qual : Str} {st : Stmt} (F : Fun K x qual st f fd) (S : FnScope N ps (defScope st))
    (cnt : ∀ (vs : List V) (H : Hp) (Q : VK), sp vs H Q E0 → vs.length = ps.length)
    (body : ∀ (cdv : Value) (A : Around) (outer : List Env) (s : Shared) (H : Hp) (vs : List V) (Q : VK),
      A.guards = some [] → Room k (A.deeper (envOfC qual (defScope st) s.heap.objs.size f cdv)) →
      sp vs H Q E0 →
      ∃ t, PSs (cxOf CX0 P w K mg base N qual (defScope st) f cdv A outer s H E0).nox (defBody st) t ∧
        t { nx := fun _ H' => Q .non H', rt := Q } (start N vs) H) :
    FnG P w K mg base (k + 1) f fd ps sp := by
  obtain ⟨oc, od, kV, doc, pm, an, cdv, ct, osl, rfl, there, code⟩ := F.ex
  refine ⟨cnt, ?_⟩
  intro A outer s H args us vs Q hg hr e0 bind rv hsp
  have inK : K.In s.heap := e0.mod.kin.keeps (fun b o q => (e0.bs b o q).1)
  have nolim : s.heap.NoLimit := e0.mod.nolimit.keeps (fun b o q => (e0.bs b o q).1)
  have kinds : ∀ y ∈ ps.zip us, (defScope st).names.lookup y.1 = some .local ∨
      ((defScope st).names.lookup y.1 = some .cell ∧
        ((cellsFrom (s.heap.objs.size + 1) (defScope st).names []).lookup y.1).isSome = true) := by
    rintro ⟨n, v⟩ hy
    cases S.par n (List.of_mem_zip hy).1 with
    | inl q => exact .inl q
    | inr q => exact .inr ⟨q, PySem.W.cellsFrom_some _ _ _ (.inl q)⟩
  refine codeAny_call_function hr.depth (inK _ _ there) rfl S.co S.gen rfl
    (PySem.W.codeRec_of inK code) (bind _ _ _ _ ?_)
  refine wpAny_newFunctionEnv_cells S.kind kinds ?_
  intro env he s1 ic
  subst he
  refine ⟨nolim.keeps ic.toInCall.keep, codeAny_func ?_⟩
  obtain ⟨t, ht, hq⟩ := body cdv A outer s H vs Q hg (hr.deeper _) hsp
  have hl : vs.length = ps.length := cnt _ _ _ hsp
  have I := inv_start (CX := CX0) (P := P) (w := w) (mg := mg) (base := base) (E := E0) S hr.hd e0 hl rv ic
  refine wpAny_mono (ht.nox.run [] s1 (start N vs) H _ I hq) (fun fl s' z => ?_) (fun e s' z => z)
  cases fl with
  | ret u =>
    obtain ⟨v, σ', H', J, r1, q⟩ := z
    exact ⟨v, H', J.os, J.bare, J.base, J.hok, r1, q⟩
  | next =>
    obtain ⟨σ', H', J, q⟩ := z
    exact ⟨.non, H', J.os, J.bare, J.base, J.hok, rfl, q⟩
  | brk =>
    obtain ⟨_, _, _, q⟩ := z
    exact q.elim
  | cont =>
    obtain ⟨_, _, _, q⟩ := z
    exact q.elim
end

section
variable {X : Cx} {k : Nat} {f : Addr} {fd : FuncData} {ps : List Str} {sp : Sp} {x : Str}
  {p pos : Pos} {e : Expr} {es : List Expr} {t : TA}

theorem run_fnG {pins : List (Addr × Obj)} {σ : St} {H : Hp} {s : Shared} {Q : VK} {us : List Value} {vs : List V}
    (F : FnG X.prog X.w X.K X.mg X.base k f fd ps sp) (hg : X.A.guards = some []) (hr : Room k X.A)
    (hb : Binds X.K fd ps []) (I : Inv X pins σ H s) (r : Vals vs us) (h : sp vs H Q E0) :
    wpAny (model X.prog X.w) X.A (call (.ref f) us) (EP X pins σ Q) X.xe s := by
  have hl : (us ++ []).length = ps.length := by
    rw [List.append_nil, ← r.length]
    exact F.cnt _ _ _ h
  have hb2 := hb s us I.kIn hl
  rw [List.append_nil] at hb2
  refine wpAny_call (codeAny_mono
    (F.go X.A X.stack s H ⟨us, []⟩ us vs Q hg hr I.env0 hb2 r h) ?_)
  intro res s' hq
  cases res with
  | error er => exact (show False from hq).elim
  | ok fl =>
    cases fl with
    | ret u => exact I.after hq
    | next => exact hq.elim
    | brk => exact hq.elim
    | cont => exact hq.elim

/-- f(e, ..), f such a def -/
theorem pe_callG (F : FnG X.prog X.w X.K X.mg X.base k f fd ps sp) (hg : X.A.guards = some [])
    (hr : Room k X.A) (gl : Gl X x) (hm : X.mg x = some (.ref f))
    (hk : PySem.W.keepIn X.K (.ref f) = true) (hb : Binds X.K fd ps []) (ha : PA X (e :: es) t)
    (hdb : (x == ("__debug__" : Str)) = false := by decide)
    (he : starEach (e :: es) X.env = (false, eval e X.env) :: starEach es X.env := by rfl)
    (hpl : (backTo pos (starEach es X.env)).any (·.1) = false := by rfl) :
    PE X (.Call (.Name x p) (e :: es) [] pos) (tCall sp [] E0 t) := by
  constructor
  intro pins s σ H Q I h
  refine wpAny_Call_Name_kw (ld_glob I gl hm ?_ hdb)
  refine PySem.W.callWith_K (h₀ := X.base) I.ok.mod.kin hk ?_ he hpl
  refine thn (ha.run pos pins s σ H _ I h) ?_
  rintro us s1 ⟨vs, H1, I1, r, q⟩
  rw [List.append_nil] at q
  exact ⟨I1.kIn, run_fnG F hg hr hb I1 r q⟩
end
end L2.Gd
end

section
set_option Elab.async false
set_option linter.all false
set_option maxRecDepth 100000
set_option maxHeartbeats 2000000
namespace L2.Gd
open PySem PySem.Spec PyProof.Rows

section
variable {P : Program} {w : World} {K : PySem.W.Frag} {mg mb : Str → Option Value} {k : Nat} {fa a : Addr}
  {fd : FuncData} {x : Str} {sp : Sp} {s₁ : Shared} {vs : List Value} {ns : List Int}

/-- the law's run from a heap of which at most the script is tracked -/
theorem law_core (inK : K.In s₁.heap) (hns : s₁.heap.Ns mainGlobals mg) (hb : s₁.heap.Ns builtinsNs mb)
    (hbb : ∀ x : Str, x ≠ "__name__" → mb x = bootBuiltins x) (nolim : s₁.heap.NoLimit) (hg : s₁.gens = #[])
    (ha : s₁.heap.get? a = some { cls := .type "list", data := .seq vs.toArray }) (hr : Room k callerA)
    (F : ∀ base : Heap, K.In base → base.Ns mainGlobals mg → FnG P w K mg base k fa fd [x] sp)
    (bind : ∀ (s : Shared) (u : Value), BindsTo s fd ⟨[u], []⟩ [(x, u)])
    (H : Hp) (only : Only H) (hsp : sp [.ref a] H (fun v _ => v = .bl true) E0)
    (ok : HOk P w H s₁.heap) (hA : ∀ b, H b ≠ none → b = a) (hK : H a ≠ none → K.lookup a = none) :
    codeAny (model P w) callerA (.call (.ref fa) ⟨[.ref a], []⟩)
      (fun r s' => r = .ok (.ret (.bool true)) ∧ OldK s₁.heap s'.heap ∧ s'.os = s₁.os ∧ AllBare s'.gens) s₁ := by
  have untracked : ∀ {b : Addr} {o : Obj} {es : Array DictEntry} {ep : Nat},
      s₁.heap.get? b = some o → o.data = .dict es ep → H b = none := by
    intro b o es ep q d
    cases hb' : H b with
    | none => rfl
    | some u =>
      have q2 : b = a := hA b (by rw [hb']; exact fun z => nomatch z)
      subst q2
      have q3 := ha.symm.trans q
      cases q3
      exact nomatch (show Data.seq vs.toArray _ = Data.dict es ep from d)
  have nsB : ∀ {b : Addr} {m : Str → Option Value}, s₁.heap.Ns b m → (hidT s₁.heap H).Ns b m := by
    rintro b m ⟨o, es, ep, q, d, r⟩
    exact ⟨o, es, ep, hidT_get q (untracked q d), d, r⟩
  have inB : K.In (hidT s₁.heap H) := by
    intro b o q
    refine hidT_get (inK b o q) ?_
    cases hb' : H b with
    | none => rfl
    | some u =>
      have q2 : b = a := hA b (by rw [hb']; exact fun z => nomatch z)
      subst q2
      rw [hK (by rw [hb']; exact fun z => nomatch z)] at q
      exact nomatch q
  obtain ⟨mc, l1, l2⟩ := nolim
  have md : Mod K mg (hidT s₁.heap H) := ⟨inB, nsB hns, ⟨mb, nsB hb, hbb⟩, ⟨mc, nsB l1, l2⟩⟩
  have e0 : Env0 P w K mg (hidT s₁.heap H) callerA [] s₁ H :=
    ⟨rfl, md, fun b o q => of_hidT q, Nat.le_of_eq (hidT_size _ _), trivial,
      fun b z => absurd (show b ∈ ([] : List Addr) from z) (by simp), ok, .of_eq hg⟩
  refine codeAny_mono ((F _ inB (nsB hns)).go callerA [] s₁ H ⟨[.ref a], []⟩ [.ref a] [.ref a] _ rfl hr e0
    (bind s₁ (.ref a)) (.cons rfl .nil) hsp) ?_
  intro r s' h
  cases r with
  | error e => exact (show False from h).elim
  | ok fl =>
    cases fl with
    | next => exact h.elim
    | brk => exact h.elim
    | cont => exact h.elim
    | ret u =>
      obtain ⟨v, H', os, bare, un, ok', rv, q⟩ := h
      obtain rfl : v = V.bl true := q
      obtain rfl : u = Value.bool true := rv
      refine ⟨rfl, OldK.of_keep ?_, os, bare⟩
      intro b o q1
      cases hb' : H b with
      | none =>
        exact un.keep b o q1 hb' (fun z => absurd (show b ∈ ([] : List Addr) from z) (by simp)) (by simp)
      | some u =>
        rcases only b with z | ⟨ob, xs, z⟩
        · exact nomatch hb'.symm.trans z
        · obtain ⟨q2, _⟩ := ok b _ z
          obtain ⟨q3, _⟩ := ok' b _ (un.frzs b ob _ z)
          cases q1.symm.trans q2
          exact q3

theorem law_callG (inK : K.In s₁.heap) (hns : s₁.heap.Ns mainGlobals mg) (hb : s₁.heap.Ns builtinsNs mb)
    (hbb : ∀ x : Str, x ≠ "__name__" → mb x = bootBuiltins x) (nolim : s₁.heap.NoLimit) (hg : s₁.gens = #[])
    (ha : s₁.heap.get? a = some { cls := .type "list", data := .seq vs.toArray }) (hi : IntsAre vs ns)
    (hl : ns.length ≤ sizeLine) (hr : Room k callerA)
    (F : ∀ base : Heap, K.In base → base.Ns mainGlobals mg → FnG P w K mg base k fa fd [x] sp)
    (bind : ∀ (s : Shared) (u : Value), BindsTo s fd ⟨[u], []⟩ [(x, u)])
    (hsp : ∀ H : Hp, Only H → SqL K H a (ns.map V.int) → sp [.ref a] H (fun v _ => v = .bl true) E0) :
    codeAny (model P w) callerA (.call (.ref fa) ⟨[.ref a], []⟩)
      (fun r s' => r = .ok (.ret (.bool true)) ∧ OldK s₁.heap s'.heap ∧ s'.os = s₁.os ∧ AllBare s'.gens) s₁ := by
  have rv := vals_ints hi
  have lenV := hi.length
  cases hk : K.lookup a with
  | some o =>
    -- the script is one of the module's own objects
    cases ha.symm.trans (inK a o hk)
    have only : Only (fun _ => none) := fun _ => .inl rfl
    have sq : SqL K (fun _ => none) a (ns.map V.int) :=
      .inr ⟨_, vs.toArray, _, hk, rfl, rfl, rfl, by rw [List.size_toArray, lenV]; exact hl, by simpa using rv⟩
    refine law_core inK hns hb hbb nolim hg ha hr F bind _ only (hsp _ only sq) ?_ ?_ ?_
    · intro b u z
      exact nomatch (show (none : Option HO) = some u from z)
    · exact fun b z => absurd rfl z
    · exact fun z => absurd rfl z
  | none =>
    let Hs : Hp := fun b => if b = a then some (.frz { cls := .type "list", data := .seq vs.toArray } (.lst (ns.map V.int))) else none
    have at_a : Hs a = some (.frz { cls := .type "list", data := .seq vs.toArray } (.lst (ns.map V.int))) := if_pos rfl
    have else_ : ∀ b, b ≠ a → Hs b = none := fun b n => if_neg n
    have only : Only Hs := by
      intro b
      by_cases q : b = a
      · subst q; exact .inr ⟨_, _, at_a⟩
      · exact .inl (else_ b q)
    refine law_core inK hns hb hbb nolim hg ha hr F bind Hs only (hsp _ only (.inl (.inr ⟨_, at_a⟩))) ?_ ?_ ?_
    · intro b u z
      by_cases q : b = a
      · subst q
        cases at_a.symm.trans z
        exact ⟨ha, by rw [List.length_map]; exact hl, vs, _, rv, ha⟩
      · exact nomatch (else_ b q).symm.trans z
    · intro b z
      by_cases q : b = a
      · exact q
      · exact absurd (else_ b q) z
    · exact fun _ => hk
end

/-- the goal that the head leaves, from the law's promise -/
theorem walk_ofG {l : PySem.W.OpenLaw} {n k : Nat} {q : Program} {loose : List Str}
    {XP : (Str → Option Value) → Heap → Prop} {YP : World → Heap → Prop} {d : DefRec} {K : Params → PySem.W.Frag}
    {sp : PySem.W.Frag → Sp} {x : Str}
    (hn : l.most = some n) (hn2 : n ≤ sizeLine) (hdf : d.params.defaults = []) (hr : Room k callerA)
    (hY : ∀ (w : World) (h : Heap), YP w h → (K w.params).In h)
    (F : ∀ (w : World) (mg : Str → Option Value) (fa : Addr) (h : Heap), (K w.params).In h →
      h.Ns mainGlobals mg → mg d.name = some (.ref fa) →
      ∃ fd : FuncData, (∀ (s : Shared) (u : Value), BindsTo s fd ⟨[u], []⟩ [(x, u)]) ∧
        ∀ base : Heap, (K w.params).In base → base.Ns mainGlobals mg →
          FnG l.prog w (K w.params) mg base k fa fd [x] (sp (K w.params)))
    (hsp : ∀ (K : PySem.W.Frag) (H : Hp) (a : Addr) (ns : List Int), ns.length ≤ n → Only H →
      SqL K H a (ns.map V.int) → sp K [.ref a] H (fun v _ => v = .bl true) E0) :
    PySem.W.WalkO q loose XP YP l.row.toRowW d [] (fun f vs => PySem.call f vs) := by
  refine Att.attach_call hn hdf ?_
  intro w s₀ s₁ mg mb fa o pm cd doc a vs ns G Y ho hd hcd hmg hobj hints hlen hg
  have inK := hY w _ Y
  obtain ⟨fd, bind, hF⟩ := F w mg fa _ inK G.T.g hmg
  exact law_callG inK G.T.g G.T.b G.T.builtins G.T.nolimit hg hobj hints (Nat.le_trans hlen hn2) hr hF bind
    (fun H hO hS => hsp (K w.params) H a ns hlen hO hS)
end L2.Gd
end

section
set_option Elab.async false
set_option linter.all false
set_option maxRecDepth 100000
set_option maxHeartbeats 2000000
namespace L2.Gd
open PySem PySem.Spec PyProof.Rows

/-- a list or a tuple of plain data: what is told of it fits -/
def Showy (d : PyData) : Prop := d.showable = true ∧ d.hasDict = false ∧ d.depth ≤ 20 ∧ d.shown.length ≤ sizeLine
section
variable {X : Cx} {pins : List (Addr × Obj)} {σ : St} {H : Hp} {s : Shared}
theorem reprObj_D {A : Around} (I : Inv X pins σ H s) (hg : A.guards = some []) (hu : A.units + 64 < cLine) {a : Addr} {d : PyData}
    (hd : Dp X.K H (.ref a) d) (hs : Showy d) {Q : Value → Shared → Prop} {E : Value → Shared → Prop}
    (h : ∀ s' u, Inv X pins σ H s' → Q (.str d.shown u) s') :
    wpAny (model X.prog X.w) A (pyReprObj (.ref a)) Q E s := by
  obtain ⟨as, r⟩ := Dp.reads I d _ _ hd rfl
  obtain ⟨h1, h2, h3, h4⟩ := hs
  refine pyReprObj_of_reads r h1 (PyData.noDict_hsm h2) hg (by omega) (fun _ _ q => q) ?_ h4
  intro h' u tk k
  exact h _ u (I.kept k)
end
section
variable {X : Cx}
/-- repr(x), x a list or a tuple of plain data -/
theorem call_reprD (hg : X.A.guards = some []) (hu : X.A.units + 64 < cLine) :
    CallR X (.builtin "repr") (fun xs H Q => ∃ a d, xs = [.ref a] ∧ Dp X.K H (.ref a) d ∧ Showy d ∧ Q (.str d.shown) H) := by
  rintro pins s σ H xs us Q I r ⟨a, d, rfl, hd, ⟨h1, h2, h3, h4⟩, q⟩
  cases r with
  | cons r1 r2 =>
    cases r2
    obtain rfl := r1
    obtain ⟨as, rd⟩ := Dp.reads I d _ _ hd rfl
    refine repr_of_reads' rd h1 (PyData.noDict_hsm h2) hg (by omega) (fun _ _ q => q) ?_ h4
    intro h' u tk k
    exact ⟨.str d.shown, H, I.kept k, ⟨_, rfl⟩, q⟩
/-- {x!r} of such -/
theorem pe_fmtRD {e : Expr} {te : TE} {pos : Pos} (hg : X.A.guards = some []) (hu : X.A.units + 64 < cLine) (he : PE X e te) :
    PE X (.FormattedValue e 114 none pos) (fun σ H Q => te σ H fun x H1 => ∃ a d, x = .ref a ∧ Dp X.K H1 (.ref a) d ∧ Showy d ∧ Q (.str d.shown) H1) := by
  constructor
  intro pins s σ H Q I h
  refine wpAny_FormattedValue_repr (thn (he.run pins s σ H _ I h) ?_)
  rintro v s1 ⟨x, H1, I1, r1, a, d, rfl, hd, hs, q⟩
  obtain rfl := r1
  refine reprObj_D I1 hg hu hd hs ?_
  intro s' u I'
  exact wpAny_formatField_str ⟨.str d.shown, H1, I', ⟨u, rfl⟩, q⟩ ⟨.str d.shown, H1, I'.tok _, ⟨_, rfl⟩, q⟩ hs.2.2.2
end
end L2.Gd
end

section
set_option Elab.async false
set_option linter.all false
set_option maxRecDepth 100000
set_option maxHeartbeats 2000000
namespace L2.Gd
open PySem PySem.Spec PyProof.Rows

/-! ### a def's run, whatever it hands back (NotImplemented, too) -/
def RawEnd (R : Result → Shared → Prop) (fl : Flow) (s' : Shared) : Prop := match fl with
  | .ret u => R (.ok (.ret u)) s'
  | .next => R (.ok (.ret .none)) s'
  | _ => False
section
variable {P : Program} {w : World} {K : PySem.W.Frag} {mg : Str → Option Value} {base : Heap}
  {k : Nat} {f : Addr} {fd : FuncData} {ps N : List Str}

theorem raw_call {x qual : Str} {st : Stmt} (F : Fun K x qual st f fd) (S : FnScope N ps (defScope st))
    {A : Around} {outer : List Env} {s : Shared} {H : Hp} {args : Args} {us : List Value} {vs : List V}
    {R : Result → Shared → Prop} (hr : Room (k + 1) A) (e0 : Env0 P w K mg base A outer s H)
    (bind : BindsTo s fd args (ps.zip us)) (rv : Vals vs us) (hl : vs.length = ps.length)
    (body : ∀ (cdv : Value) (s1 : Shared),
      Inv (cxOf CX0 P w K mg base N qual (defScope st) f cdv A outer s H E0).nox [] (start N vs) H s1 →
      wpAny (model P w) (A.deeper (envOfC qual (defScope st) s.heap.objs.size f cdv))
        (execs (defBody st) (envOfC qual (defScope st) s.heap.objs.size f cdv)) (RawEnd R) (fun _ _ => False) s1) :
    codeAny (model P w) A (.call (.ref f) args) R s := by
  obtain ⟨oc, od, kV, doc, pm, an, cdv, ct, osl, rfl, there, code⟩ := F.ex
  have inK : K.In s.heap := e0.mod.kin.keeps (fun b o q => (e0.bs b o q).1)
  have nolim : s.heap.NoLimit := e0.mod.nolimit.keeps (fun b o q => (e0.bs b o q).1)
  have kinds : ∀ y ∈ ps.zip us, (defScope st).names.lookup y.1 = some .local ∨
      ((defScope st).names.lookup y.1 = some .cell ∧
        ((cellsFrom (s.heap.objs.size + 1) (defScope st).names []).lookup y.1).isSome = true) := by
    rintro ⟨n, v⟩ hy
    cases S.par n (List.of_mem_zip hy).1 with
    | inl q => exact .inl q
    | inr q => exact .inr ⟨q, PySem.W.cellsFrom_some _ _ _ (.inl q)⟩
  refine codeAny_call_function hr.depth (inK _ _ there) rfl S.co S.gen rfl
    (PySem.W.codeRec_of inK code) (bind _ _ _ _ ?_)
  refine wpAny_newFunctionEnv_cells S.kind kinds ?_
  intro env he s1 ic
  subst he
  refine ⟨nolim.keeps ic.toInCall.keep, codeAny_func ?_⟩
  have I := inv_start (CX := CX0) (P := P) (w := w) (mg := mg) (base := base) (E := E0) S hr.hd e0 hl rv ic
  refine wpAny_mono (body cdv s1 (I.wish _)) (fun fl s' z => ?_) (fun e s' z => z.elim)
  cases fl with
  | ret u => exact z
  | next => exact z
  | brk => exact z.elim
  | cont => exact z.elim
end

/-! ### == of an own class that answers NotImplemented -/
/-- the state behind it: nothing that was tracked has changed -/
def After (X : Cx) (pins : List (Addr × Obj)) (σ : St) (H : Hp) (s' : Shared) : Prop := ∃ H', Inv X pins σ H' s' ∧ Same H H'
/-- the own __eq__ at f, of the class at C, declines what is of another kind -/
def Declines (X : Cx) (C f : Addr) (D : V → Hp → Prop) : Prop :=
  ∀ (pins : List (Addr × Obj)) (s : Shared) (σ : St) (H : Hp) (x : Addr) (y : V) (v : Value) (dx : Addr) (fs : List (Str × V)),
    Inv X pins σ H s → H x = some (.ins C dx fs) → RelV y v → D y H →
    wpAny (model X.prog X.w) X.A (call (.ref f) [.ref x, v]) (fun r s' => r = .notImplemented ∧ After X pins σ H s') (fun _ _ => False) s

section
variable {X : Cx} {C f : Addr}
theorem wpAny_noE {M : Model} {A : Around} {α : Type} {t : Sem α} {Q : α → Shared → Prop} {E : Value → Shared → Prop} {s : Shared}
    (h : wpAny M A t Q (fun _ _ => False) s) : wpAny M A t Q E s := wpAny_mono h (fun _ _ z => z) (fun _ _ z => z.elim)

/-- the value on the right: its type, and what its own == says of an instance -/
structure OtherKind (X : Cx) (C : Addr) (y : V) (tb : Value) (D : V → Hp → Prop) : Prop where
  ne : (tb == .ref C) = false
  sub : PySem.W.subIn X.K tb (.ref C) = some false
  ty : ∀ (pins : List (Addr × Obj)) (s : Shared) (σ : St) (H : Hp) (v : Value), Inv X pins σ H s → RelV y v → D y H →
    PySem.W.Looks (model X.prog X.w) s.heap (typeOf v) tb
  dec : ∀ (A : Around) (pins : List (Addr × Obj)) (s : Shared) (σ : St) (H : Hp) (x : Addr) (v : Value) (dx : Addr) (fs : List (Str × V)) (Q : Option Value → Shared → Prop) (E : Value → Shared → Prop),
    A.units + 8 < cLine → Inv X pins σ H s → RelV y v → D y H → H x = some (.ins C dx fs) → (∀ s', Inv X pins σ H s' → Q none s') →
    wpAny (model X.prog X.w) A (tryCompare v "__eq__" (.ref x)) Q E s
  mono : ∀ (H H' : Hp), Same H H' → D y H → D y H'
  notSame : ∀ (pins : List (Addr × Obj)) (s : Shared) (σ : St) (H : Hp) (x : Addr) (v : Value) (dx : Addr) (fs : List (Str × V)) (A : Around) (Q : Bool → Shared → Prop) (E : Value → Shared → Prop),
    Inv X pins σ H s → RelV y v → D y H → H x = some (.ins C dx fs) → Q false s → wpAny (model X.prog X.w) A (isSame (.ref x) v) Q E s

/-- x == y, x an instance of the class at C, y of another kind: False -/
theorem op_eqNI (hu : X.A.units + 64 < cLine) {DD : V → Hp → Prop} (hs : PySem.W.findIn X.K (.ref C) "__eq__" = some (some (.ref f)))
    (hf : PySem.W.isFn X.K (.ref f) = true) (dc : Declines X C f DD) :
    OpR X (compareOp .Eq) (fun x y H Q => ∃ (a dx : Addr) (fs : List (Str × V)) (tb : Value) (D : V → Hp → Prop),
      x = .ref a ∧ H a = some (.ins C dx fs) ∧ OtherKind X C y tb D ∧ D y H ∧ DD y H ∧ ∀ H', Same H H' → Q (.bl false) H') := by
  rintro pins s σ H x y u v Q I rx ry ⟨a, dx, fs, tb, D, rfl, ha, O, hD, hDD, q⟩
  obtain rfl := rx
  obtain ⟨mA, J, _⟩ := ins_get I.hok ha
  obtain ⟨od, J, _⟩ := J.look
  show wpAny _ _ (richCompare .Eq (.ref a) v) _ _ _
  unfold richCompare
  simp only [oneThing_ref]
  refine wpAny_holding (wpAny_bind (wpAny_cRoomFor (by omega) ?_))
  refine wpAny_bind (J.type.here (wpAny_bind ((O.ty pins s σ H v I ry hD).here ?_)))
  have ne : (Value.ref C != tb) = true := by
    have := O.ne
    rw [bne_comm, bne, this]
    rfl
  rw [if_pos ne]
  refine wpAny_bind ((PySem.W.looks_subIn I.kIn O.sub).here ?_)
  simp only [Bool.false_eq_true, if_false]
  have one : wpAny (model X.prog X.w) X.A (tryCompare (.ref a) (cmpInfo CmpOp.Eq).2.fst v)
      (fun r s' => r = none ∧ After X pins σ H s') X.xe s := by
    unfold tryCompare
    refine wpAny_bind (PySem.W.ifBound_K I.kIn J hs hf (wpAny_mono (wpAny_noE (dc pins s σ H a y v dx fs I ha ry hDD)) ?_ (fun _ _ z => z)))
    rintro r s' ⟨rfl, h⟩
    exact wpAny_pure ⟨rfl, h⟩
  refine wpAny_bind (thn one ?_)
  rintro r s1 ⟨rfl, H1, I1, sm⟩
  show wpAny _ _ (tryCompare v (cmpInfo CmpOp.Eq).2.snd (Value.ref a) >>= _) _ _ _
  refine wpAny_bind (O.dec X.A pins s1 σ H1 a v dx fs _ _ (by omega) I1 ry (O.mono _ _ sm hD) (sm _ _ ha) ?_)
  intro s2 I2
  show wpAny _ _ (rule "compare.eq-identity" >>= _) _ _ _
  refine wpAny_bind (wpAny_rule (wpAny_bind (O.notSame pins s2 σ H1 a v dx fs X.A _ _ I2 ry (O.mono _ _ sm hD) (sm _ _ ha) ?_)))
  exact wpAny_pure ⟨.bl false, H1, I2, rfl, q H1 sm⟩
end
end L2.Gd
end

section
set_option Elab.async false
set_option linter.all false
set_option maxRecDepth 100000
set_option maxHeartbeats 2000000
/-! What built-in values say of an instance of an own class: their own == declines. -/
namespace PySem.SeqAt
open AutoSeq1 (wpAny_loadPart')
open MeetsSeq
def NoSub (C : Addr) (T : String) (h : Heap) : Prop := ∀ M : Model, PySem.W.Looks M h (isSubtype (.ref C) (.type T)) false
theorem list_eq_ni (l x C dx : Addr) (items : Array Value) (n : Nat) (dd : Option Addr) (sl : Array (Option Value)) :
    Meets (Builtin.«list.__eq__» ⟨[.ref l, .ref x], []⟩) (fun _ R s =>
      s.heap.get? l = some { cls := .type "list", dict := dd, data := .seq items n, slots := sl } ∧
      s.heap.get? x = some (PySem.W.instObj C dx) ∧ NoSub C "list" s.heap ∧ R (.ok (.ret .notImplemented)) s) :=
  .of_wp fun prog w A R s h => by
    obtain ⟨hp, g, d, tk, os⟩ := s
    obtain ⟨hl, hx, ns, h⟩ := h
    wp_walk using wpAny_loadPart' hl
    refine (ns _).here ?_
    wp_walk
    exact ⟨_, rfl, h⟩
theorem tuple_eq_ni (l x C dx : Addr) (items : Array Value) (n : Nat) (dd : Option Addr) (sl : Array (Option Value)) :
    Meets (Builtin.«tuple.__eq__» ⟨[.ref l, .ref x], []⟩) (fun _ R s =>
      s.heap.get? l = some { cls := .type "tuple", dict := dd, data := .seq items n, slots := sl } ∧
      s.heap.get? x = some (PySem.W.instObj C dx) ∧ NoSub C "tuple" s.heap ∧ R (.ok (.ret .notImplemented)) s) :=
  .of_wp fun prog w A R s h => by
    obtain ⟨hp, g, d, tk, os⟩ := s
    obtain ⟨hl, hx, ns, h⟩ := h
    wp_walk using wpAny_loadPart' hl
    refine (ns _).here ?_
    wp_walk
    exact ⟨_, rfl, h⟩
theorem dict_eq_ni (l x C dx : Addr) (o : Obj) :
    Meets (Builtin.«dict.__eq__» ⟨[.ref l, .ref x], []⟩) (fun _ R s => s.heap.get? l = some o ∧ o.cls = .type "dict" ∧
      s.heap.get? x = some (PySem.W.instObj C dx) ∧ NoSub C "dict" s.heap ∧ R (.ok (.ret .notImplemented)) s) :=
  .of_wp fun prog w A R s h => by
    obtain ⟨hp, g, d, tk, os⟩ := s
    obtain ⟨hl, hc, hx, ns, h⟩ := h
    wp_walk using wpAny_loadPart' hl
    refine (ns _).here ?_
    wp_walk
    exact ⟨_, rfl, h⟩
theorem int_eq_ni (b : Int) (u : Tok) (x C dx : Addr) :
    Meets (Builtin.«int.__eq__» ⟨[.int b u, .ref x], []⟩) (fun _ R s => s.heap.get? x = some (PySem.W.instObj C dx) ∧ R (.ok (.ret .notImplemented)) s) :=
  .of_wp fun prog w A R s h => by
    obtain ⟨hp, g, d, tk, os⟩ := s
    obtain ⟨hx, h⟩ := h
    wp_walk using wpAny_loadPart' hx, wpAny_load hx
    exact ⟨_, rfl, h⟩
theorem str_eq_ni (b : Str) (u : Tok) (x C dx : Addr) :
    Meets (Builtin.«str.__eq__» ⟨[.str b u, .ref x], []⟩) (fun _ R s => s.heap.get? x = some (PySem.W.instObj C dx) ∧ R (.ok (.ret .notImplemented)) s) :=
  .of_wp fun prog w A R s h => by
    obtain ⟨hp, g, d, tk, os⟩ := s
    obtain ⟨hx, h⟩ := h
    wp_walk using wpAny_loadPart' hx, wpAny_load hx
    exact ⟨_, rfl, h⟩
end PySem.SeqAt

namespace L2.Gd
open PySem PySem.Spec PyProof.Rows PySem.SeqAt
section
variable {X : Cx} {C : Addr}
/-- the class at C is of no built-in kind -/
structure NoKin (K : PySem.W.Frag) (C : Addr) : Prop where
  none : PySem.W.subIn K (.type "NoneType") (.ref C) = some false
  int : PySem.W.subIn K (.type "int") (.ref C) = some false
  str : PySem.W.subIn K (.type "str") (.ref C) = some false
  lst : PySem.W.subIn K (.type "list") (.ref C) = some false
  tup : PySem.W.subIn K (.type "tuple") (.ref C) = some false
  dct : PySem.W.subIn K (.type "dict") (.ref C) = some false
  lst' : PySem.W.subIn K (.ref C) (.type "list") = some false
  tup' : PySem.W.subIn K (.ref C) (.type "tuple") = some false
  dct' : PySem.W.subIn K (.ref C) (.type "dict") = some false
theorem noSub_of {pins : List (Addr × Obj)} {σ : St} {H : Hp} {s : Shared} {T : String} (I : Inv X pins σ H s)
    (h : PySem.W.subIn X.K (.ref C) (.type T) = some false) : NoSub C T s.heap := fun _ => PySem.W.looks_subIn I.kIn h

theorem kind_none (nk : NoKin X.K C) : OtherKind X C .non (.type "NoneType") (fun _ _ => True) where
  ne := rfl
  sub := nk.none
  ty := by
    intro pins s σ H v I rv _
    obtain rfl := rv
    exact .now
  dec := by
    intro A pins s σ H x v dx fs Q E hu I rv _ hx k
    obtain rfl := rv
    exact wpAny_tryCompare_declines (T := "NoneType") rfl F.slot_NoneType_eq
      (call_gives F.slot_NoneType_eq rfl F.entry_NoneType_eq (F.args_NoneType_eq_2 _ _) (NoneType___eq___none_ref_0 x) ⟨rfl, k _ I⟩)
  mono := fun _ _ _ h => h
  notSame := by
    intro pins s σ H x v dx fs A Q E I rv _ hx q
    obtain rfl := rv
    exact wpAny_of_eq (rfl : isSame (.ref x) .none = pure false) q
theorem kind_int (i : Int) (nk : NoKin X.K C) : OtherKind X C (.int i) (.type "int") (fun _ _ => True) where
  ne := rfl
  sub := nk.int
  ty := by
    intro pins s σ H v I rv _
    obtain ⟨t, rfl⟩ := rv
    exact .now
  dec := by
    intro A pins s σ H x v dx fs Q E hu I rv _ hx k
    obtain ⟨t, rfl⟩ := rv
    obtain ⟨mA, J, _⟩ := ins_get I.hok hx
    exact wpAny_tryCompare_declines (T := "int") (typeIs_int _ _ _) F.slot_int_eq
      (call_meets F.slot_int_eq (typeIs_int _ _ _) F.entry_int_eq (F.args_int_eq_2 _ _) (int_eq_ni i t x C dx) ⟨J.1, rfl, k _ I⟩)
  mono := fun _ _ _ h => h
  notSame := by
    intro pins s σ H x v dx fs A Q E I rv _ hx q
    obtain ⟨t, rfl⟩ := rv
    exact wpAny_of_eq (rfl : isSame (.ref x) (.int i t) = pure false) q
theorem kind_str (z : Str) (nk : NoKin X.K C) : OtherKind X C (.str z) (.type "str") (fun _ _ => True) where
  ne := rfl
  sub := nk.str
  ty := by
    intro pins s σ H v I rv _
    obtain ⟨t, rfl⟩ := rv
    exact .now
  dec := by
    intro A pins s σ H x v dx fs Q E hu I rv _ hx k
    obtain ⟨t, rfl⟩ := rv
    obtain ⟨mA, J, _⟩ := ins_get I.hok hx
    exact wpAny_tryCompare_declines (T := "str") (typeIs_str _ _ _) F.slot_str_eq
      (call_meets F.slot_str_eq (typeIs_str _ _ _) F.entry_str_eq (F.args_str_eq_2 _ _) (str_eq_ni z t x C dx) ⟨J.1, rfl, k _ I⟩)
  mono := fun _ _ _ h => h
  notSame := by
    intro pins s σ H x v dx fs A Q E I rv _ hx q
    obtain ⟨t, rfl⟩ := rv
    exact wpAny_of_eq (rfl : isSame (.ref x) (.str z t) = pure false) q
theorem kind_list (l : Addr) (nk : NoKin X.K C) : OtherKind X C (.ref l) (.type "list") (fun _ H => ∃ xs, H l = some (.lst xs)) where
  ne := rfl
  sub := nk.lst
  ty := by
    intro pins s σ H v I rv ⟨xs, hl⟩
    obtain rfl := rv
    obtain ⟨_, its, n, _, e⟩ := (show ObjOk X.prog X.w H s.heap l (.lst xs) from I.hok l _ hl)
    exact (PySem.W.Looks.ld (part := none) e).andThen .now
  dec := by
    intro A pins s σ H x v dx fs Q E hu I rv ⟨xs, hl⟩ hx k
    obtain rfl := rv
    obtain ⟨_, its, n, _, e⟩ := (show ObjOk X.prog X.w H s.heap l (.lst xs) from I.hok l _ hl)
    obtain ⟨mA, J, _⟩ := ins_get I.hok hx
    exact wpAny_tryCompare_declines (T := "list") ⟨_, e, rfl⟩ F.slot_list_eq
      (call_meets F.slot_list_eq ⟨_, e, rfl⟩ F.entry_list_eq (F.args_list_eq_2 _ _) (list_eq_ni l x C dx _ _ _ _) ⟨e, J.1, noSub_of I nk.lst', rfl, k _ I⟩)
  mono := fun _ _ sm ⟨xs, h⟩ => ⟨xs, sm _ _ h⟩
  notSame := by
    intro pins s σ H x v dx fs A Q E I rv ⟨xs, hl⟩ hx q
    obtain rfl := rv
    obtain ⟨_, its, n, _, e⟩ := (show ObjOk X.prog X.w H s.heap l (.lst xs) from I.hok l _ hl)
    obtain ⟨mA, J, _⟩ := ins_get I.hok hx
    exact wpAny_isSame_ref_other' (ne_of hx hl (by intro z; cases z)) J.1 e (show Value.type "list" ≠ Value.type "tuple" by decide) q
theorem same_left {M : Model} {A : Around} {E : Value → Shared → Prop} {s : Shared} {x y : Addr} {ox oy : Obj} {R : Bool → Shared → Prop} (ne : x ≠ y)
    (hx : s.heap.get? x = some ox) (hy : s.heap.get? y = some oy) (hnt : ox.cls ≠ .type "tuple") (h : R false s) :
    wpAny M A (isSame (.ref x) (.ref y)) R E s := by
  show wpAny M A (if (x == y) = true then pure true else _) R E s
  rw [if_neg (fun z => ne (beq_iff_eq.mp z))]
  refine wpAny_bind (wpAny_load hx (wpAny_bind (wpAny_load hy ?_)))
  split
  · rename_i _ h1 _ _ _
    exact absurd h1 hnt
  · exact wpAny_pure h
theorem kind_tup (l : Addr) (nk : NoKin X.K C) : OtherKind X C (.ref l) (.type "tuple") (fun _ H => ∃ xs, H l = some (.tup xs)) where
  ne := rfl
  sub := nk.tup
  ty := by
    intro pins s σ H v I rv ⟨xs, hl⟩
    obtain rfl := rv
    obtain ⟨_, its, _, o, e, c, n, hd⟩ := (show ObjOk X.prog X.w H s.heap l (.tup xs) from I.hok l _ hl)
    obtain ⟨cls, dd, data, sl⟩ := o
    simp only at c hd
    subst c hd
    exact (PySem.W.Looks.ld (part := none) e).andThen .now
  dec := by
    intro A pins s σ H x v dx fs Q E hu I rv ⟨xs, hl⟩ hx k
    obtain rfl := rv
    obtain ⟨_, its, _, o, e, c, n, hd⟩ := (show ObjOk X.prog X.w H s.heap l (.tup xs) from I.hok l _ hl)
    obtain ⟨cls, dd, data, sl⟩ := o
    simp only at c hd
    subst c hd
    obtain ⟨mA, J, _⟩ := ins_get I.hok hx
    exact wpAny_tryCompare_declines (T := "tuple") ⟨_, e, rfl⟩ F.slot_tuple_eq
      (call_meets F.slot_tuple_eq ⟨_, e, rfl⟩ F.entry_tuple_eq (F.args_tuple_eq_2 _ _) (tuple_eq_ni l x C dx _ _ _ _) ⟨e, J.1, noSub_of I nk.tup', rfl, k _ I⟩)
  mono := fun _ _ sm ⟨xs, h⟩ => ⟨xs, sm _ _ h⟩
  notSame := by
    intro pins s σ H x v dx fs A Q E I rv ⟨xs, hl⟩ hx q
    obtain rfl := rv
    obtain ⟨_, its, _, o, e, c, n, hd⟩ := (show ObjOk X.prog X.w H s.heap l (.tup xs) from I.hok l _ hl)
    obtain ⟨mA, J, _⟩ := ins_get I.hok hx
    exact same_left (ne_of hx hl (by intro z; cases z)) J.1 e (by intro z; cases z) q
theorem kind_dict (l : Addr) (nk : NoKin X.K C) : OtherKind X C (.ref l) (.type "dict") (fun _ H => ∃ kvs, H l = some (.dK kvs)) where
  ne := rfl
  sub := nk.dct
  ty := by
    intro pins s σ H v I rv ⟨kvs, hl⟩
    obtain rfl := rv
    obtain ⟨_, _, vs, _, o, es, ep, e, c, _⟩ := (show ObjOk X.prog X.w H s.heap l (.dK kvs) from I.hok l _ hl)
    have c1 : o.cls = .type "dict" := c.1
    obtain ⟨cls, dd, data, sl⟩ := o
    simp only at c1
    subst c1
    exact (PySem.W.Looks.ld (part := none) e).andThen .now
  dec := by
    intro A pins s σ H x v dx fs Q E hu I rv ⟨kvs, hl⟩ hx k
    obtain rfl := rv
    obtain ⟨_, _, vs, _, o, es, ep, e, c, _⟩ := (show ObjOk X.prog X.w H s.heap l (.dK kvs) from I.hok l _ hl)
    obtain ⟨mA, J, _⟩ := ins_get I.hok hx
    exact wpAny_tryCompare_declines (T := "dict") ⟨_, e, c.1⟩ F.slot_dict_eq
      (call_meets F.slot_dict_eq ⟨_, e, c.1⟩ F.entry_dict_eq (F.args_dict_eq_2 _ _) (dict_eq_ni l x C dx o) ⟨e, c.1, J.1, noSub_of I nk.dct', rfl, k _ I⟩)
  mono := fun _ _ sm ⟨xs, h⟩ => ⟨xs, sm _ _ h⟩
  notSame := by
    intro pins s σ H x v dx fs A Q E I rv ⟨kvs, hl⟩ hx q
    obtain rfl := rv
    obtain ⟨_, _, vs, _, o, es, ep, e, c, _⟩ := (show ObjOk X.prog X.w H s.heap l (.dK kvs) from I.hok l _ hl)
    obtain ⟨mA, J, _⟩ := ins_get I.hok hx
    exact same_left (ne_of hx hl (by intro z; cases z)) J.1 e (by intro z; cases z) q
end
end L2.Gd
end

section
set_option Elab.async false
set_option linter.all false
set_option maxRecDepth 100000
set_option maxHeartbeats 2000000
/-! == and != of two instances of an own class that has an __eq__ alone. -/
namespace L2.Gd
open PySem PySem.Spec PyProof.Rows
section
variable {X : Cx} {C f N : Addr} {n : Nat} {fd : FuncData} {ps : List Str} {sp : Sp}

/-- the callee runs, somewhere below the body -/
theorem run_at (F : FnOk X.prog X.w X.K X.mg X.base CX0 n f fd ps sp) (hb : Binds X.K fd ps []) {A : Around} (sb : Sub X n A)
    {pins : List (Addr × Obj)} {σ : St} {H : Hp} {s : Shared} {Q : VK} {us : List Value} {vs : List V}
    (I : Inv X pins σ H s) (r : Vals vs us) (h : sp vs H Q E0) {E : Value → Shared → Prop} :
    wpAny (model X.prog X.w) A (call (.ref f) us) (EP X pins σ Q) E s := by
  have e := I.env0
  have e0 : Env0 X.prog X.w X.K X.mg X.base A X.stack s H := ⟨sb.fr.trans e.frames, e.mod, e.bs, e.bsz, e.funs, e.frf, e.hok, e.bare⟩
  have hl : (us ++ []).length = ps.length := by
    rw [List.append_nil, ← r.length]
    exact F.len _ _ _ _ h
  have hb2 := hb s us I.kIn hl
  rw [List.append_nil] at hb2
  refine wpAny_call (codeAny_mono (F.run A X.stack s H ⟨us, []⟩ us vs Q E0 sb.room e0 hb2 r h) ?_)
  intro res s' hq
  cases res with
  | error er => exact (show False from hq).elim
  | ok fl =>
    cases fl with
    | ret u => exact I.after hq
    | next => exact hq.elim
    | brk => exact hq.elim
    | cont => exact hq.elim

theorem binds2 (hb : Binds X.K fd ps []) : Binds X.K fd ps [] := hb

/-- x == y, two instances of the class at C -/
theorem op_eqOwn (hr : Room n X.A) (F : FnOk X.prog X.w X.K X.mg X.base CX0 n f fd ps sp) (hb : Binds X.K fd ps [])
    (hs : PySem.W.findIn X.K (.ref C) "__eq__" = some (some (.ref f))) (hf : PySem.W.isFn X.K (.ref f) = true) :
    OpR X (compareOp .Eq) (fun x y H Q => ∃ (a b dx dy : Addr) (fs gs : List (Str × V)), x = .ref a ∧ y = .ref b ∧
      H a = some (.ins C dx fs) ∧ H b = some (.ins C dy gs) ∧ sp [.ref a, .ref b] H (fun v H' => (∃ k, v = .bl k) ∧ Q v H') E0) := by
  rintro pins s σ H x y u v Q I rx ry ⟨a, b, dx, dy, fs, gs, rfl, rfl, ha, hb', h⟩
  obtain rfl := rx
  obtain rfl := ry
  obtain ⟨mA, J, _⟩ := ins_get I.hok ha
  obtain ⟨mB, J', _⟩ := ins_get I.hok hb'
  obtain ⟨od, J, _⟩ := J.look
  obtain ⟨od', J', _⟩ := J'.look
  obtain ⟨m, fr⟩ := I.fr
  show wpAny _ _ (richCompare .Eq (.ref a) (.ref b)) _ _ _
  refine PySem.W.cmp_K (op := .Eq) (tb := .ref C) hr.units0 fr I.ok.mod.kin J J'.type (by simp [PySem.W.notFirst]) hs hf ?_
  refine thn (run_at (us := [.ref a, .ref b]) (vs := [.ref a, .ref b]) F hb ⟨hr, rfl⟩ I (.cons rfl (.cons rfl .nil)) h) ?_
  rintro r s' ⟨z, H', I', rz, ⟨k, rfl⟩, q⟩
  obtain rfl := rz
  exact ⟨.bl k, H', I', rfl, q⟩

/-- what the text's class must have for != by its own == -/
structure NeC (K : PySem.W.Frag) (C f N : Addr) : Prop where
  cls : ∃ nm q bs sn sub ab col dd k0 k1 k2 k3 k5 newId, K.lookup C = some (excClassObj nm q C N bs [.type "object"] true sn sub ab col dd k0 k1 k2 k3 k5 newId)
  ok : PySem.W.nsOkIn K N = true
  eq : PySem.W.nsIn K N "__eq__" = some (some (.ref f))
  ne : PySem.W.nsIn K N "__ne__" = some none
  fn : ∃ o, K.lookup f = some o ∧ o.cls = .type "function"

theorem ns_some {K : PySem.W.Frag} {h : Heap} {N : Addr} {m : Str → Option Value} {x : Str} {v : Value} (k : K.In h) (G : h.Ns N m)
    (e : PySem.W.nsIn K N x = some (some v)) : m x = some v := by
  obtain ⟨o, es, ep, ho, hd, _, hf⟩ := G
  unfold PySem.W.nsIn at e
  split at e
  · rename_i c d es' n' sl q
    cases ho.symm.trans (k _ _ q)
    cases hd
    split at e
    · rename_i en he
      cases e
      rw [← hf]
      unfold nsFind findBy
      rw [← Array.find?_toList, he]
      rfl
    · split at e
      · cases e
      · cases e
  · cases e
theorem NeC.heap {K : PySem.W.Frag} {h : Heap} (c : NeC K C f N) (k : K.In h) {x : Addr} {o : Obj} (hx : h.get? x = some o) (hc : o.cls = .ref C) :
    h.OwnEqNoNe x C f "object" [.type "object"] := by
  obtain ⟨nm, q, bs, sn, sub, ab, col, dd, k0, k1, k2, k3, k5, newId, hC⟩ := c.cls
  obtain ⟨of, hf, ft⟩ := c.fn
  have ns := Heap.Ns.of_isNs (PySem.W.isNs_of_in k c.ok)
  exact ⟨o, of, nm, q, N, bs, true, sn, sub, ab, col, dd, k0, k1, k2, k3, k5, newId, _, _, hx, hc, k _ _ hC, ns,
    ns_some k ns c.eq, k _ _ hf, ft, PySem.F.cmp_object.mro, PySem.F.cmp_object.eq.lookup, PySem.W.nsMap_none_of_in k c.ok c.ne⟩

/-- x != y -/
theorem op_neOwn (hr : Room (n + 1) X.A) (F : FnOk X.prog X.w X.K X.mg X.base CX0 n f fd ps sp) (hb : Binds X.K fd ps []) (c : NeC X.K C f N) :
    OpR X (compareOp .NotEq) (fun x y H Q => ∃ (a b dx dy : Addr) (fs gs : List (Str × V)), x = .ref a ∧ y = .ref b ∧
      H a = some (.ins C dx fs) ∧ H b = some (.ins C dy gs) ∧
      sp [.ref a, .ref b] H (fun v H' => ∃ k, v = .bl k ∧ Q (.bl (!k)) H') E0) := by
  rintro pins s σ H x y u v Q I rx ry ⟨a, b, dx, dy, fs, gs, rfl, rfl, ha, hb', h⟩
  obtain rfl := rx
  obtain rfl := ry
  obtain ⟨mA, J, _⟩ := ins_get I.hok ha
  obtain ⟨mB, J', _⟩ := ins_get I.hok hb'
  show wpAny _ _ (richCompare .NotEq (.ref a) (.ref b)) _ _ _
  obtain ⟨hp, g, d, t, os⟩ := s
  refine richCompare_ne_ownEq PySem.F.cmp_object (c.heap I.kIn J.1 rfl) J'.1 rfl (by have := hr.units; omega) ?_
  refine thn (run_at (us := [.ref a, .ref b]) (vs := [.ref a, .ref b]) F hb (A := X.A.in1) ⟨hr.in1, rfl⟩ I (.cons rfl (.cons rfl .nil)) h) ?_
  rintro r s' ⟨z, H', I', rz, k, rfl, q⟩
  obtain rfl := rz
  exact ⟨k, rfl, .bl (!k), H', I', rfl, q⟩
end
end L2.Gd
end

section
set_option Elab.async false
set_option linter.all false
set_option maxRecDepth 100000
set_option maxHeartbeats 2000000
namespace L2.Gd
open PySem PySem.Spec PyProof.Rows
section
variable {X : Cx} {k : Nat} {f C : Addr} {fd : FuncData} {ps ks : List Str} {sp : Sp} {x m : Str} {p pos apos : Pos}
  {o : Expr} {kws : List Keyword} {ta tk : TE} {tks : TA} {g : List Value → List Value → List Value} {gV : List V → List V → List V}
/-- a call with keywords alone of a def: it binds by KBn -/
theorem run_kw {pins : List (Addr × Obj)} {σ : St} {H : Hp} {s : Shared} {Q : VK} {us ws : List Value} {vs zs : List V} {n : Nat}
    (F : FnOk X.prog X.w X.K X.mg X.base CX0 k f fd ps sp) (hr : Room k X.A) (hb : KBn X.K fd ps n ks g gV)
    (I : Inv X pins σ H s) (r : Vals vs us) (rz : Vals zs ws) (l1 : vs.length = n) (l2 : zs.length = ks.length)
    (h : sp (gV vs zs) H Q E0) : wpAny (model X.prog X.w) X.A (call (.ref f) us (ks.zip ws)) (EP X pins σ Q) X.xe s := by
  have n1 : us.length = n := r.length.symm.trans l1
  have n2 : ws.length = ks.length := rz.length.symm.trans l2
  refine wpAny_call (codeAny_mono (F.run X.A X.stack s H ⟨us, ks.zip ws⟩ (g us ws) (gV vs zs) Q E0 hr I.env0
    (hb.to s us ws I.kIn n1 n2) (hb.rel r rz) h) ?_)
  intro res s' hq
  cases res with
  | error er => exact (show False from hq).elim
  | ok fl =>
    cases fl with
    | ret u => exact I.after hq
    | next => exact hq.elim
    | brk => exact hq.elim
    | cont => exact hq.elim
/-- o.m(k = v, ..), o an instance of the class at C -/
def tMethK (C : Addr) (m : Str) (n : Nat) (sp : Sp) (gV : List V → List V → List V) (ta : TE) (tk : TA) : TE := fun σ H Q =>
  ta σ H fun x H1 => ∃ a dx fs, x = .ref a ∧ H1 a = some (.ins C dx fs) ∧ fs.lookup m = none ∧
    tk σ H1 fun zs H2 => zs.length = n ∧ sp (gV [x] zs) H2 Q E0
theorem pe_methK0 {pl : Sem Bool} (he : PE X o ta) (c : Cls X.K C) (hm : Meth X.K C m f)
    (F : FnOk X.prog X.w X.K X.mg X.base CX0 k f fd ps sp) (hr : Room k X.A) (hb : KBn X.K fd ps 1 ks g gV) (hkw : PK X kws tks)
    (hall : (backToKw pos (keywordEach kws X.env)).all (·.1.isSome) = true := by rfl)
    (hks : (backToKw pos (keywordEach kws X.env)).filterMap (·.1) = ks := by rfl)
    (hpl : ((backTo pos (starEach [] X.env)).any (·.1) || (backToKw pos (keywordEach kws X.env)).any (·.1.isNone)) = false := by rfl)
    (ht : eval (.Call (.Attribute o m apos) [] kws pos) X.env = (do
      let ov ← eval o X.env
      standAt apos.atName
      let (f, first) ← holding [ov] (getMethod ov m pl)
      callWith pos f first (backTo pos (starEach [] X.env))
        (backToKw pos (keywordEach kws X.env))) := by rfl) :
    PE X (.Call (.Attribute o m apos) [] kws pos) (tMethK C m ks.length sp gV ta tks) := by
  constructor
  intro pins s σ H Q I h
  refine PySem.W.methodCall_KW (pl := pl) (thn (he.run pins s σ H _ I h) ?_) ht
  rintro u s1 ⟨x, H1, I1, rx, a, dx, fs, rfl, ea, l, q⟩
  obtain rfl := rx
  refine getmeth_ok I1 ea c hm l ?_
  refine PySem.W.callWith_KW0 (first := [.ref a]) (h₀ := X.base) I.ok.mod.kin hm.kp hall ?_ hpl
  refine thn (hkw.run pos pins s1 σ H1 _ I1 q) ?_
  rintro ws s2 ⟨zs, H2, I2, rz, l2, q2⟩
  refine ⟨I2.kIn, ?_⟩
  rw [hks]
  have r1 : Vals [V.ref a] [Value.ref a] := .cons rfl .nil
  exact run_kw (us := [Value.ref a]) (vs := [V.ref a]) F hr hb I2 r1 rz rfl l2 q2
end
end L2.Gd
end

section
set_option Elab.async false
set_option linter.all false
set_option maxRecDepth 100000
set_option maxHeartbeats 2000000
namespace L2.K75
open PySem PySem.Spec PyProof.Rows
def top (i : Nat) : Stmt := PySem.Challenge.pw_lonetill_k75_whole_roofs_of_goings.main.body.getD i (.Pass ⟨0, 0, 0, 0⟩)
abbrev sIsInt : Stmt := top 2
abbrev sIsCount : Stmt := top 3
abbrev sIsList : Stmt := top 4
abbrev sIsDeed : Stmt := top 39
abbrev sCheck : Stmt := top 40
abbrev cHouse (i : Nat) : Stmt := inClass (top 41) i

/-- built-in names that the module leaves alone -/
structure Nm (mg : Str → Option Value) : Prop where
  isi : mg "isinstance" = none
  int : mg "int" = none
  bool : mg "bool" = none
  list : mg "list" = none
  tuple : mg "tuple" = none
  str : mg "str" = none
  len : mg "len" = none
  all : mg "all" = none
  any : mg "any" = none
  enumerate : mg "enumerate" = none
  range : mg "range" = none
  sorted : mg "sorted" = none
  abs : mg "abs" = none
  max : mg "max" = none
  min : mg "min" = none
  repr : mg "repr" = none
  divmod : mg "divmod" = none
  ni : mg "NotImplemented" = none

/-! ### deeds -/
structure Dd where
  p : Int
  c : Int
  g : Int
  w : Str
  deriving DecidableEq
def Dd.vs (x : Dd) : List V := [.int x.p, .int x.c, .int x.g, .str x.w]
def Dd.d (x : Dd) : PyData := .tuple [.int x.p, .int x.c, .int x.g, .str x.w]
structure Dd.Ok (n : Int) (x : Dd) : Prop where
  p0 : 0 ≤ x.p
  pn : x.p < n
  g0 : 0 ≤ x.g
  gn : x.g < n
  w : (x.w = "any" ∧ -1 ≤ x.c ∧ x.c ≤ 1) ∨ (x.w = "empty" ∧ 0 ≤ x.c ∧ x.c ≤ 1)
def DdAt (H : Hp) (v : V) (x : Dd) : Prop := ∃ t, v = .ref t ∧ H t = some (.tup x.vs)

section
variable {P : Program} {w : World} {K : PySem.W.Frag} {mg : Str → Option Value} {base : Heap}

/-- what isinstance(x, T) asks, T a built-in type -/
theorem isi_mk {H : Hp} {v : V} {t T : String} {b : Bool} {Q : VK} (h : TyX K H v (.type t)) (e : kitB t T = some b) (q : Q (.bl b) H) :
    rIsi K [v, .ty T] H Q := ⟨_, _, _, _, b, rfl, .ty _, h, kit_ty e, q⟩
def tIsi (K : PySem.W.Frag) (te : TE) (T : String) : TE := fun σ H Q => te σ H fun v H1 => rIsi K [v, .ty T] H1 Q
theorem blT {p : Prop} [Decidable p] {Q : VK} {H : Hp} (h : p) (k : Q (.bl true) H) : Q (.bl (decide p)) H := by
  rw [decide_eq_true h]
  exact k
theorem blF {p : Prop} [Decidable p] {Q : VK} {H : Hp} (h : ¬ p) (k : Q (.bl false) H) : Q (.bl (decide p)) H := by
  rw [decide_eq_false h]
  exact k
theorem blNT {p : Prop} [Decidable p] {Q : VK} {H : Hp} (h : ¬ p) (k : Q (.bl true) H) : Q (.bl (!decide p)) H := by
  rw [decide_eq_false h]
  exact k
theorem blNF {p : Prop} [Decidable p] {Q : VK} {H : Hp} (h : p) (k : Q (.bl false) H) : Q (.bl (!decide p)) H := by
  rw [decide_eq_true h]
  exact k
section
variable {X : Cx} {e : Expr} {te : TE} {p q pos : Pos}
theorem pe_isInt (n : Nm X.mg) (he : PE X e te) (g1 : Gl X "isinstance" := by rfl) (g2 : Gl X "int" := by rfl)
    (s1 : starEach [e, .Name "int" q] X.env = (false, eval e X.env) :: starEach [.Name "int" q] X.env := by rfl)
    (s2 : starEach [.Name "int" q] X.env = (false, eval (.Name "int" q) X.env) :: starEach [] X.env := by rfl)
    (hpl : (backTo pos (starEach [.Name "int" q] X.env)).any (·.1) = false := by rfl) :
    PE X (.Call (.Name "isinstance" p) [e, .Name "int" q] [] pos) (tIsi X.K te "int") :=
  pe_callB call_isi g1 n.isi (by decide +kernel) (pa_cons he (pa_cons (pe_bltn (v := .ty "int") g2 n.int (by decide +kernel) rfl) pa_nil s2) s1) (he := s1) (hpl := hpl)
theorem pe_isBool (n : Nm X.mg) (he : PE X e te) (g1 : Gl X "isinstance" := by rfl) (g2 : Gl X "bool" := by rfl)
    (s1 : starEach [e, .Name "bool" q] X.env = (false, eval e X.env) :: starEach [.Name "bool" q] X.env := by rfl)
    (s2 : starEach [.Name "bool" q] X.env = (false, eval (.Name "bool" q) X.env) :: starEach [] X.env := by rfl)
    (hpl : (backTo pos (starEach [.Name "bool" q] X.env)).any (·.1) = false := by rfl) :
    PE X (.Call (.Name "isinstance" p) [e, .Name "bool" q] [] pos) (tIsi X.K te "bool") :=
  pe_callB call_isi g1 n.isi (by decide +kernel) (pa_cons he (pa_cons (pe_bltn (v := .ty "bool") g2 n.bool (by decide +kernel) rfl) pa_nil s2) s1) (he := s1) (hpl := hpl)
theorem pe_isTuple (n : Nm X.mg) (he : PE X e te) (g1 : Gl X "isinstance" := by rfl) (g2 : Gl X "tuple" := by rfl)
    (s1 : starEach [e, .Name "tuple" q] X.env = (false, eval e X.env) :: starEach [.Name "tuple" q] X.env := by rfl)
    (s2 : starEach [.Name "tuple" q] X.env = (false, eval (.Name "tuple" q) X.env) :: starEach [] X.env := by rfl)
    (hpl : (backTo pos (starEach [.Name "tuple" q] X.env)).any (·.1) = false := by rfl) :
    PE X (.Call (.Name "isinstance" p) [e, .Name "tuple" q] [] pos) (tIsi X.K te "tuple") :=
  pe_callB call_isi g1 n.isi (by decide +kernel) (pa_cons he (pa_cons (pe_bltn (v := .ty "tuple") g2 n.tuple (by decide +kernel) rfl) pa_nil s2) s1) (he := s1) (hpl := hpl)
theorem pe_isStr (n : Nm X.mg) (he : PE X e te) (g1 : Gl X "isinstance" := by rfl) (g2 : Gl X "str" := by rfl)
    (s1 : starEach [e, .Name "str" q] X.env = (false, eval e X.env) :: starEach [.Name "str" q] X.env := by rfl)
    (s2 : starEach [.Name "str" q] X.env = (false, eval (.Name "str" q) X.env) :: starEach [] X.env := by rfl)
    (hpl : (backTo pos (starEach [.Name "str" q] X.env)).any (·.1) = false := by rfl) :
    PE X (.Call (.Name "isinstance" p) [e, .Name "str" q] [] pos) (tIsi X.K te "str") :=
  pe_callB call_isi g1 n.isi (by decide +kernel) (pa_cons he (pa_cons (pe_bltn (v := .ty "str") g2 n.str (by decide +kernel) rfl) pa_nil s2) s1) (he := s1) (hpl := hpl)
end

theorem yes_ite {σ : L2.St} {H : Hp} {A B : Hp → Prop} (h : A H) : tYes σ H (fun b H3 => if b = true then A H3 else B H3) := by
  show if true = true then A H else B H
  exact iteT h
def spIsInt : Sp := fun vs H Q _ => ∃ i, vs = [.int i] ∧ Q (.bl true) H
theorem scI : FnScope ["value"] ["value"] (defScope sIsInt) := ⟨rfl, rfl, rfl, by decide +kernel, rfl, by decide +kernel, by decide +kernel⟩
theorem ok_isInt {f : Addr} {fd : FuncData} (F : Fun K "is_integer" "is_integer" sIsInt f fd) (n : Nm mg) : FnOk P w K mg base CX0 1 f fd ["value"] spIsInt := by
  refine F.ok scI (fun vs H Q E h => ?_) (fun cdv A outer s H vs Q E hr h => ?_)
  · obtain ⟨i, rfl, _⟩ := h
    rfl
  · obtain ⟨i, rfl, k⟩ := h
    refine ⟨_, pss_one (ps_ret (pe_and (pe_isInt n (pv 0)) (pe_one (pe_not (pe_isBool n (pv 0)))))), ?_⟩
    refine ⟨_, rfl, isi_mk (t := "int") (b := true) (.base (.int _)) (by decide +kernel) ⟨true, rfl, iteT ?_⟩⟩
    exact ⟨_, rfl, isi_mk (t := "int") (b := false) (.base (.int _)) (by decide +kernel) ⟨false, rfl, k⟩⟩

/-- a def called by its name: what a caller needs of it -/
structure Fn (P : Program) (w : World) (K : PySem.W.Frag) (mg : Str → Option Value) (base : Heap) (k : Nat) (x : Str) (ps : List Str) (sp : Sp) : Prop where
  ex : ∃ f fd, mg x = some (.ref f) ∧ PySem.W.keepIn K (.ref f) = true ∧ Binds K fd ps [] ∧ FnOk P w K mg base CX0 k f fd ps sp
theorem pe_fn {X : Cx} {k : Nat} {x : Str} {ps : List Str} {sp : Sp} {e : Expr} {es : List Expr} {t : TA} {p pos : Pos}
    (F : Fn X.prog X.w X.K X.mg X.base k x ps sp) (hr : Room k X.A) (ha : PA X (e :: es) t) (gl : Gl X x := by rfl) (hdb : (x == ("__debug__" : Str)) = false := by decide)
    (he : starEach (e :: es) X.env = (false, eval e X.env) :: starEach es X.env := by rfl)
    (hpl : (backTo pos (starEach es X.env)).any (·.1) = false := by rfl) :
    PE X (.Call (.Name x p) (e :: es) [] pos) (tCall sp [] E0 t) := by
  obtain ⟨f, fd, m, kp, b, G⟩ := F.ex
  exact pe_call G hr gl m kp b .nil pass0 ha hdb he hpl

def spIsCount : Sp := fun vs H Q _ => ∃ i, vs = [.int i] ∧ 0 ≤ i ∧ Q (.bl true) H
theorem scC : FnScope ["value"] ["value"] (defScope sIsCount) := ⟨rfl, rfl, rfl, by decide +kernel, rfl, by decide +kernel, by decide +kernel⟩
theorem ok_isCount {f : Addr} {fd : FuncData} (F : Fun K "is_count" "is_count" sIsCount f fd) (G : Fn P w K mg base 1 "is_integer" ["value"] spIsInt) : FnOk P w K mg base CX0 2 f fd ["value"] spIsCount := by
  refine F.ok scC (fun vs H Q E h => ?_) (fun cdv A outer s H vs Q E hr h => ?_)
  · obtain ⟨i, rfl, _⟩ := h
    rfl
  · obtain ⟨i, rfl, h0, k⟩ := h
    refine ⟨_, pss_one (ps_ret (pe_and (pe_fn G hr (pa_cons (pv 0) pa_nil)) (pe_one (pe_cmpR op_ge (pv 0) pe_int (nomark _))))), ?_⟩
    refine ⟨_, rfl, _, rfl, true, rfl, iteT ?_⟩
    refine ⟨_, rfl, _, _, rfl, rfl, ?_⟩
    exact blT (Q := Q) h0 k

theorem same_upd {H : Hp} {p : Addr} {o : HO} (h : H p = none) : Same H (upd H p o) := fun a u e => by
  rw [upd_ne (ne_of_none e h)]
  exact e
/-- a list or a tuple of these -/
def Seq (K : PySem.W.Frag) (H : Hp) (a : Addr) (xs : List V) : Prop := H a = some (.lst xs) ∨ H a = some (.tup xs)
def spIsList (K : PySem.W.Frag) : Sp := fun vs H Q _ => ∃ a xs, vs = [.ref a] ∧ Seq K H a xs ∧ ∀ H', Same H H' → Q (.bl true) H'
theorem scL : FnScope ["value"] ["value"] (defScope sIsList) := ⟨rfl, rfl, rfl, by decide +kernel, rfl, by decide +kernel, by decide +kernel⟩
theorem ok_isList {f : Addr} {fd : FuncData} (F : Fun K "is_list" "is_list" sIsList f fd) (n : Nm mg) : FnOk P w K mg base CX0 1 f fd ["value"] (spIsList K) := by
  refine F.ok scL (fun vs H Q E h => ?_) (fun cdv A outer s H vs Q E hr h => ?_)
  · obtain ⟨i, _, rfl, _⟩ := h
    rfl
  · obtain ⟨a, xs, rfl, hs, k⟩ := h
    refine ⟨_, pss_one (ps_ret (pe_callB call_isiT (by rfl) n.isi (by decide +kernel) (pa_cons (pv 0) (pa_cons (pe_tup (pa_cons (pe_bltn (v := .ty "list") (by rfl) n.list (by decide +kernel) rfl) (pa_cons (pe_bltn (v := .ty "tuple") (by rfl) n.tuple (by decide +kernel) rfl) pa_nil))) pa_nil)))), ?_⟩
    refine ⟨_, rfl, (by show 2 ≤ sizeLine; decide), fun p hp => ?_⟩
    have cs : Paired ClsV [V.ty "list", V.ty "tuple"] [Value.type "list", Value.type "tuple"] := .cons (.ty _) (.cons (.ty _) .nil)
    rcases hs with hs | hs
    · refine ⟨_, p, _, _, _, true, rfl, upd_same, cs, .base (.lst (by rw [upd_ne (ne_of_none hs hp)]; exact hs)), ?_, k _ (same_upd hp)⟩
      exact kitAny_cons (kit_ty (b := "list") (r := true) (by decide +kernel)) (fun z => nomatch z) (fun _ => rfl)
    · refine ⟨_, p, _, _, _, true, rfl, upd_same, cs, .base (.tup (by rw [upd_ne (ne_of_none hs hp)]; exact hs)), ?_, k _ (same_upd hp)⟩
      exact kitAny_cons (kit_ty (b := "list") (r := false) (by decide +kernel)) (fun _ => kitAny_cons (kit_ty (b := "tuple") (r := true) (by decide +kernel)) (fun z => nomatch z) (fun _ => rfl)) (fun z => nomatch z)

/-! ### is_deed: asked of deeds alone -/
def spIsDeed : Sp := fun vs H Q _ => ∃ (t : Addr) (x : Dd) (n : Int), vs = [.ref t, .int n] ∧ H t = some (.tup x.vs) ∧ x.Ok n ∧ ∀ H', Same H H' → Q (.bl true) H'
theorem scD : FnScope ["value", "places", "place", "change", "goal", "when", "end"] ["value", "places"] (defScope sIsDeed) := ⟨rfl, rfl, rfl, by decide +kernel, rfl, by decide +kernel, by decide +kernel⟩
theorem ok_isDeed {f : Addr} {fd : FuncData} (F : Fun K "is_deed" "is_deed" sIsDeed f fd) (n : Nm mg)
    (GI : Fn P w K mg base 1 "is_integer" ["value"] spIsInt) (GC : Fn P w K mg base 2 "is_count" ["value"] spIsCount) :
    FnOk P w K mg base CX0 3 f fd ["value", "places"] spIsDeed := by
  refine F.ok scD (fun vs H Q E h => ?_) (fun cdv A outer s H vs Q E hr h => ?_)
  · obtain ⟨t, x, m, rfl, _⟩ := h
    rfl
  · obtain ⟨t, x, m, rfl, ht, ok, k⟩ := h
    have nd := scD.nd
    refine ⟨_, pss_cons (ps_if (pw_or (pt_not (pt_val (pe_isTuple n (pv 0))))
          (pw_or1 (pt_cmpR op_ne (pe_callB call_len_seq (by rfl) n.len PySem.boot_len (pa_cons (pv 0) pa_nil)) pe_int (nomark _)))).pt pss_never pss_nil)
      (pss_cons (ps_asg (pv 0) (pg_tup rfl (pgs_cons (pg_name (i := 2) nd rfl (.inl rfl)) (pgs_cons (pg_name (i := 3) nd rfl (.inl rfl)) (pgs_cons (pg_name (i := 4) nd rfl (.inl rfl)) (pgs_cons (pg_name (i := 5) nd rfl (.inl rfl)) pgs_nil))))))
      (pss_cons (ps_if (pt_not (pt_val (pe_callB (cr_all rfl) (by rfl) n.all (by decide +kernel) (pa_cons
          (pe_lc (own := [("end", 6)]) (g := gName 6) (tt := tYes) rfl nd (pi_tup (pe_tup (pa_cons (pv 2) (pa_cons (pv 4) pa_nil)))) (blkOk_by (N := ["value", "places", "place", "change", "goal", "when", "end"]) (sc := defScope sIsDeed) (by decide +kernel))
            (fun _ _ _ _ _ => pg_name (i := 6) nd rfl (.inl rfl)) (fun _ _ _ _ _ => pts_nil)
            (fun _ _ _ _ _ => pe_and (pe_fn GC hr (pa_cons (pv 6) pa_nil)) (pe_one (pe_cmpR op_lt (pv 6) (pv 1) (nomark _))))) pa_nil)))) pss_never pss_nil)
      (pss_cons (ps_if (pw_or (pt_not (pt_val (pe_fn GI (hr.mono (by decide)) (pa_cons (pv 3) pa_nil)))) (pw_or1 (pt_not (pt_val (pe_isStr n (pv 5)))))).pt pss_never pss_nil)
      (pss_one (ps_ret (pe_or (pe_and (pe_cmpR op_eq (pv 5) pe_str (nomark _)) (pe_one (pe_chain op_le op_le (pe_un un_neg pe_int) (pv 3) pe_int)))
        (pe_one (pe_and (pe_cmpR op_eq (pv 5) pe_str (nomark _)) (pe_one (pe_chain op_le op_le pe_int (pv 3) pe_int))))))))) ), ?_⟩
    -- the first test: a tuple, of four
    refine ⟨_, rfl, isi_mk (t := "tuple") (b := true) (.base (.tup ht)) (by decide +kernel) ⟨true, rfl, iteF ?_⟩⟩
    refine ⟨_, rfl, t, x.vs, rfl, .inr (.inl (.inl ht)), rfl, false, rfl, iteF ?_⟩
    refine ⟨_, rfl, t, x.vs, rfl, .inl (.inl ht), rfl, _, _, rfl, _, _, rfl, _, _, rfl, _, _, rfl, rfl, ?_⟩
    -- all([is_count(end) and end < places for end in (place, goal)])
    refine ⟨_, rfl, _, rfl, (by show 2 ≤ sizeLine; decide), fun q hq => ⟨q, rfl, ⟨_, .inl (.inl upd_same)⟩, fun D hD => ?_⟩⟩
    have s1 := same_upd (o := .tup [V.int x.p, V.int x.g]) hq
    have nqD : q ≠ D := ne_of_none upd_same hD
    refine lc_tup (xs := [V.int x.p, V.int x.g]) (fun i H' => H' D = some (.lst (List.replicate i (.bl true))) ∧ ∀ b o, b ≠ D → upd H q (.tup [V.int x.p, V.int x.g]) b = some o → H' b = some o) ⟨upd_same, fun b o hb e => by rw [upd_ne hb]; exact e⟩ (fun i H' _ hI => .inl (.inl (hI.2 _ _ nqD upd_same))) ?_ ?_
    · intro i y H' hi hI
      have hy : ∃ z, y = V.int z ∧ 0 ≤ z ∧ z < m := by
        match i, hi with
        | 0, hi => cases hi; exact ⟨_, rfl, ok.p0, ok.pn⟩
        | 1, hi => cases hi; exact ⟨_, rfl, ok.g0, ok.gn⟩
      obtain ⟨z, rfl, z0, zn⟩ := hy
      refine ⟨rfl, yes_ite ?_⟩
      refine ⟨_, rfl, _, rfl, z0, true, rfl, iteT ?_⟩
      refine ⟨_, rfl, _, rfl, _, _, rfl, rfl, ?_⟩
      have hl : i < 2 := (List.getElem?_eq_some_iff.mp hi).1
      refine ⟨_, hI.1, (by rw [List.length_replicate]; exact small1000 (by omega)), ?_, fun b o hb e => by rw [upd_ne hb]; exact hI.2 b o hb e⟩
      rw [upd_same, List.replicate_succ']
      show some (HO.lst (List.replicate i (V.bl true) ++ [V.bl (decide (z < m))])) = _
      rw [decide_eq_true zn]
    · intro H' ⟨hD', hK'⟩
      have s2 : Same H H' := fun b o e => hK' b o (ne_of_none (s1 b o e) hD) (s1 b o e)
      have ht' : H' t = some (.tup x.vs) := s2 _ _ ht
      refine ⟨D, [true, true], rfl, .inl (.inl hD'), true, rfl, ?_⟩
      refine iteF ?_
      refine ⟨_, rfl, _, rfl, true, rfl, ?_⟩
      refine iteF ?_
      refine ⟨_, rfl, isi_mk (t := "str") (b := true) (.base (.str _)) (by decide +kernel) ⟨true, rfl, ?_⟩⟩
      refine iteF ?_
      have fin := k H' s2
      rcases ok.w with ⟨e, l, u⟩ | ⟨e, l, u⟩
      · refine ⟨_, rfl, rfl, true, congrArg V.bl (decide_eq_true (by rw [e])), ?_⟩
        refine iteT ?_
        refine ⟨1, rfl, _, rfl, _, _, rfl, rfl, true, congrArg V.bl (decide_eq_true l), ?_⟩
        refine iteT ?_
        refine ⟨_, _, rfl, rfl, true, congrArg V.bl (decide_eq_true u), ?_⟩
        exact iteT fin
      · have ne : ¬ V.str x.w = V.str "any" := by
          rw [e]
          decide +kernel
        refine ⟨_, rfl, rfl, false, congrArg V.bl (decide_eq_false ne), ?_⟩
        refine iteF ?_
        refine ⟨false, rfl, ?_⟩
        refine iteF ?_
        refine ⟨_, rfl, rfl, true, congrArg V.bl (decide_eq_true (by rw [e])), ?_⟩
        refine iteT ?_
        refine ⟨_, rfl, _, _, rfl, rfl, true, congrArg V.bl (decide_eq_true l), ?_⟩
        refine iteT ?_
        exact ⟨_, _, rfl, rfl, blT (Q := Q) u fin⟩
end
end L2.K75
end

section
set_option Elab.async false
set_option linter.all false
set_option maxRecDepth 100000
set_option maxHeartbeats 2000000
/-! enumerate of a tuple -/
namespace PyProof.Rows
open PySem
open Sem (wp)
open AutoSeq1 (wpAny_loadPart')
section
variable {prog : Program} {w : World} {A : Around} {E : Value → Shared → Prop} {s : Shared} {I T e : Addr} {i : Nat} {xs : Array Value} {x old : Value}
/-- the tuple's iterator, asked from within a builtin -/
theorem nextOf_tup {Q : Value → Shared → Prop} (it : IsTupIter s.heap I T i) (ht : IsTup s.heap T xs) (hx : xs[i]? = some x)
    (k : ∀ h', IsTupIter h' I T (i + 1) → Heap.SameBut I s.heap h' → Q x { s with heap := h' }) :
    wpAny (model prog w) A (Builtin.SmallTypes.nextOf (.ref I)) Q E s := by
  obtain ⟨o, oi, oc, od⟩ := id it
  obtain ⟨p, op, _, m, pd⟩ := ht
  unfold Builtin.SmallTypes.nextOf
  refine wpAny_bind (wpAny_callSpecial?_slot (name := Str.ofString "__next__") it.typeIs slot_tupleiter_next (wpAny_call_entry slot_tupleiter_next it.typeIs entry_tupleiter_next
    (?a : wpAny _ _ _ _ _ _) (args_tupleiter_next _)))
  show wpAny _ _ (field (.ref I) 0 >>= _) _ _ s
  refine wpAny_bind (wpAny_field oi od (x := .ref T) rfl ?_)
  show wpAny _ _ (if (Value.ref T == Value.none) = true then _ else _) _ _ s
  rw [if_neg (show ¬ ((Value.ref T == Value.none) = true) from Bool.false_ne_true)]
  show wpAny _ _ (field (.ref I) 1 >>= _) _ _ s
  refine wpAny_bind (wpAny_field oi od (x := .int i 0) rfl ?_)
  show wpAny _ _ (seqItems? (.ref T) >>= _) _ _ s
  refine wpAny_bind (wpAny_seqItems op pd ?_)
  simp only [hx, Int.toNat_natCast]
  refine wpAny_bind (wpAny_setField oi od (by simp) (wpAny_pure ⟨x, rfl, wpAny_pure (k _ ⟨_, Heap.get?_update_self _ oi (Obj.isFreed_of_fields (Obj.data_mapFields od _)), (Obj.cls_mapFields ..).trans oc, ?_⟩ (Heap.SameBut.update ..))⟩))
  rw [Obj.data_mapFields od]
  simp [rawInt]
theorem nextOf_tup_end {Q : Value → Shared → Prop} (hh : A.handled = none) (it : IsTupIter s.heap I T i) (ht : IsTup s.heap T xs) (hx : xs[i]? = none)
    (k : ∀ h' c, Heap.ExtBut I s.heap h' → (∃ o, h'.get? c = some o ∧ o.cls = .type "StopIteration") → E (.ref c) { s with heap := h' }) :
    wpAny (model prog w) A (Builtin.SmallTypes.nextOf (.ref I)) Q E s := by
  obtain ⟨o, oi, oc, od⟩ := id it
  obtain ⟨p, op, _, m, pd⟩ := ht
  unfold Builtin.SmallTypes.nextOf
  refine wpAny_bind (wpAny_callSpecial?_slot (name := Str.ofString "__next__") it.typeIs slot_tupleiter_next (wpAny_call_entry slot_tupleiter_next it.typeIs entry_tupleiter_next
    (?a : wpAny _ _ _ _ _ _) (args_tupleiter_next _)))
  show wpAny _ _ (field (.ref I) 0 >>= _) _ _ s
  refine wpAny_bind (wpAny_field oi od (x := .ref T) rfl ?_)
  show wpAny _ _ (if (Value.ref T == Value.none) = true then _ else _) _ _ s
  rw [if_neg (show ¬ ((Value.ref T == Value.none) = true) from Bool.false_ne_true)]
  show wpAny _ _ (field (.ref I) 1 >>= _) _ _ s
  refine wpAny_bind (wpAny_field oi od (x := .int i 0) rfl ?_)
  show wpAny _ _ (seqItems? (.ref T) >>= _) _ _ s
  refine wpAny_bind (wpAny_seqItems op pd ?_)
  simp only [hx, Int.toNat_natCast]
  refine wpAny_bind (wpAny_rule (wpAny_bind (wpAny_setField oi od (by simp) ?_)))
  show wpAny _ _ (newExc (.type "StopIteration") ([] : List Value) >>= _) _ _ _
  refine wpAny_bind ?_
  simp only [newTuple, newExc]
  refine wpAny_bind (wpAny_newObj_type ?_ (by size_fits))
  refine wpAny_bind (m := firstArgMember _ _) (wpAny_of_eq (a := Value.none) rfl ?_)
  refine wpAny_newObj_type ?_ (by size_fits)
  simp only [raiseNew]
  refine wpAny_bind (wpAny_handled ?_)
  rw [show A.in1.handled = none from hh]
  exact wpAny_bind (wpAny_pure (wpAny_throw (k _ _ (((Heap.SameBut.update ..).extBut.push _).push _) ⟨_, Heap.get?_push_size _ rfl, rfl⟩)))
/-- enumerate.__next__ over a tuple's iterator: a pair -/
theorem enumT_item {Q : Value → Shared → Prop} (he : IsEnum s.heap e I i old) (it : IsTupIter s.heap I T i) (ht : IsTup s.heap T xs) (hx : xs[i]? = some x) (ne : e ≠ I)
    (k : ∀ h', IsEnumOut h' e I ((i : Int) + 1) x s.heap.objs.size → IsTupIter h' I T (i + 1) →
      h'.get? s.heap.objs.size = some { cls := .type "tuple", data := .seq #[.int i s.toks, x] } → h'.objs.size = s.heap.objs.size + 1 →
      (∀ b o, b ≠ e → b ≠ I → s.heap.get? b = some o → h'.get? b = some o) → Q (.ref s.heap.objs.size) { s with heap := h', toks := s.toks + 1 }) :
    wpAny (model prog w) A (Builtin.«enumerate.__next__» ⟨[.ref e], []⟩) (fun r s' => ∃ v, r = .done (.ret v) ∧ Q v s') E s := by
  obtain ⟨hp, gs, dr, tk, os⟩ := s
  show wpAny _ _ (field (.ref e) 2 >>= _) _ _ (⟨hp, gs, dr, tk, os⟩ : Shared)
  refine wpAny_bind (wpAny_field he rfl (x := .ref I) rfl (wpAny_bind (nextOf_tup it ht hx ?_)))
  intro a1 ia1 (sa1 : Heap.SameBut I hp a1)
  have e1 : IsEnum a1 e I i old := (sa1.2 e ne).trans he
  show wpAny _ _ (field (.ref e) 3 >>= _) _ _ ⟨a1, gs, dr, tk, os⟩
  refine wpAny_bind (wpAny_field e1 rfl (x := rawInt i) rfl ?_)
  show wpAny _ _ (field (.ref e) 4 >>= _) _ _ ⟨a1, gs, dr, tk, os⟩
  refine wpAny_bind (wpAny_field e1 rfl (x := .none) rfl ?_)
  show wpAny _ _ (mkInt i >>= _) _ _ ⟨a1, gs, dr, tk, os⟩
  refine wpAny_bind (wpAny_mkInt ?_)
  show wpAny _ _ (setField (.ref e) 3 (rawInt ((i : Int) + 1)) >>= _) _ _ ⟨a1, gs, dr, tk + 1, os⟩
  refine wpAny_bind (wpAny_setField_rec e1 (by simp) ?_)
  intro a2 (e2 : IsEnum a2 e I ((i : Int) + 1) old) (sa2 : Heap.SameBut e a1 a2)
  show wpAny _ _ (setField (.ref e) 4 .none >>= _) _ _ ⟨a2, gs, dr, tk + 1, os⟩
  refine wpAny_bind (wpAny_setField_rec e2 (by simp) ?_)
  intro a3 (e3 : IsEnum a3 e I ((i : Int) + 1) old) (sa3 : Heap.SameBut e a2 a3)
  show wpAny _ _ (newTuple [.int i tk, x] >>= _) _ _ ⟨a3, gs, dr, tk + 1, os⟩
  refine wpAny_bind (wpAny_newTuple ?_)
  have z3 : a3.objs.size = hp.objs.size := by rw [sa3.1, sa2.1, sa1.1]
  have le : e < hp.objs.size := Heap.lt_size he
  have nz : hp.objs.size ≠ e := Nat.ne_of_gt le
  rw [z3]
  generalize hq : a3.push { cls := .type "tuple", data := .seq #[.int i tk, x] } = a4
  have e4 : IsEnum a4 e I ((i : Int) + 1) old := by
    rw [← hq]
    exact Heap.get?_push_of_some _ e3
  have t4 : a4.get? hp.objs.size = some { cls := .type "tuple", data := .seq #[.int i tk, x] } := by
    rw [← hq, ← z3]
    exact Heap.get?_push_size _ rfl
  have z4 : a4.objs.size = hp.objs.size + 1 := by rw [← hq, Heap.size_push, z3]
  have k4 : ∀ b o, b ≠ e → b ≠ I → hp.get? b = some o → a4.get? b = some o := by
    intro b o h1 h2 h3
    rw [← hq]
    exact Heap.get?_push_of_some _ (sa3.extBut b o h1 (sa2.extBut b o h1 (sa1.extBut b o h2 h3)))
  have i4 : IsTupIter a4 I T (i + 1) := by
    rw [← hq]
    obtain ⟨o, ho, r⟩ := (ia1.extBut sa2.extBut (Ne.symm ne)).extBut sa3.extBut (Ne.symm ne)
    exact ⟨o, Heap.get?_push_of_some _ ho, r⟩
  show wpAny _ _ (Builtin.SmallTypes.ownedTupleIsFree (.ref e) >>= _) _ _ ⟨a4, gs, dr, tk + 1, os⟩
  refine wpAny_bind ?_
  unfold Builtin.SmallTypes.ownedTupleIsFree
  refine wpAny_bind (wpAny_field e4 rfl (x := .none) rfl (wpAny_pure ?_))
  simp only [if_true]
  refine wpAny_bind (wpAny_rule (wpAny_bind (wpAny_field e4 rfl (x := old) rfl ?_)))
  refine wpAny_bind (wpAny_setField_rec e4 (by simp) ?_)
  intro a5 (e5 : IsEnum a5 e I ((i : Int) + 1) x) (sa5 : Heap.SameBut e a4 a5)
  show wpAny _ _ (Builtin.SmallTypes.ownedTupleHandOut (.ref e) (.ref hp.objs.size) >>= _) _ _ ⟨a5, gs, dr, tk + 1, os⟩
  refine wpAny_bind ?_
  unfold Builtin.SmallTypes.ownedTupleHandOut
  refine wpAny_bind (wpAny_setField_rec e5 (by simp) ?_)
  intro a6 (e6 : IsEnumOut a6 e I ((i : Int) + 1) x hp.objs.size) (sa6 : Heap.SameBut e a5 a6)
  refine wpAny_setField_rec e6 (by simp) ?_
  intro a7 (e7 : IsEnumOut a7 e I ((i : Int) + 1) x hp.objs.size) (sa7 : Heap.SameBut e a6 a7)
  refine wpAny_bind (wpAny_letGo (wpAny_pure ⟨_, rfl, k a7 e7 ?_ ?_ ?_ ?_⟩))
  · exact ((i4.extBut sa5.extBut (Ne.symm ne)).extBut sa6.extBut (Ne.symm ne)).extBut sa7.extBut (Ne.symm ne)
  · exact sa7.extBut _ _ nz (sa6.extBut _ _ nz (sa5.extBut _ _ nz t4))
  · rw [sa7.1, sa6.1, sa5.1, z4]
  · exact fun b o h1 h2 h3 => sa7.extBut b o h1 (sa6.extBut b o h1 (sa5.extBut b o h1 (k4 b o h1 h2 h3)))
theorem pyNext_enumT {Q : Option Value → Shared → Prop} (he : IsEnum s.heap e I i old) (it : IsTupIter s.heap I T i) (ht : IsTup s.heap T xs) (hx : xs[i]? = some x) (ne : e ≠ I)
    (k : ∀ h', IsEnumOut h' e I ((i : Int) + 1) x s.heap.objs.size → IsTupIter h' I T (i + 1) →
      h'.get? s.heap.objs.size = some { cls := .type "tuple", data := .seq #[.int i s.toks, x] } → h'.objs.size = s.heap.objs.size + 1 →
      (∀ b o, b ≠ e → b ≠ I → s.heap.get? b = some o → h'.get? b = some o) → Q (some (.ref s.heap.objs.size)) { s with heap := h', toks := s.toks + 1 }) :
    wpAny (model prog w) A (pyNext (.ref e)) Q E s := by
  have ty : s.TypeIs (.ref e) "enumerate" := ⟨_, he, rfl⟩
  unfold pyNext
  refine wpAny_bind (wpAny_attempt (wpAny_callSpecial?_slot (name := Str.ofString "__next__") ty F.slot_enumerate_next ?_))
  refine wpAny_call_entry F.slot_enumerate_next ty F.entry_enumerate_next ?_ (F.args_enumerate_next_1 _)
  exact enumT_item he it ht hx ne fun h' q1 q2 q3 q4 q5 => wpAny_pure (k h' q1 q2 q3 q4 q5)
theorem pyNext_enumT_end {Q : Option Value → Shared → Prop} (hh : A.handled = none) (he : IsEnum s.heap e I i old) (it : IsTupIter s.heap I T i) (ht : IsTup s.heap T xs) (hx : xs[i]? = none)
    (k : ∀ h', Heap.ExtBut I s.heap h' → Q none { s with heap := h' }) : wpAny (model prog w) A (pyNext (.ref e)) Q E s := by
  have ty : s.TypeIs (.ref e) "enumerate" := ⟨_, he, rfl⟩
  unfold pyNext
  refine wpAny_bind (wpAny_attempt (wpAny_callSpecial?_slot (name := Str.ofString "__next__") ty F.slot_enumerate_next ?_))
  refine wpAny_call_entry F.slot_enumerate_next ty F.entry_enumerate_next ?_ (F.args_enumerate_next_1 _)
  show wpAny _ _ (field (.ref e) 2 >>= _) _ _ s
  refine wpAny_bind (wpAny_field he rfl (x := .ref I) rfl (wpAny_bind (nextOf_tup_end hh it ht hx ?_)))
  rintro h' c q ⟨o, ho, hc⟩
  exact wpAny_bind (wpAny_isInstance (T := "StopIteration") (b := true) ⟨o, ho, hc⟩ isSubtype_stop (wpAny_pure (k _ q)))
/-- enumerate(t) -/
theorem call_enumT {Q : Value → Shared → Prop} (ht : IsTup s.heap T xs)
    (k : ∀ h', IsEnum h' (s.heap.objs.size + 1) s.heap.objs.size 0 .none → IsTupIter h' s.heap.objs.size T 0 →
      (∀ b o, s.heap.get? b = some o → h'.get? b = some o) → Q (.ref (s.heap.objs.size + 1)) { s with heap := h' }) :
    wpAny (model prog w) A (call (.type "enumerate") [.ref T]) Q E s := by
  obtain ⟨o, ho, hc, n, hd⟩ := id ht
  let mid := s.heap.push { cls := .type "tuple_iterator", data := .fields #[.ref T, .int 0 0] }
  let fin := mid.push { cls := .type "enumerate", data := .fields #[.none, .bool false, .ref s.heap.objs.size, rawInt 0, .none, .none] }
  have meets : Meets (Builtin.«enumerate.__new__» ⟨[.type "enumerate", .ref T], []⟩) (fun _ R s' => (∃ o, s'.heap.get? T = some o ∧ o.cls = .type "tuple" ∧ ∃ n, o.data = .seq xs n) ∧
      R (.ok (.ret (.ref (s'.heap.push { cls := .type "tuple_iterator", data := .fields #[.ref T, .int 0 0] }).objs.size)))
        { s' with heap := (s'.heap.push { cls := .type "tuple_iterator", data := .fields #[.ref T, .int 0 0] }).push { cls := .type "enumerate", data := .fields #[.none, .bool false, .ref s'.heap.objs.size, rawInt 0, .none, .none] } }) :=
    .of_wp fun prog w A R s' h => by
      obtain ⟨hp, g, d, tk, os⟩ := s'
      obtain ⟨hT, h⟩ := h
      obtain ⟨o', ho', _⟩ := id hT
      have sub := sub_enumerate
      have tu : IsTup (Shared.heap ⟨hp, g, d, tk, os⟩) T xs := hT
      wp_walk using wpAny_loadPart' ho'
      refine wpAny_stack_any fun st => wpAny_pure ?_
      split
      · rename_i c _ _ _ _ _
        cases (c == Value.type "enumerate") <;> (wp_walk using wpAny_loadPart' ho', iter_tuple tu; exact ⟨_, rfl, h⟩)
      · wp_walk using wpAny_loadPart' ho', iter_tuple tu
        exact ⟨_, rfl, h⟩
  have z : mid.objs.size = s.heap.objs.size + 1 := Heap.size_push ..
  have he : IsEnum fin (s.heap.objs.size + 1) s.heap.objs.size 0 .none := by
    have q := Heap.get?_push_size mid (o := { cls := .type "enumerate", data := .fields #[.none, .bool false, .ref s.heap.objs.size, rawInt 0, .none, .none] }) rfl
    rw [z] at q
    exact q
  refine callType_new F.called_enumerate (by decide) (F.typeCall_enumerate_1 _) (F.newCall_enumerate_1 _) (fun obj => F.args_object_init_2 obj _) F.entry_enumerate_new meets ⟨ht, ?_⟩
  show _ ∧ _
  rw [show (s.heap.push { cls := .type "tuple_iterator", data := .fields #[.ref T, .int 0 0] }).objs.size = s.heap.objs.size + 1 from z]
  exact ⟨⟨_, he, rfl⟩, k fin he ⟨_, Heap.get?_push_of_some _ (Heap.get?_push_size _ rfl), rfl, rfl⟩ fun b o q => Heap.get?_push_of_some _ (Heap.get?_push_of_some _ q)⟩
end
end PyProof.Rows

namespace L2.Gd
open PySem PySem.Spec PyProof.Rows
/-- the tuple at a: each item in a new pair -/
def IteT (K : PySem.W.Frag) (a : Addr) : It where
  go := fun i H => ∃ (xs : List V) (x : V), SqT K H a xs ∧ xs[i]? = some x
  yld := fun i H v H' => ∃ T x, v = .ref T ∧ H T = none ∧ H' = upd H T (.tup [.int (i : Nat), x]) ∧ ∀ xs, SqT K H a xs → xs[i]? = some x
  stop := fun i H => ∃ xs : List V, SqT K H a xs ∧ xs.length ≤ i
theorem turn_enumT {P : Program} {w : World} {K : PySem.W.Frag} {elts : List Expr} {kk : Nat} {tpos : Pos} (a e I : Addr) :
    Turn P w K (.Tuple elts kk tpos) (IteT K a) [e, I] e (fun i h => (∃ old, IsEnum h e I ((i : Nat) : Int) old) ∧ IsTupIter h I a i ∧ e ≠ I) where
  mem := List.mem_cons_self
  obj := by
    rintro i h ⟨⟨old, he⟩, ⟨o, ho, hc, hd⟩, _⟩ b hb
    rcases List.mem_cons.mp hb with rfl | hb
    · exact ⟨_, he, fun v q => nomatch q⟩
    · obtain rfl := List.mem_singleton.mp hb
      exact ⟨o, ho, fun v q => by rw [hd] at q; exact nomatch q⟩
  keep := by
    rintro i h h' ⟨⟨old, he⟩, ⟨o, ho, r⟩, ne⟩ k
    exact ⟨⟨old, k e (by simp) _ he⟩, ⟨o, k I (by simp) _ ho, r⟩, ne⟩
  item := by
    rintro X hP hw hK hc i pins s σ H E J hf ⟨⟨old, he⟩, it, ne⟩ ⟨xs, x, hq, hx⟩
    subst hP hw hK
    obtain ⟨its, rv, tu, _⟩ := J.tuple hq
    obtain ⟨u, hu, ru⟩ := rv.get hx
    have le : e < s.heap.objs.size := Heap.lt_size he
    have li : I < s.heap.objs.size := let ⟨_, q, _⟩ := it; Heap.lt_size q
    refine pyNext_enumT he it tu (x := u) (by simpa using hu) ne ?_
    intro h1 out it1 tup1 z1 k1
    refine ⟨_, rfl, wpAny_letOwnedTupleGo_enum (s := { s with heap := h1, toks := s.toks + 1 }) out ?_⟩
    intro h2 he2 sb
    have tup2 : h2.get? s.heap.objs.size = some { cls := .type "tuple", data := .seq #[.int i s.toks, u] } := (sb.2 _ (Nat.ne_of_gt le)).trans tup1
    have new : ObjOk X.prog X.w (upd H s.heap.objs.size (.tup [.int (i : Nat), x])) h2 s.heap.objs.size (.tup [.int (i : Nat), x]) :=
      ⟨by show 2 ≤ sizeLine; decide, [.int i s.toks, u], .cons ⟨_, rfl⟩ (.cons ru .nil), ⟨_, tup2, rfl, _, rfl⟩⟩
    have J1 : Inv X pins σ (upd H s.heap.objs.size (.tup [.int (i : Nat), x])) { s with heap := h2, toks := s.toks + 1 } := by
      refine J.turnedNew (ch := [e, I]) (fun b o hb q => ?_) hf (Nat.le_refl _) new
      have b1 : b ≠ e := fun z => hb (by simp [z])
      have b2 : b ≠ I := fun z => hb (by simp [z])
      exact (sb.2 b b1).trans (k1 b o b1 b2 q)
    refine ⟨.ref s.heap.objs.size, _, J1, rfl, ⟨_, x, rfl, J.hok.fresh (Nat.le_refl _), rfl, fun ys hy => by rw [J.tuple_inj hy hq]; exact hx⟩, ⟨⟨u, ?_⟩, ?_, ne⟩, ?_⟩
    · rw [show ((i + 1 : Nat) : Int) = (i : Int) + 1 by omega]
      exact he2
    · obtain ⟨o, ho, r⟩ := it1
      exact ⟨o, (sb.2 I (Ne.symm ne)).trans ho, r⟩
    · intro b hb
      have lb : b < s.heap.objs.size := by
        rcases List.mem_cons.mp hb with rfl | q
        · exact le
        · obtain rfl := List.mem_singleton.mp q
          exact li
      rw [upd_ne (Nat.ne_of_lt lb)]
      exact (hf b hb).1
  done := by
    rintro X hP hw hK hc i pins s σ H E J hf ⟨⟨old, he⟩, it, ne⟩ ⟨xs, hq, hx⟩
    subst hP hw hK
    obtain ⟨its, rv, tu, _⟩ := J.tuple hq
    obtain ⟨f0, f1, f2, f3, f4, f5⟩ := hf I (by simp)
    have hl := rv.length
    refine pyNext_enumT_end (J.ok.hd hc) he it tu (by simp; omega) ?_
    intro h1 eb
    exact ⟨rfl, J.turned (t' := s.toks) (fun b o hb q => eb b o hb q) f0 f1 f3 f4 f5⟩
  self := by
    rintro A i s Q E ⟨⟨_, he⟩, _⟩ h
    exact wpAny_pyIter_enum he h
/-- enumerate of a list or of a tuple -/
def iEnumA (K : PySem.W.Frag) (ta : TA) : TI := fun σ H R => ta σ H fun vs H1 => ∃ a xs, vs = [.ref a] ∧
  ((SqL K H1 a xs ∧ R (Ite K a) H1) ∨ (SqT K H1 a xs ∧ R (IteT K a) H1))
theorem pi_enumA {X : Cx} {e : Expr} {ta : TA} {p pos tpos : Pos} {elts : List Expr} {kk : Nat} (hg : Gl X "enumerate") (hm : X.mg "enumerate" = none) (ha : PA X [e] ta)
    (hs : starEach [e] X.env = [(false, eval e X.env)] := by rfl) :
    PI X (.Tuple elts kk tpos) (.Call (.Name "enumerate" p) [e] [] pos) (iEnumA X.K ta) := by
  constructor
  intro pins s σ H R J h
  refine Call_ (ld_blt J hg hm boot_enumerate (PyProof.Rows.callWith_type1 (thn (ha.run pos pins s σ H _ J h) ?_) hs rfl))
  rintro us s1 ⟨vs, H1, J1, r1, a, xs, rfl, q⟩
  cases r1 with
  | cons r rr =>
    cases rr
    cases r
    have fp : ∀ b ∈ [s1.heap.objs.size + 1, s1.heap.objs.size], FpOk X pins H1 b := by
      intro b hb
      have le : s1.heap.objs.size ≤ b := by
        rcases List.mem_cons.mp hb with rfl | q
        · omega
        · obtain rfl := List.mem_singleton.mp q
          exact Nat.le_refl _
      exact J1.fpOk le (J1.hok.fresh le)
    rcases q with ⟨hq, q⟩ | ⟨hq, q⟩
    · obtain ⟨its, rv, pl, _⟩ := J1.list hq
      refine call_enumerate_list pl.isList ?_
      intro h' he it z k
      exact wpAny_pyIter_enum he ⟨_, _, _, _, H1, rfl, J1.kept (t' := s1.toks) k, turn_enum a (s1.heap.objs.size + 1) s1.heap.objs.size,
        ⟨⟨.none, he⟩, it, Nat.succ_ne_self _⟩, fp, q⟩
    · obtain ⟨its, rv, tu, _⟩ := J1.tuple hq
      refine call_enumT tu ?_
      intro h' he it k
      exact wpAny_pyIter_enum he ⟨_, _, _, _, H1, rfl, J1.kept (t' := s1.toks) k, turn_enumT a (s1.heap.objs.size + 1) s1.heap.objs.size,
        ⟨⟨.none, he⟩, it, Nat.succ_ne_self _⟩, fp, q⟩
end L2.Gd
end

section
set_option Elab.async false
set_option linter.all false
set_option maxRecDepth 100000
set_option maxHeartbeats 2000000
namespace L2.K75
open PySem PySem.Spec PyProof.Rows L2.Gd

/-! ### deeds as data -/
theorem DdAt.dp {K : PySem.W.Frag} {H : Hp} {v : V} {x : Dd} (h : DdAt H v x) : Dp K H v x.d := by
  obtain ⟨t, rfl, ht⟩ := h
  exact .tup (.inl (.inl ht)) (.cons (.int _) (.cons (.int _) (.cons (.int _) (.cons (.str _) .nil))))
abbrev DdAll (H : Hp) : List V → List Dd → Prop := Paired (DdAt H)
theorem DdAll.dps {K : PySem.W.Frag} {H : Hp} : ∀ {vs : List V} {ds : List Dd}, DdAll H vs ds → DpAll K H vs (ds.map Dd.d)
  | _, _, .nil => .nil
  | _, _, .cons h t => .cons (DdAt.dp h) (DdAll.dps t)
def Dd.Wd (x : Dd) : Prop := x.w = "any" ∨ x.w = "empty"
theorem Dd.Ok.wd {n : Int} {x : Dd} (h : x.Ok n) : x.Wd := h.w.elim (fun q => .inl q.1) (fun q => .inr q.1)
theorem Dd.lay {x : Dd} (h : x.Wd) : x.d.canLay0 = true := by
  have e : PyData.strOk x.w = true := by
    rcases h with e | e <;> (rw [e]; decide +kernel)
  simp [Dd.d, PyData.canLay0, PyData.canLayAll0, e]
theorem Dd.dep (x : Dd) : x.d.depth = 1 := by simp [Dd.d, PyData.depth, PyData.depthAll]
theorem lays : ∀ {ds : List Dd}, (∀ x ∈ ds, x.Wd) → PyData.canLayAll0 (ds.map Dd.d) = true
  | [], _ => by simp [PyData.canLayAll0]
  | x :: r, h => by simp [PyData.canLayAll0, Dd.lay (h x List.mem_cons_self), lays (ds := r) fun y hy => h y (List.mem_cons_of_mem _ hy)]
theorem deps : ∀ ds : List Dd, PyData.depthAll (ds.map Dd.d) ≤ 1
  | [] => by simp [PyData.depthAll]
  | x :: r => by
    have h1 := deps r
    have h2 := x.dep
    simp only [List.map_cons, PyData.depthAll]
    omega
theorem Dd.shaped {x : Dd} (hx : x.Wd) : SeqAt.shaped x.d = true := by
  have h := x.dep
  show (x.d.canLay0 && decide (x.d.depth ≤ 64)) = true
  rw [Dd.lay hx, decide_eq_true (by omega)]
  rfl
theorem shapedL {ds : List Dd} (hd : ∀ x ∈ ds, x.Wd) : SeqAt.shaped (.list (ds.map Dd.d)) = true := by
  have h := deps ds
  have h2 : PyData.depth (.list (ds.map Dd.d)) ≤ 64 := by
    simp only [PyData.depth]
    omega
  show (PyData.canLay0 (.list (ds.map Dd.d)) && decide (PyData.depth (.list (ds.map Dd.d)) ≤ 64)) = true
  rw [Bool.and_eq_true]
  exact ⟨by simp only [PyData.canLay0]; exact lays hd, decide_eq_true h2⟩
theorem shapedT {ds : List Dd} (hd : ∀ x ∈ ds, x.Wd) : SeqAt.shaped (.tuple (ds.map Dd.d)) = true := by
  have h := deps ds
  have h2 : PyData.depth (.tuple (ds.map Dd.d)) ≤ 64 := by
    simp only [PyData.depth]
    omega
  show (PyData.canLay0 (.tuple (ds.map Dd.d)) && decide (PyData.depth (.tuple (ds.map Dd.d)) ≤ 64)) = true
  rw [Bool.and_eq_true]
  exact ⟨by simp only [PyData.canLay0]; exact lays hd, decide_eq_true h2⟩
theorem Dd.eqv (x y : Dd) : PyData.eqv x.d y.d = decide (x = y) := by
  obtain ⟨p, c, g, w⟩ := x
  obtain ⟨p', c', g', w'⟩ := y
  have e : PyData.eqv (Dd.d ⟨p, c, g, w⟩) (Dd.d ⟨p', c', g', w'⟩) = ((p == p') && ((c == c') && ((g == g') && ((w == w') && true)))) := by
    simp only [Dd.d, PyData.eqv, PyData.eqvAll]
  rw [e, Bool.eq_iff_iff]
  simp
theorem eqvs : ∀ xs ys : List Dd, PyData.eqvAll (xs.map Dd.d) (ys.map Dd.d) = decide (xs = ys)
  | [], [] => by simp [PyData.eqvAll]
  | [], y :: ys => by simp [PyData.eqvAll]
  | x :: xs, [] => by simp [PyData.eqvAll]
  | x :: xs, y :: ys => by
    simp only [List.map_cons, PyData.eqvAll, x.eqv y, eqvs xs ys]
    rw [Bool.eq_iff_iff]
    simp
theorem any_in (x : Dd) (ds : List Dd) : (ds.map Dd.d).any (fun z => PyData.eqv z x.d) = decide (x ∈ ds) := by
  rw [List.any_map, Bool.eq_iff_iff, List.any_eq_true, decide_eq_true_eq]
  constructor
  · rintro ⟨y, hy, e⟩
    have e2 : PyData.eqv y.d x.d = true := e
    rw [y.eqv x, decide_eq_true_eq] at e2
    exact e2 ▸ hy
  · intro h
    refine ⟨x, h, ?_⟩
    show PyData.eqv x.d x.d = true
    rw [x.eqv x]
    simp
theorem DdAt.same {H H' : Hp} {v : V} {x : Dd} (s : Same H H') (h : DdAt H v x) : DdAt H' v x := let ⟨t, e, q⟩ := h; ⟨t, e, s _ _ q⟩
theorem DdAll.same {H H' : Hp} {vs : List V} {ds : List Dd} (s : Same H H') (h : DdAll H vs ds) : DdAll H' vs ds := Paired.mapP h fun _ _ q => q.same s

theorem cutV_take (xs : List V) {i : Nat} (h : i ≤ xs.length) : cutV xs none (some (i : Int)) = xs.take i := by
  have e0 : HT.sIx xs.length 0 none = 0 := by simp [HT.sIx]
  have e1 : HT.sIx xs.length xs.length (some (i : Int)) = i := by
    simp only [HT.sIx]
    split <;> omega
  unfold cutV
  rw [e0, e1, List.drop_zero, Nat.sub_zero]
theorem Paired.at {α β : Type} {R : α → β → Prop} : ∀ {xs : List α} {ys : List β} {i : Nat} {x : α}, Paired R xs ys → xs[i]? = some x → ∃ y, ys[i]? = some y ∧ R x y
  | _, _, _, _, .nil, e => by simp at e
  | _, _, 0, _, .cons r _, e => by simp at e; subst e; exact ⟨_, rfl, r⟩
  | _, _, i + 1, x, .cons _ t, e => by
    obtain ⟨u, h1, h2⟩ := Paired.at (i := i) (x := x) t (by simpa using e)
    exact ⟨u, by simpa using h1, h2⟩
theorem Paired.takeP {α β : Type} {R : α → β → Prop} : ∀ {xs : List α} {ys : List β} (n : Nat), Paired R xs ys → Paired R (xs.take n) (ys.take n)
  | _, _, 0, _ => .nil
  | _, _, _ + 1, .nil => .nil
  | _, _, n + 1, .cons r t => .cons r (Paired.takeP n t)
theorem not_ahead {α : Type} {l : List α} {i : Nat} {x : α} (nd : l.Nodup) (h : l[i]? = some x) : x ∉ l.take i := by
  intro hm
  obtain ⟨j, hj⟩ := List.mem_iff_getElem?.mp hm
  obtain ⟨lt, e⟩ := List.getElem?_eq_some_iff.mp hj
  rw [List.length_take] at lt
  have e2 : l[j]? = some x := by
    rw [List.getElem?_take_of_lt (by omega)] at hj
    exact hj
  obtain ⟨l1, q1⟩ := List.getElem?_eq_some_iff.mp h
  obtain ⟨l2, q2⟩ := List.getElem?_eq_some_iff.mp e2
  exact (List.pairwise_iff_getElem.mp nd) j i l2 l1 (by omega) (q2.trans q1.symm)
theorem hu65 {k : Nat} {A : Around} (hr : Room k A) : A.units + 65 < cLine := by
  have := hr.un
  omega
/-- a for by an invariant, whatever is walked -/
theorem loop_of {J : It} {n : Nat} {g : TG} {tb : TS} {D : Ends} {σ : L2.St} {H : Hp} (Pv : Nat → L2.St → Hp → Prop) (h0 : Pv 0 σ H)
    (hd : ∀ σ H, Pv n σ H → J.stop n H ∧ D.nx σ H)
    (hs : ∀ i σ H, i < n → Pv i σ H → J.go i H ∧ ∀ x H', J.yld i H x H' → g x σ H' fun σ2 H2 => tb { D with nx := Pv (i + 1), ct := Pv (i + 1), bk := D.nx } σ2 H2) :
    ∃ W : Nat → Nat → L2.St → Hp → Prop, (∃ m, W 0 m σ H) ∧ ∀ i m σ H, W i m σ H → (J.stop i H ∧ D.nx σ H) ∨
      (J.go i H ∧ ∃ N : L2.St → Hp → Prop, (∀ σ' H', N σ' H' → ∃ m', m' < m ∧ W (i + 1) m' σ' H') ∧
        ∀ x H', J.yld i H x H' → g x σ H' fun σ2 H2 => tb { D with nx := N, ct := N, bk := D.nx } σ2 H2) := by
  refine ⟨fun i m σ H => m = n - i ∧ i ≤ n ∧ Pv i σ H, ⟨n, by simp, Nat.zero_le _, h0⟩, ?_⟩
  rintro i m σ H ⟨rfl, hi, hp⟩
  by_cases e : i < n
  · obtain ⟨go, k⟩ := hs i σ H e hp
    exact .inr ⟨go, Pv (i + 1), fun σ' H' q => ⟨n - (i + 1), by omega, rfl, e, q⟩, k⟩
  · obtain rfl : i = n := by omega
    exact .inl (hd σ H hp)
/-- x in s, s a list or a tuple -/
theorem op_inDT {X : Cx} (hu : X.A.units + 65 < cLine) : OpR X (compareOp .In) (fun x y H Q => ∃ d ds, Dp X.K H x d ∧ Dp X.K H y (.tuple ds) ∧ SeqAt.shaped d = true ∧ SeqAt.shaped (.tuple ds) = true ∧ Q (.bl (ds.any fun z => PyData.eqv z d)) H) := by
  rintro pins s σ H x y v u Q I rx ry ⟨d, ds, hd, he, sd, se, q⟩
  obtain ⟨as, r1⟩ := Dp.reads I d x v hd rx
  obtain ⟨bs, r2⟩ := Dp.reads I (.tuple ds) y u he ry
  refine SeqAt.in_tuple_reads r2 r1 (SeqAt.canLay_of_shaped se) (SeqAt.canLay_of_shaped sd) ?_ ⟨.bl _, H, I, rfl, q⟩
  exact room_in_shaped sd hu

section
variable {P : Program} {w : World} {K : PySem.W.Frag} {mg : Str → Option Value} {base : Heap}
theorem Seq.len {H : Hp} {a : Addr} {xs : List V} (h : Seq K H a xs) : SqL K H a xs ∨ SqT K H a xs := h.elim (fun q => .inl (.inl (.inl q))) (fun q => .inr (.inl (.inl q)))
theorem Seq.same {H H' : Hp} {a : Addr} {xs : List V} (s : Same H H') (h : Seq K H a xs) : Seq K H' a xs := h.elim (fun q => .inl (s _ _ q)) (fun q => .inr (s _ _ q))
def spCheck (K : PySem.W.Frag) : Sp := fun vs H Q _ => ∃ (m : Int) (a : Addr) (xs : List V) (ds : List Dd), vs = [.int m, .ref a] ∧ Seq K H a xs ∧ DdAll H xs ds ∧
  (∀ d ∈ ds, d.Ok m) ∧ ds.Nodup ∧ ds.length ≤ 60 ∧ ∀ H', Same H H' → Q .non H'
theorem scCk : FnScope ["places", "deeds", "position", "deed"] ["places", "deeds"] (defScope sCheck) := ⟨rfl, rfl, rfl, by decide +kernel, rfl, by decide +kernel, by decide +kernel⟩
theorem ok_check {f : Addr} {fd : FuncData} (F : Fun K "check_deeds" "check_deeds" sCheck f fd) (n : Nm mg)
    (GL : Fn P w K mg base 1 "is_list" ["value"] (spIsList K)) (GD : Fn P w K mg base 3 "is_deed" ["value", "places"] spIsDeed) {tk : Tok} (mm : mg "MOST_DEEDS" = some (.int 60 tk)) :
    FnOk P w K mg base CX0 4 f fd ["places", "deeds"] (spCheck K) := by
  refine F.ok scCk (fun vs H Q E h => ?_) (fun cdv A outer s H vs Q E hr h => ?_)
  · obtain ⟨m, a, xs, ds, rfl, _⟩ := h
    rfl
  · obtain ⟨m, a, xs, ds, rfl, hs, hd, ok, nd, hl, k⟩ := h
    have N := scCk.nd
    have lx : xs.length = ds.length := Paired.length hd
    refine ⟨_, pss_cons (ps_if (pt_not (pt_val (pe_fn GL (hr.mono (by decide)) (pa_cons (pv 1) pa_nil)))) pss_never pss_nil)
      (pss_cons (ps_for PassesOwn.never rfl (pi_enumA (by rfl) n.enumerate (pa_cons (pv 1) pa_nil)) (pg_tup rfl (pgs_cons (pg_name (i := 2) N rfl (.inl rfl)) (pgs_cons (pg_name (i := 3) N rfl (.inl rfl)) pgs_nil)))
        (pss_one (ps_if (pw_or (pt_not (pt_val (pe_fn GD hr (pa_cons (pv 3) (pa_cons (pv 0) pa_nil)))))
          (pw_or1 (pt_cmpR (OpR.or (op_inD (hu65 hr)) (op_inDT (hu65 hr))) (pv 3) (pe_slice (SlR.or sl_list sl_tupA) (pv 1) po_none (po_some (pv 2))) (by rfl)))).pt pss_never pss_nil)))
      (pss_one (ps_if (pt_cmpR op_gt (pe_callB call_len_seq (by rfl) n.len PySem.boot_len (pa_cons (pv 1) pa_nil)) (pe_glob (v := .int 60) (by rfl) mm ⟨_, rfl⟩) (nomark _)) pss_never pss_nil))), ?_⟩
    refine ⟨_, rfl, a, xs, rfl, hs, fun H1 s1 => ⟨true, rfl, ?_⟩⟩
    refine iteF ?_
    have hs1 := hs.same s1
    -- the loop: nothing but new things
    let Pv : Nat → L2.St → Hp → Prop := fun i σ H2 => ∃ v2 v3 : Option V, σ = [some (.int m), some (.ref a), v2, v3] ∧ Same H1 H2
    have body : ∀ (D : Ends) (i : Nat) (T : Addr) (y : V) (H2 : Hp) (v2 v3 : Option V), D.nx = Pv (i + 1) → Same H1 H2 → H2 T = none → xs[i]? = some y →
        (gTup K 2 (gCons (gName 2) (gCons (gName 3) gNil))) (.ref T) [some (.int m), some (.ref a), v2, v3] (upd H2 T (.tup [.int (i : Nat), y])) fun σ3 H3 => (tIfS
          (tOr (tNot (tB (tCall spIsDeed [] E0 (tCons (tVar 3) (tCons (tVar 0) tNil)))))
            (tTest (tOp (fun x y H Q => rInD K x y H Q ∨ ∃ d ds, Dp K H x d ∧ Dp K H y (.tuple ds) ∧ SeqAt.shaped d = true ∧ SeqAt.shaped (.tuple ds) = true ∧ Q (.bl (ds.any fun z => PyData.eqv z d)) H) (tVar 3)
              (tSl (fun x lo hi H Q => rSlL K x lo hi H Q ∨ rSlA K x lo hi H Q) (tVar 1) tNoPart (tPart (tVar 2)))))) tNever tNext) D σ3 H3 := by
      intro D i T y H2 v2 v3 hD s2 hT hy
      have ii : i < xs.length := (List.getElem?_eq_some_iff.mp hy).1
      have s3 : Same H1 (upd H2 T (.tup [.int (i : Nat), y])) := s2.trans (same_upd hT)
      obtain ⟨d, hdi, hdy⟩ := Paired.at hd hy
      have okd := ok d (List.mem_of_getElem? hdi)
      obtain ⟨t, rfl, ht⟩ := hdy
      refine ⟨T, _, rfl, .inl (.inl upd_same), rfl, _, _, rfl, _, _, rfl, rfl, ?_⟩
      refine ⟨_, rfl, _, rfl, t, d, m, rfl, s3 _ _ (s1 _ _ ht), okd, fun H4 s4 => ⟨true, rfl, ?_⟩⟩
      refine iteF ?_
      have sa : Same H H4 := s1.trans (s3.trans s4)
      refine ⟨_, rfl, _, rfl, _, rfl, i, rfl, ?_⟩
      have no : decide (d ∈ ds.take i) = false := decide_eq_false (not_ahead nd hdi)
      have dd : Dp K H4 (.ref t) d.d := DdAt.dp ⟨t, rfl, sa _ _ ht⟩
      have wd : ∀ x ∈ ds.take i, x.Wd := fun x hx => (ok x (List.mem_of_mem_take hx)).wd
      have dl : ∀ {H5 : Hp}, Same H4 H5 → DpAll K H5 (xs.take i) ((ds.take i).map Dd.d) := fun s5 => DdAll.dps (DdAll.same (sa.trans s5) (Paired.takeP i hd))
      rcases hs.same sa with h4 | h4
      · refine .inl ⟨a, xs, rfl, .inl (.inl h4), fun p hp => ?_⟩
        rw [cutV_take xs (Nat.le_of_lt ii)]
        have s5 : Same H4 (upd H4 p (.lst (xs.take i))) := same_upd hp
        refine .inl ⟨_, _, DdAt.dp ⟨t, rfl, s5 _ _ (sa _ _ ht)⟩, .lst (.inl (.inl upd_same)) (dl s5), Dd.shaped okd.wd, shapedL wd, false, ?_, ?_⟩
        · rw [any_in, no]
        · refine iteF ?_
          show D.nx _ _
          rw [hD]
          exact ⟨_, _, rfl, s3.trans (s4.trans s5)⟩
      · refine .inr ⟨a, xs, rfl, .inl (.inl h4), fun q => ?_, fun _ p hp => ?_⟩
        · exfalso
          have e1 : HT.sIx xs.length xs.length (some (i : Int)) = i := by
            simp only [HT.sIx]
            split <;> omega
          omega
        · rw [cutV_take xs (Nat.le_of_lt ii)]
          have s5 : Same H4 (upd H4 p (.tup (xs.take i))) := same_upd hp
          refine .inr ⟨_, _, DdAt.dp ⟨t, rfl, s5 _ _ (sa _ _ ht)⟩, .tup (.inl (.inl upd_same)) (dl s5), Dd.shaped okd.wd, shapedT wd, false, ?_, ?_⟩
          · rw [any_in, no]
          · refine iteF ?_
            show D.nx _ _
            rw [hD]
            exact ⟨_, _, rfl, s3.trans (s4.trans s5)⟩
    refine ⟨_, rfl, a, xs, rfl, ?_⟩
    have after : ∀ σ H2, Pv xs.length σ H2 → tIfS (tTest (tOp (rI0 fun i j => .bl (decide (j < i))) (tCB (fun xs H Q => ∃ p ys, xs = [.ref p] ∧ (SqL K H p ys ∨ SqT K H p ys) ∧ Q (.int ys.length) H) (tCons (tVar 1) tNil)) (tC (.int 60)))) tNever tNext { nx := fun _ H' => Q .non H', rt := Q } σ H2 := by
      rintro σ H2 ⟨v2, v3, rfl, s2⟩
      refine ⟨_, rfl, a, xs, rfl, (hs.same (s1.trans s2)).len, _, _, rfl, rfl, false, congrArg V.bl (decide_eq_false (by omega)), ?_⟩
      exact iteF (k _ (s1.trans s2))
    rcases hs1 with h1 | h1
    · refine .inl ⟨.inl (.inl h1), loop_of (n := xs.length) Pv ⟨none, none, rfl, fun _ _ q => q⟩ (fun σ H2 hp => ?_) ?_⟩
      · obtain ⟨v2, v3, e, s2⟩ := id hp
        exact ⟨⟨xs, .inl (.inl (s2 _ _ h1)), Nat.le_refl _⟩, after σ H2 hp⟩
      · rintro i σ H2 hi ⟨v2, v3, rfl, s2⟩
        refine ⟨⟨xs, _, .inl (.inl (s2 _ _ h1)), List.getElem?_eq_getElem hi⟩, ?_⟩
        rintro x H' ⟨T, y, rfl, hT, rfl, hy⟩
        exact body _ i T y H2 v2 v3 rfl s2 hT (hy xs (.inl (.inl (s2 _ _ h1))))
    · refine .inr ⟨.inl (.inl h1), loop_of (n := xs.length) Pv ⟨none, none, rfl, fun _ _ q => q⟩ (fun σ H2 hp => ?_) ?_⟩
      · obtain ⟨v2, v3, e, s2⟩ := id hp
        exact ⟨⟨xs, .inl (.inl (s2 _ _ h1)), Nat.le_refl _⟩, after σ H2 hp⟩
      · rintro i σ H2 hi ⟨v2, v3, rfl, s2⟩
        refine ⟨⟨xs, _, .inl (.inl (s2 _ _ h1)), List.getElem?_eq_getElem hi⟩, ?_⟩
        rintro x H' ⟨T, y, rfl, hT, rfl, hy⟩
        exact body _ i T y H2 v2 v3 rfl s2 hT (hy xs (.inl (.inl (s2 _ _ h1))))
end
end L2.K75
end

section
set_option Elab.async false
set_option linter.all false
set_option maxRecDepth 100000
set_option maxHeartbeats 2000000
namespace L2.K75
open PySem PySem.Spec PyProof.Rows L2.Gd

/-! ### a house: its attributes, its list -/
theorem kpd : ¬ (("_places" : Str) = "_deeds") := by decide +kernel
def flds (m : Int) (l : Addr) : List (Str × V) := putF "_deeds" (.ref l) (putF "_places" (.int m) [])
theorem flds_eq (m : Int) (l : Addr) : flds m l = ([("_places", V.int m), ("_deeds", V.ref l)] : List (Str × V)) := by
  show (if ("_places" : Str) = "_deeds" then [(("_places" : Str), V.ref l)] else (("_places" : Str), V.int m) :: putF "_deeds" (V.ref l) []) = ([("_places", V.int m), ("_deeds", V.ref l)] : List (Str × V))
  rw [if_neg kpd]
  all_goals rfl
theorem flds_p (m : Int) (l : Addr) : (flds m l).lookup ("_places" : Str) = some (.int m) := by
  unfold flds
  rw [lookup_putF, if_neg kpd, lookup_putF, if_pos rfl]
theorem flds_d (m : Int) (l : Addr) : (flds m l).lookup ("_deeds" : Str) = some (.ref l) := by
  unfold flds
  rw [lookup_putF, if_pos rfl]
theorem flds_no (m : Int) (l : Addr) {x : Str} (h1 : ¬ x = "_deeds") (h2 : ¬ x = "_places") : (flds m l).lookup x = none := by
  unfold flds
  rw [lookup_putF, if_neg h1, lookup_putF, if_neg h2]
  all_goals rfl
/-- a house at h with m places, its own list of the deeds ds at l -/
structure HouseL (C : Addr) (H : Hp) (h l : Addr) (m : Int) (xs : List V) (ds : List Dd) : Prop where
  ob : ∃ dx, H h = some (.ins C dx (flds m l))
  ls : H l = some (.lst xs)
  dd : DdAll H xs ds
structure WF (m : Int) (ds : List Dd) : Prop where
  m1 : 1 ≤ m
  m16 : m ≤ 16
  ok : ∀ d ∈ ds, d.Ok m
  nd : ds.Nodup
  len : ds.length ≤ 60
theorem WF.wd {m : Int} {ds : List Dd} (w : WF m ds) : ∀ d ∈ ds, d.Wd := fun d hd => (w.ok d hd).wd
theorem HouseL.same {C : Addr} {H H' : Hp} {h l : Addr} {m : Int} {xs : List V} {ds : List Dd} (s : Same H H') (x : HouseL C H h l m xs ds) : HouseL C H' h l m xs ds :=
  ⟨let ⟨dx, e⟩ := x.ob; ⟨dx, s _ _ e⟩, s _ _ x.ls, x.dd.same s⟩
theorem HouseL.lenE {C : Addr} {H : Hp} {h l : Addr} {m : Int} {xs : List V} {ds : List Dd} (x : HouseL C H h l m xs ds) : xs.length = ds.length := Paired.length x.dd

/-- what is known of the class -/
structure ClsT (K : PySem.W.Frag) (mg : Str → Option Value) (C : Addr) : Prop where
  isc : C8.InsC K C
  nP : NoAttr K C "_places"
  nD : NoAttr K C "_deeds"
  mgC : mg "House" = some (.ref C)
section
variable {P : Program} {w : World} {K : PySem.W.Frag} {mg : Str → Option Value} {base : Heap} {C : Addr}

/-! ### __init__ -/
def spInit (K : PySem.W.Frag) (C : Addr) : Sp := fun vs H Q _ => ∃ (x dx a : Addr) (m : Int) (xs : List V) (ds : List Dd), vs = [.ref x, .int m, .ref a] ∧ H x = some (.ins C dx []) ∧
  Seq K H a xs ∧ DdAll H xs ds ∧ WF m ds ∧
  ∀ (l : Addr) (H' : Hp), H l = none → H' x = some (.ins C dx (flds m l)) → H' l = some (.lst xs) → (∀ b o, b ≠ x → H b = some o → H' b = some o) → Q .non H'
theorem scIn : FnScope ["self", "places", "deeds"] ["self", "places", "deeds"] (defScope (cHouse 0)) := ⟨rfl, rfl, rfl, by decide +kernel, rfl, by decide +kernel, by decide +kernel⟩
theorem ok_init {f : Addr} {fd : FuncData} (F : Fun K "__init__" "House.__init__" (cHouse 0) f fd) (n : Nm mg) (T : ClsT K mg C)
    (GI : Fn P w K mg base 1 "is_integer" ["value"] spIsInt) (GC : Fn P w K mg base 4 "check_deeds" ["places", "deeds"] (spCheck K))
    {tk : Tok} (mm : mg "MOST_PLACES" = some (.int 16 tk)) : FnOk P w K mg base CX0 5 f fd ["self", "places", "deeds"] (spInit K C) := by
  refine F.ok scIn (fun vs H Q E h => ?_) (fun cdv A outer s H vs Q E hr h => ?_)
  · obtain ⟨x, dx, a, m, xs, ds, rfl, _⟩ := h
    rfl
  · obtain ⟨x, dx, a, m, xs, ds, rfl, hx, hs, hd, wf, k⟩ := h
    refine ⟨_, pss_cons (ps_if (pw_or (pt_not (pt_val (pe_fn GI (hr.mono (by decide)) (pa_cons (pv 1) pa_nil))))
          (pw_or1 (pt_not (pt_chain op_le op_le pe_int (pv 1) (pe_glob (v := .int 16) (by rfl) mm ⟨_, rfl⟩))))).pt pss_never pss_nil)
      (pss_cons (ps_expr (pe_fn GC hr (pa_cons (pv 1) (pa_cons (pv 2) pa_nil))))
      (pss_cons (ps_fld (pv 0) (pv 1) rfl)
      (pss_one (ps_fld (pv 0) (pe_callTy call_list_of (by rfl) n.list (by decide +kernel) (pa_cons (pv 2) pa_nil)) rfl)))), ?_⟩
    refine ⟨_, rfl, _, rfl, true, rfl, ?_⟩
    refine iteF ?_
    refine ⟨_, rfl, _, _, rfl, rfl, true, congrArg V.bl (decide_eq_true wf.m1), ?_⟩
    refine iteT ?_
    refine ⟨_, _, rfl, rfl, true, congrArg V.bl (decide_eq_true wf.m16), ?_⟩
    refine iteF ?_
    refine ⟨_, rfl, _, rfl, m, a, xs, ds, rfl, hs, hd, wf.ok, wf.nd, wf.len, fun H1 s1 => ?_⟩
    refine ⟨_, rfl, _, rfl, x, C, dx, [], rfl, s1 _ _ hx, T.isc.cl, T.nP, (by show 0 < 1000; decide), ?_⟩
    have nxa : ∀ {b : Addr} {ys : List V}, Seq K H b ys → b ≠ x := fun {b ys} q z => by
      subst z
      rcases q with q | q <;> (rw [hx] at q; exact nomatch q)
    have hs1 : Seq K (upd H1 x (.ins C dx (putF "_places" (.int m) []))) a xs := by
      rcases hs with q | q
      · exact .inl (by rw [upd_ne (nxa (.inl q))]; exact s1 _ _ q)
      · exact .inr (by rw [upd_ne (nxa (.inr q))]; exact s1 _ _ q)
    refine ⟨_, rfl, a, xs, rfl, hs1.len, fun l hl => ?_⟩
    have nl : x ≠ l := ne_of_none upd_same hl
    have hl0 : H l = none := by
      rw [upd_ne nl.symm] at hl
      exact s1.free hl
    refine ⟨_, rfl, x, C, dx, _, rfl, (by rw [upd_ne nl]; exact upd_same), T.isc.cl, T.nD, (by show 1 < 1000; decide), ?_⟩
    refine k l _ hl0 upd_same ?_ ?_
    · rw [upd_ne nl.symm, upd_same]
    · intro b o hb e
      rw [upd_ne hb, upd_ne (ne_of_none e hl0), upd_ne hb]
      exact s1 _ _ e
/-- C(..), a house: what the maker's promise wants -/
theorem init_read {H : Hp} {x dx a : Addr} {m : Int} {xs : List V} {ds : List Dd} {Q : VK} {E : XK} (nx : H x = none) (ndx : H dx = none) (ne : dx ≠ x)
    (hs : Seq K H a xs) (hd : DdAll H xs ds) (wf : WF m ds)
    (k : ∀ (l : Addr) (H' : Hp), H l = none → Same H H' → HouseL C H' x l m xs ds → Q (.ref x) H') :
    spInit K C [.ref x, .int m, .ref a] (upd (upd H dx (.own x)) x (.ins C dx [])) (fun v H2 => v = .non ∧ Q (.ref x) H2) E := by
  have s0 : Same H (upd (upd H dx (.own x)) x (.ins C dx [])) := fun b o e => by
    rw [upd_ne (ne_of_none e nx), upd_ne (ne_of_none e ndx)]
    exact e
  refine ⟨x, dx, a, m, xs, ds, rfl, upd_same, hs.same s0, hd.same s0, wf, fun l H' nl hx hl kp => ⟨rfl, ?_⟩⟩
  have s1 : Same H H' := fun b o e => kp b o (ne_of_none e nx) (s0 b o e)
  exact k l H' (s0.free nl) s1 ⟨⟨dx, hx⟩, hl, hd.same s1⟩
structure MkH (P : Program) (w : World) (K : PySem.W.Frag) (mg : Str → Option Value) (base : Heap) (C : Addr) : Prop where
  ex : ∃ f fd, Mk K C f ∧ Binds K fd ["self", "places", "deeds"] [] ∧ FnOk P w K mg base CX0 5 f fd ["self", "places", "deeds"] (spInit K C)
theorem pe_house {X : Cx} {e : Expr} {es : List Expr} {t : TA} {p pos : Pos} (M : MkH X.prog X.w X.K X.mg X.base C) (T : ClsT X.K X.mg C) (hr : Room 6 X.A) (ha : PA X (e :: es) t)
    (hg : Gl X "House" := by rfl) (he : starEach (e :: es) X.env = (false, eval e X.env) :: starEach es X.env := by rfl)
    (hpl : (backTo pos (starEach es X.env)).any (·.1) = false := by rfl) :
    PE X (.Call (.Name "House" p) (e :: es) [] pos) (tMake C (spInit X.K C) [] E0 t) := by
  obtain ⟨f, fd, mk, b, F⟩ := M.ex
  exact pe_make mk F hr hg T.mgC b .nil pass0 ha (by decide) he hpl

/-! ### places, deeds, len, is_plain -/
def spPlaces (C : Addr) : Sp := fun vs H Q _ => ∃ (h dx l : Addr) (m : Int), vs = [.ref h] ∧ H h = some (.ins C dx (flds m l)) ∧ Q (.int m) H
theorem scPl : FnScope ["self"] ["self"] (defScope (cHouse 1)) := ⟨rfl, rfl, rfl, by decide +kernel, rfl, by decide +kernel, by decide +kernel⟩
theorem ok_places {f : Addr} {fd : FuncData} (F : Fun K "places" "House.places" (cHouse 1) f fd) (T : ClsT K mg C) : FnOk P w K mg base CX0 1 f fd ["self"] (spPlaces C) := by
  refine F.ok scPl (fun vs H Q E h => ?_) (fun cdv A outer s H vs Q E hr h => ?_)
  · obtain ⟨h, dx, l, m, rfl, _⟩ := h
    rfl
  · obtain ⟨h, dx, l, m, rfl, hh, k⟩ := h
    refine ⟨_, pss_one (ps_ret (pe_fld (pv 0) rfl)), ?_⟩
    exact ⟨_, rfl, h, C, dx, _, _, rfl, hh, T.isc.cl, T.nP, flds_p _ _, k⟩
def spDeeds (C : Addr) : Sp := fun vs H Q _ => ∃ (h l : Addr) (m : Int) (xs : List V) (ds : List Dd), vs = [.ref h] ∧ HouseL C H h l m xs ds ∧ ∀ p, H p = none → Q (.ref p) (upd H p (.lst xs))
theorem scDe : FnScope ["self"] ["self"] (defScope (cHouse 3)) := ⟨rfl, rfl, rfl, by decide +kernel, rfl, by decide +kernel, by decide +kernel⟩
theorem ok_deeds {f : Addr} {fd : FuncData} (F : Fun K "deeds" "House.deeds" (cHouse 3) f fd) (n : Nm mg) (T : ClsT K mg C) : FnOk P w K mg base CX0 1 f fd ["self"] (spDeeds C) := by
  refine F.ok scDe (fun vs H Q E h => ?_) (fun cdv A outer s H vs Q E hr h => ?_)
  · obtain ⟨h, l, m, xs, ds, rfl, _⟩ := h
    rfl
  · obtain ⟨h, l, m, xs, ds, rfl, hh, k⟩ := h
    obtain ⟨dx, ob⟩ := hh.ob
    refine ⟨_, pss_one (ps_ret (pe_callTy call_list_of (by rfl) n.list (by decide +kernel) (pa_cons (pe_fld (pv 0) rfl) pa_nil))), ?_⟩
    exact ⟨_, rfl, h, C, dx, _, _, rfl, ob, T.isc.cl, T.nD, flds_d _ _, l, xs, rfl, .inl (.inl (.inl hh.ls)), k⟩
def spLen (C : Addr) : Sp := fun vs H Q _ => ∃ (h l : Addr) (m : Int) (xs : List V) (ds : List Dd), vs = [.ref h] ∧ HouseL C H h l m xs ds ∧ Q (.int ds.length) H
theorem scLe : FnScope ["self"] ["self"] (defScope (cHouse 4)) := ⟨rfl, rfl, rfl, by decide +kernel, rfl, by decide +kernel, by decide +kernel⟩
theorem ok_len {f : Addr} {fd : FuncData} (F : Fun K "__len__" "House.__len__" (cHouse 4) f fd) (n : Nm mg) (T : ClsT K mg C) : FnOk P w K mg base CX0 1 f fd ["self"] (spLen C) := by
  refine F.ok scLe (fun vs H Q E h => ?_) (fun cdv A outer s H vs Q E hr h => ?_)
  · obtain ⟨h, l, m, xs, ds, rfl, _⟩ := h
    rfl
  · obtain ⟨h, l, m, xs, ds, rfl, hh, k⟩ := h
    obtain ⟨dx, ob⟩ := hh.ob
    refine ⟨_, pss_one (ps_ret (pe_callB call_len_seq (by rfl) n.len PySem.boot_len (pa_cons (pe_fld (pv 0) rfl) pa_nil))), ?_⟩
    refine ⟨_, rfl, h, C, dx, _, _, rfl, ob, T.isc.cl, T.nD, flds_d _ _, l, xs, rfl, .inl (.inl (.inl hh.ls)), ?_⟩
    have e : ((xs.length : Nat) : Int) = (ds.length : Int) := by rw [hh.lenE]
    show Q (.int (xs.length : Int)) H
    rw [e]
    exact k
end
end L2.K75
end

section
set_option Elab.async false
set_option linter.all false
set_option maxRecDepth 100000
set_option maxHeartbeats 2000000
/-! [f(x) for x in xs if p(x)], xs a list or a tuple: what is made of each element -/
namespace L2.Gd
open PySem PySem.Spec PyProof.Rows
/-- all that stood, but for the list that is being made -/
def ButD (D : Addr) (H H' : Hp) : Prop := ∀ b o, b ≠ D → H b = some o → H' b = some o
theorem ButD.new {D : Addr} {H H' : Hp} (h : H D = none) (b : ButD D H H') : Same H H' := fun a o e => b a o (ne_of_none e h) e
theorem ButD.put {D : Addr} {H H' : Hp} {o : HO} (b : ButD D H H') : ButD D H (L2.upd H' D o) := fun a u ne e => by
  rw [upd_ne ne]
  exact b a u ne e
theorem ButD.more {D : Addr} {H H' H2 : Hp} (b : ButD D H H') (s : Same H' H2) : ButD D H H2 := fun a u ne e => s _ _ (b a u ne e)
theorem ButD.start {D : Addr} {H : Hp} {o : HO} : ButD D H (L2.upd H D o) := fun a u ne e => by
  rw [upd_ne ne]
  exact e
theorem filt_take {α β : Type} (f : α → Option β) {l : List α} {i : Nat} {x : α} (h : l[i]? = some x) : (l.take (i + 1)).filterMap f = (l.take i).filterMap f ++ (f x).toList := by
  rw [List.take_succ, h, List.filterMap_append]
  congr 1
theorem pair_at {α β : Type} {R : α → β → Prop} : ∀ {xs : List α} {ys : List β} {i : Nat} {x : α}, Paired R xs ys → xs[i]? = some x → ∃ y, ys[i]? = some y ∧ R x y
  | _, _, _, _, .nil, e => by simp at e
  | _, _, 0, _, .cons r _, e => by simp at e; subst e; exact ⟨_, rfl, r⟩
  | _, _, i + 1, x, .cons _ t, e => by
    obtain ⟨u, h1, h2⟩ := pair_at (i := i) (x := x) t (by simpa using e)
    exact ⟨u, by simpa using h1, h2⟩
section
variable {α β : Type} {K : PySem.W.Frag} {a : Addr} {xs : List V} {es : List α} {g : TG} {tt : TT} {te : TE} {vs : List Nat} {σ : L2.St} {H1 : Hp} {D : Addr} {Qd : Hp → Prop}
/-- what is promised of one turn -/
def StepOk (F : Hp → V → α → Prop) (G : Hp → V → β → Prop) (f : α → Option β) (g : TG) (tt : TT) (te : TE) (vs : List Nat) (σ : L2.St) (H1 : Hp) (D : Addr) (es : List α) : Prop :=
  ∀ (x : V) (e : α) (H : Hp) (A : V → Hp → Prop) (B : Hp → Prop), e ∈ es → F H1 x e → ButD D H1 H → (∃ zs, H D = some (.lst zs)) →
    (∀ b y H4, f e = some b → Same H H4 → G H4 y b → A y H4) → (∀ H3, f e = none → Same H H3 → B H3) →
    g x (wipe σ vs) H fun σ2 H2 => wipe σ2 vs = wipe σ vs ∧ tt σ2 H2 fun b H3 => if b = true then te σ2 H3 A else B H3
def Stab (G : Hp → V → β → Prop) (D : Addr) : Prop := ∀ (H H' : Hp) (y : V) (b : β), ButD D H H' → (∃ zs, H D = some (.lst zs)) → G H y b → G H' y b
def LcInv (G : Hp → V → β → Prop) (f : α → Option β) (H1 : Hp) (D : Addr) (es : List α) (i : Nat) (H : Hp) : Prop :=
  ∃ ys, H D = some (.lst ys) ∧ ys.length ≤ i ∧ Paired (G H) ys ((es.take i).filterMap f) ∧ ButD D H1 H
variable {F : Hp → V → α → Prop} {G : Hp → V → β → Prop} {f : α → Option β}
theorem lc_turn (st : Stab G D) (h1000 : xs.length ≤ 1000) (pa : Paired (F H1) xs es) (step : StepOk F G f g tt te vs σ H1 D es) {i : Nat} {x : V} {H : Hp} (hx : xs[i]? = some x) (h : LcInv G f H1 D es i H) :
    g x (wipe σ vs) H fun σ2 H2 => wipe σ2 vs = wipe σ vs ∧ tt σ2 H2 fun b H3 =>
      if b = true then te σ2 H3 fun y H4 => ∃ acc, H4 D = some (.lst acc) ∧ acc.length < sizeLine ∧ LcInv G f H1 D es (i + 1) (L2.upd H4 D (.lst (acc ++ [y]))) else LcInv G f H1 D es (i + 1) H3 := by
  obtain ⟨ys, h1, h2, h3, h4⟩ := h
  obtain ⟨e, he, hF⟩ := pair_at pa hx
  have hi : i < xs.length := (List.getElem?_eq_some_iff.mp hx).1
  refine step x e H _ _ (List.mem_of_getElem? he) hF h4 ⟨ys, h1⟩ (fun b y H4 hf s hg => ?_) (fun H3 hf s => ?_)
  · refine ⟨ys, s _ _ h1, by rw [sizeLine_eq]; omega, ys ++ [y], upd_same, by simp; omega, ?_, (h4.more s).put⟩
    rw [filt_take f he, hf]
    have bt : ButD D H4 (L2.upd H4 D (.lst (ys ++ [y]))) := ButD.start
    have hd : ∃ zs, H4 D = some (.lst zs) := ⟨ys, s _ _ h1⟩
    have o1 : Paired (G (L2.upd H4 D (.lst (ys ++ [y])))) ys ((es.take i).filterMap f) := Paired.mapP h3 fun u v q => st _ _ _ _ (show ButD D H _ from fun c o ne z => bt c o ne (s _ _ z)) ⟨ys, h1⟩ q
    exact PySem.Paired.snoc o1 (st _ _ _ _ bt hd hg)
  · refine ⟨ys, s _ _ h1, by omega, ?_, h4.more s⟩
    rw [filt_take f he, hf]
    simp only [Option.toList, List.append_nil]
    exact Paired.mapP h3 fun u v q => st _ _ _ _ (fun c o _ z => s _ _ z) ⟨ys, h1⟩ q
theorem lc_mapL (st : Stab G D) (hl : H1 a = some (.lst xs)) (hD : H1 D = none) (h1000 : xs.length ≤ 1000) (pa : Paired (F H1) xs es) (step : StepOk F G f g tt te vs σ H1 D es)
    (fin : ∀ ys H, H D = some (.lst ys) → Paired (G H) ys (es.filterMap f) → ButD D H1 H → Qd H) :
    ∃ W : Nat → Nat → Hp → Prop, (∃ m, W 0 m (L2.upd H1 D (.lst []))) ∧ ∀ i m H, W i m H →
      ((Itl K a).stop i H ∧ Qd H) ∨ ((Itl K a).go i H ∧ ∃ Nx : Hp → Prop, (∀ H', Nx H' → ∃ m', m' < m ∧ W (i + 1) m' H') ∧ ∀ x H', (Itl K a).yld i H x H' → g x (wipe σ vs) H' fun σ2 H2 => wipe σ2 vs = wipe σ vs ∧ tt σ2 H2 fun b H3 =>
        if b = true then te σ2 H3 fun y H4 => ∃ acc, H4 D = some (.lst acc) ∧ acc.length < sizeLine ∧ Nx (L2.upd H4 D (.lst (acc ++ [y]))) else Nx H3) := by
  refine lc_list (xs := xs) (LcInv G f H1 D es) ⟨[], upd_same, Nat.le_refl _, .nil, .start⟩ (fun i H _ ⟨ys, _, _, _, h4⟩ => .inl (.inl (h4.new hD _ _ hl))) (fun i x H hx h => lc_turn st h1000 pa step hx h) ?_
  rintro H ⟨ys, h1, _, h3, h4⟩
  rw [PySem.Paired.length pa, List.take_length] at h3
  exact fin ys H h1 h3 h4
theorem lc_mapT (st : Stab G D) (hl : H1 a = some (.tup xs)) (hD : H1 D = none) (h1000 : xs.length ≤ 1000) (pa : Paired (F H1) xs es) (step : StepOk F G f g tt te vs σ H1 D es)
    (fin : ∀ ys H, H D = some (.lst ys) → Paired (G H) ys (es.filterMap f) → ButD D H1 H → Qd H) :
    ∃ W : Nat → Nat → Hp → Prop, (∃ m, W 0 m (L2.upd H1 D (.lst []))) ∧ ∀ i m H, W i m H →
      ((Itt K a).stop i H ∧ Qd H) ∨ ((Itt K a).go i H ∧ ∃ Nx : Hp → Prop, (∀ H', Nx H' → ∃ m', m' < m ∧ W (i + 1) m' H') ∧ ∀ x H', (Itt K a).yld i H x H' → g x (wipe σ vs) H' fun σ2 H2 => wipe σ2 vs = wipe σ vs ∧ tt σ2 H2 fun b H3 =>
        if b = true then te σ2 H3 fun y H4 => ∃ acc, H4 D = some (.lst acc) ∧ acc.length < sizeLine ∧ Nx (L2.upd H4 D (.lst (acc ++ [y]))) else Nx H3) := by
  refine lc_tup (xs := xs) (LcInv G f H1 D es) ⟨[], upd_same, Nat.le_refl _, .nil, .start⟩ (fun i H _ ⟨ys, _, _, _, h4⟩ => .inl (.inl (h4.new hD _ _ hl))) (fun i x H hx h => lc_turn st h1000 pa step hx h) ?_
  rintro H ⟨ys, h1, _, h3, h4⟩
  rw [PySem.Paired.length pa, List.take_length] at h3
  exact fin ys H h1 h3 h4
end
end L2.Gd
end

section
set_option Elab.async false
set_option linter.all false
set_option maxRecDepth 100000
set_option maxHeartbeats 2000000
/-! [f(i) for i in range(..)] -/
namespace L2.Gd
open PySem PySem.Spec PyProof.Rows
def rgI (lo : Int) (n : Nat) : List Int := (List.range n).map fun i : Nat => lo + (i : Int)
theorem rgI_len (lo : Int) (n : Nat) : (rgI lo n).length = n := by unfold rgI; rw [List.length_map, List.length_range]
theorem paired_int : ∀ ns : List Int, Paired (fun v e => v = V.int e) (ns.map V.int) ns
  | [] => .nil
  | n :: r => .cons rfl (paired_int r)
section
variable {β : Type} {lo : Int} {n : Nat} {g : TG} {tt : TT} {te : TE} {vs : List Nat} {σ : L2.St} {H1 : Hp} {D : Addr} {Qd : Hp → Prop} {G : Hp → V → β → Prop} {f : Int → Option β}
theorem lc_mapR (st : Stab G D) (h1000 : n ≤ 1000) (step : StepOk (fun _ v e => v = V.int e) G f g tt te vs σ H1 D (rgI lo n))
    (fin : ∀ ys H, H D = some (.lst ys) → Paired (G H) ys ((rgI lo n).filterMap f) → ButD D H1 H → Qd H) :
    ∃ W : Nat → Nat → Hp → Prop, (∃ m, W 0 m (L2.upd H1 D (.lst []))) ∧ ∀ i m H, W i m H →
      ((Itr lo n).stop i H ∧ Qd H) ∨ ((Itr lo n).go i H ∧ ∃ Nx : Hp → Prop, (∀ H', Nx H' → ∃ m', m' < m ∧ W (i + 1) m' H') ∧ ∀ x H', (Itr lo n).yld i H x H' → g x (wipe σ vs) H' fun σ2 H2 => wipe σ2 vs = wipe σ vs ∧ tt σ2 H2 fun b H3 =>
        if b = true then te σ2 H3 fun y H4 => ∃ acc, H4 D = some (.lst acc) ∧ acc.length < sizeLine ∧ Nx (L2.upd H4 D (.lst (acc ++ [y]))) else Nx H3) := by
  have pa := paired_int (rgI lo n)
  have len : ((rgI lo n).map V.int).length = n := by rw [List.length_map, rgI_len]
  refine lc_range (LcInv G f H1 D (rgI lo n)) ⟨[], upd_same, Nat.le_refl _, .nil, .start⟩ (fun i H hi h => ?_) ?_
  · refine lc_turn (xs := (rgI lo n).map V.int) (F := fun _ v e => v = V.int e) st (by rw [len]; exact h1000) pa step (i := i) (x := .int (lo + i)) ?_ h
    unfold rgI
    rw [List.getElem?_map, List.getElem?_map, List.getElem?_range hi]
    rfl
  · rintro H ⟨ys, h1, _, h3, h4⟩
    rw [List.take_of_length_le (Nat.le_of_eq (rgI_len lo n))] at h3
    exact fin ys H h1 h3 h4
end
end L2.Gd
end

section
set_option Elab.async false
set_option linter.all false
set_option maxRecDepth 100000
set_option maxHeartbeats 2000000
/-! a comprehension by an invariant, whatever is walked -/
namespace L2.Gd
open PySem PySem.Spec PyProof.Rows
theorem lc_gen {J : It} {n : Nat} {g : TG} {tt : TT} {te : TE} {vs : List Nat} {σ : L2.St} {H1 : Hp} {D : Addr} {Qd : Hp → Prop} (Iv : Nat → Hp → Prop) (h0 : Iv 0 (L2.upd H1 D (.lst []))) (hd : ∀ H, Iv n H → J.stop n H ∧ Qd H)
    (hs : ∀ i H, i < n → Iv i H → J.go i H ∧ ∀ x H', J.yld i H x H' → g x (wipe σ vs) H' fun σ2 H2 => wipe σ2 vs = wipe σ vs ∧ tt σ2 H2 fun b H3 =>
      if b = true then te σ2 H3 fun y H4 => ∃ acc, H4 D = some (.lst acc) ∧ acc.length < sizeLine ∧ Iv (i + 1) (L2.upd H4 D (.lst (acc ++ [y]))) else Iv (i + 1) H3) :
    ∃ W : Nat → Nat → Hp → Prop, (∃ m, W 0 m (L2.upd H1 D (.lst []))) ∧ ∀ i m H, W i m H →
      (J.stop i H ∧ Qd H) ∨ (J.go i H ∧ ∃ Nx : Hp → Prop, (∀ H', Nx H' → ∃ m', m' < m ∧ W (i + 1) m' H') ∧ ∀ x H', J.yld i H x H' → g x (wipe σ vs) H' fun σ2 H2 => wipe σ2 vs = wipe σ vs ∧ tt σ2 H2 fun b H3 =>
        if b = true then te σ2 H3 fun y H4 => ∃ acc, H4 D = some (.lst acc) ∧ acc.length < sizeLine ∧ Nx (L2.upd H4 D (.lst (acc ++ [y]))) else Nx H3) := by
  refine ⟨fun i m H => m = n - i ∧ i ≤ n ∧ Iv i H, ⟨n, by simp, Nat.zero_le _, h0⟩, ?_⟩
  rintro i m H ⟨rfl, hi, hp⟩
  by_cases e : i < n
  · obtain ⟨go, k⟩ := hs i H e hp
    exact .inr ⟨go, Iv (i + 1), fun H' q => ⟨n - (i + 1), by omega, rfl, e, q⟩, k⟩
  · obtain rfl : i = n := by omega
    exact .inl (hd H hp)
/-! ### [f(i) for i in range(..)], long ones -/
section
variable {β : Type} {lo : Int} {n : Nat} {g : TG} {tt : TT} {te : TE} {vs : List Nat} {σ : L2.St} {H1 : Hp} {D : Addr} {Qd : Hp → Prop} {G : Hp → V → β → Prop} {f : Int → Option β}
theorem lc_mapRL (st : Stab G D) (hn : n ≤ 1000000) (step : StepOk (fun _ v e => v = V.int e) G f g tt te vs σ H1 D (rgI lo n))
    (fin : ∀ ys H, H D = some (.lst ys) → Paired (G H) ys ((rgI lo n).filterMap f) → ButD D H1 H → Qd H) :
    ∃ W : Nat → Nat → Hp → Prop, (∃ m, W 0 m (L2.upd H1 D (.lst []))) ∧ ∀ i m H, W i m H →
      ((Itr lo n).stop i H ∧ Qd H) ∨ ((Itr lo n).go i H ∧ ∃ Nx : Hp → Prop, (∀ H', Nx H' → ∃ m', m' < m ∧ W (i + 1) m' H') ∧ ∀ x H', (Itr lo n).yld i H x H' → g x (wipe σ vs) H' fun σ2 H2 => wipe σ2 vs = wipe σ vs ∧ tt σ2 H2 fun b H3 =>
        if b = true then te σ2 H3 fun y H4 => ∃ acc, H4 D = some (.lst acc) ∧ acc.length < sizeLine ∧ Nx (L2.upd H4 D (.lst (acc ++ [y]))) else Nx H3) := by
  refine lc_range (LcInv G f H1 D (rgI lo n)) ⟨[], upd_same, Nat.le_refl _, .nil, .start⟩ (fun i H hi h => ?_) ?_
  · obtain ⟨ys, h1, h2, h3, h4⟩ := h
    have he : (rgI lo n)[i]? = some (lo + (i : Int)) := by
      unfold rgI
      rw [List.getElem?_map, List.getElem?_range hi]
      rfl
    refine step (.int (lo + i)) (lo + i) H _ _ (List.mem_of_getElem? he) rfl h4 ⟨ys, h1⟩ (fun b y H4 hf s hg => ?_) (fun H3 hf s => ?_)
    · refine ⟨ys, s _ _ h1, by rw [sizeLine_eq]; omega, ys ++ [y], upd_same, by simp; omega, ?_, (h4.more s).put⟩
      rw [filt_take f he, hf]
      have bt : ButD D H4 (L2.upd H4 D (.lst (ys ++ [y]))) := ButD.start
      have hd : ∃ zs, H4 D = some (.lst zs) := ⟨ys, s _ _ h1⟩
      have o1 : Paired (G (L2.upd H4 D (.lst (ys ++ [y])))) ys (((rgI lo n).take i).filterMap f) := Paired.mapP h3 fun u v q => st _ _ _ _ (show ButD D H _ from fun c o ne z => bt c o ne (s _ _ z)) ⟨ys, h1⟩ q
      exact PySem.Paired.snoc o1 (st _ _ _ _ bt hd hg)
    · refine ⟨ys, s _ _ h1, by omega, ?_, h4.more s⟩
      rw [filt_take f he, hf]
      simp only [Option.toList, List.append_nil]
      exact Paired.mapP h3 fun u v q => st _ _ _ _ (fun c o _ z => s _ _ z) ⟨ys, h1⟩ q
  · rintro H ⟨ys, h1, _, h3, h4⟩
    rw [List.take_of_length_le (Nat.le_of_eq (rgI_len lo n))] at h3
    exact fin ys H h1 h3 h4
end
end L2.Gd
end

section
set_option Elab.async false
set_option linter.all false
set_option maxRecDepth 100000
set_option maxHeartbeats 2000000
/-! len of an instance of an own class that has a __len__. -/
namespace L2.Gd
open PySem PySem.Spec PyProof.Rows
section
variable {X : Cx} {C f N : Addr} {n : Nat} {fd : FuncData} {ps : List Str} {sp : Sp}
theorem call_lenOwn (hr : Room (n + 1) X.A) (F : FnOk X.prog X.w X.K X.mg X.base CX0 n f fd ps sp) (hb : Binds X.K fd ps [])
    (hs : PySem.W.findIn X.K (.ref C) "__len__" = some (some (.ref f))) (hf : PySem.W.isFn X.K (.ref f) = true) :
    CallR X (.builtin "len") (fun xs H Q => ∃ (a dx : Addr) (fs : List (Str × V)), xs = [.ref a] ∧ H a = some (.ins C dx fs) ∧
      sp [.ref a] H (fun v H' => (∃ k : Nat, v = .int k ∧ k < 1000000) ∧ Q v H') E0) := by
  rintro pins s σ H xs us Q I r ⟨a, dx, fs, rfl, ha, h⟩
  rw [Vals.ref1 r]
  obtain ⟨mA, J, _⟩ := ins_get I.hok ha
  obtain ⟨od, J, _⟩ := J.look
  obtain ⟨m, fr⟩ := I.fr
  refine PySem.W.len_K fr I.ok.mod.kin J hs hf ?_
  refine thn (run_at (us := [.ref a]) (vs := [.ref a]) F hb (A := X.A.in1) ⟨hr.in1, rfl⟩ I (.cons rfl .nil) h) ?_
  rintro r s' ⟨z, H', I', rz, ⟨k, rfl, hk⟩, q⟩
  obtain ⟨tk, rfl⟩ := rz
  exact ⟨⟨by omega, by omega⟩, .int k, H', I'.tok _, ⟨_, rfl⟩, q⟩
end
end L2.Gd
end

section
set_option Elab.async false
set_option linter.all false
set_option maxRecDepth 100000
set_option maxHeartbeats 2000000
/-! repr of data of any kind -/
namespace L2.Gd
open PySem PySem.Spec PyProof.Rows
section
variable {X : Cx}
theorem call_reprAny (hg : X.A.guards = some []) (hu : X.A.units + 64 < cLine) :
    CallR X (.builtin "repr") (fun xs H Q => ∃ x d, xs = [x] ∧ Dp X.K H x d ∧ Showy d ∧ Q (.str d.shown) H) := by
  rintro pins s σ H xs us Q I r ⟨x, d, rfl, hd, sh, q⟩
  obtain ⟨u, rfl, ru⟩ := vals1 r
  cases hd with
  | non =>
    obtain rfl := ru
    exact PySem.P.repr_of_none ⟨.str _, H, I.tok _, ⟨_, rfl⟩, q⟩
  | bl b =>
    obtain rfl := ru
    refine PySem.P.repr_of_bool ⟨.str _, H, I.tok _, ⟨_, rfl⟩, ?_⟩
    cases b <;> exact q
  | int i =>
    obtain ⟨t, rfl⟩ := ru
    have hz : i.natAbs.log2 < 1920 := by
      have := sh.1
      simpa only [PyData.showable, decide_eq_true_eq] using this
    exact PySem.P.repr_of_int hz ⟨.str _, H, I.tok _, ⟨_, rfl⟩, q⟩
  | str z =>
    obtain ⟨t, rfl⟩ := ru
    have hz := sh.2.2.2
    exact PySem.P.repr_of_str ⟨.str _, H, I.tok _, ⟨_, rfl⟩, q⟩ (by simpa only [PyData.shown] using hz)
  | lst h t => exact call_reprD hg hu pins s σ H _ _ Q I (.cons ru .nil) ⟨_, _, rfl, .lst h t, sh, q⟩
  | tup h t => exact call_reprD hg hu pins s σ H _ _ Q I (.cons ru .nil) ⟨_, _, rfl, .tup h t, sh, q⟩
end
end L2.Gd
namespace L2.Gd
open PySem PySem.Spec PyProof.Rows
/-- a dict of ints by ints -/
def dI (ps : List (Int × Int)) : List (Key × V) := ps.map fun p => (.inl p.1, .int p.2)
def dP (ps : List (Int × Int)) : PyData := .dict (ps.map fun p => (.int p.1, .int p.2))
theorem reads_ints {h : Heap} {P : Program} {w : World} : ∀ (ps : List (Int × Int)) (es : List DictEntry) (vs : List (Key × Value)), KV (dI ps) vs → Pairs (mixKind P w) es vs →
    ReadsAll h (es.map (·.key)) (ps.map fun p => PyData.int p.1) [] ∧ ReadsAll h (es.map (·.val)) (ps.map fun p => PyData.int p.2) []
  | [], es, vs, kv, pr => by
    cases kv
    cases pr
    exact ⟨.nil, .nil⟩
  | p :: ps, es, vs, kv, pr => by
    cases kv with
    | cons k1 k2 =>
      cases pr with
      | cons e1 e2 e3 =>
        obtain ⟨ke, kr⟩ := k1
        obtain ⟨a, b⟩ := reads_ints (h := h) ps _ _ k2 e3
        obtain ⟨t, ev⟩ := kr
        have e1' : keyIs _ _ = true := e1
        rw [← ke] at e1'
        rcases keyIs_shape e1' with ⟨i, u, h1, h2⟩ | ⟨x, u, h1, h2⟩
        · cases h1
          refine ⟨?_, ?_⟩
          · rw [List.map_cons, List.map_cons, h2]
            exact ReadsAll.cons (as := []) (bs := []) (.int _ _) a
          · rw [List.map_cons, List.map_cons, e2, ev]
            exact ReadsAll.cons (as := []) (bs := []) (.int _ _) b
        · exact nomatch h1
section
variable {X : Cx}
/-- repr of such -/
theorem call_reprDI (hg : X.A.guards = some []) (hu : X.A.units + 64 < cLine) :
    CallR X (.builtin "repr") (fun xs H Q => ∃ a ps, xs = [.ref a] ∧ H a = some (.dK (dI ps)) ∧ (dP ps).showable = true ∧ (dP ps).depth ≤ 20 ∧ (dP ps).shown.length ≤ sizeLine ∧ Q (.str (dP ps).shown) H) := by
  rintro pins s σ H xs us Q I r ⟨a, ps, rfl, ha, h1, h2, h3, q⟩
  rw [Vals.ref1 r]
  obtain ⟨hz, ns, vs, kv, o, es, ep, ho, ex, hd, _, prs, _⟩ := (show ObjOk X.prog X.w H s.heap a (.dK (dI ps)) from I.hok a _ ha)
  obtain ⟨r1, r2⟩ := reads_ints (h := s.heap) ps _ _ kv prs
  have rd : Reads s.heap (.ref a) (dP ps) (a :: [] ++ []) := .dict ho ex.1 hd (by rw [List.map_map]; exact r1) (by rw [List.map_map]; exact r2)
  refine repr_of_reads' rd h1 (fun _ hm => ?_) hg (by omega) (fun _ _ q => q) ?_ h3
  · have e : sysModules = a := by simpa using hm
    rw [e] at ns
    simp at ns
  · intro h' u tk k
    exact ⟨.str _, H, I.kept k, ⟨_, rfl⟩, q⟩
end
end L2.Gd
end

section
set_option Elab.async false
set_option linter.all false
set_option maxRecDepth 100000
set_option maxHeartbeats 2000000
/-! s[::-1] of a text; enumerate of a text -/
namespace L2.Gd
open PySem PySem.Spec PyProof.Rows
open Builtin Builtin.Str
def revS (z : Str) : Str := ⟨z.cps.toList.reverse.toArray⟩
theorem revS_ix (n : Nat) : strSliceIndices none none (-1) n = (List.range n).reverse := by
  have e : strSliceIndices none none (-1) n = sliceRange ((n : Int) - 1) (-1) (-1) := rfl
  rw [e, PySem.W.krv_sliceRange, PySem.W.krv_range]
theorem revS_cut (z : Str) : (⟨((strSliceIndices none none (-1) z.length).filterMap (z.cps[·]?)).toArray⟩ : Str) = revS z := by
  rw [revS_ix]
  unfold revS
  rw [List.filterMap_reverse]
  have : (List.range z.length).filterMap (z.cps[·]?) = z.cps.toList := PySem.W.krv_all z.cps
  rw [this]
def tRevS (te : TE) : TE := fun σ H Q => te σ H fun x H1 => ∃ z, x = .str z ∧ z.length ≤ sizeLine ∧ Q (.str (revS z)) H1
theorem pe_revS {X : Cx} {e : Expr} {te : TE} {k : Nat} {p1 p2 p3 pos : Pos} (he : PE X e te) : PE X (.Subscript e (.Slice none none (some (.UnaryOp .USub (.Constant (.int 1) k p1) p2)) p3) pos) (tRevS te) := by
  refine ⟨fun pins s σ H Q I h => ?_⟩
  refine Subscript_ (thn (he.run pins s σ H _ I h) fun v s1 ⟨x, H1, I1, r1, q1⟩ => ?_)
  obtain ⟨z, ex, hz, q⟩ := q1
  subst ex
  obtain ⟨t, rfl⟩ := r1
  have hst : PO X (some (.UnaryOp .USub (.Constant (.int 1) k p1) p2)) (tPart (tUn (rU fun i => .int (-i)) (tC (.int 1)))) := po_some (pe_un un_neg pe_int)
  refine wpAny_Slice (thn (po_none.run pins s1 σ H1 (fun o H2 => o = none ∧ H2 = H1) I1 ⟨rfl, rfl⟩) fun vl s2 ⟨l, H2, I2, pl, el, e2⟩ => ?_)
  subst el e2
  refine thn (po_none.run pins s2 σ H2 (fun o H3 => o = none ∧ H3 = H2) I2 ⟨rfl, rfl⟩) fun vu s3 ⟨u, H3, I3, pu, eu, e3⟩ => ?_
  subst eu e3
  refine thn (hst.run pins s3 σ H3 (fun o H4 => o = some (-1) ∧ H4 = H3) I3 ⟨1, rfl, -1, rfl, rfl, rfl⟩) fun vs s4 ⟨o, H4, I4, ps, eo, e4⟩ => ?_
  subst eo e4
  have I5 : Inv X pins σ H4 { s4 with heap := s4.heap.push { cls := .type "slice", data := .fields #[vl, vu, vs] } } := I4.kept (t' := s4.toks) fun b ob q => Heap.get?_push_of_some _ q
  obtain ⟨l', rfl, el⟩ := IsPart.raw pl
  obtain ⟨u', rfl, eu⟩ := IsPart.raw pu
  obtain ⟨st', rfl, es⟩ := IsPart.raw ps
  show wpAny (model X.prog X.w) X.A (subscriptTail e (.Slice none none (some (.UnaryOp .USub (.Constant (.int 1) k p1) p2)) p3) (.str z t) (.ref s4.heap.objs.size)) (EP X pins σ Q) X.xe { s4 with heap := s4.heap.push { cls := .type "slice", data := .fields #[partValue l', partValue u', partValue st'] } }
  refine tail_any (ops := [.ref s4.heap.objs.size, .str z t]) (typeIs_str _ _ _) (F.slot_str_getitem.lookup) ?_ (by with_unfolding_all rfl)
  refine wpAny_getItem_str_slice (l := l') (u := u') (st := st') ⟨_, Heap.get?_push_size _ rfl, rfl, rfl⟩ (by rw [es]; rfl) ?_
  have e1 : slicePicked z l' u' st' = strSliceIndices none none (-1) z.length := by
    unfold slicePicked
    rw [el, eu, es]
    rfl
  have hl : (revS z).length ≤ sizeLine := by
    show (z.cps.toList.reverse.toArray).size ≤ sizeLine
    rw [List.size_toArray, List.length_reverse, Array.length_toList]
    exact hz
  unfold sliceMade
  rw [e1, es, revS_cut]
  show Made.post (if ((-1 : Int) == 1 && _) = true then _ else _) _ _
  rw [if_neg (fun h => absurd (Bool.and_eq_true_iff.mp h).1 (by decide))]
  exact ⟨hl, .str _, _, I5.tok _, ⟨_, rfl⟩, q⟩
/-! ### enumerate of a text -/
def IteS (x : Str) : It where
  go := fun i _ => i < x.cps.size
  yld := fun i H v H' => ∃ T c, v = .ref T ∧ H T = none ∧ H' = upd H T (.tup [.int (i : Nat), .str ⟨#[c]⟩]) ∧ x.cps[i]? = some c
  stop := fun i _ => x.cps.size ≤ i
theorem drawsS {prog : Program} {w : World} {A : Around} (hh : A.handled = none) (I : Addr) (x : Str) (t : Tok) :
    Draws prog w A I [I] x.cps.size (fun i v => ∃ c u, x.cps[i]? = some c ∧ v = .str ⟨#[c]⟩ u) (fun i h => h.IsStrIter I (strIterType x) x t i) := by
  unfold strIterType
  by_cases h : x.cps.all (· < 128) = true
  · rw [if_pos h]
    exact Draws.strAscii hh I x t
  · rw [if_neg h]
    exact Draws.strWide hh I x t
theorem turn_enumS {P : Program} {w : World} {K : PySem.W.Frag} {elts : List Expr} {kk : Nat} {tpos : Pos} (x : Str) (t : Tok) (e I : Addr) :
    Turn P w K (.Tuple elts kk tpos) (IteS x) [e, I] e (fun i h => (∃ old, IsEnum h e I ((i : Nat) : Int) old) ∧ h.IsStrIter I (strIterType x) x t i ∧ i ≤ x.cps.size ∧ e ≠ I) where
  mem := List.mem_cons_self
  obj := by
    rintro i h ⟨⟨old, he⟩, ⟨o, ho, hc, hd⟩, _⟩ b hb
    rcases List.mem_cons.mp hb with rfl | hb
    · exact ⟨_, he, fun v q => nomatch q⟩
    · obtain rfl := List.mem_singleton.mp hb
      exact ⟨o, ho, fun v q => by rw [hd] at q; exact nomatch q⟩
  keep := by
    rintro i h h' ⟨⟨old, he⟩, ⟨o, ho, r⟩, le, ne⟩ k
    exact ⟨⟨old, k e (by simp) _ he⟩, ⟨o, k I (by simp) _ ho, r⟩, le, ne⟩
  item := by
    rintro X hP hw hK hc i pins s σ H E J hf ⟨⟨old, he⟩, it, lei, ne⟩ lt
    subst hP hw hK
    have lt : i < x.cps.size := lt
    have le : e < s.heap.objs.size := Heap.lt_size he
    have li : I < s.heap.objs.size := let ⟨_, q, _⟩ := it; Heap.lt_size q
    refine wpAny_pyNext_enum_itemD (drawsS (A := X.A.in1) (J.ok.hd hc) I x t) he it lt ne (by simpa using ne) ?_
    intro u h1 tk ⟨c, ut, hcx, hu⟩ out it1 tup1 z1 k1
    subst hu
    refine ⟨_, rfl, wpAny_letOwnedTupleGo_enum (s := { s with heap := h1, toks := tk + 1 }) out ?_⟩
    intro h2 he2 sb
    have tup2 : h2.get? s.heap.objs.size = some { cls := .type "tuple", data := .seq #[.int i tk, .str ⟨#[c]⟩ ut] } := (sb.2 _ (Nat.ne_of_gt le)).trans tup1
    have new : ObjOk X.prog X.w (upd H s.heap.objs.size (.tup [.int (i : Nat), .str ⟨#[c]⟩])) h2 s.heap.objs.size (.tup [.int (i : Nat), .str ⟨#[c]⟩]) :=
      ⟨by show 2 ≤ sizeLine; decide, [.int i tk, .str ⟨#[c]⟩ ut], .cons ⟨_, rfl⟩ (.cons ⟨_, rfl⟩ .nil), ⟨_, tup2, rfl, _, rfl⟩⟩
    have J1 : Inv X pins σ (upd H s.heap.objs.size (.tup [.int (i : Nat), .str ⟨#[c]⟩])) { s with heap := h2, toks := tk + 1 } := by
      refine J.turnedNew (ch := [e, I]) (fun b o hb q => ?_) hf (Nat.le_refl _) new
      have b1 : b ≠ e := fun z => hb (by simp [z])
      have b2 : b ≠ I := fun z => hb (by simp [z])
      exact (sb.2 b b1).trans (k1 b o b1 b2 q)
    refine ⟨.ref s.heap.objs.size, _, J1, rfl, ⟨_, c, rfl, J.hok.fresh (Nat.le_refl _), rfl, hcx⟩, ⟨⟨.str ⟨#[c]⟩ ut, ?_⟩, ?_, lt, ne⟩, ?_⟩
    · rw [show ((i + 1 : Nat) : Int) = (i : Int) + 1 by omega]
      exact he2
    · obtain ⟨o, ho, r⟩ := it1
      exact ⟨o, (sb.2 I (Ne.symm ne)).trans ho, r⟩
    · intro b hb
      have lb : b < s.heap.objs.size := by
        rcases List.mem_cons.mp hb with rfl | q
        · exact le
        · obtain rfl := List.mem_singleton.mp q
          exact li
      rw [upd_ne (Nat.ne_of_lt lb)]
      exact (hf b hb).1
  done := by
    rintro X hP hw hK hc i pins s σ H E J hf ⟨⟨old, he⟩, it, lei, ne⟩ hx
    subst hP hw hK
    have hx : x.cps.size ≤ i := hx
    obtain rfl : i = x.cps.size := by omega
    obtain ⟨f0, f1, f2, f3, f4, f5⟩ := hf I (by simp)
    refine wpAny_pyNext_enum_endD (drawsS (A := X.A.in1) (J.ok.hd hc) I x t) he it ?_
    intro h1 eb
    exact ⟨rfl, J.turned (t' := s.toks) (fun b o hb q => eb b o hb q) f0 f1 f3 f4 f5⟩
  self := by
    rintro A i s Q E ⟨⟨_, he⟩, _⟩ h
    exact wpAny_pyIter_enum he h
def iEnumS (ta : TA) : TI := fun σ H R => ta σ H fun vs H1 => ∃ x, vs = [.str x] ∧ R (IteS x) H1
theorem pi_enumS {X : Cx} {e : Expr} {ta : TA} {p pos tpos : Pos} {elts : List Expr} {kk : Nat} (hg : Gl X "enumerate") (hm : X.mg "enumerate" = none) (ha : PA X [e] ta)
    (hs : starEach [e] X.env = [(false, eval e X.env)] := by rfl) :
    PI X (.Tuple elts kk tpos) (.Call (.Name "enumerate" p) [e] [] pos) (iEnumS ta) := by
  constructor
  intro pins s σ H R J h
  refine Call_ (ld_blt J hg hm boot_enumerate (PyProof.Rows.callWith_type1 (thn (ha.run pos pins s σ H _ J h) ?_) hs rfl))
  rintro us s1 ⟨vs, H1, J1, r1, x, rfl, q⟩
  cases r1 with
  | cons r rr =>
    cases rr
    obtain ⟨t, rfl⟩ := r
    have fp : ∀ b ∈ [s1.heap.objs.size + 1, s1.heap.objs.size], FpOk X pins H1 b := by
      intro b hb
      have le : s1.heap.objs.size ≤ b := by
        rcases List.mem_cons.mp hb with rfl | q
        · omega
        · obtain rfl := List.mem_singleton.mp q
          exact Nat.le_refl _
      exact J1.fpOk le (J1.hok.fresh le)
    refine call_enumerate_str ?_
    intro h' he it z k
    exact wpAny_pyIter_enum he ⟨_, _, _, _, H1, rfl, J1.kept (t' := s1.toks) k, turn_enumS x t (s1.heap.objs.size + 1) s1.heap.objs.size,
      ⟨⟨.none, he⟩, it, Nat.zero_le _, Nat.succ_ne_self _⟩, fp, q⟩
end L2.Gd
end

section
set_option Elab.async false
set_option linter.all false
set_option maxRecDepth 100000
set_option maxHeartbeats 2000000
/-! f"{n:b}" of a number that is not below 0 -/
namespace PyProof.Rows
open PySem Builtin Float
def bitL (n : Nat) : List Nat := (Nat.toDigits 2 n).map Char.toNat
def bitT (n : Nat) : Str := ⟨(bitL n).toArray⟩
def specB : FormatSpec := { align := 62, type := some 98 }
theorem parse_b : parseFormatSpec ("b" : Str).cps.toList "int" 62 = .ok specB := by kernel_rfl
theorem bitT_length (n : Nat) : (bitT n).length = (Nat.toDigits 2 n).length := by
  show (bitL n).toArray.size = _
  unfold bitL
  rw [List.size_toArray, List.length_map]
section
variable {prog : Program} {w : World} {A : Around} {E : Value → Shared → Prop} {s : Shared}
theorem mkStr_to {x y : Str} {Q : Value → Shared → Prop} (e : x = y) (hy : y.length ≤ sizeLine) (h : Q (.str y s.toks) { s with toks := s.toks + 1 }) : wpAny (model prog w) A (mkStr x) Q E s := by
  subst e
  exact wpAny_mkStr h hy
set_option maxRecDepth 100000 in
theorem formatField_bin {n : Nat} {t : Tok} {Q : Value → Shared → Prop} (hl : (Nat.toDigits 2 n).length ≤ sizeLine)
    (h : Q (.str (bitT n) (s.toks + 1)) { s with toks := s.toks + 1 + 1 }) :
    wpAny (model prog w) A (formatField (.int (n : Int) t) ("b" : Str)) Q E s := by
  have hne : (("b" : Str).length == 0) = false := by decide +kernel
  have hasc : ((("b" : Str).cps.toList.drop 1).any (· ≥ 128) || (("b" : Str).cps.getD 0 0 ≥ 128 && !([60, 62, 61, 94] : List Nat).contains (("b" : Str).cps.getD 1 0))) = false := by decide +kernel
  have hlen : (bitT n).length ≤ sizeLine := by rw [bitT_length]; exact hl
  show wpAny _ _ (holding [.int (n : Int) t] (pyFormat (.int (n : Int) t) ("b" : Str))) Q E s
  refine wpAny_holding ?_
  unfold pyFormat
  refine wpAny_bind (wpAny_mkStr ?_ (by rw [sizeLine_eq]; decide +kernel))
  refine wpAny_bind (m := callSpecial? (.int (n : Int) t) (Str.ofString "__format__") [.str ("b" : Str) s.toks]) (wpAny_callSpecial?_slot (name := Str.ofString "__format__") (typeIs_int _ (n : Int) t) slot_int_format ?_)
  refine wpAny_call (codeAny_call_builtin slot_int_format.plain entry_int_format (slot_int_format.check _ _ _ _ _ _ _ _ (typeIs_int _ (n : Int) t) (args_int_format _ _) ?_))
  unfold Builtin.«int.__format__»
  simp only [selfAndOne, noKeywords, Int.intOfSelf, asInt?, asStr?, List.isEmpty_nil, if_true, pure_bind, bind_pure, bind_assoc, hne, hasc, Bool.false_eq_true, if_false,
    show (Value.str ("b" : Str) s.toks == Value.none) = false from rfl]
  refine wpAny_bind (wpAny_typeNameOf (T := "str") (typeIs_str _ _ _) (by decide) fun _ => ?_)
  refine wpAny_bind (wpAny_typeNameOfCut_int ?_)
  simp only [parse_b]
  show wpAny _ _ (if _ then _ else _) _ _ _
  rw [if_pos (by decide +kernel)]
  show wpAny _ _ (retStr _) _ _ _
  unfold retStr
  refine wpAny_bind (mkStr_to (y := bitT n) ?_ hlen (wpAny_pure ?_))
  · have nn : decide ((n : Int) < 0) = false := decide_eq_false (by omega)
    have ab : ((n : Int)).natAbs = n := Int.natAbs_natCast n
    rw [nn, ab]
    have al : specB.alt = false := rfl
    have ty : specB.type = some 98 := rfl
    simp only [al, ty, Bool.false_eq_true, if_false, Option.getD_some, show ((98 : Nat) == 88) = false by decide, show ((2 : Nat) == 10) = false by decide]
    conv => lhs; whnf
    have hne2 : (List.map Char.toNat (Nat.toDigits 2 n)).isEmpty = false := by
      rw [List.isEmpty_map]
      cases hd : Nat.toDigits 2 n with
      | nil => exact absurd hd (by
          have := Nat.length_toDigits_pos (b := 2) (n := n)
          intro z
          rw [z] at this
          exact absurd this (by decide))
      | cons a r => rfl
    have w0 : specB.width = none := rfl
    have g0 : specB.grouping = none := rfl
    have s0 : specB.sign = none := rfl
    have fa : (specB.fill == 48 && specB.align == 61) = false := by decide
    simp only [w0, g0, s0, fa, hne2, Bool.false_eq_true, if_false, List.length_nil, Int.toNat_zero, Nat.zero_sub, List.replicate_zero, List.nil_append, List.append_nil]
    have pz : ∀ m : Nat, ((-1 : Int) - (((0 : Nat) : Int) + ((0 : Nat) : Int) + ((0 : Nat) : Int)) - (m : Int)).toNat = 0 := fun m => by omega
    rw [pz]
    rfl
  · dsimp only
    exact wpAny_bind (wpAny_isInstance (typeIs_str _ _ _) isSubtype_str_str (wpAny_pure h))
end
end PyProof.Rows
namespace PyProof.Rows
open PySem
def revL (n : Nat) : List Nat := (bitL n).reverse
def bitC (b : Bool) : Nat := if b then 49 else 48
theorem revL_small {n : Nat} (h : n < 2) : revL n = [bitC (n.testBit 0)] := by
  unfold revL bitL
  rw [Nat.toDigits_of_lt_base h]
  have : n = 0 ∨ n = 1 := by omega
  rcases this with rfl | rfl <;> rfl
theorem revL_step {n : Nat} (h : 2 ≤ n) : revL n = bitC (n.testBit 0) :: revL (n / 2) := by
  unfold revL bitL
  rw [Nat.toDigits_of_base_le (by decide) h, List.map_append, List.reverse_append]
  show [(n % 2).digitChar.toNat].reverse ++ _ = _
  have e : (n % 2).digitChar.toNat = bitC (n.testBit 0) := by
    rw [Nat.testBit_zero]
    have : n % 2 = 0 ∨ n % 2 = 1 := by omega
    rcases this with z | z <;> rw [z] <;> rfl
  rw [e]
  rfl
theorem revL_at : ∀ (n k : Nat), (∀ c, (revL n)[k]? = some c → c = bitC (n.testBit k)) ∧ ((revL n).length ≤ k → n.testBit k = false) := by
  intro n
  induction n using Nat.strongRecOn with
  | _ n ih =>
    intro k
    by_cases h : n < 2
    · rw [revL_small h]
      cases k with
      | zero => exact ⟨fun c e => (Option.some.inj e).symm, fun z => absurd z (by simp)⟩
      | succ k =>
        refine ⟨fun c e => (nomatch e), fun _ => ?_⟩
        rw [Nat.testBit_succ, show n / 2 = 0 by omega]
        exact Nat.zero_testBit k
    · rw [revL_step (by omega)]
      cases k with
      | zero => exact ⟨fun c e => (Option.some.inj e).symm, fun z => absurd z (by simp)⟩
      | succ k =>
        obtain ⟨h1, h2⟩ := ih (n / 2) (by omega) k
        rw [Nat.testBit_succ]
        refine ⟨fun c e => h1 c e, fun z => h2 ?_⟩
        rw [List.length_cons] at z
        omega
theorem revL_length (n : Nat) : (revL n).length = (bitT n).length := by
  unfold revL
  rw [List.length_reverse]
  rfl
/-- the positions of the ones, rising -/
def onesL (n : Nat) : List Nat := (List.range (revL n).length).filter n.testBit
theorem mem_onesL {n k : Nat} : k ∈ onesL n ↔ n.testBit k = true := by
  unfold onesL
  rw [List.mem_filter, List.mem_range]
  refine ⟨fun h => h.2, fun h => ⟨Nat.lt_of_not_le fun z => ?_, h⟩⟩
  rw [(revL_at n k).2 z] at h
  exact nomatch h
theorem revL_len_le {n m : Nat} (h : n < 2 ^ m) (hm : 0 < m) : (revL n).length ≤ m := by
  unfold revL bitL
  rw [List.length_reverse, List.length_map]
  exact (Nat.length_toDigits_le_iff (by decide) hm).mpr h
/-- the same below any bound of the number -/
theorem onesL_range {n m : Nat} (h : n < 2 ^ m) : onesL n = (List.range m).filter n.testBit := by
  have key : ∀ j, (List.range ((revL n).length + j)).filter n.testBit = onesL n := by
    intro j
    induction j with
    | zero => rfl
    | succ j ih =>
      rw [← Nat.add_assoc, List.range_succ, List.filter_append, ih]
      have z := (revL_at n ((revL n).length + j)).2 (Nat.le_add_right _ _)
      simp [z]
  by_cases hm : 0 < m
  · have := revL_len_le h hm
    rw [← key (m - (revL n).length), show (revL n).length + (m - (revL n).length) = m by omega]
  · obtain rfl : m = 0 := by omega
    obtain rfl : n = 0 := by simpa using h
    decide
end PyProof.Rows
namespace L2
open PySem PySem.Spec PyProof.Rows
section
variable {X : Cx}
/-- {x:b} of a number that is not below 0 -/
def tFmtB (te : TE) : TE := fun σ H Q => te σ H fun x H1 => ∃ n : Nat, x = .int n ∧ (revL n).length ≤ sizeLine ∧ Q (.str (bitT n)) H1
theorem pe_fmtB {e : Expr} {te : TE} {k : Nat} {p1 p2 pos : Pos} (he : PE X e te) : PE X (.FormattedValue e (-1) (some (.JoinedStr [.Constant (.str "b") k p1] p2)) pos) (tFmtB te) := by
  refine ⟨fun pins s σ H Q I h => ?_⟩
  refine wpAny_FormattedValue_spec (thn (he.run pins s σ H _ I h) fun v s1 hv => ?_)
  obtain ⟨x, H1, I1, r1, n, rfl, hz, q⟩ := hv
  obtain ⟨t, rfl⟩ := r1
  refine wpAny_JoinedStr_one (wpAny_Constant_str ?_)
  refine ⟨_, _, rfl, ?_⟩
  exact formatField_bin (by rw [← bitT_length, ← revL_length]; exact hz) ⟨.str (bitT n), H1, (I1.tok _).tok _, ⟨_, rfl⟩, q⟩
end
end L2
end

section
set_option Elab.async false
set_option linter.all false
set_option maxRecDepth 100000
set_option maxHeartbeats 4000000
namespace L2.K75
open PySem PySem.Spec PyProof.Rows L2.Gd
section
variable {P : Program} {w : World} {K : PySem.W.Frag} {mg : Str → Option Value} {base : Heap} {C : Addr}
theorem small_le {n k : Nat} (h : n ≤ k) (hk : k ≤ 1000 := by decide) : n ≤ sizeLine := by
  rw [sizeLine_eq]
  omega
theorem Paired.app {α β : Type} {R : α → β → Prop} : ∀ {xs xs' : List α} {ys ys' : List β}, Paired R xs ys → Paired R xs' ys' → Paired R (xs ++ xs') (ys ++ ys')
  | _, _, _, _, .nil, h => h
  | _, _, _, _, .cons r t, h => .cons r (Paired.app t h)
theorem cutV_drop (xs : List V) {i : Nat} (h : i ≤ xs.length) : cutV xs (some (i : Int)) none = xs.drop i := by
  have e0 : HT.sIx xs.length 0 (some (i : Int)) = i := by
    simp only [HT.sIx]
    split <;> omega
  have e1 : HT.sIx xs.length xs.length none = xs.length := by simp [HT.sIx]
  unfold cutV
  rw [e0, e1]
  exact List.take_of_length_le (by rw [List.length_drop]; omega)
theorem Paired.dropP {α β : Type} {R : α → β → Prop} : ∀ {xs : List α} {ys : List β} (n : Nat), Paired R xs ys → Paired R (xs.drop n) (ys.drop n)
  | _, _, 0, h => h
  | _, _, _ + 1, .nil => .nil
  | _, _, n + 1, .cons r t => Paired.dropP n t
theorem stabD (D : Addr) : Stab DdAt D := fun H H' y d b ⟨zs, hD⟩ ⟨t, e, ht⟩ => ⟨t, e, b _ _ (fun z => by subst z; rw [hD] at ht; exact nomatch ht) ht⟩
theorem stabF (D : Addr) {H1 H : Hp} {t : Addr} {xs ys : List V} (b : ButD D H1 H) (hD : H D = some (.lst ys)) (h : H1 t = some (.tup xs)) (hD1 : H1 D = none) : H t = some (.tup xs) := b.new hD1 _ _ h
def keepD (p : Dd → Bool) (d : Dd) : Option Dd := if p d = true then some d else none
theorem keepD_filter (p : Dd → Bool) (ds : List Dd) : ds.filterMap (keepD p) = ds.filter p := by
  induction ds with
  | nil => rfl
  | cons d r ih =>
    by_cases h : p d = true
    · rw [List.filterMap_cons_some (show keepD p d = some d from if_pos h), List.filter_cons_of_pos h, ih]
    · rw [List.filterMap_cons_none (show keepD p d = none from if_neg h), List.filter_cons_of_neg h, ih]
theorem mapD (f : Dd → Dd) (ds : List Dd) : ds.filterMap (fun d => some (f d)) = ds.map f := by rw [List.filterMap_eq_map']

structure PrH (P : Program) (w : World) (K : PySem.W.Frag) (mg : Str → Option Value) (base : Heap) (C : Addr) (x : Str) (sp : Sp) : Prop where
  ex : ∃ p g fd, PropOf K C x p g ∧ Binds K fd ["self"] [] ∧ FnOk P w K mg base CX0 1 g fd ["self"] sp
theorem pe_prH {X : Cx} {x : Str} {sp : Sp} {e : Expr} {te : TE} {pos : Pos} (G : PrH X.prog X.w X.K X.mg X.base C x sp) (T : ClsT X.K X.mg C) (hr : Room 2 X.A) (he : PE X e te)
    (hab : attributeBase e x X.env (eval e X.env) = eval e X.env := by rfl) : PE X (.Attribute e x pos) (tProp C sp [] E0 te) := by
  obtain ⟨p, g, fd, hp, b, F⟩ := G.ex
  exact pe_prop he T.isc.cl hp F hr b .nil pass0 hab
theorem mapE {α β : Type} (f : α → β) (ds : List α) : ds.filterMap (fun d => some (f d)) = ds.map f := by rw [List.filterMap_eq_map']
theorem bls_of : ∀ {zs : List V} {bs : List Bool}, Paired (fun v b => v = V.bl b) zs bs → zs = bs.map V.bl
  | _, _, .nil => rfl
  | _, _, .cons h t => by rw [h, bls_of t]; rfl
/-! ### the pot -/
abbrev sDraw : Stmt := top 44
def PotAt (H : Hp) (p : Addr) : Prop := ∃ a b : Int, H p = some (.lst [.int a, .int b]) ∧ 0 ≤ a ∧ 0 ≤ b ∧ b < 2147483587
/-! ### a digit of the pot -/
theorem PotAt.same {H H' : Hp} {p : Addr} (s : Same H H') (h : PotAt H p) : PotAt H' p := let ⟨a, b, e, r⟩ := h; ⟨a, b, s _ _ e, r⟩
def spDraw : Sp := fun vs H Q _ => ∃ (p : Addr) (n : Int), vs = [.ref p, .int n] ∧ PotAt H p ∧ 1 ≤ n ∧ n < 1000000 ∧ ∀ d H', 0 ≤ d → d < n → PotAt H' p → ButD p H H' → Q (.int d) H'
theorem scDr : FnScope ["_law_pot_here", "_law_many", "_law_digit"] ["_law_pot_here", "_law_many"] (defScope sDraw) := ⟨rfl, rfl, rfl, by decide +kernel, rfl, by decide +kernel, by decide +kernel⟩
theorem ok_draw {f : Addr} {fd : FuncData} (F : Fun K "_law_draw" "_law_draw" sDraw f fd) (n : Nm mg) : FnOk P w K mg base CX0 1 f fd ["_law_pot_here", "_law_many"] spDraw := by
  refine F.ok scDr (fun vs H Q E h => ?_) (fun cdv A outer s H vs Q E hr h => ?_)
  · obtain ⟨p, m, rfl, _⟩ := h
    rfl
  · obtain ⟨p, m, rfl, ⟨a, b, hp, a0, b0, bu⟩, m1, mu, q⟩ := h
    have N := scDr.nd
    refine ⟨_, pss_cons (ps_if (pt_cmpR op_gt (pe_ix ix_list (pv 0) pe_int (fun _ _ => rfl)) pe_int (nomark _))
        (pss_cons (ps_asg (pe_callB call_divmod (by rfl) n.divmod (by decide +kernel) (pa_cons (pe_ix ix_list (pv 0) pe_int (fun _ _ => rfl)) (pa_cons (pv 1) pa_nil)))
            (pg_tup rfl (pgs_cons (pg_sub (pv 0) pe_int set_list) (pgs_cons (pg_name (i := 2) N rfl (.inl rfl)) pgs_nil))))
          (pss_one (ps_ret (pv 2)))) pss_nil)
      (pss_cons (ps_asg (pe_op op_mod (pe_callTy call_int1 (by rfl) n.int (by decide +kernel) (pa_cons (pe_op op_add (pe_op op_mul (pe_ix ix_list (pv 0) pe_int (fun _ _ => rfl)) pe_int) pe_int) pa_nil)) pe_int) (pg_sub (pv 0) pe_int set_list))
      (pss_one (ps_ret (pe_op op_mod (pe_callTy call_int1 (by rfl) n.int (by decide +kernel) (pa_cons (pe_op op_fdiv (pe_op op_mod (pe_callTy call_int1 (by rfl) n.int (by decide +kernel) (pa_cons
        (pe_op op_mul (pe_ix ix_list (pv 0) pe_int (fun _ _ => rfl)) (pe_ix ix_list (pv 0) pe_int (fun _ _ => rfl))) pa_nil)) pe_int) pe_int) pa_nil)) (pv 1))))), ?_⟩
    refine ⟨_, rfl, p, _, _, _, rfl, rfl, .inl (.inl hp), rfl, _, _, rfl, rfl, decide (a > 0), rfl, ?_⟩
    by_cases ha : a > 0
    · rw [decide_eq_true ha]
      refine iteT ?_
      refine ⟨_, rfl, p, _, _, _, rfl, rfl, .inl (.inl hp), rfl, _, rfl, _, _, rfl, ⟨by omega, by omega⟩, fun t ht => ?_⟩
      have hpt : upd H t (.tup [.int (a / m), .int (a % m)]) p = some (.lst [.int a, .int b]) := same_upd ht _ _ hp
      refine ⟨t, _, rfl, .inl (.inl upd_same), rfl, ?_⟩
      refine ⟨_, _, rfl, _, rfl, p, _, _, 0, rfl, rfl, hpt, rfl, _, _, rfl, rfl, ?_⟩
      refine ⟨_, rfl, q _ _ (Int.emod_nonneg _ (by omega)) (Int.emod_lt_of_pos _ (by omega)) ⟨_, _, upd_same, Int.ediv_nonneg a0 (by omega), b0, bu⟩ ?_⟩
      intro c o ne e
      rw [upd_ne ne]
      exact same_upd ht _ _ e
    · rw [decide_eq_false ha]
      refine iteF ?_
      refine ⟨_, rfl, p, _, _, _, rfl, rfl, .inl (.inl hp), rfl, _, _, rfl, rfl, .inr (by decide), _, _, rfl, rfl, .inl ⟨_, rfl, _, _, rfl, rfl, (by show (0 : Int) < 2147483563; decide), ?_⟩⟩
      refine ⟨_, rfl, p, _, _, 1, rfl, rfl, hp, rfl, ?_⟩
      have c0 : 0 ≤ (b * 40014 + 1109) % 2147483563 := by omega
      have cu : (b * 40014 + 1109) % 2147483563 < 2147483587 := by omega
      have hc : upd H p (.lst ([V.int a, V.int b].set 1 ((fun i j => V.int (i % j)) (b * 40014 + 1109) 2147483563))) p = some (.lst [.int a, .int ((b * 40014 + 1109) % 2147483563)]) := upd_same
      refine ⟨_, rfl, p, _, _, _, rfl, rfl, .inl (.inl hc), rfl, _, rfl, p, _, _, _, rfl, rfl, .inl (.inl hc), rfl, _, _, rfl, rfl, .inl ⟨by omega, by omega⟩, ?_⟩
      refine .inl ⟨_, rfl, _, _, rfl, rfl, (by show (0 : Int) < 2147483587; decide), _, _, rfl, rfl, ⟨by decide, by decide⟩, .inl ⟨_, rfl, _, rfl, _, _, rfl, rfl, (by show (0 : Int) < m; omega), ?_⟩⟩
      refine q _ _ (Int.emod_nonneg _ (by omega)) (Int.emod_lt_of_pos _ (by omega)) ⟨_, _, hc, a0, c0, cu⟩ ?_
      intro k o ne e
      rw [upd_ne ne]
      exact e
theorem ButD.refl {D : Addr} {H : Hp} : ButD D H H := fun _ _ _ e => e
theorem ButD.trans {D : Addr} {H1 H2 H3 : Hp} (a : ButD D H1 H2) (b : ButD D H2 H3) : ButD D H1 H3 := fun c o ne e => b c o ne (a c o ne e)
theorem Same.but {D : Addr} {H1 H2 : Hp} (a : Same H1 H2) : ButD D H1 H2 := fun c o _ e => a c o e
/-- tuples stay, the pot is a list -/
theorem pot_ne {H : Hp} {p t : Addr} {xs : List V} (hp : PotAt H p) (ht : H t = some (.tup xs)) : t ≠ p := by
  rintro rfl
  obtain ⟨a, b, e, _⟩ := hp
  rw [ht] at e
  exact nomatch e
theorem DdAll.pot {H H' : Hp} {p : Addr} {vs : List V} {ds : List Dd} (hp : PotAt H p) (b : ButD p H H') (h : DdAll H vs ds) : DdAll H' vs ds :=
  Paired.mapP h fun _ _ ⟨t, e, q⟩ => ⟨t, e, b _ _ (pot_ne hp q) q⟩

theorem take_map {α β : Type} (f : α → β) {l : List α} {i : Nat} {x : α} (h : l[i]? = some x) : (l.take (i + 1)).map f = (l.take i).map f ++ [f x] := by
  rw [List.take_succ, h, List.map_append]
  rfl
/-- all that stood, but for the list that is being made -/
def But (D : Addr) (H H' : Hp) : Prop := ∀ b o, b ≠ D → H b = some o → H' b = some o
theorem But.new {D : Addr} {H H' : Hp} (h : H D = none) (b : But D H H') : Same H H' := fun a o e => b a o (ne_of_none e h) e
theorem But.upd {D : Addr} {H H' : Hp} {o : HO} (b : But D H H') : But D H (upd H' D o) := fun a u ne e => by
  rw [upd_ne ne]
  exact b a u ne e
theorem But.more {D p : Addr} {H H' : Hp} {o : HO} (b : But D H H') (hp : H' p = none) : But D H (L2.upd H' p o) := fun a u ne e => by
  rw [upd_ne (ne_of_none (b a u ne e) hp)]
  exact b a u ne e
theorem But.start {D : Addr} {H : Hp} {o : HO} : But D H (L2.upd H D o) := fun a u ne e => by
  rw [upd_ne ne]
  exact e
theorem DdAll.but {D : Addr} {H H' : Hp} (hD : ∀ t ys, H t = some (.tup ys) → t ≠ D) (b : But D H H') {vs : List V} {ds : List Dd} (h : DdAll H vs ds) : DdAll H' vs ds :=
  Paired.mapP h fun v x ⟨t, e, q⟩ => ⟨t, e, b _ _ (hD _ _ q) q⟩

def isAny (d : Dd) : Bool := decide (d.w = "any")
def Made (C : Addr) (H : Hp) (Q : VK) (m : Int) (ds : List Dd) : Prop := ∀ (h l : Addr) (xs : List V) (H' : Hp), H h = none → H l = none → Same H H' → HouseL C H' h l m xs ds → Q (.ref h) H'
theorem Made.same {H H' : Hp} {Q : VK} {m : Int} {ds : List Dd} (s : Same H H') (k : Made C H Q m ds) : Made C H' Q m ds := fun h l xs H2 n1 n2 s2 hh => k h l xs H2 (s.free n1) (s.free n2) (s.trans s2) hh
theorem make_end {H : Hp} {a : Addr} {m : Int} {xs : List V} {ds : List Dd} {Q : VK} {E : XK} (hs : Seq K H a xs) (hd : DdAll H xs ds) (wf : WF m ds) (k : Made C H Q m ds) :
    ∀ x dx, H x = none → H dx = none → dx ≠ x → spInit K C (.ref x :: ([.int m, .ref a] ++ [])) (upd (upd H dx (.own x)) x (.ins C dx [])) (fun v H2 => v = .non ∧ Q (.ref x) H2) E :=
  fun x dx nx ndx ne => init_read nx ndx ne hs hd wf fun l H' nl s hh => k x l xs H' nx nl s hh

theorem make_any {K : PySem.W.Frag} {C : Addr} {R : Addr → VK} {H : Hp} {a : Addr} {m : Int} {xs : List V} {ds : List Dd} {E : XK} (hs : Seq K H a xs) (hd : DdAll H xs ds) (wf : WF m ds)
    (k : ∀ (x l : Addr) (H' : Hp), H x = none → H l = none → Same H H' → HouseL C H' x l m xs ds → R x .non H') :
    ∀ x dx, H x = none → H dx = none → dx ≠ x → spInit K C (.ref x :: ([.int m, .ref a] ++ [])) (upd (upd H dx (.own x)) x (.ins C dx [])) (R x) E := by
  intro x dx nx ndx ne
  have s0 : Same H (upd (upd H dx (.own x)) x (.ins C dx [])) := fun b o e => by
    rw [upd_ne (ne_of_none e nx), upd_ne (ne_of_none e ndx)]
    exact e
  refine ⟨x, dx, a, m, xs, ds, rfl, upd_same, hs.same s0, hd.same s0, wf, fun l H' nl hx hl kp => ?_⟩
  have s1 : Same H H' := fun b o e => kp b o (ne_of_none e nx) (s0 b o e)
  exact k x l H' nx (s0.free nl) s1 ⟨⟨dx, hx⟩, hl, hd.same s1⟩
/-! ### plain -/
theorem WF.filter {m : Int} {ds : List Dd} (w : WF m ds) (p : Dd → Bool) : WF m (ds.filter p) :=
  ⟨w.m1, w.m16, fun d hd => w.ok d (List.mem_filter.mp hd).1, w.nd.filter _, Nat.le_trans (List.length_filter_le _ _) w.len⟩
theorem anyE (d : Dd) : decide (V.str d.w = V.str "any") = isAny d := by
  unfold isAny
  rw [Bool.eq_iff_iff]
  simp
theorem seqV {Good : L2.St → Hp → Prop} {t u : TS} {D : Ends} {σ : L2.St} {H : Hp} (h : ∀ nx : L2.St → Hp → Prop, (∀ σ2 H2, Good σ2 H2 → nx σ2 H2) → t { D with nx := nx } σ H)
    (hk : ∀ σ2 H2, Good σ2 H2 → u D σ2 H2) : tSeq t u D σ H := h (u D) hk
theorem via {Good : V → Hp → Prop} {t : TE} {σ : L2.St} {H : Hp} {Q : VK} (h : ∀ Q' : VK, (∀ v H2, Good v H2 → Q' v H2) → t σ H Q') (hk : ∀ v H2, Good v H2 → Q v H2) : t σ H Q := h Q hk
end
end L2.K75
end

section
set_option Elab.async false
set_option linter.all false
set_option maxRecDepth 100000
set_option maxHeartbeats 4000000
namespace L2.K75
open PySem PySem.Spec PyProof.Rows L2.Gd

/-! ### values of any kind (p: the pot, that is none of them) -/
mutual
inductive DV (p : Addr) (H : Hp) : V → PyData → Prop
  | non : DV p H .non .none
  | bl (b : Bool) : DV p H (.bl b) (.bool b)
  | int (i : Int) : DV p H (.int i) (.int i)
  | str (x : Str) : DV p H (.str x) (.str x)
  | lst {a : Addr} {xs : List V} {ds : List PyData} : a ≠ p → H a = some (.lst xs) → DVs p H xs ds → DV p H (.ref a) (.list ds)
  | tup {a : Addr} {xs : List V} {ds : List PyData} : H a = some (.tup xs) → DVs p H xs ds → DV p H (.ref a) (.tuple ds)
  | dct {a : Addr} {kvs : List (Key × V)} : H a = some (.dK kvs) → DV p H (.ref a) (.dict [])
inductive DVs (p : Addr) (H : Hp) : List V → List PyData → Prop
  | nil : DVs p H [] []
  | cons {v : V} {vs : List V} {d : PyData} {ds : List PyData} : DV p H v d → DVs p H vs ds → DVs p H (v :: vs) (d :: ds)
end
mutual
theorem DV.but {p : Addr} {H H' : Hp} (hp : PotAt H p) (b : ButD p H H') : ∀ {v : V} {d : PyData}, DV p H v d → DV p H' v d
  | _, _, .non => .non
  | _, _, .bl b => .bl b
  | _, _, .int i => .int i
  | _, _, .str x => .str x
  | _, _, .lst ne h t => .lst ne (b _ _ ne h) (DVs.but hp b t)
  | _, _, .tup h t => .tup (b _ _ (pot_ne hp h) h) (DVs.but hp b t)
  | _, _, .dct h => .dct (b _ _ (fun z => by
      subst z
      obtain ⟨x, y, e, _⟩ := hp
      rw [h] at e
      exact nomatch e) h)
theorem DVs.but {p : Addr} {H H' : Hp} (hp : PotAt H p) (b : ButD p H H') : ∀ {vs : List V} {ds : List PyData}, DVs p H vs ds → DVs p H' vs ds
  | _, _, .nil => .nil
  | _, _, .cons h t => .cons (DV.but hp b h) (DVs.but hp b t)
end
mutual
theorem DV.same {p : Addr} {H H' : Hp} (s : Same H H') : ∀ {v : V} {d : PyData}, DV p H v d → DV p H' v d
  | _, _, .non => .non
  | _, _, .bl b => .bl b
  | _, _, .int i => .int i
  | _, _, .str x => .str x
  | _, _, .lst ne h t => .lst ne (s _ _ h) (DVs.same s t)
  | _, _, .tup h t => .tup (s _ _ h) (DVs.same s t)
  | _, _, .dct h => .dct (s _ _ h)
theorem DVs.same {p : Addr} {H H' : Hp} (s : Same H H') : ∀ {vs : List V} {ds : List PyData}, DVs p H vs ds → DVs p H' vs ds
  | _, _, .nil => .nil
  | _, _, .cons h t => .cons (DV.same s h) (DVs.same s t)
end
theorem DVs.len {p : Addr} {H : Hp} : ∀ {vs : List V} {ds : List PyData}, DVs p H vs ds → vs.length = ds.length
  | _, _, .nil => rfl
  | _, _, .cons _ t => congrArg Nat.succ (DVs.len t)
theorem DVs.at {p : Addr} {H : Hp} : ∀ {vs : List V} {ds : List PyData} {i : Nat} {v : V}, DVs p H vs ds → vs[i]? = some v → ∃ d, ds[i]? = some d ∧ DV p H v d
  | _, _, _, _, .nil, e => by simp at e
  | _, _, 0, _, .cons h _, e => by simp at e; subst e; exact ⟨_, rfl, h⟩
  | _, _, i + 1, _, .cons _ t, e => by
    obtain ⟨d, h1, h2⟩ := DVs.at (i := i) t (by simpa using e)
    exact ⟨d, by simpa using h1, h2⟩
def kindT : PyData → String
  | .none => "NoneType"
  | .bool _ => "bool"
  | .int _ => "int"
  | .str _ => "str"
  | .list _ => "list"
  | .tuple _ => "tuple"
  | .dict _ => "dict"
theorem DV.ty {K : PySem.W.Frag} {p : Addr} {H : Hp} {v : V} {d : PyData} (h : DV p H v d) : TyX K H v (.type (kindT d)) := by
  cases h with
  | non => exact .base .non
  | bl b => exact .base (.bl _)
  | int i => exact .base (.int _)
  | str x => exact .base (.str _)
  | lst _ e _ => exact .base (.lst e)
  | tup e _ => exact .base (.tup e)
  | dct e => exact .base (.dK e)
def isI : PyData → Bool | .int _ => true | _ => false
def isB : PyData → Bool | .bool _ => true | _ => false
def isT : PyData → Bool | .tuple _ => true | _ => false
def isLT : PyData → Bool | .list _ => true | .tuple _ => true | _ => false
def isC : PyData → Bool | .int i => decide (0 ≤ i) | _ => false
theorem kit_int : ∀ d : PyData, kitB (kindT d) "int" = some (isI d || isB d)
  | .none => (by decide +kernel : kitB "NoneType" "int" = some false)
  | .bool _ => (by decide +kernel : kitB "bool" "int" = some true)
  | .int _ => (by decide +kernel : kitB "int" "int" = some true)
  | .str _ => (by decide +kernel : kitB "str" "int" = some false)
  | .list _ => (by decide +kernel : kitB "list" "int" = some false)
  | .tuple _ => (by decide +kernel : kitB "tuple" "int" = some false)
  | .dict _ => (by decide +kernel : kitB "dict" "int" = some false)
theorem kit_bool : ∀ d : PyData, kitB (kindT d) "bool" = some (isB d)
  | .none => (by decide +kernel : kitB "NoneType" "bool" = some false)
  | .bool _ => (by decide +kernel : kitB "bool" "bool" = some true)
  | .int _ => (by decide +kernel : kitB "int" "bool" = some false)
  | .str _ => (by decide +kernel : kitB "str" "bool" = some false)
  | .list _ => (by decide +kernel : kitB "list" "bool" = some false)
  | .tuple _ => (by decide +kernel : kitB "tuple" "bool" = some false)
  | .dict _ => (by decide +kernel : kitB "dict" "bool" = some false)
theorem kit_tuple : ∀ d : PyData, kitB (kindT d) "tuple" = some (isT d)
  | .none => (by decide +kernel : kitB "NoneType" "tuple" = some false)
  | .bool _ => (by decide +kernel : kitB "bool" "tuple" = some false)
  | .int _ => (by decide +kernel : kitB "int" "tuple" = some false)
  | .str _ => (by decide +kernel : kitB "str" "tuple" = some false)
  | .list _ => (by decide +kernel : kitB "list" "tuple" = some false)
  | .tuple _ => (by decide +kernel : kitB "tuple" "tuple" = some true)
  | .dict _ => (by decide +kernel : kitB "dict" "tuple" = some false)
theorem kit_list : ∀ d : PyData, kitB (kindT d) "list" = some (isLT d && !isT d)
  | .none => (by decide +kernel : kitB "NoneType" "list" = some false)
  | .bool _ => (by decide +kernel : kitB "bool" "list" = some false)
  | .int _ => (by decide +kernel : kitB "int" "list" = some false)
  | .str _ => (by decide +kernel : kitB "str" "list" = some false)
  | .list _ => (by decide +kernel : kitB "list" "list" = some true)
  | .tuple _ => (by decide +kernel : kitB "tuple" "list" = some false)
  | .dict _ => (by decide +kernel : kitB "dict" "list" = some false)
section
variable {P : Program} {w : World} {K : PySem.W.Frag} {mg : Str → Option Value} {base : Heap} {C : Addr}
def spInt2 : Sp := fun vs H Q _ => ∃ (p : Addr) (v : V) (d : PyData), vs = [v] ∧ DV p H v d ∧ Q (.bl (isI d)) H
theorem ok_int2 {f : Addr} {fd : FuncData} (F : Fun K "is_integer" "is_integer" sIsInt f fd) (n : Nm mg) : FnOk P w K mg base CX0 1 f fd ["value"] spInt2 := by
  refine F.ok scI (fun vs H Q E h => ?_) (fun cdv A outer s H vs Q E hr h => ?_)
  · obtain ⟨p, v, d, rfl, _⟩ := h
    rfl
  · obtain ⟨p, v, d, rfl, hd, k⟩ := h
    refine ⟨_, pss_one (ps_ret (pe_and (pe_isInt n (pv 0)) (pe_one (pe_not (pe_isBool n (pv 0)))))), ?_⟩
    refine ⟨_, rfl, isi_mk hd.ty (kit_int d) ⟨_, rfl, ?_⟩⟩
    have e : isI d = ((isI d || isB d) && !isB d) := by cases d <;> rfl
    cases q : (isI d || isB d) with
    | true =>
      refine iteT ⟨_, rfl, isi_mk hd.ty (kit_bool d) ⟨_, rfl, ?_⟩⟩
      rw [q, Bool.true_and] at e
      rw [← e]
      exact k
    | false =>
      rw [q, Bool.false_and] at e
      rw [e] at k
      exact iteF k
def spCnt2 : Sp := fun vs H Q _ => ∃ (p : Addr) (v : V) (d : PyData), vs = [v] ∧ DV p H v d ∧ Q (.bl (isC d)) H
theorem ok_cnt2 {f : Addr} {fd : FuncData} (F : Fun K "is_count" "is_count" sIsCount f fd) (G : Fn P w K mg base 1 "is_integer" ["value"] spInt2) : FnOk P w K mg base CX0 2 f fd ["value"] spCnt2 := by
  refine F.ok scC (fun vs H Q E h => ?_) (fun cdv A outer s H vs Q E hr h => ?_)
  · obtain ⟨p, v, d, rfl, _⟩ := h
    rfl
  · obtain ⟨p, v, d, rfl, hd, k⟩ := h
    refine ⟨_, pss_one (ps_ret (pe_and (pe_fn G hr (pa_cons (pv 0) pa_nil)) (pe_one (pe_cmpR op_ge (pv 0) pe_int (nomark _))))), ?_⟩
    refine ⟨_, rfl, p, v, d, rfl, hd, _, rfl, ?_⟩
    cases hd with
    | int i =>
      refine iteT ⟨_, rfl, _, _, rfl, rfl, ?_⟩
      exact k
    | non => exact iteF k
    | bl b => exact iteF k
    | str x => exact iteF k
    | lst _ _ _ => exact iteF k
    | tup _ _ => exact iteF k
    | dct _ => exact iteF k
def spLst2 : Sp := fun vs H Q _ => ∃ (p : Addr) (v : V) (d : PyData), vs = [v] ∧ DV p H v d ∧ ∀ H', Same H H' → Q (.bl (isLT d)) H'
theorem ok_lst2 {f : Addr} {fd : FuncData} (F : Fun K "is_list" "is_list" sIsList f fd) (n : Nm mg) : FnOk P w K mg base CX0 1 f fd ["value"] spLst2 := by
  refine F.ok scL (fun vs H Q E h => ?_) (fun cdv A outer s H vs Q E hr h => ?_)
  · obtain ⟨p, v, d, rfl, _⟩ := h
    rfl
  · obtain ⟨p, v, d, rfl, hd, k⟩ := h
    refine ⟨_, pss_one (ps_ret (pe_callB call_isiT (by rfl) n.isi (by decide +kernel) (pa_cons (pv 0) (pa_cons (pe_tup (pa_cons (pe_bltn (v := .ty "list") (by rfl) n.list (by decide +kernel) rfl) (pa_cons (pe_bltn (v := .ty "tuple") (by rfl) n.tuple (by decide +kernel) rfl) pa_nil))) pa_nil)))), ?_⟩
    refine ⟨_, rfl, (by show 2 ≤ sizeLine; decide), fun q hq => ?_⟩
    have cs : Paired ClsV [V.ty "list", V.ty "tuple"] [Value.type "list", Value.type "tuple"] := .cons (.ty _) (.cons (.ty _) .nil)
    refine ⟨_, q, _, _, _, isLT d, rfl, upd_same, cs, (hd.same (same_upd hq)).ty, ?_, k _ (same_upd hq)⟩
    refine kitAny_cons (kit_ty (kit_list d)) (fun e1 => kitAny_cons (kit_ty (kit_tuple d)) (fun e2 => ?_) (fun e2 => ?_)) (fun e1 => ?_)
    · have : isLT d = false := by
        cases d <;> first | rfl | exact absurd (show true = false from e1) (by decide) | exact absurd (show true = false from e2) (by decide)
      rw [this]
      rfl
    · cases d <;> first | rfl | exact absurd (show false = true from e2) (by decide)
    · cases d <;> first | rfl | exact absurd (show false = true from e1) (by decide)
end
end L2.K75
end

section
set_option Elab.async false
set_option linter.all false
set_option maxRecDepth 100000
set_option maxHeartbeats 4000000
namespace L2.K75
open PySem PySem.Spec PyProof.Rows L2.Gd
abbrev cCrs (i : Nat) : Stmt := inClass (top 19) i
/-- what is known of a going: where it begins and ends, its deeds, gain and need -/
structure Crs where
  b : Option Int
  f : Option Int
  n : Int
  g : Int
  e : Int
  o : Bool
  v : Bool
def oV : Option Int → V | none => .non | some i => .int i
def cf (c : Crs) : List (Str × V) := putF "vain" (.bl c.v) (putF "only" (.bl c.o) (putF "need" (.int c.e) (putF "gain" (.int c.g) (putF "many" (.int c.n) (putF "finish" (oV c.f) (putF "begin" (oV c.b) []))))))
theorem putF_le {f : Str} {v : V} {l : List (Str × V)} {n : Nat} (h : l.length ≤ n) : (putF f v l).length ≤ n + 1 := Nat.le_trans (length_putF f v l) (Nat.succ_le_succ h)
theorem lt_of20 {l : List (Str × V)} {n : Nat} (h : l.length ≤ n) (hn : n ≤ 20 := by decide) : l.length < 1000 := by omega
theorem cf_b (c : Crs) : (cf c).lookup ("begin" : Str) = some (oV c.b) := by
  unfold cf
  rw [lookup_putF, if_neg (by decide +kernel), lookup_putF, if_neg (by decide +kernel), lookup_putF, if_neg (by decide +kernel), lookup_putF, if_neg (by decide +kernel), lookup_putF, if_neg (by decide +kernel), lookup_putF, if_neg (by decide +kernel), lookup_putF, if_pos rfl]
theorem cf_f (c : Crs) : (cf c).lookup ("finish" : Str) = some (oV c.f) := by
  unfold cf
  rw [lookup_putF, if_neg (by decide +kernel), lookup_putF, if_neg (by decide +kernel), lookup_putF, if_neg (by decide +kernel), lookup_putF, if_neg (by decide +kernel), lookup_putF, if_neg (by decide +kernel), lookup_putF, if_pos rfl]
theorem cf_n (c : Crs) : (cf c).lookup ("many" : Str) = some (.int c.n) := by
  unfold cf
  rw [lookup_putF, if_neg (by decide +kernel), lookup_putF, if_neg (by decide +kernel), lookup_putF, if_neg (by decide +kernel), lookup_putF, if_neg (by decide +kernel), lookup_putF, if_pos rfl]
theorem cf_g (c : Crs) : (cf c).lookup ("gain" : Str) = some (.int c.g) := by
  unfold cf
  rw [lookup_putF, if_neg (by decide +kernel), lookup_putF, if_neg (by decide +kernel), lookup_putF, if_neg (by decide +kernel), lookup_putF, if_pos rfl]
theorem cf_e (c : Crs) : (cf c).lookup ("need" : Str) = some (.int c.e) := by
  unfold cf
  rw [lookup_putF, if_neg (by decide +kernel), lookup_putF, if_neg (by decide +kernel), lookup_putF, if_pos rfl]
theorem cf_o (c : Crs) : (cf c).lookup ("only" : Str) = some (.bl c.o) := by
  unfold cf
  rw [lookup_putF, if_neg (by decide +kernel), lookup_putF, if_pos rfl]
theorem cf_v (c : Crs) : (cf c).lookup ("vain" : Str) = some (.bl c.v) := by
  unfold cf
  rw [lookup_putF, if_pos rfl]
theorem cf_fits (c : Crs) : (cf c).lookup ("fits" : Str) = none := by
  unfold cf
  rw [lookup_putF, if_neg (by decide +kernel), lookup_putF, if_neg (by decide +kernel), lookup_putF, if_neg (by decide +kernel), lookup_putF, if_neg (by decide +kernel), lookup_putF, if_neg (by decide +kernel), lookup_putF, if_neg (by decide +kernel), lookup_putF, if_neg (by decide +kernel)]
  rfl
def CrsAt (C : Addr) (H : Hp) (x : Addr) (c : Crs) : Prop := ∃ dx, H x = some (.ins C dx (cf c))
theorem CrsAt.same {C : Addr} {H H' : Hp} {x : Addr} {c : Crs} (s : Same H H') (h : CrsAt C H x c) : CrsAt C H' x c := let ⟨dx, e⟩ := h; ⟨dx, s _ _ e⟩
structure ClsC (K : PySem.W.Frag) (mg : Str → Option Value) (C : Addr) : Prop where
  cl : Cls K C
  nb : NoAttr K C "begin"
  nf : NoAttr K C "finish"
  nn : NoAttr K C "many"
  ng : NoAttr K C "gain"
  ne : NoAttr K C "need"
  no : NoAttr K C "only"
  nv : NoAttr K C "vain"
  mgC : mg "Course" = some (.ref C)
section
variable {P : Program} {w : World} {K : PySem.W.Frag} {mg : Str → Option Value} {base : Heap} {C : Addr}
def Crs.vs (c : Crs) : List V := [oV c.b, oV c.f, .int c.n, .int c.g, .int c.e, .bl c.o, .bl c.v]
def spCI (C : Addr) : Sp := fun vs H Q _ => ∃ (x dx : Addr) (c : Crs), vs = .ref x :: c.vs ∧ H x = some (.ins C dx []) ∧ ∀ H', H' x = some (.ins C dx (cf c)) → (∀ b o, b ≠ x → H b = some o → H' b = some o) → Q .non H'
def NCi : List Str := ["self", "begin", "finish", "many", "gain", "need", "only", "vain"]
theorem scCi : FnScope NCi NCi (defScope (cCrs 0)) := ⟨rfl, rfl, rfl, by decide +kernel, rfl, by decide +kernel, by decide +kernel⟩
theorem ok_ci {f : Addr} {fd : FuncData} (F : Fun K "__init__" "Course.__init__" (cCrs 0) f fd) (T : ClsC K mg C) : FnOk P w K mg base CX0 1 f fd NCi (spCI C) := by
  refine F.ok scCi (fun vs H Q E h => ?_) (fun cdv A outer s H vs Q E hr h => ?_)
  · obtain ⟨x, dx, c, rfl, _⟩ := h
    rfl
  · obtain ⟨x, dx, c, rfl, hx, k⟩ := h
    refine ⟨_, pss_cons (ps_fld (pv 0) (pv 1) rfl) (pss_cons (ps_fld (pv 0) (pv 2) rfl) (pss_cons (ps_fld (pv 0) (pv 3) rfl) (pss_cons (ps_fld (pv 0) (pv 4) rfl) (pss_cons (ps_fld (pv 0) (pv 5) rfl) (pss_cons (ps_fld (pv 0) (pv 6) rfl) (pss_one (ps_fld (pv 0) (pv 7) rfl))))))), ?_⟩
    refine ⟨_, rfl, _, rfl, x, C, dx, _, rfl, hx, T.cl, T.nb, lt_of20 (show ([] : List (Str × V)).length ≤ 0 from Nat.le_refl _), ?_⟩
    refine ⟨_, rfl, _, rfl, x, C, dx, _, rfl, upd_same, T.cl, T.nf, lt_of20 (putF_le (show ([] : List (Str × V)).length ≤ 0 from Nat.le_refl _)), ?_⟩
    refine ⟨_, rfl, _, rfl, x, C, dx, _, rfl, upd_same, T.cl, T.nn, lt_of20 (putF_le (putF_le (show ([] : List (Str × V)).length ≤ 0 from Nat.le_refl _))), ?_⟩
    refine ⟨_, rfl, _, rfl, x, C, dx, _, rfl, upd_same, T.cl, T.ng, lt_of20 (putF_le (putF_le (putF_le (show ([] : List (Str × V)).length ≤ 0 from Nat.le_refl _)))), ?_⟩
    refine ⟨_, rfl, _, rfl, x, C, dx, _, rfl, upd_same, T.cl, T.ne, lt_of20 (putF_le (putF_le (putF_le (putF_le (show ([] : List (Str × V)).length ≤ 0 from Nat.le_refl _))))), ?_⟩
    refine ⟨_, rfl, _, rfl, x, C, dx, _, rfl, upd_same, T.cl, T.no, lt_of20 (putF_le (putF_le (putF_le (putF_le (putF_le (show ([] : List (Str × V)).length ≤ 0 from Nat.le_refl _)))))), ?_⟩
    refine ⟨_, rfl, _, rfl, x, C, dx, _, rfl, upd_same, T.cl, T.nv, lt_of20 (putF_le (putF_le (putF_le (putF_le (putF_le (putF_le (show ([] : List (Str × V)).length ≤ 0 from Nat.le_refl _))))))), ?_⟩
    refine k _ upd_same fun b o hb e => ?_
    rw [upd_ne hb, upd_ne hb, upd_ne hb, upd_ne hb, upd_ne hb, upd_ne hb, upd_ne hb]
    exact e
/-- Course(..) -/
structure MkC (P : Program) (w : World) (K : PySem.W.Frag) (mg : Str → Option Value) (base : Heap) (C : Addr) : Prop where
  ex : ∃ f fd, Mk K C f ∧ Binds K fd NCi [] ∧ FnOk P w K mg base CX0 1 f fd NCi (spCI C)
theorem pe_crs {X : Cx} {e : Expr} {es : List Expr} {t : TA} {p pos : Pos} (M : MkC X.prog X.w X.K X.mg X.base C) (T : ClsC X.K X.mg C) (hr : Room 2 X.A) (ha : PA X (e :: es) t)
    (hg : Gl X "Course" := by rfl) (he : starEach (e :: es) X.env = (false, eval e X.env) :: starEach es X.env := by rfl)
    (hpl : (backTo pos (starEach es X.env)).any (·.1) = false := by rfl) :
    PE X (.Call (.Name "Course" p) (e :: es) [] pos) (tMake C (spCI C) [] E0 t) := by
  obtain ⟨f, fd, mk, b, F⟩ := M.ex
  exact pe_make mk F hr hg T.mgC b .nil pass0 ha (by decide) he hpl
theorem crs_any {R : Addr → VK} {H : Hp} {E : XK} (c : Crs) (k : ∀ (x : Addr) (H' : Hp), H x = none → Same H H' → CrsAt C H' x c → R x .non H') :
    ∀ x dx, H x = none → H dx = none → dx ≠ x → spCI C (.ref x :: (c.vs ++ [])) (upd (upd H dx (.own x)) x (.ins C dx [])) (R x) E := by
  intro x dx nx ndx ne
  have s0 : Same H (upd (upd H dx (.own x)) x (.ins C dx [])) := fun b o e => by
    rw [upd_ne (ne_of_none e nx), upd_ne (ne_of_none e ndx)]
    exact e
  refine ⟨x, dx, c, by rw [List.append_nil], upd_same, fun H' hx kp => ?_⟩
  exact k x H' nx (fun b o e => kp b o (ne_of_none e nx) (s0 b o e)) ⟨dx, hx⟩

/-! ### fits -/
def fitsC (c : Crs) (p s : Int) : Bool := if c.n = 0 then true else if c.v = true ∨ c.b ≠ some p then false else if c.o = true then decide (s = c.e) else decide (s ≥ c.e)
def spFits (C : Addr) : Sp := fun vs H Q _ => ∃ (x : Addr) (c : Crs) (p s : Int), vs = [.ref x, .int p, .int s] ∧ CrsAt C H x c ∧ Q (.bl (fitsC c p s)) H
theorem scFi : FnScope ["self", "place", "start"] ["self", "place", "start"] (defScope (cCrs 1)) := ⟨rfl, rfl, rfl, by decide +kernel, rfl, by decide +kernel, by decide +kernel⟩
theorem oV_scal (o : Option Int) (p : Int) : scal (oV o) (.int p) = true := by cases o <;> rfl
theorem oV_dec (o : Option Int) (p : Int) : decide (oV o = V.int p) = decide (o = some p) := by
  cases o with
  | none => simp [oV]
  | some i => simp [oV]
theorem ok_fits {f : Addr} {fd : FuncData} (F : Fun K "fits" "Course.fits" (cCrs 1) f fd) (T : ClsC K mg C) : FnOk P w K mg base CX0 1 f fd ["self", "place", "start"] (spFits C) := by
  refine F.ok scFi (fun vs H Q E h => ?_) (fun cdv A outer s H vs Q E hr h => ?_)
  · obtain ⟨x, c, p, s, rfl, _⟩ := h
    rfl
  · obtain ⟨x, c, p, st, rfl, ⟨dx, hx⟩, k⟩ := h
    refine ⟨_, pss_cons (ps_if (pt_cmpR op_eq (pe_fld (pv 0) rfl) pe_int (nomark _)) (pss_one (ps_ret pe_bl)) pss_nil)
      (pss_cons (ps_if (pw_or (pt_val (pe_fld (pv 0) rfl)) (pw_or1 (pt_cmpR op_ne (pe_fld (pv 0) rfl) (pv 1) (nomark _)))).pt (pss_one (ps_ret pe_bl)) pss_nil)
      (pss_one (ps_ret (pe_ifExp (pt_val (pe_fld (pv 0) rfl)) (pe_cmpR op_eq (pv 2) (pe_fld (pv 0) rfl) (nomark _)) (pe_cmpR op_ge (pv 2) (pe_fld (pv 0) rfl) (nomark _)))))), ?_⟩
    refine ⟨_, rfl, x, C, dx, _, _, rfl, hx, T.cl, T.nn, cf_n c, rfl, decide (V.int c.n = V.int 0), rfl, ?_⟩
    unfold fitsC at k
    by_cases h0 : c.n = 0
    · rw [if_pos h0] at k
      rw [decide_eq_true (by rw [h0])]
      exact iteT k
    · rw [if_neg h0] at k
      rw [decide_eq_false (by simpa using h0)]
      refine iteF ?_
      refine ⟨_, rfl, x, C, dx, _, _, rfl, hx, T.cl, T.nv, cf_v c, c.v, rfl, ?_⟩
      cases hv : c.v with
      | true =>
        rw [if_pos (.inl hv)] at k
        exact iteT k
      | false =>
        refine iteF ⟨_, rfl, x, C, dx, _, _, rfl, hx, T.cl, T.nb, cf_b c, _, rfl, oV_scal _ _, !decide (c.b = some p), congrArg (fun b => V.bl (!b)) (oV_dec _ _), ?_⟩
        by_cases hb : c.b = some p
        · rw [if_neg (by rw [hv]; simp [hb])] at k
          rw [decide_eq_true hb]
          refine iteF ⟨_, rfl, x, C, dx, _, _, rfl, hx, T.cl, T.no, cf_o c, c.o, rfl, ?_⟩
          cases ho : c.o with
          | true =>
            rw [if_pos ho] at k
            refine iteT ⟨_, rfl, _, rfl, x, C, dx, _, _, rfl, hx, T.cl, T.ne, cf_e c, rfl, ?_⟩
            have e : decide (V.int st = V.int c.e) = decide (st = c.e) := by simp
            rw [e]
            exact k
          | false =>
            rw [if_neg (by rw [ho]; decide)] at k
            exact iteF ⟨_, rfl, _, rfl, x, C, dx, _, _, rfl, hx, T.cl, T.ne, cf_e c, _, _, rfl, rfl, k⟩
        · rw [if_pos (.inr hb)] at k
          rw [decide_eq_false hb]
          exact iteT k

/-! ### no_course, deed_course -/
def noC : Crs := ⟨none, none, 0, 0, 0, false, false⟩
def deedC (d : Dd) : Crs := ⟨some d.p, some d.g, 1, d.c, if 0 - d.c > 0 then 0 - d.c else 0, decide (d.w = "empty"), false⟩
def spNo (C : Addr) : Sp := fun vs H Q _ => vs = [] ∧ ∀ x H', H x = none → Same H H' → CrsAt C H' x noC → Q (.ref x) H'
theorem scNo : FnScope [] [] (defScope (top 20)) := ⟨rfl, rfl, rfl, by decide +kernel, rfl, by decide +kernel, by decide +kernel⟩
theorem ok_no {f : Addr} {fd : FuncData} (F : Fun K "no_course" "no_course" (top 20) f fd) (T : ClsC K mg C) (M : MkC P w K mg base C) : FnOk P w K mg base CX0 3 f fd [] (spNo C) := by
  refine F.ok scNo (fun vs H Q E h => ?_) (fun cdv A outer s H vs Q E hr h => ?_)
  · obtain ⟨rfl, _⟩ := h
    rfl
  · obtain ⟨rfl, k⟩ := h
    refine ⟨_, pss_one (ps_ret (pe_crs M T hr (pa_cons pe_non (pa_cons pe_non (pa_cons pe_int (pa_cons pe_int (pa_cons pe_int (pa_cons pe_bl (pa_cons pe_bl pa_nil))))))))), ?_⟩
    exact crs_any noC fun x H' nx s hc => ⟨rfl, k x H' nx s hc⟩
def spDC (C : Addr) : Sp := fun vs H Q _ => ∃ (t : Addr) (d : Dd), vs = [.ref t] ∧ H t = some (.tup d.vs) ∧ ∀ x H', H x = none → Same H H' → CrsAt C H' x (deedC d) → Q (.ref x) H'
theorem scDC : FnScope ["deed", "place", "change", "goal", "when"] ["deed"] (defScope (top 21)) := ⟨rfl, rfl, rfl, by decide +kernel, rfl, by decide +kernel, by decide +kernel⟩
theorem ok_dc {f : Addr} {fd : FuncData} (F : Fun K "deed_course" "deed_course" (top 21) f fd) (n : Nm mg) (T : ClsC K mg C) (M : MkC P w K mg base C) : FnOk P w K mg base CX0 3 f fd ["deed"] (spDC C) := by
  refine F.ok scDC (fun vs H Q E h => ?_) (fun cdv A outer s H vs Q E hr h => ?_)
  · obtain ⟨t, d, rfl, _⟩ := h
    rfl
  · obtain ⟨t, d, rfl, ht, k⟩ := h
    have N := scDC.nd
    refine ⟨_, pss_cons (ps_asg (pv 0) (pg_tup rfl (pgs_cons (pg_name (i := 1) N rfl (.inl rfl)) (pgs_cons (pg_name (i := 2) N rfl (.inl rfl)) (pgs_cons (pg_name (i := 3) N rfl (.inl rfl)) (pgs_cons (pg_name (i := 4) N rfl (.inl rfl)) pgs_nil))))))
      (pss_one (ps_ret (pe_crs M T hr (pa_cons (pv 1) (pa_cons (pv 3) (pa_cons pe_int (pa_cons (pv 2) (pa_cons (pe_callB (call_max2 rfl) (by rfl) n.max (by decide +kernel) (pa_cons pe_int (pa_cons (pe_op op_sub pe_int (pv 2)) pa_nil)))
        (pa_cons (pe_cmpR op_eq (pv 4) pe_str (nomark _)) (pa_cons pe_bl pa_nil)))))))))), ?_⟩
    refine ⟨_, rfl, t, _, rfl, .inl (.inl ht), rfl, _, _, rfl, _, _, rfl, _, _, rfl, _, _, rfl, rfl, ?_⟩
    refine ⟨_, rfl, _, rfl, _, rfl, _, rfl, _, _, rfl, rfl, _, _, rfl, _, rfl, rfl, ?_⟩
    have e : decide (V.str d.w = V.str "empty") = decide (d.w = "empty") := by simp
    rw [e]
    exact crs_any (deedC d) fun x H' nx s hc => ⟨rfl, k x H' nx s hc⟩
end
end L2.K75
end

section
set_option Elab.async false
set_option linter.all false
set_option maxRecDepth 100000
set_option maxHeartbeats 4000000
namespace L2.K75
open PySem PySem.Spec PyProof.Rows L2.Gd
section
variable {P : Program} {w : World} {K : PySem.W.Frag} {mg : Str → Option Value} {base : Heap} {C : Addr}

/-! ### one going behind another -/
def vainB (a b : Crs) : Bool := if a.o = true then (if b.o = true then !decide (a.e + a.g = b.e) else decide (a.e + a.g < b.e)) else b.o && decide (b.e - a.g < a.e)
def needB (a b : Crs) : Int := if a.o = true then a.e else if b.o = true then b.e - a.g else if b.e - a.g > a.e then b.e - a.g else a.e
def behC (a b : Crs) : Option Crs := if a.n = 0 then some b else if b.n = 0 then some a else if a.f ≠ b.b then none else
  some ⟨a.b, b.f, a.n + b.n, a.g + b.g, needB a b, a.o || b.o, a.v || (b.v || vainB a b)⟩
def spVB (C : Addr) : Sp := fun vs H Q _ => ∃ (x y : Addr) (a b : Crs), vs = [.ref x, .ref y] ∧ CrsAt C H x a ∧ CrsAt C H y b ∧ Q (.bl (vainB a b)) H
theorem scVB : FnScope ["one", "two", "end"] ["one", "two"] (defScope (top 22)) := ⟨rfl, rfl, rfl, by decide +kernel, rfl, by decide +kernel, by decide +kernel⟩
theorem ok_vb {f : Addr} {fd : FuncData} (F : Fun K "is_vain_behind" "is_vain_behind" (top 22) f fd) (T : ClsC K mg C) : FnOk P w K mg base CX0 1 f fd ["one", "two"] (spVB C) := by
  refine F.ok scVB (fun vs H Q E h => ?_) (fun cdv A outer s H vs Q E hr h => ?_)
  · obtain ⟨x, y, a, b, rfl, _⟩ := h
    rfl
  · obtain ⟨x, y, a, b, rfl, ⟨dx, hx⟩, ⟨dy, hy⟩, k⟩ := h
    have N := scVB.nd
    refine ⟨_, pss_cons (ps_if (pt_not (pt_val (pe_fld (pv 0) rfl))) (pss_one (ps_ret (pe_and (pe_fld (pv 1) rfl) (pe_one (pe_cmpR op_lt (pe_op op_sub (pe_fld (pv 1) rfl) (pe_fld (pv 0) rfl)) (pe_fld (pv 0) rfl) (nomark _)))))) pss_nil)
      (pss_cons (ps_set (i := 2) N rfl (.inl rfl) (pe_op op_add (pe_fld (pv 0) rfl) (pe_fld (pv 0) rfl)))
      (pss_one (ps_ret (pe_ifExp (pt_val (pe_fld (pv 1) rfl)) (pe_cmpR op_ne (pv 2) (pe_fld (pv 1) rfl) (nomark _)) (pe_cmpR op_lt (pv 2) (pe_fld (pv 1) rfl) (nomark _)))))), ?_⟩
    unfold vainB at k
    refine ⟨_, rfl, x, C, dx, _, _, rfl, hx, T.cl, T.no, cf_o a, a.o, rfl, ?_⟩
    cases ho : a.o with
    | false =>
      rw [if_neg (by rw [ho]; decide)] at k
      refine iteT ⟨_, rfl, y, C, dy, _, _, rfl, hy, T.cl, T.no, cf_o b, b.o, rfl, ?_⟩
      cases hb : b.o with
      | true =>
        rw [hb, Bool.true_and] at k
        exact iteT ⟨_, rfl, y, C, dy, _, _, rfl, hy, T.cl, T.ne, cf_e b, _, rfl, x, C, dx, _, _, rfl, hx, T.cl, T.ng, cf_g a, _, _, rfl, rfl, _, rfl, x, C, dx, _, _, rfl, hx, T.cl, T.ne, cf_e a, _, _, rfl, rfl, k⟩
      | false =>
        rw [hb, Bool.false_and] at k
        exact iteF k
    | true =>
      rw [if_pos ho] at k
      refine iteF ⟨_, rfl, x, C, dx, _, _, rfl, hx, T.cl, T.ne, cf_e a, _, rfl, x, C, dx, _, _, rfl, hx, T.cl, T.ng, cf_g a, _, _, rfl, rfl, ?_⟩
      refine ⟨_, rfl, y, C, dy, _, _, rfl, hy, T.cl, T.no, cf_o b, b.o, rfl, ?_⟩
      cases hb : b.o with
      | true =>
        rw [if_pos hb] at k
        refine iteT ⟨_, rfl, _, rfl, y, C, dy, _, _, rfl, hy, T.cl, T.ne, cf_e b, rfl, ?_⟩
        have e : decide (V.int (a.e + a.g) = V.int b.e) = decide (a.e + a.g = b.e) := by simp
        show Q (.bl (!decide (V.int (a.e + a.g) = V.int b.e))) H
        rw [e]
        exact k
      | false =>
        rw [if_neg (by rw [hb]; decide)] at k
        exact iteF ⟨_, rfl, _, rfl, y, C, dy, _, _, rfl, hy, T.cl, T.ne, cf_e b, _, _, rfl, rfl, k⟩
/-- a going or nothing -/
def CV (C : Addr) (H : Hp) : V → Option Crs → Prop
  | v, none => v = .non
  | v, some c => ∃ x, v = .ref x ∧ CrsAt C H x c
theorem CV.same {C : Addr} {H H' : Hp} {v : V} {c : Option Crs} (s : Same H H') (h : CV C H v c) : CV C H' v c := by
  cases c with
  | none => exact h
  | some c => exact let ⟨x, e, q⟩ := h; ⟨x, e, q.same s⟩
/-- where something was done there are a begin and an end -/
def Crs.Wf (c : Crs) : Prop := (c.n = 0 ∧ c.b = none ∧ c.f = none) ∨ (0 < c.n ∧ c.b.isSome = true ∧ c.f.isSome = true)
theorem oV_scal2 {o o' : Option Int} : scal (oV o) (oV o') = true := by cases o <;> cases o' <;> rfl
theorem oV_dec2 (o o' : Option Int) : decide (oV o = oV o') = decide (o = o') := by
  cases o <;> cases o' <;> simp [oV]
def spBA (C : Addr) : Sp := fun vs H Q _ => ∃ (x y : Addr) (a b : Crs), vs = [.ref x, .ref y] ∧ CrsAt C H x a ∧ CrsAt C H y b ∧ ∀ v H', Same H H' → CV C H' v (behC a b) → Q v H'
def NBA : List Str := ["one", "two", "need", "vain"]
theorem scBA : FnScope NBA ["one", "two"] (defScope (top 23)) := ⟨rfl, rfl, rfl, by decide +kernel, rfl, by decide +kernel, by decide +kernel⟩
theorem ok_ba {f : Addr} {fd : FuncData} (F : Fun K "behind_another" "behind_another" (top 23) f fd) (n : Nm mg) (T : ClsC K mg C) (M : MkC P w K mg base C) (GV : Fn P w K mg base 1 "is_vain_behind" ["one", "two"] (spVB C)) :
    FnOk P w K mg base CX0 3 f fd ["one", "two"] (spBA C) := by
  refine F.ok scBA (fun vs H Q E h => ?_) (fun cdv A outer s H vs Q E hr h => ?_)
  · obtain ⟨x, y, a, b, rfl, _⟩ := h
    rfl
  · obtain ⟨x, y, a, b, rfl, ca, cb, k⟩ := h
    obtain ⟨dx, hx⟩ := id ca
    obtain ⟨dy, hy⟩ := id cb
    have N := scBA.nd
    refine ⟨_, pss_cons (ps_if (pw_or (pt_cmpR op_eq (pe_fld (pv 0) rfl) pe_int (nomark _)) (pw_or1 (pt_cmpR op_eq (pe_fld (pv 1) rfl) pe_int (nomark _)))).pt
        (pss_one (ps_ret (pe_ifExp (pt_cmpR op_eq (pe_fld (pv 0) rfl) pe_int (nomark _)) (pv 1) (pv 0)))) pss_nil)
      (pss_cons (ps_if (pt_cmpR op_ne (pe_fld (pv 0) rfl) (pe_fld (pv 1) rfl) (nomark _)) (pss_one (ps_ret pe_non)) pss_nil)
      (pss_cons (ps_set (i := 2) N rfl (.inl rfl) (pe_fld (pv 0) rfl))
      (pss_cons (ps_if (pt_not (pt_val (pe_fld (pv 0) rfl))) (pss_one (ps_set (i := 2) N rfl (.inl rfl) (pe_ifExp (pt_val (pe_fld (pv 1) rfl)) (pe_op op_sub (pe_fld (pv 1) rfl) (pe_fld (pv 0) rfl))
          (pe_callB (call_max2 rfl) (by rfl) n.max (by decide +kernel) (pa_cons (pe_fld (pv 0) rfl) (pa_cons (pe_op op_sub (pe_fld (pv 1) rfl) (pe_fld (pv 0) rfl)) pa_nil)))))) pss_nil)
      (pss_cons (ps_set (i := 3) N rfl (.inl rfl) (pe_or (pe_fld (pv 0) rfl) (pe_or (pe_fld (pv 1) rfl) (pe_one (pe_fn GV (hr.mono (by decide)) (pa_cons (pv 0) (pa_cons (pv 1) pa_nil)))))))
      (pss_one (ps_ret (pe_crs M T hr (pa_cons (pe_fld (pv 0) rfl) (pa_cons (pe_fld (pv 1) rfl) (pa_cons (pe_op op_add (pe_fld (pv 0) rfl) (pe_fld (pv 1) rfl)) (pa_cons (pe_op op_add (pe_fld (pv 0) rfl) (pe_fld (pv 1) rfl)) (pa_cons (pv 2)
        (pa_cons (pe_or (pe_fld (pv 0) rfl) (pe_one (pe_fld (pv 1) rfl))) (pa_cons (pv 3) pa_nil)))))))))))))), ?_⟩
    unfold behC at k
    refine seqV (Good := fun σ2 H2 => a.n ≠ 0 ∧ b.n ≠ 0 ∧ σ2 = [some (.ref x), some (.ref y), none, none] ∧ H = H2) ?_ ?_
    · intro nx hnx
      refine ⟨_, rfl, x, C, dx, _, _, rfl, hx, T.cl, T.nn, cf_n a, rfl, decide (V.int a.n = V.int 0), rfl, ?_⟩
      by_cases ha0 : a.n = 0
      · rw [if_pos ha0] at k
        rw [decide_eq_true (by rw [ha0])]
        refine iteT ⟨_, rfl, x, C, dx, _, _, rfl, hx, T.cl, T.nn, cf_n a, rfl, decide (V.int a.n = V.int 0), rfl, ?_⟩
        rw [decide_eq_true (by rw [ha0])]
        exact iteT ⟨_, rfl, k _ H (fun _ _ z => z) ⟨y, rfl, cb⟩⟩
      · rw [if_neg ha0] at k
        rw [decide_eq_false (by simpa using ha0)]
        refine iteF ⟨_, rfl, y, C, dy, _, _, rfl, hy, T.cl, T.nn, cf_n b, rfl, decide (V.int b.n = V.int 0), rfl, ?_⟩
        by_cases hb0 : b.n = 0
        · rw [if_pos hb0] at k
          rw [decide_eq_true (by rw [hb0])]
          refine iteT ⟨_, rfl, x, C, dx, _, _, rfl, hx, T.cl, T.nn, cf_n a, rfl, decide (V.int a.n = V.int 0), rfl, ?_⟩
          rw [decide_eq_false (by simpa using ha0)]
          exact iteF ⟨_, rfl, k _ H (fun _ _ z => z) ⟨x, rfl, ca⟩⟩
        · rw [decide_eq_false (by simpa using hb0)]
          exact iteF (hnx _ _ ⟨ha0, hb0, rfl, rfl⟩)
    rintro _ _ ⟨ha0, hb0, rfl, rfl⟩
    rw [if_neg ha0, if_neg hb0] at k
    refine seqV (Good := fun σ2 H2 => a.f = b.b ∧ σ2 = [some (.ref x), some (.ref y), none, none] ∧ H = H2) ?_ ?_
    · intro nx hnx
      refine ⟨_, rfl, x, C, dx, _, _, rfl, hx, T.cl, T.nf, cf_f a, _, rfl, y, C, dy, _, _, rfl, hy, T.cl, T.nb, cf_b b, oV_scal2, !decide (a.f = b.b), congrArg (fun b => V.bl (!b)) (oV_dec2 _ _), ?_⟩
      by_cases hf : a.f = b.b
      · rw [decide_eq_true hf]
        exact iteF (hnx _ _ ⟨hf, rfl, rfl⟩)
      · rw [if_pos hf] at k
        rw [decide_eq_false hf]
        exact iteT (k .non H (fun _ _ z => z) rfl)
    rintro _ _ ⟨hf, rfl, rfl⟩
    rw [if_neg (by simpa using hf)] at k
    refine seqV (Good := fun σ2 H2 => σ2 = [some (.ref x), some (.ref y), some (.int a.e), none] ∧ H = H2) (fun nx hnx => ⟨_, rfl, x, C, dx, _, _, rfl, hx, T.cl, T.ne, cf_e a, hnx _ _ ⟨rfl, rfl⟩⟩) ?_
    rintro _ _ ⟨rfl, rfl⟩
    refine seqV (Good := fun σ2 H2 => σ2 = [some (.ref x), some (.ref y), some (.int (needB a b)), none] ∧ H = H2) ?_ ?_
    · intro nx hnx
      refine ⟨_, rfl, x, C, dx, _, _, rfl, hx, T.cl, T.no, cf_o a, a.o, rfl, ?_⟩
      cases ho : a.o with
      | true =>
        have e : needB a b = a.e := by unfold needB; rw [if_pos ho]
        exact iteF (hnx _ _ ⟨by rw [e], rfl⟩)
      | false =>
        refine iteT ⟨_, rfl, y, C, dy, _, _, rfl, hy, T.cl, T.no, cf_o b, b.o, rfl, ?_⟩
        cases hb : b.o with
        | true =>
          have e : needB a b = b.e - a.g := by unfold needB; rw [if_neg (by rw [ho]; decide), if_pos hb]
          exact iteT ⟨_, rfl, y, C, dy, _, _, rfl, hy, T.cl, T.ne, cf_e b, _, rfl, x, C, dx, _, _, rfl, hx, T.cl, T.ng, cf_g a, _, _, rfl, rfl, hnx _ _ ⟨by rw [e]; rfl, rfl⟩⟩
        | false =>
          have e : needB a b = if b.e - a.g > a.e then b.e - a.g else a.e := by unfold needB; rw [if_neg (by rw [ho]; decide), if_neg (by rw [hb]; decide)]
          exact iteF ⟨_, rfl, x, C, dx, _, _, rfl, hx, T.cl, T.ne, cf_e a, _, rfl, y, C, dy, _, _, rfl, hy, T.cl, T.ne, cf_e b, _, rfl, x, C, dx, _, _, rfl, hx, T.cl, T.ng, cf_g a, _, _, rfl, rfl, _, _, rfl, hnx _ _ ⟨by rw [e]; rfl, rfl⟩⟩
    rintro _ _ ⟨rfl, rfl⟩
    refine seqV (Good := fun σ2 H2 => σ2 = [some (.ref x), some (.ref y), some (.int (needB a b)), some (.bl (a.v || (b.v || vainB a b)))] ∧ H = H2) ?_ ?_
    · intro nx hnx
      refine ⟨_, rfl, x, C, dx, _, _, rfl, hx, T.cl, T.nv, cf_v a, a.v, rfl, ?_⟩
      cases hva : a.v with
      | true => exact iteT (hnx _ _ ⟨by rw [hva]; rfl, rfl⟩)
      | false =>
        refine iteF ⟨_, rfl, y, C, dy, _, _, rfl, hy, T.cl, T.nv, cf_v b, b.v, rfl, ?_⟩
        cases hvb : b.v with
        | true => exact iteT (hnx _ _ ⟨by rw [hva, hvb]; rfl, rfl⟩)
        | false => exact iteF ⟨_, rfl, _, rfl, x, y, a, b, rfl, ca, cb, hnx _ _ ⟨by rw [hva, hvb]; rfl, rfl⟩⟩
    rintro _ _ ⟨rfl, rfl⟩
    refine ⟨_, rfl, x, C, dx, _, _, rfl, hx, T.cl, T.nb, cf_b a, _, rfl, y, C, dy, _, _, rfl, hy, T.cl, T.nf, cf_f b, _, rfl, x, C, dx, _, _, rfl, hx, T.cl, T.nn, cf_n a, _, rfl, y, C, dy, _, _, rfl, hy, T.cl, T.nn, cf_n b, _, _, rfl, rfl,
      _, rfl, x, C, dx, _, _, rfl, hx, T.cl, T.ng, cf_g a, _, rfl, y, C, dy, _, _, rfl, hy, T.cl, T.ng, cf_g b, _, _, rfl, rfl, _, rfl, _, rfl, x, C, dx, _, _, rfl, hx, T.cl, T.no, cf_o a, a.o, rfl, ?_⟩
    have fin : ∀ u : Bool, u = (a.o || b.o) → ∀ x2 dx2, H x2 = none → H dx2 = none → dx2 ≠ x2 → spCI C (.ref x2 :: ([oV a.b, oV b.f, .int (a.n + b.n), .int (a.g + b.g), .int (needB a b), .bl u, .bl (a.v || (b.v || vainB a b))] ++ [])) (upd (upd H dx2 (.own x2)) x2 (.ins C dx2 [])) (fun v H3 => v = .non ∧ Q (.ref x2) H3) E0 := by
      rintro _ rfl
      exact crs_any ⟨a.b, b.f, a.n + b.n, a.g + b.g, needB a b, a.o || b.o, a.v || (b.v || vainB a b)⟩ fun x2 H' nx s hc => ⟨rfl, k _ H' s ⟨x2, rfl, hc⟩⟩
    cases ho : a.o with
    | true => exact iteT ⟨_, rfl, fin true (by rw [ho]; rfl)⟩
    | false => exact iteF ⟨_, rfl, y, C, dy, _, _, rfl, hy, T.cl, T.no, cf_o b, _, rfl, fin b.o (by rw [ho]; rfl)⟩

/-! ### done often -/
def oftC (c : Crs) (t : Int) : Option Crs := if t = 1 then some c else if c.b ≠ c.f then none else
  some ⟨c.b, c.f, c.n * t, c.g * t, if c.o = true then c.e else if c.g < 0 then c.e - (t - 1) * c.g else c.e, c.o, if c.o = true then (c.v || !decide (c.g = 0)) else c.v⟩
/-- what fits a product -/
structure BgC (c : Crs) : Prop where
  n : c.n.natAbs < 2 ^ 200
  g : c.g.natAbs < 2 ^ 200
structure OfB (c : Crs) (t : Int) : Prop where
  b : BgC c
  t0 : 0 ≤ t
  t1 : t.natAbs < 2 ^ 99
theorem OfB.mn {c : Crs} {t : Int} (h : OfB c t) : CMulW c.n t := wide_mul h.b.n h.t1 (by decide) (by decide) (by decide)
theorem OfB.mgg {c : Crs} {t : Int} (h : OfB c t) : CMulW c.g t := wide_mul h.b.g h.t1 (by decide) (by decide) (by decide)
theorem OfB.m1 {c : Crs} {t : Int} (h : OfB c t) : CMulW (t - 1) c.g := wide_mul (a := 100) (by
  have h1 := h.t1
  have h0 := h.t0
  have e : (2 : Nat) ^ 100 = 2 * 2 ^ 99 := by decide
  rw [e]
  generalize (2 : Nat) ^ 99 = z at h1
  omega) h.b.g (by decide) (by decide) (by decide)
def spOf (C : Addr) : Sp := fun vs H Q _ => ∃ (x : Addr) (c : Crs) (t : Int), vs = [.ref x, .int t] ∧ CrsAt C H x c ∧ OfB c t ∧ True ∧ ∀ v H', Same H H' → CV C H' v (oftC c t) → Q v H'
def NOf : List Str := ["course", "times", "need", "vain"]
theorem scOf : FnScope NOf ["course", "times"] (defScope (top 24)) := ⟨rfl, rfl, rfl, by decide +kernel, rfl, by decide +kernel, by decide +kernel⟩
theorem ok_of {f : Addr} {fd : FuncData} (F : Fun K "done_often" "done_often" (top 24) f fd) (T : ClsC K mg C) (M : MkC P w K mg base C) : FnOk P w K mg base CX0 3 f fd ["course", "times"] (spOf C) := by
  refine F.ok scOf (fun vs H Q E h => ?_) (fun cdv A outer s H vs Q E hr h => ?_)
  · obtain ⟨x, c, t, rfl, _⟩ := h
    rfl
  · obtain ⟨x, c, t, rfl, cc, t0, t1, k⟩ := h
    obtain ⟨dx, hx⟩ := id cc
    have N := scOf.nd
    refine ⟨_, pss_cons (ps_if (pt_cmpR op_eq (pv 1) pe_int (nomark _)) (pss_one (ps_ret (pv 0))) pss_nil)
      (pss_cons (ps_if (pt_cmpR op_ne (pe_fld (pv 0) rfl) (pe_fld (pv 0) rfl) (nomark _)) (pss_one (ps_ret pe_non)) pss_nil)
      (pss_cons (ps_par (i := 2) (j := 3) rfl N rfl rfl (by decide) rfl rfl (pa_cons (pe_fld (pv 0) rfl) (pa_cons (pe_fld (pv 0) rfl) pa_nil)) (by rfl))
      (pss_cons (ps_if (pt_val (pe_fld (pv 0) rfl)) (pss_one (ps_set (i := 3) N rfl (.inl rfl) (pe_or (pv 3) (pe_one (pe_cmpR op_ne (pe_fld (pv 0) rfl) pe_int (nomark _))))))
        (pss_one (ps_if (pt_cmpR op_lt (pe_fld (pv 0) rfl) pe_int (nomark _)) (pss_one (ps_set (i := 2) N rfl (.inl rfl) (pe_op op_sub (pv 2) (pe_op op_mulW (pe_op op_sub (pv 1) pe_int) (pe_fld (pv 0) rfl))))) pss_nil)))
      (pss_one (ps_ret (pe_crs M T hr (pa_cons (pe_fld (pv 0) rfl) (pa_cons (pe_fld (pv 0) rfl) (pa_cons (pe_op op_mulW (pe_fld (pv 0) rfl) (pv 1)) (pa_cons (pe_op op_mulW (pe_fld (pv 0) rfl) (pv 1)) (pa_cons (pv 2) (pa_cons (pe_fld (pv 0) rfl) (pa_cons (pv 3) pa_nil))))))))))))), ?_⟩
    unfold oftC at k
    refine seqV (Good := fun σ2 H2 => t ≠ 1 ∧ σ2 = [some (.ref x), some (.int t), none, none] ∧ H = H2) ?_ ?_
    · intro nx hnx
      refine ⟨_, rfl, rfl, decide (V.int t = V.int 1), rfl, ?_⟩
      by_cases h1 : t = 1
      · rw [if_pos h1] at k
        rw [decide_eq_true (by rw [h1])]
        exact iteT ⟨_, rfl, k _ H (fun _ _ z => z) ⟨x, rfl, cc⟩⟩
      · rw [decide_eq_false (by simpa using h1)]
        exact iteF (hnx _ _ ⟨h1, rfl, rfl⟩)
    rintro _ _ ⟨h1, rfl, rfl⟩
    rw [if_neg h1] at k
    refine seqV (Good := fun σ2 H2 => c.b = c.f ∧ σ2 = [some (.ref x), some (.int t), none, none] ∧ H = H2) ?_ ?_
    · intro nx hnx
      refine ⟨_, rfl, x, C, dx, _, _, rfl, hx, T.cl, T.nb, cf_b c, _, rfl, x, C, dx, _, _, rfl, hx, T.cl, T.nf, cf_f c, oV_scal2, !decide (c.b = c.f), congrArg (fun b => V.bl (!b)) (oV_dec2 _ _), ?_⟩
      by_cases hf : c.b = c.f
      · rw [decide_eq_true hf]
        exact iteF (hnx _ _ ⟨hf, rfl, rfl⟩)
      · rw [if_pos hf] at k
        rw [decide_eq_false hf]
        exact iteT (k .non H (fun _ _ z => z) rfl)
    rintro _ _ ⟨hf, rfl, rfl⟩
    rw [if_neg (by simpa using hf)] at k
    refine seqV (Good := fun σ2 H2 => σ2 = [some (.ref x), some (.int t), some (.int c.e), some (.bl c.v)] ∧ H = H2)
      (fun nx hnx => ⟨_, rfl, x, C, dx, _, _, rfl, hx, T.cl, T.ne, cf_e c, _, rfl, x, C, dx, _, _, rfl, hx, T.cl, T.nv, cf_v c, _, _, rfl, hnx _ _ ⟨rfl, rfl⟩⟩) ?_
    rintro _ _ ⟨rfl, rfl⟩
    refine seqV (Good := fun σ2 H2 => σ2 = [some (.ref x), some (.int t), some (.int (if c.o = true then c.e else if c.g < 0 then c.e - (t - 1) * c.g else c.e)), some (.bl (if c.o = true then (c.v || !decide (c.g = 0)) else c.v))] ∧ H = H2) ?_ ?_
    · intro nx hnx
      refine ⟨_, rfl, x, C, dx, _, _, rfl, hx, T.cl, T.no, cf_o c, c.o, rfl, ?_⟩
      cases ho : c.o with
      | true =>
        have e1 : (if c.o = true then c.e else if c.g < 0 then c.e - (t - 1) * c.g else c.e) = c.e := if_pos ho
        have e2 : (if c.o = true then (c.v || !decide (c.g = 0)) else c.v) = (c.v || !decide (c.g = 0)) := if_pos ho
        refine iteT ⟨_, rfl, c.v, rfl, ?_⟩
        cases hv : c.v with
        | true => exact iteT (hnx _ _ ⟨by rw [e1, e2, hv]; rfl, rfl⟩)
        | false =>
          refine iteF ⟨_, rfl, x, C, dx, _, _, rfl, hx, T.cl, T.ng, cf_g c, rfl, ?_⟩
          refine hnx _ _ ⟨?_, rfl⟩
          rw [e1, e2, hv]
          show [some (V.ref x), some (V.int t), some (V.int c.e), some (V.bl (!decide (V.int c.g = V.int 0)))] = _
          have e : decide (V.int c.g = V.int 0) = decide (c.g = 0) := by simp
          rw [e, Bool.false_or]
      | false =>
        have e1 : (if c.o = true then c.e else if c.g < 0 then c.e - (t - 1) * c.g else c.e) = if c.g < 0 then c.e - (t - 1) * c.g else c.e := if_neg (by rw [ho]; decide)
        have e2 : (if c.o = true then (c.v || !decide (c.g = 0)) else c.v) = c.v := if_neg (by rw [ho]; decide)
        refine iteF ⟨_, rfl, x, C, dx, _, _, rfl, hx, T.cl, T.ng, cf_g c, _, _, rfl, rfl, decide (c.g < 0), rfl, ?_⟩
        by_cases hg : c.g < 0
        · rw [decide_eq_true hg]
          refine iteT ⟨_, rfl, _, rfl, _, _, rfl, rfl, _, rfl, x, C, dx, _, _, rfl, hx, T.cl, T.ng, cf_g c, _, _, rfl, rfl, t0.m1, _, _, rfl, rfl, ?_⟩
          exact hnx _ _ ⟨by rw [e1, e2, if_pos hg]; rfl, rfl⟩
        · rw [decide_eq_false hg]
          exact iteF (hnx _ _ ⟨by rw [e1, e2, if_neg hg], rfl⟩)
    rintro _ _ ⟨rfl, rfl⟩
    refine ⟨_, rfl, x, C, dx, _, _, rfl, hx, T.cl, T.nb, cf_b c, _, rfl, x, C, dx, _, _, rfl, hx, T.cl, T.nf, cf_f c, _, rfl, x, C, dx, _, _, rfl, hx, T.cl, T.nn, cf_n c, _, rfl, _, _, rfl, rfl, t0.mn,
      _, rfl, x, C, dx, _, _, rfl, hx, T.cl, T.ng, cf_g c, _, rfl, _, _, rfl, rfl, t0.mgg, _, rfl, _, rfl, x, C, dx, _, _, rfl, hx, T.cl, T.no, cf_o c, _, rfl, ?_⟩
    exact crs_any ⟨c.b, c.f, c.n * t, c.g * t, if c.o = true then c.e else if c.g < 0 then c.e - (t - 1) * c.g else c.e, c.o, if c.o = true then (c.v || !decide (c.g = 0)) else c.v⟩ fun x2 H' nx s hc => ⟨rfl, k _ H' s ⟨x2, rfl, hc⟩⟩
end
end L2.K75
end

section
set_option Elab.async false
set_option linter.all false
set_option maxRecDepth 100000
set_option maxHeartbeats 4000000
namespace L2.K75
open PySem PySem.Spec PyProof.Rows L2.Gd
/-! ### the form of a going -/
def itemF (hf : PyData → Bool) (m : Int) : PyData → Bool
  | .tuple [x, y] => isC y && hf x
  | .tuple _ => false
  | .int i => decide (0 ≤ i) && decide (i < m)
  | _ => false
def seqOf : PyData → Option (List PyData)
  | .list ds => some ds
  | .tuple ds => some ds
  | _ => none
def hasF : Nat → Int → PyData → Bool
  | 0, _, _ => false
  | k + 1, m, d => match seqOf d with
    | some ds => ds.all (itemF (hasF k m) m)
    | none => false
section
variable {P : Program} {w : World} {K : PySem.W.Frag} {mg : Str → Option Value} {base : Heap} {C : Addr}
def spHF (k : Nat) : Sp := fun vs H Q _ => ∃ (p : Addr) (m : Int) (v : V) (d : PyData), vs = [.int m, v, .int k] ∧ DV p H v d ∧ ∀ H', Same H H' → Q (.bl (hasF k m d)) H'
def NHf : List Str := ["many", "value", "lists", "item"]
theorem scHf : FnScope NHf ["many", "value", "lists"] (defScope (top 25)) := ⟨rfl, rfl, rfl, by decide +kernel, rfl, by decide +kernel, by decide +kernel⟩
theorem ok_hf0 {f : Addr} {fd : FuncData} (F : Fun K "has_going_form" "has_going_form" (top 25) f fd) (GL : Fn P w K mg base 1 "is_list" ["value"] spLst2) : FnOk P w K mg base CX0 3 f fd ["many", "value", "lists"] (spHF 0) := by
  refine F.ok scHf (fun vs H Q E h => ?_) (fun cdv A outer s H vs Q E hr h => ?_)
  · obtain ⟨p, m, v, d, rfl, _⟩ := h
    rfl
  · obtain ⟨p, m, v, d, rfl, hd, k⟩ := h
    refine ⟨_, pss_cons (ps_if (pw_or (pt_cmpR op_eq (pv 2) pe_int (nomark _)) (pw_or1 (pt_not (pt_val (pe_fn GL (hr.mono (by decide)) (pa_cons (pv 1) pa_nil)))))).pt (pss_one (ps_ret pe_bl)) pss_nil) pss_never, ?_⟩
    refine ⟨_, rfl, rfl, true, rfl, ?_⟩
    exact iteT (k H fun _ _ z => z)
theorem ok_hfS {j : Nat} {f : Addr} {fd : FuncData} (F : Fun K "has_going_form" "has_going_form" (top 25) f fd) (n : Nm mg) (GL : Fn P w K mg base 1 "is_list" ["value"] spLst2) (GC : Fn P w K mg base 2 "is_count" ["value"] spCnt2)
    (GH : Fn P w K mg base (3 + j) "has_going_form" ["many", "value", "lists"] (spHF j)) : FnOk P w K mg base CX0 (3 + j + 1) f fd ["many", "value", "lists"] (spHF (j + 1)) := by
  refine F.ok scHf (fun vs H Q E h => ?_) (fun cdv A outer s H vs Q E hr h => ?_)
  · obtain ⟨p, m, v, d, rfl, _⟩ := h
    rfl
  · obtain ⟨p, m, v, d, rfl, hd, q⟩ := h
    have N := scHf.nd
    have r1 := hr.mono (k := 3 + j) (j := 1) (by omega)
    have r2 := hr.mono (k := 3 + j) (j := 2) (by omega)
    have jn : ¬ ((j : Int) + 1 = 0) := by omega
    have j1 : ((j : Int) + 1) - 1 = j := by omega
    have start_ : ∀ (tb : TS) (D : Ends), True := fun _ _ => trivial
    cases hd with
    | lst nep hx ts =>
      rename_i a xs ds
      refine ⟨_, pss_cons (ps_if (pw_or (pt_cmpR op_eq (pv 2) pe_int (nomark _)) (pw_or1 (pt_not (pt_val (pe_fn GL r1 (pa_cons (pv 1) pa_nil)))))).pt (pss_one (ps_ret pe_bl)) pss_nil)
        (pss_cons (ps_for PassesOwn.never rfl (pi_list (pv 1)) (pg_name (i := 3) N rfl (.inl rfl))
          (pss_one (ps_if (pt_val (pe_isTuple n (pv 3)))
            (pss_one (ps_if (pw_or (pt_cmpR op_ne (pe_callB call_len_seq (by rfl) n.len PySem.boot_len (pa_cons (pv 3) pa_nil)) pe_int (nomark _)) (pw_or (pt_not (pt_val (pe_fn GC r2 (pa_cons (pe_ix ix_tup (pv 3) pe_int (fun _ _ => rfl)) pa_nil))))
              (pw_or1 (pt_not (pt_val (pe_fn GH hr (pa_cons (pv 0) (pa_cons (pe_ix ix_tup (pv 3) pe_int (fun _ _ => rfl)) (pa_cons (pe_op op_sub (pv 2) pe_int) pa_nil))))))))).pt (pss_one (ps_ret pe_bl)) pss_nil))
            (pss_one (ps_if (pw_or (pt_not (pt_val (pe_fn GC r2 (pa_cons (pv 3) pa_nil)))) (pw_or1 (PW.pt (pw_and (pt_cmp (pc_notN (pv 0))) (pw_and1 (pt_cmpR op_ge (pv 3) (pv 0) (nomark _))))))).pt (pss_one (ps_ret pe_bl)) pss_nil)))))
        (pss_one (ps_ret pe_bl))), ?_⟩
      refine ⟨_, rfl, rfl, false, congrArg V.bl (decide_eq_false (by simpa using jn)), ?_⟩
      refine iteF ?_
      refine ⟨_, rfl, p, _, _, rfl, .lst nep hx ts, fun H1 s1 => ⟨true, rfl, ?_⟩⟩
      refine iteF ?_
      have hx1 := s1 _ _ hx
      refine ⟨_, rfl, a, rfl, ⟨_, .inl (.inl hx1)⟩, ?_⟩
      refine loop_of (n := xs.length) (fun i σ H2 => ∃ v3 : Option V, σ = [some (.int m), some (.ref a), some (.int ((j : Int) + 1)), v3] ∧ Same H1 H2 ∧ ∀ i2, i2 < i → ∀ d, ds[i2]? = some d → itemF (hasF j m) m d = true) ⟨none, rfl, fun _ _ z => z, fun i2 h => absurd h (by omega)⟩ ?_ ?_
      · rintro σ H2 ⟨v3, rfl, s2, all⟩
        refine ⟨⟨xs, .inl (.inl (s2 _ _ hx1)), Nat.le_refl _⟩, ?_⟩
        have e : hasF (j + 1) m (.list ds) = true := by
          show ds.all (itemF (hasF j m) m) = true
          rw [List.all_eq_true]
          intro d hd
          obtain ⟨i, hi⟩ := List.mem_iff_getElem?.mp hd
          exact all i (by rw [ts.len]; exact (List.getElem?_eq_some_iff.mp hi).1) d hi
        have := q H2 (s1.trans s2)
        rw [e] at this
        exact this
      · rintro i σ H2 hi ⟨v3, rfl, s2, all⟩
        refine ⟨⟨xs, _, .inl (.inl (s2 _ _ hx1)), List.getElem?_eq_getElem hi⟩, ?_⟩
        rintro x H' ⟨rfl, hy⟩
        have hxi := hy xs (.inl (.inl (s2 _ _ hx1)))
        obtain ⟨d, hdi, hdx⟩ := ts.at hxi
        have hdx2 : DV p H' x d := hdx.same (s1.trans s2)
        have no : itemF (hasF j m) m d = false → ∀ H3, Same H' H3 → Q (.bl false) H3 := fun e H3 s3 => by
          have e2 : hasF (j + 1) m (.list ds) = false := by
            show ds.all (itemF (hasF j m) m) = false
            rw [List.all_eq_false]
            exact ⟨d, List.mem_of_getElem? hdi, by rw [e]; decide⟩
          have := q H3 (s1.trans (s2.trans s3))
          rw [e2] at this
          exact this
        have yes : itemF (hasF j m) m d = true → ∀ i2, i2 < i + 1 → ∀ d, ds[i2]? = some d → itemF (hasF j m) m d = true := fun e i2 h2 d2 h3 => by
          by_cases z : i2 = i
          · subst z
            rw [hdi] at h3
            rw [← Option.some.inj h3]
            exact e
          · exact all i2 (by omega) d2 h3
        refine ⟨_, rfl, isi_mk hdx2.ty (kit_tuple d) ⟨_, rfl, ?_⟩⟩
        cases hT : isT d with
        | false =>
          have eI : itemF (hasF j m) m d = (isC d && (match d with | .int i => decide (i < m) | _ => false)) := by
            cases d <;> first | rfl | exact absurd (show true = false from hT) (by decide)
          refine iteF ?_
          refine ⟨_, rfl, p, x, d, rfl, hdx2, isC d, rfl, ?_⟩
          cases hC : isC d with
          | false => exact iteT (no (by rw [eI, hC]; rfl) _ fun _ _ z => z)
          | true =>
            refine iteF ?_
            cases hdx2 with
            | int z =>
              refine ⟨_, rfl, true, rfl, iteT ⟨_, rfl, _, rfl, _, _, rfl, rfl, decide (z ≥ m), rfl, ?_⟩⟩
              by_cases hz : z ≥ m
              · rw [decide_eq_true hz]
                exact iteT (no (by rw [eI, hC]; exact decide_eq_false (by omega)) _ fun _ _ z => z)
              · rw [decide_eq_false hz]
                exact iteF ⟨_, rfl, s2, yes (by rw [eI, hC]; exact decide_eq_true (by omega))⟩
            | non => exact absurd (show false = true from hC) (by decide)
            | bl b => exact absurd (show false = true from hC) (by decide)
            | str z => exact absurd (show false = true from hC) (by decide)
            | lst _ _ _ => exact absurd (show false = true from hC) (by decide)
            | tup _ _ => exact absurd (show false = true from hC) (by decide)
            | dct _ => exact absurd (show false = true from hC) (by decide)
        | true =>
          refine iteT ?_
          cases hdx2 with
          | tup ht tt =>
            rename_i t ts2 us
            refine ⟨_, rfl, t, ts2, rfl, .inr (.inl (.inl ht)), rfl, !decide (V.int (ts2.length : Int) = V.int 2), rfl, ?_⟩
            by_cases h2 : ts2.length = 2
            · rw [decide_eq_true (by rw [h2]; rfl)]
              refine iteF ?_
              match ts2, us, tt, h2 with
              | [y1, y2], _, .cons (d := d1) k1 (.cons (d := d2) k2 .nil), _ =>
                refine ⟨_, rfl, t, _, _, _, rfl, rfl, .inl (.inl ht), rfl, p, y2, d2, rfl, k2, isC d2, rfl, ?_⟩
                have eI : itemF (hasF j m) m (.tuple [d1, d2]) = (isC d2 && hasF j m d1) := rfl
                cases hC : isC d2 with
                | false => exact iteT (no (by rw [eI, hC]; rfl) _ fun _ _ z => z)
                | true =>
                  refine iteF ?_
                  refine ⟨_, rfl, _, rfl, t, _, _, _, rfl, rfl, .inl (.inl ht), rfl, _, rfl, _, _, rfl, rfl, p, m, y1, d1, by show [V.int m, y1, V.int ((j : Int) + 1 - 1)] ++ [] = _; rw [j1]; rfl, k1, fun H3 s3 => ⟨hasF j m d1, rfl, ?_⟩⟩
                  cases hF : hasF j m d1 with
                  | false => exact iteT (no (by rw [eI, hC, hF]; rfl) _ s3)
                  | true => exact iteF ⟨_, rfl, s2.trans s3, yes (by rw [eI, hC, hF]; rfl)⟩
            · rw [decide_eq_false (by simp; omega)]
              refine iteT (no ?_ _ fun _ _ z => z)
              have l2 := tt.len
              match us, l2 with
              | [], _ => rfl
              | [_], _ => rfl
              | [_, _], l2 => exact absurd l2 h2
              | _ :: _ :: _ :: _, _ => rfl
          | non => exact absurd (show false = true from hT) (by decide)
          | bl b => exact absurd (show false = true from hT) (by decide)
          | int z => exact absurd (show false = true from hT) (by decide)
          | str z => exact absurd (show false = true from hT) (by decide)
          | lst _ _ _ => exact absurd (show false = true from hT) (by decide)
          | dct _ => exact absurd (show false = true from hT) (by decide)
    | tup hx ts =>
      rename_i a xs ds
      refine ⟨_, pss_cons (ps_if (pw_or (pt_cmpR op_eq (pv 2) pe_int (nomark _)) (pw_or1 (pt_not (pt_val (pe_fn GL r1 (pa_cons (pv 1) pa_nil)))))).pt (pss_one (ps_ret pe_bl)) pss_nil)
        (pss_cons (ps_for PassesOwn.never rfl (pi_tup (pv 1)) (pg_name (i := 3) N rfl (.inl rfl))
          (pss_one (ps_if (pt_val (pe_isTuple n (pv 3)))
            (pss_one (ps_if (pw_or (pt_cmpR op_ne (pe_callB call_len_seq (by rfl) n.len PySem.boot_len (pa_cons (pv 3) pa_nil)) pe_int (nomark _)) (pw_or (pt_not (pt_val (pe_fn GC r2 (pa_cons (pe_ix ix_tup (pv 3) pe_int (fun _ _ => rfl)) pa_nil))))
              (pw_or1 (pt_not (pt_val (pe_fn GH hr (pa_cons (pv 0) (pa_cons (pe_ix ix_tup (pv 3) pe_int (fun _ _ => rfl)) (pa_cons (pe_op op_sub (pv 2) pe_int) pa_nil))))))))).pt (pss_one (ps_ret pe_bl)) pss_nil))
            (pss_one (ps_if (pw_or (pt_not (pt_val (pe_fn GC r2 (pa_cons (pv 3) pa_nil)))) (pw_or1 (PW.pt (pw_and (pt_cmp (pc_notN (pv 0))) (pw_and1 (pt_cmpR op_ge (pv 3) (pv 0) (nomark _))))))).pt (pss_one (ps_ret pe_bl)) pss_nil)))))
        (pss_one (ps_ret pe_bl))), ?_⟩
      refine ⟨_, rfl, rfl, false, congrArg V.bl (decide_eq_false (by simpa using jn)), ?_⟩
      refine iteF ?_
      refine ⟨_, rfl, p, _, _, rfl, .tup hx ts, fun H1 s1 => ⟨true, rfl, ?_⟩⟩
      refine iteF ?_
      have hx1 := s1 _ _ hx
      refine ⟨_, rfl, a, rfl, ⟨_, .inl (.inl hx1)⟩, ?_⟩
      refine loop_of (n := xs.length) (fun i σ H2 => ∃ v3 : Option V, σ = [some (.int m), some (.ref a), some (.int ((j : Int) + 1)), v3] ∧ Same H1 H2 ∧ ∀ i2, i2 < i → ∀ d, ds[i2]? = some d → itemF (hasF j m) m d = true) ⟨none, rfl, fun _ _ z => z, fun i2 h => absurd h (by omega)⟩ ?_ ?_
      · rintro σ H2 ⟨v3, rfl, s2, all⟩
        refine ⟨⟨xs, .inl (.inl (s2 _ _ hx1)), Nat.le_refl _⟩, ?_⟩
        have e : hasF (j + 1) m (.tuple ds) = true := by
          show ds.all (itemF (hasF j m) m) = true
          rw [List.all_eq_true]
          intro d hd
          obtain ⟨i, hi⟩ := List.mem_iff_getElem?.mp hd
          exact all i (by rw [ts.len]; exact (List.getElem?_eq_some_iff.mp hi).1) d hi
        have := q H2 (s1.trans s2)
        rw [e] at this
        exact this
      · rintro i σ H2 hi ⟨v3, rfl, s2, all⟩
        refine ⟨⟨xs, _, .inl (.inl (s2 _ _ hx1)), List.getElem?_eq_getElem hi⟩, ?_⟩
        rintro x H' ⟨rfl, hy⟩
        have hxi := hy xs (.inl (.inl (s2 _ _ hx1)))
        obtain ⟨d, hdi, hdx⟩ := ts.at hxi
        have hdx2 : DV p H' x d := hdx.same (s1.trans s2)
        have no : itemF (hasF j m) m d = false → ∀ H3, Same H' H3 → Q (.bl false) H3 := fun e H3 s3 => by
          have e2 : hasF (j + 1) m (.tuple ds) = false := by
            show ds.all (itemF (hasF j m) m) = false
            rw [List.all_eq_false]
            exact ⟨d, List.mem_of_getElem? hdi, by rw [e]; decide⟩
          have := q H3 (s1.trans (s2.trans s3))
          rw [e2] at this
          exact this
        have yes : itemF (hasF j m) m d = true → ∀ i2, i2 < i + 1 → ∀ d, ds[i2]? = some d → itemF (hasF j m) m d = true := fun e i2 h2 d2 h3 => by
          by_cases z : i2 = i
          · subst z
            rw [hdi] at h3
            rw [← Option.some.inj h3]
            exact e
          · exact all i2 (by omega) d2 h3
        refine ⟨_, rfl, isi_mk hdx2.ty (kit_tuple d) ⟨_, rfl, ?_⟩⟩
        cases hT : isT d with
        | false =>
          have eI : itemF (hasF j m) m d = (isC d && (match d with | .int i => decide (i < m) | _ => false)) := by
            cases d <;> first | rfl | exact absurd (show true = false from hT) (by decide)
          refine iteF ?_
          refine ⟨_, rfl, p, x, d, rfl, hdx2, isC d, rfl, ?_⟩
          cases hC : isC d with
          | false => exact iteT (no (by rw [eI, hC]; rfl) _ fun _ _ z => z)
          | true =>
            refine iteF ?_
            cases hdx2 with
            | int z =>
              refine ⟨_, rfl, true, rfl, iteT ⟨_, rfl, _, rfl, _, _, rfl, rfl, decide (z ≥ m), rfl, ?_⟩⟩
              by_cases hz : z ≥ m
              · rw [decide_eq_true hz]
                exact iteT (no (by rw [eI, hC]; exact decide_eq_false (by omega)) _ fun _ _ z => z)
              · rw [decide_eq_false hz]
                exact iteF ⟨_, rfl, s2, yes (by rw [eI, hC]; exact decide_eq_true (by omega))⟩
            | non => exact absurd (show false = true from hC) (by decide)
            | bl b => exact absurd (show false = true from hC) (by decide)
            | str z => exact absurd (show false = true from hC) (by decide)
            | lst _ _ _ => exact absurd (show false = true from hC) (by decide)
            | tup _ _ => exact absurd (show false = true from hC) (by decide)
            | dct _ => exact absurd (show false = true from hC) (by decide)
        | true =>
          refine iteT ?_
          cases hdx2 with
          | tup ht tt =>
            rename_i t ts2 us
            refine ⟨_, rfl, t, ts2, rfl, .inr (.inl (.inl ht)), rfl, !decide (V.int (ts2.length : Int) = V.int 2), rfl, ?_⟩
            by_cases h2 : ts2.length = 2
            · rw [decide_eq_true (by rw [h2]; rfl)]
              refine iteF ?_
              match ts2, us, tt, h2 with
              | [y1, y2], _, .cons (d := d1) k1 (.cons (d := d2) k2 .nil), _ =>
                refine ⟨_, rfl, t, _, _, _, rfl, rfl, .inl (.inl ht), rfl, p, y2, d2, rfl, k2, isC d2, rfl, ?_⟩
                have eI : itemF (hasF j m) m (.tuple [d1, d2]) = (isC d2 && hasF j m d1) := rfl
                cases hC : isC d2 with
                | false => exact iteT (no (by rw [eI, hC]; rfl) _ fun _ _ z => z)
                | true =>
                  refine iteF ?_
                  refine ⟨_, rfl, _, rfl, t, _, _, _, rfl, rfl, .inl (.inl ht), rfl, _, rfl, _, _, rfl, rfl, p, m, y1, d1, by show [V.int m, y1, V.int ((j : Int) + 1 - 1)] ++ [] = _; rw [j1]; rfl, k1, fun H3 s3 => ⟨hasF j m d1, rfl, ?_⟩⟩
                  cases hF : hasF j m d1 with
                  | false => exact iteT (no (by rw [eI, hC, hF]; rfl) _ s3)
                  | true => exact iteF ⟨_, rfl, s2.trans s3, yes (by rw [eI, hC, hF]; rfl)⟩
            · rw [decide_eq_false (by simp; omega)]
              refine iteT (no ?_ _ fun _ _ z => z)
              have l2 := tt.len
              match us, l2 with
              | [], _ => rfl
              | [_], _ => rfl
              | [_, _], l2 => exact absurd l2 h2
              | _ :: _ :: _ :: _, _ => rfl
          | non => exact absurd (show false = true from hT) (by decide)
          | bl b => exact absurd (show false = true from hT) (by decide)
          | int z => exact absurd (show false = true from hT) (by decide)
          | str z => exact absurd (show false = true from hT) (by decide)
          | lst _ _ _ => exact absurd (show false = true from hT) (by decide)
          | dct _ => exact absurd (show false = true from hT) (by decide)
    | non =>
      refine ⟨_, pss_cons (ps_if (pw_or (pt_cmpR op_eq (pv 2) pe_int (nomark _)) (pw_or1 (pt_not (pt_val (pe_fn GL r1 (pa_cons (pv 1) pa_nil)))))).pt (pss_one (ps_ret pe_bl)) pss_nil)
        (pss_cons (ps_for PassesOwn.never rfl (pi_list (pv 1)) (pg_name (i := 3) N rfl (.inl rfl))
          (pss_one (ps_if (pt_val (pe_isTuple n (pv 3)))
            (pss_one (ps_if (pw_or (pt_cmpR op_ne (pe_callB call_len_seq (by rfl) n.len PySem.boot_len (pa_cons (pv 3) pa_nil)) pe_int (nomark _)) (pw_or (pt_not (pt_val (pe_fn GC r2 (pa_cons (pe_ix ix_tup (pv 3) pe_int (fun _ _ => rfl)) pa_nil))))
              (pw_or1 (pt_not (pt_val (pe_fn GH hr (pa_cons (pv 0) (pa_cons (pe_ix ix_tup (pv 3) pe_int (fun _ _ => rfl)) (pa_cons (pe_op op_sub (pv 2) pe_int) pa_nil))))))))).pt (pss_one (ps_ret pe_bl)) pss_nil))
            (pss_one (ps_if (pw_or (pt_not (pt_val (pe_fn GC r2 (pa_cons (pv 3) pa_nil)))) (pw_or1 (PW.pt (pw_and (pt_cmp (pc_notN (pv 0))) (pw_and1 (pt_cmpR op_ge (pv 3) (pv 0) (nomark _))))))).pt (pss_one (ps_ret pe_bl)) pss_nil)))))
        (pss_one (ps_ret pe_bl))), ?_⟩
      refine ⟨_, rfl, rfl, false, congrArg V.bl (decide_eq_false (by simpa using jn)), ?_⟩
      refine iteF ?_
      refine ⟨_, rfl, p, _, _, rfl, .non, fun H1 s1 => ⟨false, rfl, ?_⟩⟩
      exact iteT (q H1 s1)
    | bl b =>
      refine ⟨_, pss_cons (ps_if (pw_or (pt_cmpR op_eq (pv 2) pe_int (nomark _)) (pw_or1 (pt_not (pt_val (pe_fn GL r1 (pa_cons (pv 1) pa_nil)))))).pt (pss_one (ps_ret pe_bl)) pss_nil)
        (pss_cons (ps_for PassesOwn.never rfl (pi_list (pv 1)) (pg_name (i := 3) N rfl (.inl rfl))
          (pss_one (ps_if (pt_val (pe_isTuple n (pv 3)))
            (pss_one (ps_if (pw_or (pt_cmpR op_ne (pe_callB call_len_seq (by rfl) n.len PySem.boot_len (pa_cons (pv 3) pa_nil)) pe_int (nomark _)) (pw_or (pt_not (pt_val (pe_fn GC r2 (pa_cons (pe_ix ix_tup (pv 3) pe_int (fun _ _ => rfl)) pa_nil))))
              (pw_or1 (pt_not (pt_val (pe_fn GH hr (pa_cons (pv 0) (pa_cons (pe_ix ix_tup (pv 3) pe_int (fun _ _ => rfl)) (pa_cons (pe_op op_sub (pv 2) pe_int) pa_nil))))))))).pt (pss_one (ps_ret pe_bl)) pss_nil))
            (pss_one (ps_if (pw_or (pt_not (pt_val (pe_fn GC r2 (pa_cons (pv 3) pa_nil)))) (pw_or1 (PW.pt (pw_and (pt_cmp (pc_notN (pv 0))) (pw_and1 (pt_cmpR op_ge (pv 3) (pv 0) (nomark _))))))).pt (pss_one (ps_ret pe_bl)) pss_nil)))))
        (pss_one (ps_ret pe_bl))), ?_⟩
      refine ⟨_, rfl, rfl, false, congrArg V.bl (decide_eq_false (by simpa using jn)), ?_⟩
      refine iteF ?_
      refine ⟨_, rfl, p, _, _, rfl, .bl b, fun H1 s1 => ⟨false, rfl, ?_⟩⟩
      exact iteT (q H1 s1)
    | int i =>
      refine ⟨_, pss_cons (ps_if (pw_or (pt_cmpR op_eq (pv 2) pe_int (nomark _)) (pw_or1 (pt_not (pt_val (pe_fn GL r1 (pa_cons (pv 1) pa_nil)))))).pt (pss_one (ps_ret pe_bl)) pss_nil)
        (pss_cons (ps_for PassesOwn.never rfl (pi_list (pv 1)) (pg_name (i := 3) N rfl (.inl rfl))
          (pss_one (ps_if (pt_val (pe_isTuple n (pv 3)))
            (pss_one (ps_if (pw_or (pt_cmpR op_ne (pe_callB call_len_seq (by rfl) n.len PySem.boot_len (pa_cons (pv 3) pa_nil)) pe_int (nomark _)) (pw_or (pt_not (pt_val (pe_fn GC r2 (pa_cons (pe_ix ix_tup (pv 3) pe_int (fun _ _ => rfl)) pa_nil))))
              (pw_or1 (pt_not (pt_val (pe_fn GH hr (pa_cons (pv 0) (pa_cons (pe_ix ix_tup (pv 3) pe_int (fun _ _ => rfl)) (pa_cons (pe_op op_sub (pv 2) pe_int) pa_nil))))))))).pt (pss_one (ps_ret pe_bl)) pss_nil))
            (pss_one (ps_if (pw_or (pt_not (pt_val (pe_fn GC r2 (pa_cons (pv 3) pa_nil)))) (pw_or1 (PW.pt (pw_and (pt_cmp (pc_notN (pv 0))) (pw_and1 (pt_cmpR op_ge (pv 3) (pv 0) (nomark _))))))).pt (pss_one (ps_ret pe_bl)) pss_nil)))))
        (pss_one (ps_ret pe_bl))), ?_⟩
      refine ⟨_, rfl, rfl, false, congrArg V.bl (decide_eq_false (by simpa using jn)), ?_⟩
      refine iteF ?_
      refine ⟨_, rfl, p, _, _, rfl, .int i, fun H1 s1 => ⟨false, rfl, ?_⟩⟩
      exact iteT (q H1 s1)
    | str z =>
      refine ⟨_, pss_cons (ps_if (pw_or (pt_cmpR op_eq (pv 2) pe_int (nomark _)) (pw_or1 (pt_not (pt_val (pe_fn GL r1 (pa_cons (pv 1) pa_nil)))))).pt (pss_one (ps_ret pe_bl)) pss_nil)
        (pss_cons (ps_for PassesOwn.never rfl (pi_list (pv 1)) (pg_name (i := 3) N rfl (.inl rfl))
          (pss_one (ps_if (pt_val (pe_isTuple n (pv 3)))
            (pss_one (ps_if (pw_or (pt_cmpR op_ne (pe_callB call_len_seq (by rfl) n.len PySem.boot_len (pa_cons (pv 3) pa_nil)) pe_int (nomark _)) (pw_or (pt_not (pt_val (pe_fn GC r2 (pa_cons (pe_ix ix_tup (pv 3) pe_int (fun _ _ => rfl)) pa_nil))))
              (pw_or1 (pt_not (pt_val (pe_fn GH hr (pa_cons (pv 0) (pa_cons (pe_ix ix_tup (pv 3) pe_int (fun _ _ => rfl)) (pa_cons (pe_op op_sub (pv 2) pe_int) pa_nil))))))))).pt (pss_one (ps_ret pe_bl)) pss_nil))
            (pss_one (ps_if (pw_or (pt_not (pt_val (pe_fn GC r2 (pa_cons (pv 3) pa_nil)))) (pw_or1 (PW.pt (pw_and (pt_cmp (pc_notN (pv 0))) (pw_and1 (pt_cmpR op_ge (pv 3) (pv 0) (nomark _))))))).pt (pss_one (ps_ret pe_bl)) pss_nil)))))
        (pss_one (ps_ret pe_bl))), ?_⟩
      refine ⟨_, rfl, rfl, false, congrArg V.bl (decide_eq_false (by simpa using jn)), ?_⟩
      refine iteF ?_
      refine ⟨_, rfl, p, _, _, rfl, .str z, fun H1 s1 => ⟨false, rfl, ?_⟩⟩
      exact iteT (q H1 s1)
    | dct hx =>
      refine ⟨_, pss_cons (ps_if (pw_or (pt_cmpR op_eq (pv 2) pe_int (nomark _)) (pw_or1 (pt_not (pt_val (pe_fn GL r1 (pa_cons (pv 1) pa_nil)))))).pt (pss_one (ps_ret pe_bl)) pss_nil)
        (pss_cons (ps_for PassesOwn.never rfl (pi_list (pv 1)) (pg_name (i := 3) N rfl (.inl rfl))
          (pss_one (ps_if (pt_val (pe_isTuple n (pv 3)))
            (pss_one (ps_if (pw_or (pt_cmpR op_ne (pe_callB call_len_seq (by rfl) n.len PySem.boot_len (pa_cons (pv 3) pa_nil)) pe_int (nomark _)) (pw_or (pt_not (pt_val (pe_fn GC r2 (pa_cons (pe_ix ix_tup (pv 3) pe_int (fun _ _ => rfl)) pa_nil))))
              (pw_or1 (pt_not (pt_val (pe_fn GH hr (pa_cons (pv 0) (pa_cons (pe_ix ix_tup (pv 3) pe_int (fun _ _ => rfl)) (pa_cons (pe_op op_sub (pv 2) pe_int) pa_nil))))))))).pt (pss_one (ps_ret pe_bl)) pss_nil))
            (pss_one (ps_if (pw_or (pt_not (pt_val (pe_fn GC r2 (pa_cons (pv 3) pa_nil)))) (pw_or1 (PW.pt (pw_and (pt_cmp (pc_notN (pv 0))) (pw_and1 (pt_cmpR op_ge (pv 3) (pv 0) (nomark _))))))).pt (pss_one (ps_ret pe_bl)) pss_nil)))))
        (pss_one (ps_ret pe_bl))), ?_⟩
      refine ⟨_, rfl, rfl, false, congrArg V.bl (decide_eq_false (by simpa using jn)), ?_⟩
      refine iteF ?_
      refine ⟨_, rfl, p, _, _, rfl, .dct hx, fun H1 s1 => ⟨false, rfl, ?_⟩⟩
      exact iteT (q H1 s1)
theorem fn_hf {f : Addr} {fd : FuncData} (F : Fun K "has_going_form" "has_going_form" (top 25) f fd) (m : mg "has_going_form" = some (.ref f)) (b : Binds K fd ["many", "value", "lists"] []) (n : Nm mg) (GL : Fn P w K mg base 1 "is_list" ["value"] spLst2) (GC : Fn P w K mg base 2 "is_count" ["value"] spCnt2) :
    ∀ j : Nat, Fn P w K mg base (3 + j) "has_going_form" ["many", "value", "lists"] (spHF j)
  | 0 => ⟨f, fd, m, F.kp, b, ok_hf0 F GL⟩
  | j + 1 => ⟨f, fd, m, F.kp, b, ok_hfS F n GL GC (fn_hf F m b n GL GC j)⟩
end
end L2.K75
end

section
set_option Elab.async false
set_option linter.all false
set_option maxRecDepth 100000
set_option maxHeartbeats 4000000
namespace L2.K75
open PySem PySem.Spec PyProof.Rows L2.Gd
theorem pe_fn0 {X : Cx} {k : Nat} {x : Str} {sp : Sp} {p pos : Pos}
    (F : Fn X.prog X.w X.K X.mg X.base k x [] sp) (hr : Room k X.A) (gl : Gl X x := by rfl) (hdb : (x == ("__debug__" : Str)) = false := by decide) :
    PE X (.Call (.Name x p) [] [] pos) (tCall sp [] E0 tNil) := by
  obtain ⟨f, fd, m, kp, b, G⟩ := F.ex
  exact pe_call0 G hr gl m kp b .nil pass0 hdb
theorem gn {i : Nat} {v : V} {σ : L2.St} {H : Hp} {Q : L2.St → Hp → Prop} (h : Q (σ.set i (some v)) H) : gName i v σ H Q := h
/-! ### the course of a going -/
def itemC (g : PyData → Option Crs) (ds : List Dd) : PyData → Option Crs
  | .tuple [x, .int t] => (if t > 0 then g x else some noC).bind fun c => oftC c t
  | .int i => (ds[i.toNat]?).map deedC
  | _ => none
def cwL (g : PyData → Option Crs) : List PyData → Crs → Option Crs
  | [], c => some c
  | it :: r, c => match (g it).bind (behC c) with
    | none => none
    | some c' => cwL g r c'
def cwC : Nat → List Dd → PyData → Option Crs
  | 0, _, _ => none
  | k + 1, ds, d => match seqOf d with
    | some its => cwL (itemC (cwC k ds) ds) its noC
    | none => none
/-- no lap is done a million times -/
def few : Nat → List Dd → PyData → Prop
  | 0, _, _ => True
  | k + 1, ds, d => ∀ its, seqOf d = some its → ∀ it ∈ its, ∀ x t, it = .tuple [x, .int t] → t.natAbs < 2 ^ 99 ∧ few k ds x ∧ ∀ c, cwC k ds x = some c → BgC c
theorem few_of {j : Nat} {ds : List Dd} {d1 : PyData} {t0 : Int} {c1 : Crs} (hcw : (if t0 > 0 then cwC j ds d1 else some noC) = some c1) (bg : ∀ c, cwC j ds d1 = some c → BgC c) (t0p : 0 ≤ t0) (tl : t0.natAbs < 2 ^ 99) : OfB c1 t0 := by
  refine ⟨?_, t0p, tl⟩
  split at hcw
  · exact bg _ hcw
  · obtain rfl := Option.some.inj hcw
    exact ⟨by show (0 : Nat) < _; decide, by show (0 : Nat) < _; decide⟩
section
variable {P : Program} {w : World} {K : PySem.W.Frag} {mg : Str → Option Value} {base : Heap} {C : Addr}
def spCW (C : Addr) (k : Nat) : Sp := fun vs H Q _ => ∃ (p D a : Addr) (ys : List V) (ds : List Dd) (d : PyData), vs = [.ref D, .ref a] ∧ H D = some (.lst ys) ∧ DdAll H ys ds ∧ DV p H (.ref a) d ∧ hasF k ds.length d = true ∧ few k ds d ∧
  ∀ v H', Same H H' → CV C H' v (cwC k ds d) → Q v H'
def NCw : List Str := ["deeds", "going", "course", "item", "more"]
theorem scCw : FnScope NCw ["deeds", "going"] (defScope (top 26)) := ⟨rfl, rfl, rfl, by decide +kernel, rfl, by decide +kernel, by decide +kernel⟩
theorem ok_cw0 {f : Addr} {fd : FuncData} (F : Fun K "course_within" "course_within" (top 26) f fd) : FnOk P w K mg base CX0 4 f fd ["deeds", "going"] (spCW C 0) := by
  refine F.ok scCw (fun vs H Q E h => ?_) (fun cdv A outer s H vs Q E hr h => ?_)
  · obtain ⟨p, D, a, ys, ds, d, rfl, _⟩ := h
    rfl
  · obtain ⟨p, D, a, ys, ds, d, rfl, _, _, _, hf, _⟩ := h
    exact absurd (show false = true from hf) (by decide)
theorem ok_cwS {j : Nat} {f : Addr} {fd : FuncData} (F : Fun K "course_within" "course_within" (top 26) f fd) (n : Nm mg) (GN : Fn P w K mg base 3 "no_course" [] (spNo C)) (GD : Fn P w K mg base 3 "deed_course" ["deed"] (spDC C))
    (GO : Fn P w K mg base 3 "done_often" ["course", "times"] (spOf C)) (GB : Fn P w K mg base 3 "behind_another" ["one", "two"] (spBA C))
    (GW : Fn P w K mg base (4 + j) "course_within" ["deeds", "going"] (spCW C j)) : FnOk P w K mg base CX0 (4 + j + 1) f fd ["deeds", "going"] (spCW C (j + 1)) := by
  refine F.ok scCw (fun vs H Q E h => ?_) (fun cdv A outer s H vs Q E hr h => ?_)
  · obtain ⟨p, D, a, ys, ds, d, rfl, _⟩ := h
    rfl
  · obtain ⟨p, D, a, ys, ds, d, rfl, hD, dd, hd, hf, hb, q⟩ := h
    have N := scCw.nd
    have r3 := hr.mono (k := 4 + j) (j := 3) (by omega)
    cases hd with
    | lst nep hx ts =>
      rename_i xs its
      refine ⟨_, pss_cons (ps_set (i := 2) N rfl (.inl rfl) (pe_fn0 GN r3))
        (pss_cons (ps_for PassesOwn.never rfl (pi_list (pv 1)) (pg_name (i := 3) N rfl (.inl rfl))
          (pss_cons (ps_if (pt_val (pe_isTuple n (pv 3)))
            (pss_cons (ps_set (i := 4) N rfl (.inl rfl) (pe_ifExp (pt_cmpR op_gt (pe_ix ix_tup (pv 3) pe_int (fun _ _ => rfl)) pe_int (nomark _)) (pe_fn GW hr (pa_cons (pv 0) (pa_cons (pe_ix ix_tup (pv 3) pe_int (fun _ _ => rfl)) pa_nil))) (pe_fn0 GN r3)))
            (pss_one (ps_set (i := 4) N rfl (.inl rfl) (pe_ifExp (pt_cmp (pc_isN (pv 4))) pe_non (pe_fn GO r3 (pa_cons (pv 4) (pa_cons (pe_ix ix_tup (pv 3) pe_int (fun _ _ => rfl)) pa_nil)))))))
            (pss_one (ps_set (i := 4) N rfl (.inl rfl) (pe_fn GD r3 (pa_cons (pe_ix ix_list (pv 0) (pv 3) (fun _ _ => rfl)) pa_nil)))))
          (pss_cons (ps_set (i := 2) N rfl (.inl rfl) (pe_ifExp (pt_cmp (pc_isN (pv 4))) pe_non (pe_fn GB r3 (pa_cons (pv 2) (pa_cons (pv 4) pa_nil)))))
          (pss_one (ps_if (pt_cmp (pc_isN (pv 2))) (pss_one (ps_ret pe_non)) pss_nil)))))
        (pss_one (ps_ret (pv 2)))), ?_⟩
      refine seqV (Good := fun σ2 H2 => ∃ x, CrsAt C H2 x noC ∧ Same H H2 ∧ σ2 = [some (.ref D), some (.ref a), some (.ref x), none, none])
        (fun nx hnx => ⟨rfl, fun x H2 _ s2 hc => hnx _ _ ⟨x, hc, s2, rfl⟩⟩) ?_
      rintro _ H1 ⟨x0, hc0, s1, rfl⟩
      have hx1 := s1 _ _ hx
      have lts := ts.len
      have whole : cwC (j + 1) ds (.list its) = cwL (itemC (cwC j ds) ds) its noC := rfl
      refine ⟨_, rfl, a, rfl, ⟨_, .inl (.inl hx1)⟩, ?_⟩
      refine loop_of (n := xs.length) (fun i σ H2 => ∃ (v3 v4 : Option V) (x : Addr) (c : Crs), σ = [some (.ref D), some (.ref a), some (.ref x), v3, v4] ∧ CrsAt C H2 x c ∧ Same H1 H2 ∧ cwL (itemC (cwC j ds) ds) (its.drop i) c = cwL (itemC (cwC j ds) ds) its noC)
        ⟨none, none, x0, noC, rfl, hc0, fun _ _ z => z, rfl⟩ ?_ ?_
      · rintro σ H2 ⟨v3, v4, x, c, rfl, hc, s2, e⟩
        refine ⟨⟨xs, .inl (.inl (s2 _ _ hx1)), Nat.le_refl _⟩, ?_⟩
        rw [lts, List.drop_length] at e
        exact ⟨_, rfl, q _ H2 (s1.trans s2) (by rw [whole, ← e]; exact ⟨x, rfl, hc⟩)⟩
      · rintro i σ H2 hi ⟨v3, v4, x, c, rfl, hc, s2, e⟩
        refine ⟨⟨xs, _, .inl (.inl (s2 _ _ hx1)), List.getElem?_eq_getElem hi⟩, ?_⟩
        rintro v H' ⟨rfl, hy⟩
        have hvi := hy xs (.inl (.inl (s2 _ _ hx1)))
        obtain ⟨it, hit, hdx⟩ := ts.at hvi
        have s01 := s1.trans s2
        have hdx2 : DV p H' v it := hdx.same s01
        have hmem := List.mem_of_getElem? hit
        have hiF : itemF (hasF j ds.length) ds.length it = true := List.all_eq_true.mp hf it hmem
        have hfew := hb its rfl it hmem
        have hil : i < its.length := by rw [← lts]; exact hi
        have dr : its.drop i = it :: its.drop (i + 1) := by
          rw [List.drop_eq_getElem_cons hil]
          congr 1
          rw [List.getElem?_eq_getElem hil] at hit
          exact Option.some.inj hit
        rw [dr] at e
        have hD' := s01 _ _ hD
        have dd' := DdAll.same s01 dd
        refine gn ?_
        -- more
        refine seqV (Good := fun σ2 H3 => ∃ vm, CV C H3 vm (itemC (cwC j ds) ds it) ∧ Same H' H3 ∧ σ2 = [some (.ref D), some (.ref a), some (.ref x), some v, some vm]) ?_ ?_
        · intro nx hnx
          refine ⟨_, rfl, isi_mk hdx2.ty (kit_tuple it) ⟨_, rfl, ?_⟩⟩
          cases hdx2 with
          | int z =>
            have zz : (decide (0 ≤ z) && decide (z < (ds.length : Int))) = true := hiF
            rw [Bool.and_eq_true, decide_eq_true_eq, decide_eq_true_eq] at zz
            obtain ⟨k, rfl⟩ : ∃ k : Nat, z = k := ⟨z.toNat, by omega⟩
            have hk : k < ds.length := by omega
            have yl := Paired.length dd'
            have hyk : ys[k]? = some ys[k] := List.getElem?_eq_getElem (by omega)
            obtain ⟨d1, hd1, t, et, ht⟩ := Paired.at dd' hyk
            refine iteF ⟨_, rfl, _, rfl, D, ys, _, _, rfl, rfl, .inl (.inl hD'), atI_nat hyk, t, d1, by rw [et]; rfl, ht, fun x2 H3 _ s3 hc3 => ?_⟩
            exact hnx _ _ ⟨.ref x2, by show CV C H3 (.ref x2) ((ds[((k : Nat) : Int).toNat]?).map deedC); rw [Int.toNat_natCast, hd1]; exact ⟨x2, rfl, hc3⟩, s3, rfl⟩
          | tup ht tt =>
            rename_i t ts2 us
            refine iteT ?_
            match ts2, us, tt with
            | [y1, y2], _, .cons (d := d1) k1 (.cons (d := d2) k2 .nil) =>
              have zz : (isC d2 && hasF j ds.length d1) = true := hiF
              rw [Bool.and_eq_true] at zz
              obtain ⟨zc, zf⟩ := zz
              cases k2 with
              | int t0 =>
                have t0p : 0 ≤ t0 := of_decide_eq_true zc
                obtain ⟨tl, fw, fb⟩ := hfew d1 t0 rfl
                have ra : ∃ a2, y1 = .ref a2 := by
                  cases k1 with
                  | lst _ _ _ => exact ⟨_, rfl⟩
                  | tup _ _ => exact ⟨_, rfl⟩
                  | dct _ => exact ⟨_, rfl⟩
                  | non => cases j <;> exact absurd (show false = true from zf) (by decide)
                  | bl _ => cases j <;> exact absurd (show false = true from zf) (by decide)
                  | int _ => cases j <;> exact absurd (show false = true from zf) (by decide)
                  | str _ => cases j <;> exact absurd (show false = true from zf) (by decide)
                obtain ⟨a2, rfl⟩ := ra
                refine seqV (Good := fun σ2 H3 => ∃ v1, CV C H3 v1 (if t0 > 0 then cwC j ds d1 else some noC) ∧ Same H' H3 ∧ σ2 = [some (.ref D), some (.ref a), some (.ref x), some (.ref t), some v1]) ?_ ?_
                · intro nx2 hnx2
                  refine ⟨_, rfl, t, _, _, _, rfl, rfl, .inl (.inl ht), rfl, _, _, rfl, rfl, decide (t0 > 0), rfl, ?_⟩
                  by_cases hp0 : t0 > 0
                  · rw [decide_eq_true hp0]
                    refine iteT ⟨_, rfl, _, rfl, t, _, _, _, rfl, rfl, .inl (.inl ht), rfl, p, D, a2, ys, ds, d1, rfl, hD', dd', k1, zf, fw, fun v1 H3 s3 cv => ?_⟩
                    exact hnx2 _ _ ⟨v1, by rw [if_pos hp0]; exact cv, s3, rfl⟩
                  · rw [decide_eq_false hp0]
                    exact iteF ⟨rfl, fun x2 H3 _ s3 hc3 => hnx2 _ _ ⟨.ref x2, by rw [if_neg hp0]; exact ⟨x2, rfl, hc3⟩, s3, rfl⟩⟩
                rintro _ H3 ⟨v1, cv1, s3, rfl⟩
                have eI : itemC (cwC j ds) ds (.tuple [d1, .int t0]) = (if t0 > 0 then cwC j ds d1 else some noC).bind fun c => oftC c t0 := rfl
                refine ⟨_, rfl, decide (v1 = .non), rfl, ?_⟩
                cases hcw : (if t0 > 0 then cwC j ds d1 else some noC) with
                | none =>
                  rw [hcw] at cv1 eI
                  obtain rfl : v1 = .non := cv1
                  rw [decide_eq_true rfl]
                  exact iteT (hnx _ _ ⟨.non, by rw [eI]; rfl, s3, rfl⟩)
                | some c1 =>
                  rw [hcw] at cv1 eI
                  obtain ⟨x1, rfl, hc1⟩ := cv1
                  rw [decide_eq_false (by simp)]
                  refine iteF ⟨_, rfl, _, rfl, t, _, _, _, rfl, rfl, .inl (.inl (s3 _ _ ht)), rfl, x1, c1, t0, rfl, hc1, few_of hcw fb t0p tl, trivial, fun v2 H4 s4 cv2 => ?_⟩
                  exact hnx _ _ ⟨v2, by rw [eI]; exact cv2, s3.trans s4, rfl⟩
              | non => exact absurd (show false = true from zc) (by decide)
              | bl _ => exact absurd (show false = true from zc) (by decide)
              | str _ => exact absurd (show false = true from zc) (by decide)
              | lst _ _ _ => exact absurd (show false = true from zc) (by decide)
              | tup _ _ => exact absurd (show false = true from zc) (by decide)
              | dct _ => exact absurd (show false = true from zc) (by decide)
            | [], _, .nil => exact absurd (show false = true from hiF) (by decide)
            | [_], _, .cons _ .nil => exact absurd (show false = true from hiF) (by decide)
            | _ :: _ :: _ :: _, _, .cons _ (.cons _ (.cons _ _)) => exact absurd (show false = true from hiF) (by decide)
          | non => exact absurd (show false = true from hiF) (by decide)
          | bl _ => exact absurd (show false = true from hiF) (by decide)
          | str _ => exact absurd (show false = true from hiF) (by decide)
          | lst _ _ _ => exact absurd (show false = true from hiF) (by decide)
          | dct _ => exact absurd (show false = true from hiF) (by decide)
        rintro _ H3 ⟨vm, cvm, s3, rfl⟩
        have hc3 := hc.same s3
        -- course
        refine seqV (Good := fun σ2 H4 => ∃ vc, CV C H4 vc ((itemC (cwC j ds) ds it).bind (behC c)) ∧ Same H3 H4 ∧ σ2 = [some (.ref D), some (.ref a), some vc, some v, some vm]) ?_ ?_
        · intro nx hnx
          refine ⟨_, rfl, decide (vm = .non), rfl, ?_⟩
          cases hci : itemC (cwC j ds) ds it with
          | none =>
            rw [hci] at cvm
            obtain rfl : vm = .non := cvm
            rw [decide_eq_true rfl]
            exact iteT (hnx _ _ ⟨.non, by rw [hci]; rfl, fun _ _ z => z, rfl⟩)
          | some cm =>
            rw [hci] at cvm
            obtain ⟨xm, rfl, hcm⟩ := cvm
            rw [decide_eq_false (by simp)]
            exact iteF ⟨_, rfl, _, rfl, x, xm, c, cm, rfl, hc3, hcm, fun v2 H4 s4 cv2 => hnx _ _ ⟨v2, by rw [hci]; exact cv2, s4, rfl⟩⟩
        rintro _ H4 ⟨vc, cvc, s4, rfl⟩
        have s04 := s01.trans (s3.trans s4)
        have eL : cwL (itemC (cwC j ds) ds) (it :: its.drop (i + 1)) c = match (itemC (cwC j ds) ds it).bind (behC c) with
            | none => none
            | some c' => cwL (itemC (cwC j ds) ds) (its.drop (i + 1)) c' := rfl
        refine ⟨_, rfl, decide (vc = .non), rfl, ?_⟩
        cases hcb : (itemC (cwC j ds) ds it).bind (behC c) with
        | none =>
          rw [hcb] at cvc eL
          obtain rfl : vc = .non := cvc
          rw [decide_eq_true rfl]
          exact iteT (q .non H4 s04 (by rw [whole, ← e, eL]; rfl))
        | some c' =>
          rw [hcb] at cvc eL
          obtain ⟨xc, rfl, hcc⟩ := cvc
          rw [decide_eq_false (by simp)]
          exact iteF ⟨_, _, xc, c', rfl, hcc, s2.trans (s3.trans s4), by rw [← e, eL]⟩
    | tup hx ts =>
      rename_i xs its
      refine ⟨_, pss_cons (ps_set (i := 2) N rfl (.inl rfl) (pe_fn0 GN r3))
        (pss_cons (ps_for PassesOwn.never rfl (pi_tup (pv 1)) (pg_name (i := 3) N rfl (.inl rfl))
          (pss_cons (ps_if (pt_val (pe_isTuple n (pv 3)))
            (pss_cons (ps_set (i := 4) N rfl (.inl rfl) (pe_ifExp (pt_cmpR op_gt (pe_ix ix_tup (pv 3) pe_int (fun _ _ => rfl)) pe_int (nomark _)) (pe_fn GW hr (pa_cons (pv 0) (pa_cons (pe_ix ix_tup (pv 3) pe_int (fun _ _ => rfl)) pa_nil))) (pe_fn0 GN r3)))
            (pss_one (ps_set (i := 4) N rfl (.inl rfl) (pe_ifExp (pt_cmp (pc_isN (pv 4))) pe_non (pe_fn GO r3 (pa_cons (pv 4) (pa_cons (pe_ix ix_tup (pv 3) pe_int (fun _ _ => rfl)) pa_nil)))))))
            (pss_one (ps_set (i := 4) N rfl (.inl rfl) (pe_fn GD r3 (pa_cons (pe_ix ix_list (pv 0) (pv 3) (fun _ _ => rfl)) pa_nil)))))
          (pss_cons (ps_set (i := 2) N rfl (.inl rfl) (pe_ifExp (pt_cmp (pc_isN (pv 4))) pe_non (pe_fn GB r3 (pa_cons (pv 2) (pa_cons (pv 4) pa_nil)))))
          (pss_one (ps_if (pt_cmp (pc_isN (pv 2))) (pss_one (ps_ret pe_non)) pss_nil)))))
        (pss_one (ps_ret (pv 2)))), ?_⟩
      refine seqV (Good := fun σ2 H2 => ∃ x, CrsAt C H2 x noC ∧ Same H H2 ∧ σ2 = [some (.ref D), some (.ref a), some (.ref x), none, none])
        (fun nx hnx => ⟨rfl, fun x H2 _ s2 hc => hnx _ _ ⟨x, hc, s2, rfl⟩⟩) ?_
      rintro _ H1 ⟨x0, hc0, s1, rfl⟩
      have hx1 := s1 _ _ hx
      have lts := ts.len
      have whole : cwC (j + 1) ds (.tuple its) = cwL (itemC (cwC j ds) ds) its noC := rfl
      refine ⟨_, rfl, a, rfl, ⟨_, .inl (.inl hx1)⟩, ?_⟩
      refine loop_of (n := xs.length) (fun i σ H2 => ∃ (v3 v4 : Option V) (x : Addr) (c : Crs), σ = [some (.ref D), some (.ref a), some (.ref x), v3, v4] ∧ CrsAt C H2 x c ∧ Same H1 H2 ∧ cwL (itemC (cwC j ds) ds) (its.drop i) c = cwL (itemC (cwC j ds) ds) its noC)
        ⟨none, none, x0, noC, rfl, hc0, fun _ _ z => z, rfl⟩ ?_ ?_
      · rintro σ H2 ⟨v3, v4, x, c, rfl, hc, s2, e⟩
        refine ⟨⟨xs, .inl (.inl (s2 _ _ hx1)), Nat.le_refl _⟩, ?_⟩
        rw [lts, List.drop_length] at e
        exact ⟨_, rfl, q _ H2 (s1.trans s2) (by rw [whole, ← e]; exact ⟨x, rfl, hc⟩)⟩
      · rintro i σ H2 hi ⟨v3, v4, x, c, rfl, hc, s2, e⟩
        refine ⟨⟨xs, _, .inl (.inl (s2 _ _ hx1)), List.getElem?_eq_getElem hi⟩, ?_⟩
        rintro v H' ⟨rfl, hy⟩
        have hvi := hy xs (.inl (.inl (s2 _ _ hx1)))
        obtain ⟨it, hit, hdx⟩ := ts.at hvi
        have s01 := s1.trans s2
        have hdx2 : DV p H' v it := hdx.same s01
        have hmem := List.mem_of_getElem? hit
        have hiF : itemF (hasF j ds.length) ds.length it = true := List.all_eq_true.mp hf it hmem
        have hfew := hb its rfl it hmem
        have hil : i < its.length := by rw [← lts]; exact hi
        have dr : its.drop i = it :: its.drop (i + 1) := by
          rw [List.drop_eq_getElem_cons hil]
          congr 1
          rw [List.getElem?_eq_getElem hil] at hit
          exact Option.some.inj hit
        rw [dr] at e
        have hD' := s01 _ _ hD
        have dd' := DdAll.same s01 dd
        refine gn ?_
        -- more
        refine seqV (Good := fun σ2 H3 => ∃ vm, CV C H3 vm (itemC (cwC j ds) ds it) ∧ Same H' H3 ∧ σ2 = [some (.ref D), some (.ref a), some (.ref x), some v, some vm]) ?_ ?_
        · intro nx hnx
          refine ⟨_, rfl, isi_mk hdx2.ty (kit_tuple it) ⟨_, rfl, ?_⟩⟩
          cases hdx2 with
          | int z =>
            have zz : (decide (0 ≤ z) && decide (z < (ds.length : Int))) = true := hiF
            rw [Bool.and_eq_true, decide_eq_true_eq, decide_eq_true_eq] at zz
            obtain ⟨k, rfl⟩ : ∃ k : Nat, z = k := ⟨z.toNat, by omega⟩
            have hk : k < ds.length := by omega
            have yl := Paired.length dd'
            have hyk : ys[k]? = some ys[k] := List.getElem?_eq_getElem (by omega)
            obtain ⟨d1, hd1, t, et, ht⟩ := Paired.at dd' hyk
            refine iteF ⟨_, rfl, _, rfl, D, ys, _, _, rfl, rfl, .inl (.inl hD'), atI_nat hyk, t, d1, by rw [et]; rfl, ht, fun x2 H3 _ s3 hc3 => ?_⟩
            exact hnx _ _ ⟨.ref x2, by show CV C H3 (.ref x2) ((ds[((k : Nat) : Int).toNat]?).map deedC); rw [Int.toNat_natCast, hd1]; exact ⟨x2, rfl, hc3⟩, s3, rfl⟩
          | tup ht tt =>
            rename_i t ts2 us
            refine iteT ?_
            match ts2, us, tt with
            | [y1, y2], _, .cons (d := d1) k1 (.cons (d := d2) k2 .nil) =>
              have zz : (isC d2 && hasF j ds.length d1) = true := hiF
              rw [Bool.and_eq_true] at zz
              obtain ⟨zc, zf⟩ := zz
              cases k2 with
              | int t0 =>
                have t0p : 0 ≤ t0 := of_decide_eq_true zc
                obtain ⟨tl, fw, fb⟩ := hfew d1 t0 rfl
                have ra : ∃ a2, y1 = .ref a2 := by
                  cases k1 with
                  | lst _ _ _ => exact ⟨_, rfl⟩
                  | tup _ _ => exact ⟨_, rfl⟩
                  | dct _ => exact ⟨_, rfl⟩
                  | non => cases j <;> exact absurd (show false = true from zf) (by decide)
                  | bl _ => cases j <;> exact absurd (show false = true from zf) (by decide)
                  | int _ => cases j <;> exact absurd (show false = true from zf) (by decide)
                  | str _ => cases j <;> exact absurd (show false = true from zf) (by decide)
                obtain ⟨a2, rfl⟩ := ra
                refine seqV (Good := fun σ2 H3 => ∃ v1, CV C H3 v1 (if t0 > 0 then cwC j ds d1 else some noC) ∧ Same H' H3 ∧ σ2 = [some (.ref D), some (.ref a), some (.ref x), some (.ref t), some v1]) ?_ ?_
                · intro nx2 hnx2
                  refine ⟨_, rfl, t, _, _, _, rfl, rfl, .inl (.inl ht), rfl, _, _, rfl, rfl, decide (t0 > 0), rfl, ?_⟩
                  by_cases hp0 : t0 > 0
                  · rw [decide_eq_true hp0]
                    refine iteT ⟨_, rfl, _, rfl, t, _, _, _, rfl, rfl, .inl (.inl ht), rfl, p, D, a2, ys, ds, d1, rfl, hD', dd', k1, zf, fw, fun v1 H3 s3 cv => ?_⟩
                    exact hnx2 _ _ ⟨v1, by rw [if_pos hp0]; exact cv, s3, rfl⟩
                  · rw [decide_eq_false hp0]
                    exact iteF ⟨rfl, fun x2 H3 _ s3 hc3 => hnx2 _ _ ⟨.ref x2, by rw [if_neg hp0]; exact ⟨x2, rfl, hc3⟩, s3, rfl⟩⟩
                rintro _ H3 ⟨v1, cv1, s3, rfl⟩
                have eI : itemC (cwC j ds) ds (.tuple [d1, .int t0]) = (if t0 > 0 then cwC j ds d1 else some noC).bind fun c => oftC c t0 := rfl
                refine ⟨_, rfl, decide (v1 = .non), rfl, ?_⟩
                cases hcw : (if t0 > 0 then cwC j ds d1 else some noC) with
                | none =>
                  rw [hcw] at cv1 eI
                  obtain rfl : v1 = .non := cv1
                  rw [decide_eq_true rfl]
                  exact iteT (hnx _ _ ⟨.non, by rw [eI]; rfl, s3, rfl⟩)
                | some c1 =>
                  rw [hcw] at cv1 eI
                  obtain ⟨x1, rfl, hc1⟩ := cv1
                  rw [decide_eq_false (by simp)]
                  refine iteF ⟨_, rfl, _, rfl, t, _, _, _, rfl, rfl, .inl (.inl (s3 _ _ ht)), rfl, x1, c1, t0, rfl, hc1, few_of hcw fb t0p tl, trivial, fun v2 H4 s4 cv2 => ?_⟩
                  exact hnx _ _ ⟨v2, by rw [eI]; exact cv2, s3.trans s4, rfl⟩
              | non => exact absurd (show false = true from zc) (by decide)
              | bl _ => exact absurd (show false = true from zc) (by decide)
              | str _ => exact absurd (show false = true from zc) (by decide)
              | lst _ _ _ => exact absurd (show false = true from zc) (by decide)
              | tup _ _ => exact absurd (show false = true from zc) (by decide)
              | dct _ => exact absurd (show false = true from zc) (by decide)
            | [], _, .nil => exact absurd (show false = true from hiF) (by decide)
            | [_], _, .cons _ .nil => exact absurd (show false = true from hiF) (by decide)
            | _ :: _ :: _ :: _, _, .cons _ (.cons _ (.cons _ _)) => exact absurd (show false = true from hiF) (by decide)
          | non => exact absurd (show false = true from hiF) (by decide)
          | bl _ => exact absurd (show false = true from hiF) (by decide)
          | str _ => exact absurd (show false = true from hiF) (by decide)
          | lst _ _ _ => exact absurd (show false = true from hiF) (by decide)
          | dct _ => exact absurd (show false = true from hiF) (by decide)
        rintro _ H3 ⟨vm, cvm, s3, rfl⟩
        have hc3 := hc.same s3
        -- course
        refine seqV (Good := fun σ2 H4 => ∃ vc, CV C H4 vc ((itemC (cwC j ds) ds it).bind (behC c)) ∧ Same H3 H4 ∧ σ2 = [some (.ref D), some (.ref a), some vc, some v, some vm]) ?_ ?_
        · intro nx hnx
          refine ⟨_, rfl, decide (vm = .non), rfl, ?_⟩
          cases hci : itemC (cwC j ds) ds it with
          | none =>
            rw [hci] at cvm
            obtain rfl : vm = .non := cvm
            rw [decide_eq_true rfl]
            exact iteT (hnx _ _ ⟨.non, by rw [hci]; rfl, fun _ _ z => z, rfl⟩)
          | some cm =>
            rw [hci] at cvm
            obtain ⟨xm, rfl, hcm⟩ := cvm
            rw [decide_eq_false (by simp)]
            exact iteF ⟨_, rfl, _, rfl, x, xm, c, cm, rfl, hc3, hcm, fun v2 H4 s4 cv2 => hnx _ _ ⟨v2, by rw [hci]; exact cv2, s4, rfl⟩⟩
        rintro _ H4 ⟨vc, cvc, s4, rfl⟩
        have s04 := s01.trans (s3.trans s4)
        have eL : cwL (itemC (cwC j ds) ds) (it :: its.drop (i + 1)) c = match (itemC (cwC j ds) ds it).bind (behC c) with
            | none => none
            | some c' => cwL (itemC (cwC j ds) ds) (its.drop (i + 1)) c' := rfl
        refine ⟨_, rfl, decide (vc = .non), rfl, ?_⟩
        cases hcb : (itemC (cwC j ds) ds it).bind (behC c) with
        | none =>
          rw [hcb] at cvc eL
          obtain rfl : vc = .non := cvc
          rw [decide_eq_true rfl]
          exact iteT (q .non H4 s04 (by rw [whole, ← e, eL]; rfl))
        | some c' =>
          rw [hcb] at cvc eL
          obtain ⟨xc, rfl, hcc⟩ := cvc
          rw [decide_eq_false (by simp)]
          exact iteF ⟨_, _, xc, c', rfl, hcc, s2.trans (s3.trans s4), by rw [← e, eL]⟩
    | dct hx => exact absurd (show false = true from hf) (by decide)
end
end L2.K75
end

section
set_option Elab.async false
set_option linter.all false
set_option maxRecDepth 100000
set_option maxHeartbeats 4000000
namespace L2.K75
open PySem PySem.Spec PyProof.Rows L2.Gd
/-- a method -/
structure MeH (P : Program) (w : World) (K : PySem.W.Frag) (mg : Str → Option Value) (base : Heap) (C : Addr) (x : Str) (k : Nat) (ps : List Str) (sp : Sp) : Prop where
  ex : ∃ f fd, Meth K C x f ∧ Binds K fd ps [] ∧ FnOk P w K mg base CX0 k f fd ps sp
section
variable {X : Cx} {C : Addr} {x : Str} {k : Nat} {ps : List Str} {sp : Sp} {o : Expr} {ta : TE} {apos pos : Pos}
theorem pe_mH0 {pl : Sem Bool} (M : MeH X.prog X.w X.K X.mg X.base C x k ps sp) (T : Cls X.K C) (hr : Room k X.A) (he : PE X o ta)
    (ht : eval (.Call (.Attribute o x apos) [] [] pos) X.env = (do
      let ov ← eval o X.env
      standAt apos.atName
      let (f, first) ← holding [ov] (getMethod ov x pl)
      callWith pos f first (backTo pos (starEach [] X.env)) (backToKw pos (keywordEach [] X.env))) := by rfl) :
    PE X (.Call (.Attribute o x apos) [] [] pos) (tMeth C x sp [] E0 ta tNil) := by
  obtain ⟨f, fd, hm, b, F⟩ := M.ex
  exact pe_meth0 he T hm F hr b .nil pass0 ht
end
section
variable {X : Cx} {C : Addr} {x : Str} {k : Nat} {ps : List Str} {sp : Sp} {o e : Expr} {es : List Expr} {ta : TE} {t : TA} {apos pos : Pos}
theorem pe_mH {pl : Sem Bool} (M : MeH X.prog X.w X.K X.mg X.base C x k ps sp) (T : Cls X.K C) (hr : Room k X.A) (he : PE X o ta) (ha : PA X (e :: es) t)
    (hst : starEach (e :: es) X.env = (false, eval e X.env) :: starEach es X.env := by rfl) (hpl : (backTo pos (starEach es X.env)).any (·.1) = false := by rfl)
    (ht : eval (.Call (.Attribute o x apos) (e :: es) [] pos) X.env = (do
      let ov ← eval o X.env
      standAt apos.atName
      let (f, first) ← holding [ov] (getMethod ov x pl)
      callWith pos f first (backTo pos (starEach (e :: es) X.env)) (backToKw pos (keywordEach [] X.env))) := by rfl) :
    PE X (.Call (.Attribute o x apos) (e :: es) [] pos) (tMeth C x sp [] E0 ta t) := by
  obtain ⟨f, fd, hm, b, F⟩ := M.ex
  exact pe_meth he T hm F hr b .nil pass0 ha hst hpl ht
end
structure LenH (P : Program) (w : World) (K : PySem.W.Frag) (mg : Str → Option Value) (base : Heap) (C : Addr) : Prop where
  ex : ∃ f fd, PySem.W.findIn K (.ref C) "__len__" = some (some (.ref f)) ∧ PySem.W.isFn K (.ref f) = true ∧ Binds K fd ["self"] [] ∧ FnOk P w K mg base CX0 1 f fd ["self"] (spLen C)
theorem call_lenH {X : Cx} {C : Addr} (L : LenH X.prog X.w X.K X.mg X.base C) (hr : Room 2 X.A) : CallR X (.builtin "len") (fun xs H Q => ∃ (h l : Addr) (m : Int) (ys : List V) (ds : List Dd), xs = [.ref h] ∧ HouseL C H h l m ys ds ∧ ds.length ≤ 60 ∧ Q (.int ds.length) H) := by
  obtain ⟨f, fd, hs, hf, b, F⟩ := L.ex
  rintro pins s σ H xs us Q I r ⟨h, l, m, ys, ds, rfl, hh, h60, q⟩
  obtain ⟨dx, ob⟩ := hh.ob
  exact call_lenOwn hr F b hs hf pins s σ H _ us Q I r ⟨h, dx, _, rfl, ob, h, l, m, ys, ds, rfl, hh, ⟨ds.length, rfl, by omega⟩, q⟩
section
variable {P : Program} {w : World} {K : PySem.W.Frag} {mg : Str → Option Value} {base : Heap} {C C2 : Addr}
theorem fn_cw {f : Addr} {fd : FuncData} (F : Fun K "course_within" "course_within" (top 26) f fd) (m : mg "course_within" = some (.ref f)) (b : Binds K fd ["deeds", "going"] []) (n : Nm mg) (GN : Fn P w K mg base 3 "no_course" [] (spNo C)) (GD : Fn P w K mg base 3 "deed_course" ["deed"] (spDC C))
    (GO : Fn P w K mg base 3 "done_often" ["course", "times"] (spOf C)) (GB : Fn P w K mg base 3 "behind_another" ["one", "two"] (spBA C)) :
    ∀ j : Nat, Fn P w K mg base (4 + j) "course_within" ["deeds", "going"] (spCW C j)
  | 0 => ⟨f, fd, m, F.kp, b, ok_cw0 F⟩
  | j + 1 => ⟨f, fd, m, F.kp, b, ok_cwS F n GN GD GO GB (fn_cw F m b n GN GD GO GB j)⟩
/-! ### checks -/
def spCP (C2 : Addr) : Sp := fun vs H Q _ => ∃ (h l : Addr) (m p : Int) (xs : List V) (ds : List Dd), vs = [.ref h, .int p] ∧ HouseL C2 H h l m xs ds ∧ 0 ≤ p ∧ p < m ∧ Q .non H
theorem scCP : FnScope ["house", "place"] ["house", "place"] (defScope (top 16)) := ⟨rfl, rfl, rfl, by decide +kernel, rfl, by decide +kernel, by decide +kernel⟩
theorem ok_cp {f : Addr} {fd : FuncData} (F : Fun K "check_place" "check_place" (top 16) f fd) (T : ClsT K mg C2) (GC : Fn P w K mg base 2 "is_count" ["value"] spIsCount) (PL : PrH P w K mg base C2 "places" (spPlaces C2)) : FnOk P w K mg base CX0 3 f fd ["house", "place"] (spCP C2) := by
  refine F.ok scCP (fun vs H Q E h => ?_) (fun cdv A outer s H vs Q E hr h => ?_)
  · obtain ⟨h, l, m, p, xs, ds, rfl, _⟩ := h
    rfl
  · obtain ⟨h, l, m, p, xs, ds, rfl, hh, p0, pm, k⟩ := h
    obtain ⟨dx, ob⟩ := hh.ob
    refine ⟨_, pss_one (ps_if (pw_or (pt_not (pt_val (pe_fn GC hr (pa_cons (pv 1) pa_nil)))) (pw_or1 (pt_cmpR op_ge (pv 1) (pe_prH PL T hr (pv 0)) (nomark _)))).pt pss_never pss_nil), ?_⟩
    refine ⟨_, rfl, p, rfl, p0, true, rfl, iteF ?_⟩
    refine ⟨_, rfl, _, rfl, h, dx, _, rfl, ob, h, dx, l, m, rfl, ob, _, _, rfl, rfl, false, congrArg V.bl (decide_eq_false (by omega)), ?_⟩
    exact iteF k
def spCM : Sp := fun vs H Q _ => ∃ p : Int, vs = [.int p] ∧ 0 ≤ p ∧ Q .non H
theorem scCM : FnScope ["many"] ["many"] (defScope (top 15)) := ⟨rfl, rfl, rfl, by decide +kernel, rfl, by decide +kernel, by decide +kernel⟩
theorem ok_cm {f : Addr} {fd : FuncData} (F : Fun K "check_many" "check_many" (top 15) f fd) (GC : Fn P w K mg base 2 "is_count" ["value"] spIsCount) : FnOk P w K mg base CX0 3 f fd ["many"] spCM := by
  refine F.ok scCM (fun vs H Q E h => ?_) (fun cdv A outer s H vs Q E hr h => ?_)
  · obtain ⟨p, rfl, _⟩ := h
    rfl
  · obtain ⟨p, rfl, p0, k⟩ := h
    refine ⟨_, pss_one (ps_if (pt_not (pt_val (pe_fn GC hr (pa_cons (pv 0) pa_nil)))) pss_never pss_nil), ?_⟩
    exact ⟨_, rfl, p, rfl, p0, true, rfl, iteF k⟩
/-! ### is_going -/
def wholeC (ds : List Dd) (d : PyData) : Option Crs := if hasF 4 ds.length d = true then cwC 4 ds d else none
def goingB (ds : List Dd) (p s : Int) (d : PyData) : Bool := match wholeC ds d with
  | some c => fitsC c p s
  | none => false
def spCN (C C2 : Addr) : Sp := fun vs H Q _ => ∃ (q h l : Addr) (m : Int) (xs : List V) (ds : List Dd) (v : V) (d : PyData), vs = [.ref h, v] ∧ HouseL C2 H h l m xs ds ∧ ds.length ≤ 60 ∧ DV q H v d ∧ (hasF 4 ds.length d = true → few 4 ds d) ∧
  ∀ v' H', Same H H' → CV C H' v' (wholeC ds d) → Q v' H'
theorem scCN : FnScope ["house", "value"] ["house", "value"] (defScope (top 27)) := ⟨rfl, rfl, rfl, by decide +kernel, rfl, by decide +kernel, by decide +kernel⟩
theorem hasF_ref {p : Addr} {H : Hp} {v : V} {d : PyData} {j : Nat} {m : Int} (h : DV p H v d) (e : hasF j m d = true) : ∃ a, v = .ref a := by
  cases h with
  | lst _ _ _ => exact ⟨_, rfl⟩
  | tup _ _ => exact ⟨_, rfl⟩
  | dct _ => exact ⟨_, rfl⟩
  | non => cases j <;> exact absurd (show false = true from e) (by decide)
  | bl _ => cases j <;> exact absurd (show false = true from e) (by decide)
  | int _ => cases j <;> exact absurd (show false = true from e) (by decide)
  | str _ => cases j <;> exact absurd (show false = true from e) (by decide)
theorem ok_cn {f : Addr} {fd : FuncData} {tk : Tok} (F : Fun K "course_or_none" "course_or_none" (top 27) f fd) (n : Nm mg) (T : ClsT K mg C2) (m4 : mg "MOST_LISTS" = some (.int 4 tk)) (L : LenH P w K mg base C2) (DE : MeH P w K mg base C2 "deeds" 1 ["self"] (spDeeds C2))
    (GH : Fn P w K mg base 7 "has_going_form" ["many", "value", "lists"] (spHF 4)) (GW : Fn P w K mg base 8 "course_within" ["deeds", "going"] (spCW C 4)) : FnOk P w K mg base CX0 9 f fd ["house", "value"] (spCN C C2) := by
  refine F.ok scCN (fun vs H Q E h => ?_) (fun cdv A outer s H vs Q E hr h => ?_)
  · obtain ⟨q, h, l, m, xs, ds, v, d, rfl, _⟩ := h
    rfl
  · obtain ⟨p, h, l, m, xs, ds, v, d, rfl, hh, h60, hd, hf, q⟩ := h
    have r1 := hr.mono (k := 8) (j := 1) (by decide)
    have r2 := hr.mono (k := 8) (j := 2) (by decide)
    have r7 := hr.mono (k := 8) (j := 7) (by decide)
    refine ⟨_, pss_cons (ps_if (pt_not (pt_val (pe_fn GH r7 (pa_cons (pe_callB (call_lenH L r2) (by rfl) n.len PySem.boot_len (pa_cons (pv 0) pa_nil)) (pa_cons (pv 1) (pa_cons (pe_glob (v := .int 4) (by rfl) m4 ⟨_, rfl⟩) pa_nil)))))) (pss_one (ps_ret pe_non)) pss_nil)
      (pss_one (ps_ret (pe_fn GW hr (pa_cons (pe_mH0 DE T.isc.cl r1 (pv 0)) (pa_cons (pv 1) pa_nil))))), ?_⟩
    refine ⟨_, rfl, h, l, m, xs, ds, rfl, hh, h60, _, rfl, p, (ds.length : Int), v, d, rfl, hd, fun H1 s1 => ⟨hasF 4 ds.length d, rfl, ?_⟩⟩
    cases hF : hasF 4 ds.length d with
    | false =>
      have e : wholeC ds d = none := if_neg (by rw [hF]; decide)
      exact iteT (q .non H1 s1 (by rw [e]; rfl))
    | true =>
      have e : wholeC ds d = cwC 4 ds d := if_pos hF
      refine iteF ?_
      obtain ⟨a, rfl⟩ := hasF_ref hd hF
      have hh1 := hh.same s1
      obtain ⟨dx, ob⟩ := hh1.ob
      refine ⟨_, rfl, h, dx, _, rfl, ob, flds_no _ _ (by decide +kernel) (by decide +kernel), h, l, m, xs, ds, rfl, hh1, fun D hD => ?_⟩
      have s2 := same_upd (o := .lst xs) hD
      exact ⟨_, rfl, p, D, a, xs, ds, d, rfl, upd_same, (hh1.same s2).dd, hd.same (s1.trans s2), hF, hf hF, fun v' H' s3 cv => q v' H' (s1.trans (s2.trans s3)) (by rw [e]; exact cv)⟩
end
end L2.K75
end

section
set_option Elab.async false
set_option linter.all false
set_option maxRecDepth 100000
set_option maxHeartbeats 4000000
namespace L2.K75
open PySem PySem.Spec PyProof.Rows L2.Gd
/-! ### deed by deed -/
def runD : List Dd → Int → Int → Option (Int × Int)
  | [], p, s => some (p, s)
  | d :: r, p, s => if d.p ≠ p ∨ s + d.c < 0 ∨ (d.w = "empty" ∧ s ≠ 0) then none else runD r d.g (s + d.c)
theorem runD_app : ∀ (r r' : List Dd) (p s : Int), runD (r ++ r') p s = (runD r p s).bind fun x => runD r' x.1 x.2
  | [], _, _, _ => rfl
  | d :: r, r', p, s => by
    show (if _ then none else runD (r ++ r') d.g (s + d.c)) = (if _ then none else runD r d.g (s + d.c)).bind _
    split
    · rfl
    · exact runD_app r r' _ _
theorem runD_nn : ∀ (r : List Dd) (p s p' s' : Int), 0 ≤ s → runD r p s = some (p', s') → 0 ≤ s'
  | [], _, _, _, _, h, e => by
    have := Option.some.inj e
    rw [← (Prod.mk.inj this).2]
    exact h
  | d :: r, p, s, p', s', h, e => by
    unfold runD at e
    split at e
    · exact nomatch e
    · rename_i q
      refine runD_nn r _ _ _ _ ?_ e
      have : ¬ s + d.c < 0 := fun z => q (.inr (.inl z))
      omega
/-- where it may be done -/
def may (c : Crs) (s : Int) : Prop := c.v = false ∧ (if c.o = true then s = c.e else s ≥ c.e)
instance (c : Crs) (s : Int) : Decidable (may c s) := by unfold may; exact inferInstance
def SpecC (c : Crs) (r : List Dd) : Prop := c.n = r.length ∧ (r = [] → c.b = none ∧ c.f = none) ∧
  (r ≠ [] → ∃ b f : Int, c.b = some b ∧ c.f = some f ∧ ∀ p s, 0 ≤ s → runD r p s = if p = b ∧ may c s then some (f, s + c.g) else none)
def SpecO : Option Crs → List Dd → Prop
  | none, r => ∀ p s, 0 ≤ s → runD r p s = none
  | some c, r => SpecC c r
theorem spec_no : SpecC noC [] := ⟨rfl, fun _ => ⟨rfl, rfl⟩, fun h => absurd rfl h⟩
theorem spec_deed {m : Int} {d : Dd} (ok : d.Ok m) : SpecC (deedC d) [d] := by
  refine ⟨rfl, (fun h => absurd h (by simp)), fun _ => ⟨d.p, d.g, rfl, rfl, fun p s hs => ?_⟩⟩
  have ne : ¬ (("any" : Str) = "empty") := by decide +kernel
  show (if d.p ≠ p ∨ s + d.c < 0 ∨ (d.w = "empty" ∧ s ≠ 0) then none else some (d.g, s + d.c)) = _
  have key : (d.p ≠ p ∨ s + d.c < 0 ∨ (d.w = "empty" ∧ s ≠ 0)) ↔ ¬ (p = d.p ∧ may (deedC d) s) := by
    unfold may deedC
    rcases ok.w with ⟨w, c1, c2⟩ | ⟨w, c1, c2⟩
    · have w2 : ¬ d.w = "empty" := fun z => ne (w.symm.trans z)
      have dw : decide (d.w = "empty") = false := decide_eq_false w2
      simp only [dw]
      by_cases hc : 0 - d.c > 0
      · simp only [hc, if_true]
        constructor
        · rintro (h | h | h) ⟨h1, _, h2⟩
          · exact h h1.symm
          · have h2 : s ≥ 0 - d.c := h2
            omega
          · exact w2 h.1
        · intro h
          by_cases h1 : d.p = p
          · by_cases h2 : s + d.c < 0
            · exact .inr (.inl h2)
            · exact absurd ⟨h1.symm, trivial, (by show s ≥ 0 - d.c; omega)⟩ h
          · exact .inl h1
      · simp only [hc, if_false]
        constructor
        · rintro (h | h | h) ⟨h1, _, h2⟩
          · exact h h1.symm
          · omega
          · exact w2 h.1
        · intro h
          by_cases h1 : d.p = p
          · exact absurd ⟨h1.symm, trivial, (by show s ≥ 0; omega)⟩ h
          · exact .inl h1
    · have dw : decide (d.w = "empty") = true := decide_eq_true w
      simp only [dw, if_true]
      rw [if_neg (show ¬ (0 - d.c > 0) by omega)]
      constructor
      · rintro (h | h | h) ⟨h1, _, h2⟩
        · exact h h1.symm
        · omega
        · exact h.2 h2
      · intro h
        by_cases h1 : d.p = p
        · by_cases h2 : s = 0
          · exact absurd ⟨h1.symm, trivial, h2⟩ h
          · exact .inr (.inr ⟨w, h2⟩)
        · exact .inl h1
  by_cases h : p = d.p ∧ may (deedC d) s
  · rw [if_pos h, if_neg (fun z => key.mp z h)]
    rfl
  · rw [if_neg h, if_pos (key.mpr h)]
theorem spec_beh {a b : Crs} {r r' : List Dd} (ha : SpecC a r) (hb : SpecC b r') : SpecO (behC a b) (r ++ r') := by
  obtain ⟨an, a0, a1⟩ := ha
  obtain ⟨bn, b0, b1⟩ := hb
  unfold behC
  by_cases hr : r = []
  · subst hr
    rw [if_pos (by rw [an]; rfl)]
    exact ⟨bn, b0, b1⟩
  · have hrn : ¬ a.n = 0 := by
      rw [an]
      intro z
      exact hr (List.eq_nil_of_length_eq_zero (by omega))
    rw [if_neg hrn]
    by_cases hr' : r' = []
    · subst hr'
      rw [if_pos (by rw [bn]; rfl), List.append_nil]
      exact ⟨an, a0, a1⟩
    · have hrn' : ¬ b.n = 0 := by
        rw [bn]
        intro z
        exact hr' (List.eq_nil_of_length_eq_zero (by omega))
      rw [if_neg hrn']
      obtain ⟨ab, af, eab, eaf, ra⟩ := a1 hr
      obtain ⟨bb, bf, ebb, ebf, rb⟩ := b1 hr'
      by_cases hf : a.f ≠ b.b
      · rw [if_pos hf]
        intro p s hs
        rw [runD_app, ra p s hs]
        split
        · rename_i h
          have nn := runD_nn r p s af (s + a.g) hs (by rw [ra p s hs, if_pos h])
          show runD r' af (s + a.g) = none
          rw [rb _ _ nn, if_neg]
          rintro ⟨z, _⟩
          exact hf (by rw [eaf, ebb, z])
        · rfl
      · rw [if_neg hf]
        have hfb : af = bb := by
          have : a.f = b.b := Classical.not_not.mp hf
          rw [eaf, ebb] at this
          exact Option.some.inj this
        subst hfb
        refine ⟨by show a.n + b.n = _; rw [an, bn, List.length_append]; omega, fun z => absurd (List.append_eq_nil_iff.mp z).1 hr, fun _ => ⟨ab, bf, eab, ebf, fun p s hs => ?_⟩⟩
        rw [runD_app, ra p s hs]
        have key : may ⟨a.b, b.f, a.n + b.n, a.g + b.g, needB a b, a.o || b.o, a.v || (b.v || vainB a b)⟩ s ↔ (may a s ∧ may b (s + a.g)) := by
          unfold may needB vainB
          cases hao : a.o <;> cases hbo : b.o <;> cases hav : a.v <;> cases hbv : b.v <;> simp <;> (try split) <;> omega
        by_cases h : p = ab ∧ may a s
        · rw [if_pos h]
          have nn := runD_nn r p s af (s + a.g) hs (by rw [ra p s hs, if_pos h])
          show runD r' af (s + a.g) = _
          rw [rb _ _ nn]
          by_cases h2 : may b (s + a.g)
          · rw [if_pos ⟨rfl, h2⟩, if_pos ⟨h.1, key.mpr ⟨h.2, h2⟩⟩]
            show some (bf, s + a.g + b.g) = some (bf, s + (a.g + b.g))
            rw [Int.add_assoc]
          · rw [if_neg (fun z => h2 z.2), if_neg (fun z => h2 (key.mp z.2).2)]
        · rw [if_neg h, if_neg (fun z => h ⟨z.1, (key.mp z.2).1⟩)]
          rfl
end L2.K75
end

section
set_option Elab.async false
set_option linter.all false
set_option maxRecDepth 100000
set_option maxHeartbeats 4000000
namespace L2.K75
open PySem PySem.Spec PyProof.Rows L2.Gd
/-- done t times, a closed one -/
def oft (c : Crs) (t : Nat) : Crs := ⟨c.b, c.f, c.n * t, c.g * t, if c.o = true then c.e else if c.g < 0 then c.e - ((t : Int) - 1) * c.g else c.e, c.o, if c.o = true then (c.v || (decide (2 ≤ t) && !decide (c.g = 0))) else c.v⟩
def rep (t : Nat) (r : List Dd) : List Dd := (List.replicate t r).flatten
theorem rep_succ (t : Nat) (r : List Dd) : rep (t + 1) r = r ++ rep t r := by
  unfold rep
  rw [List.replicate_succ, List.flatten_cons]
theorem rep_nil (t : Nat) : rep t [] = [] := by
  unfold rep
  induction t with
  | zero => rfl
  | succ t ih => rw [List.replicate_succ, List.flatten_cons, ih]; rfl
theorem may_oft {c : Crs} {t : Nat} {s : Int} (ht : 1 ≤ t) : may (oft c (t + 1)) s ↔ (may c s ∧ may (oft c t) (s + c.g)) := by
  unfold may oft
  simp only
  cases ho : c.o with
  | true =>
    simp only [if_true]
    have d2 : decide (2 ≤ t + 1) = true := decide_eq_true (by omega)
    rw [d2, Bool.true_and]
    by_cases hg : c.g = 0
    · simp only [hg, decide_true, Bool.not_true, Bool.or_false, Bool.and_false, Int.add_zero]
      constructor
      · intro h; exact ⟨h, h⟩
      · intro h; exact h.1
    · have dg : decide (c.g = 0) = false := decide_eq_false hg
      rw [dg]
      simp only [Bool.not_false, Bool.or_true, Bool.and_true]
      constructor
      · rintro ⟨h, _⟩; exact nomatch h
      · rintro ⟨⟨_, h1⟩, ⟨_, h2⟩⟩
        omega
  | false =>
    simp only [Bool.false_eq_true, if_false]
    by_cases hg : c.g < 0
    · simp only [hg, if_true]
      have e : (((t + 1 : Nat) : Int) - 1) * c.g = ((t : Int) - 1) * c.g + c.g := by
        have : (((t + 1 : Nat) : Int) - 1) = ((t : Int) - 1) + 1 := by omega
        rw [this, Int.add_mul, Int.one_mul]
      rw [e]
      have h0 : ((t : Int) - 1) * c.g ≤ 0 := Int.mul_nonpos_of_nonneg_of_nonpos (by omega) (by omega)
      generalize ((t : Int) - 1) * c.g = z at h0
      constructor
      · rintro ⟨h1, h2⟩
        exact ⟨⟨h1, by omega⟩, h1, by omega⟩
      · rintro ⟨⟨h1, _⟩, _, h2⟩
        exact ⟨h1, by omega⟩
    · simp only [hg, if_false]
      constructor
      · rintro ⟨h1, h2⟩
        exact ⟨⟨h1, h2⟩, h1, by omega⟩
      · rintro ⟨⟨h1, h2⟩, _⟩
        exact ⟨h1, h2⟩
theorem run_rep {c : Crs} {r : List Dd} {b : Int} (h : ∀ p s, 0 ≤ s → runD r p s = if p = b ∧ may c s then some (b, s + c.g) else none) :
    ∀ t : Nat, 1 ≤ t → ∀ p s, 0 ≤ s → runD (rep t r) p s = if p = b ∧ may (oft c t) s then some (b, s + c.g * t) else none
  | 1, _, p, s, hs => by
    have e : rep 1 r = r := by rw [rep_succ]; unfold rep; simp
    have m : may (oft c 1) s ↔ may c s := by
      unfold may oft
      have d2 : decide (2 ≤ 1) = false := rfl
      simp only [d2, Bool.false_and, Bool.or_false, Int.natCast_one, Int.sub_self, Int.zero_mul, Int.sub_zero]
      cases c.o <;> simp
    rw [e, h p s hs]
    by_cases q : p = b ∧ may c s
    · rw [if_pos q, if_pos ⟨q.1, m.mpr q.2⟩]
      simp
    · rw [if_neg q, if_neg (fun z => q ⟨z.1, m.mp z.2⟩)]
  | t + 2, _, p, s, hs => by
    rw [rep_succ, runD_app, h p s hs]
    have k := may_oft (c := c) (t := t + 1) (s := s) (by omega)
    by_cases q : p = b ∧ may c s
    · rw [if_pos q]
      have nn := runD_nn r p s b (s + c.g) hs (by rw [h p s hs, if_pos q])
      show runD (rep (t + 1) r) b (s + c.g) = _
      rw [run_rep h (t + 1) (by omega) _ _ nn]
      by_cases q2 : may (oft c (t + 1)) (s + c.g)
      · rw [if_pos ⟨rfl, q2⟩, if_pos ⟨q.1, k.mpr ⟨q.2, q2⟩⟩]
        have : c.g * ((t + 1 + 1 : Nat) : Int) = c.g + c.g * ((t + 1 : Nat) : Int) := by
          rw [show ((t + 1 + 1 : Nat) : Int) = 1 + ((t + 1 : Nat) : Int) by omega, Int.mul_add, Int.mul_one]
        rw [this, Int.add_assoc]
      · rw [if_neg (fun z => q2 z.2), if_neg (fun z => q2 (k.mp z.2).2)]
    · rw [if_neg q, if_neg (fun z => q ⟨z.1, (k.mp z.2).1⟩)]
      rfl
theorem spec_oft {c : Crs} {r : List Dd} (hc : SpecC c r) {t : Nat} (ht : 1 ≤ t) : SpecO (oftC c t) (rep t r) := by
  obtain ⟨cn, c0, c1⟩ := hc
  unfold oftC
  by_cases h1 : (t : Int) = 1
  · rw [if_pos h1]
    obtain rfl : t = 1 := by omega
    have e : rep 1 r = r := by rw [rep_succ]; unfold rep; simp
    rw [e]
    exact ⟨cn, c0, c1⟩
  · rw [if_neg h1]
    by_cases hr : r = []
    · subst hr
      obtain ⟨e1, e2⟩ := c0 rfl
      rw [if_neg (by rw [e1, e2]; simp), rep_nil]
      refine ⟨?_, fun _ => ⟨e1, e2⟩, fun z => absurd rfl z⟩
      show c.n * (t : Int) = _
      rw [cn]
      simp
    · obtain ⟨b, f, eb, ef, run⟩ := c1 hr
      by_cases hbf : c.b ≠ c.f
      · rw [if_pos hbf]
        intro p s hs
        obtain ⟨k, rfl⟩ : ∃ k, t = k + 2 := ⟨t - 2, by omega⟩
        rw [rep_succ, rep_succ, runD_app, run p s hs]
        split
        · rename_i q
          have nn := runD_nn r p s f (s + c.g) hs (by rw [run p s hs, if_pos q])
          show runD (r ++ rep k r) f (s + c.g) = none
          rw [runD_app, run _ _ nn, if_neg]
          · rfl
          · rintro ⟨z, _⟩
            exact hbf (by rw [eb, ef, z])
        · rfl
      · rw [if_neg hbf]
        have fb : f = b := by
          have : c.b = c.f := Classical.not_not.mp hbf
          rw [eb, ef] at this
          exact (Option.some.inj this).symm
        subst fb
        have e : (⟨c.b, c.f, c.n * t, c.g * t, if c.o = true then c.e else if c.g < 0 then c.e - ((t : Int) - 1) * c.g else c.e, c.o, if c.o = true then (c.v || !decide (c.g = 0)) else c.v⟩ : Crs) = oft c t := by
          unfold oft
          have d2 : decide (2 ≤ t) = true := decide_eq_true (by omega)
          rw [d2, Bool.true_and]
        show SpecC _ _
        rw [e]
        refine ⟨?_, fun z => ?_, fun _ => ⟨f, f, eb, ef, run_rep run t ht⟩⟩
        · show c.n * (t : Int) = ((rep t r).length : Int)
          have : (rep t r).length = r.length * t := by
            unfold rep
            rw [List.length_flatten, List.map_replicate, List.sum_replicate_nat, Nat.mul_comm]
          rw [this, cn]
          simp
        · exfalso
          obtain ⟨k, rfl⟩ : ∃ k, t = k + 1 := ⟨t - 1, by omega⟩
          rw [rep_succ] at z
          exact hr (List.append_eq_nil_iff.mp z).1
end L2.K75
end

section
set_option Elab.async false
set_option linter.all false
set_option maxRecDepth 100000
set_option maxHeartbeats 4000000
namespace L2.K75
open PySem PySem.Spec PyProof.Rows L2.Gd
/-! ### a going deed by deed, and its course -/
def itemU (g : PyData → Option (List Nat)) (m : Int) : PyData → Option (List Nat)
  | .int i => if 0 ≤ i ∧ i < m then some [i.toNat] else none
  | .tuple [x, .int t] => if t < 0 then none else (g x).map fun r => (List.replicate t.toNat r).flatten
  | _ => none
def unrL (g : PyData → Option (List Nat)) (m : Int) : List PyData → Option (List Nat)
  | [] => some []
  | it :: r => match itemU g m it, unrL g m r with
    | some a, some b => some (a ++ b)
    | _, _ => none
def unr : Nat → Int → PyData → Option (List Nat)
  | 0, _, _ => none
  | k + 1, m, d => match seqOf d with
    | some its => unrL (unr k m) m its
    | none => none
def rowD (ds : List Dd) (r : List Nat) : List Dd := r.map fun i => ds.getD i d00
where d00 : Dd := ⟨0, 0, 0, "any"⟩
def dueB (ds : List Dd) (p s : Int) (d : PyData) : Bool := match unr 4 ds.length d with
  | some r => (runD (rowD ds r) p s).isSome
  | none => false
theorem item_form {k : Nat} {m : Int} (ih : ∀ d, hasF k m d = (unr k m d).isSome) (d : PyData) : itemF (hasF k m) m d = (itemU (unr k m) m d).isSome := by
  match d with
  | .none => rfl
  | .bool _ => rfl
  | .str _ => rfl
  | .list _ => rfl
  | .dict _ => rfl
  | .int i =>
    show (decide (0 ≤ i) && decide (i < m)) = (if 0 ≤ i ∧ i < m then some [i.toNat] else none : Option (List Nat)).isSome
    by_cases h : 0 ≤ i ∧ i < m
    · rw [if_pos h, decide_eq_true h.1, decide_eq_true h.2]
      rfl
    · rw [if_neg h]
      by_cases h1 : 0 ≤ i
      · rw [decide_eq_true h1, decide_eq_false (fun z => h ⟨h1, z⟩)]
        rfl
      · rw [decide_eq_false h1]
        rfl
  | .tuple [] => rfl
  | .tuple [_] => rfl
  | .tuple (_ :: b :: _ :: _) => cases b <;> rfl
  | .tuple [x, .none] => rfl
  | .tuple [x, .bool _] => rfl
  | .tuple [x, .str _] => rfl
  | .tuple [x, .list _] => rfl
  | .tuple [x, .tuple _] => rfl
  | .tuple [x, .dict _] => rfl
  | .tuple [x, .int t] =>
    show (decide (0 ≤ t) && hasF k m x) = (if t < 0 then none else (unr k m x).map fun r => (List.replicate t.toNat r).flatten).isSome
    by_cases h : t < 0
    · rw [if_pos h, decide_eq_false (by omega)]
      rfl
    · rw [if_neg h, decide_eq_true (by omega), Bool.true_and, ih, Option.isSome_map]
theorem has_unr : ∀ (k : Nat) (m : Int) (d : PyData), hasF k m d = (unr k m d).isSome
  | 0, _, _ => rfl
  | k + 1, m, d => by
    unfold hasF unr
    cases seqOf d with
    | none => rfl
    | some its =>
      show its.all (itemF (hasF k m) m) = (unrL (unr k m) m its).isSome
      induction its with
      | nil => rfl
      | cons it r ihr =>
        rw [List.all_cons, ihr, item_form (has_unr k m)]
        show _ = (match itemU (unr k m) m it, unrL (unr k m) m r with | some a, some b => some (a ++ b) | _, _ => none : Option (List Nat)).isSome
        cases itemU (unr k m) m it <;> cases unrL (unr k m) m r <;> rfl
theorem rowD_app (ds : List Dd) (a b : List Nat) : rowD ds (a ++ b) = rowD ds a ++ rowD ds b := by unfold rowD; exact List.map_append
theorem rowD_rep (ds : List Dd) (t : Nat) (a : List Nat) : rowD ds (List.replicate t a).flatten = rep t (rowD ds a) := by
  unfold rowD rep
  rw [List.map_flatten, List.map_replicate]
theorem spec_none_app {r : List Dd} (h : SpecO none r) (r' : List Dd) : SpecO none (r ++ r') := fun p s hs => by
  rw [runD_app, h p s hs]
  rfl
/-- a part that leads nowhere, behind one that has a course -/
theorem spec_some_none {c : Crs} {r r' : List Dd} (hc : SpecC c r) (h : SpecO none r') : SpecO none (r ++ r') := fun p s hs => by
  rw [runD_app]
  cases e : runD r p s with
  | none => rfl
  | some x => exact h _ _ (runD_nn r p s x.1 x.2 hs e)
section
variable {m : Int} {ds : List Dd}
theorem spec_item (ok : ∀ d ∈ ds, d.Ok m) {k : Nat} (ih : ∀ d r, unr k ds.length d = some r → SpecO (cwC k ds d) (rowD ds r)) {d : PyData} {r : List Nat} (e : itemU (unr k ds.length) ds.length d = some r) :
    SpecO (itemC (cwC k ds) ds d) (rowD ds r) := by
  match d, e with
  | .int i, e =>
    have e' : (if 0 ≤ i ∧ i < (ds.length : Int) then some [i.toNat] else none : Option (List Nat)) = some r := e
    by_cases h : 0 ≤ i ∧ i < (ds.length : Int)
    · rw [if_pos h] at e'
      obtain rfl := Option.some.inj e'
      have lt : i.toNat < ds.length := by omega
      have e1 : rowD ds [i.toNat] = [ds[i.toNat]] := by
        unfold rowD
        rw [List.map_cons, List.map_nil, List.getD_eq_getElem?_getD, List.getElem?_eq_getElem lt]
        rfl
      rw [e1]
      show SpecO ((ds[i.toNat]?).map deedC) _
      rw [List.getElem?_eq_getElem lt]
      exact spec_deed (ok _ (List.getElem_mem lt))
    · rw [if_neg h] at e'
      exact nomatch e'
  | .tuple [x, .int t], e =>
    have e' : (if t < 0 then none else (unr k ds.length x).map fun r => (List.replicate t.toNat r).flatten) = some r := e
    by_cases h : t < 0
    · rw [if_pos h] at e'
      exact nomatch e'
    · rw [if_neg h] at e'
      obtain ⟨a, ea, rfl⟩ := Option.map_eq_some_iff.mp e'
      rw [rowD_rep]
      show SpecO ((if t > 0 then cwC k ds x else some noC).bind fun c => oftC c t) _
      by_cases h0 : t > 0
      · rw [if_pos h0]
        have := ih x a ea
        obtain ⟨n, rfl⟩ : ∃ n : Nat, t = n := ⟨t.toNat, by omega⟩
        rw [Int.toNat_natCast]
        cases hc : cwC k ds x with
        | none =>
          rw [hc] at this
          obtain ⟨j, rfl⟩ : ∃ j, n = j + 1 := ⟨n - 1, by omega⟩
          rw [rep_succ]
          exact spec_none_app this _
        | some c =>
          rw [hc] at this
          exact spec_oft this (by omega)
      · rw [if_neg h0]
        obtain rfl : t = 0 := by omega
        exact spec_no
theorem spec_list (ok : ∀ d ∈ ds, d.Ok m) {k : Nat} (ih : ∀ d r, unr k ds.length d = some r → SpecO (cwC k ds d) (rowD ds r)) :
    ∀ (its : List PyData) (c : Crs) (r0 : List Dd) (r : List Nat), SpecC c r0 → unrL (unr k ds.length) ds.length its = some r → SpecO (cwL (itemC (cwC k ds) ds) its c) (r0 ++ rowD ds r)
  | [], c, r0, r, hc, e => by
    obtain rfl := (Option.some.inj e).symm
    show SpecC c (r0 ++ [])
    rw [List.append_nil]
    exact hc
  | it :: its, c, r0, r, hc, e => by
    have e' : (match itemU (unr k ds.length) ds.length it, unrL (unr k ds.length) ds.length its with | some a, some b => some (a ++ b) | _, _ => none : Option (List Nat)) = some r := e
    cases h1 : itemU (unr k ds.length) ds.length it with
    | none => rw [h1] at e'; exact nomatch e'
    | some a =>
      cases h2 : unrL (unr k ds.length) ds.length its with
      | none => rw [h1, h2] at e'; exact nomatch e'
      | some b =>
        rw [h1, h2] at e'
        obtain rfl := (Option.some.inj e').symm
        rw [rowD_app, ← List.append_assoc]
        have si := spec_item ok ih h1
        show SpecO (match (itemC (cwC k ds) ds it).bind (behC c) with | none => none | some c' => cwL (itemC (cwC k ds) ds) its c') _
        cases hi : itemC (cwC k ds) ds it with
        | none =>
          rw [hi] at si
          exact spec_none_app (spec_some_none hc si) _
        | some ci =>
          rw [hi] at si
          have sb := spec_beh hc si
          show SpecO (match behC c ci with | none => none | some c' => cwL (itemC (cwC k ds) ds) its c') _
          cases hb : behC c ci with
          | none =>
            rw [hb] at sb
            exact spec_none_app sb _
          | some c' =>
            rw [hb] at sb
            exact spec_list ok ih its c' _ b sb h2
theorem spec_cw (ok : ∀ d ∈ ds, d.Ok m) : ∀ (k : Nat) (d : PyData) (r : List Nat), unr k ds.length d = some r → SpecO (cwC k ds d) (rowD ds r)
  | 0, _, _, e => nomatch e
  | k + 1, d, r, e => by
    unfold unr at e
    unfold cwC
    cases hs : seqOf d with
    | none => rw [hs] at e; exact nomatch e
    | some its =>
      rw [hs] at e
      exact spec_list ok (spec_cw ok k) its noC [] r spec_no e
/-- the judge says what the single deeds say -/
theorem going_due (ok : ∀ d ∈ ds, d.Ok m) {p s : Int} (hs : 0 ≤ s) (d : PyData) : goingB ds p s d = dueB ds p s d := by
  unfold goingB dueB wholeC
  have hu := has_unr 4 ds.length d
  cases e : unr 4 ds.length d with
  | none =>
    rw [e] at hu
    rw [if_neg (by rw [hu]; decide)]
  | some r =>
    rw [e] at hu
    rw [if_pos (by rw [hu]; rfl)]
    have sp := spec_cw ok 4 d r e
    cases hc : cwC 4 ds d with
    | none =>
      rw [hc] at sp
      show false = (runD (rowD ds r) p s).isSome
      rw [sp p s hs]
      rfl
    | some c =>
      rw [hc] at sp
      obtain ⟨cn, c0, c1⟩ := sp
      show fitsC c p s = (runD (rowD ds r) p s).isSome
      unfold fitsC
      by_cases hr : rowD ds r = []
      · rw [hr] at cn ⊢
        rw [if_pos (by rw [cn]; rfl)]
        rfl
      · have hn : ¬ c.n = 0 := by
          rw [cn]
          intro z
          exact hr (List.eq_nil_of_length_eq_zero (by omega))
        rw [if_neg hn]
        obtain ⟨b, f, eb, ef, run⟩ := c1 hr
        rw [run p s hs]
        by_cases hv : c.v = true ∨ c.b ≠ some p
        · rw [if_pos hv, if_neg]
          · rfl
          · rintro ⟨z, mv, _⟩
            rcases hv with h | h
            · rw [mv] at h
              exact nomatch h
            · exact h (by rw [eb, z])
        · rw [if_neg hv]
          have v0 : c.v = false := by
            cases h : c.v with
            | true => exact absurd (.inl h) hv
            | false => rfl
          have pb : p = b := by
            have : c.b = some p := Classical.not_not.mp fun z => hv (.inr z)
            rw [eb] at this
            exact (Option.some.inj this).symm
          by_cases ho : c.o = true
          · rw [if_pos ho]
            by_cases hse : s = c.e
            · rw [decide_eq_true hse, if_pos ⟨pb, v0, by rw [if_pos ho]; exact hse⟩]
              rfl
            · rw [decide_eq_false hse, if_neg]
              · rfl
              · rintro ⟨_, _, z⟩
                rw [if_pos ho] at z
                exact hse z
          · rw [if_neg ho]
            by_cases hse : s ≥ c.e
            · rw [decide_eq_true hse, if_pos ⟨pb, v0, by rw [if_neg ho]; exact hse⟩]
              rfl
            · rw [decide_eq_false hse, if_neg]
              · rfl
              · rintro ⟨_, _, z⟩
                rw [if_neg ho] at z
                exact hse z
end
end L2.K75
end

section
set_option Elab.async false
set_option linter.all false
set_option maxHeartbeats 1000000
namespace L2.K75
open PySem PySem.Spec PyProof.Rows L2.Gd
/-! Goings in laps and how high they go: the mathematics. -/
inductive It
  | deed (i : Nat)
  | lap (b : List It) (t : Nat)
mutual
def It.D : It → PyData
  | .deed i => .int (i : Int)
  | .lap b t => .tuple [.list (It.DL b), .int (t : Int)]
def It.DL : List It → List PyData
  | [] => []
  | x :: r => It.D x :: It.DL r
end
mutual
def unI : It → List Nat
  | .deed i => [i]
  | .lap b t => (List.replicate t (unM b)).flatten
def unM : List It → List Nat
  | [] => []
  | x :: r => unI x ++ unM r
end
mutual
/-- lists within -/
def dpI : It → Nat
  | .deed _ => 0
  | .lap b _ => dpM b + 1
def dpM : List It → Nat
  | [] => 0
  | x :: r => max (dpI x) (dpM r)
end
mutual
def okI (m : Nat) : It → Prop
  | .deed i => i < m
  | .lap b _ => okM m b
def okM (m : Nat) : List It → Prop
  | [] => True
  | x :: r => okI m x ∧ okM m r
end
theorem DL_map : ∀ l : List It, It.DL l = l.map It.D
  | [] => by simp [It.DL]
  | x :: r => by simp [It.DL, DL_map r]
theorem unM_app : ∀ a b : List It, unM (a ++ b) = unM a ++ unM b
  | [], b => by simp [unM]
  | x :: r, b => by
    show unI x ++ unM (r ++ b) = (unI x ++ unM r) ++ unM b
    rw [unM_app r b, List.append_assoc]
theorem dpM_app : ∀ a b : List It, dpM (a ++ b) = max (dpM a) (dpM b)
  | [], b => by simp [dpM]
  | x :: r, b => by
    show max (dpI x) (dpM (r ++ b)) = max (max (dpI x) (dpM r)) (dpM b)
    rw [dpM_app r b]
    omega
theorem okM_app {m : Nat} : ∀ {a b : List It}, okM m (a ++ b) ↔ okM m a ∧ okM m b
  | [], b => by simp [okM]
  | x :: r, b => by
    show okI m x ∧ okM m (r ++ b) ↔ (okI m x ∧ okM m r) ∧ okM m b
    rw [okM_app, and_assoc]
theorem okM_mem {m : Nat} : ∀ {l : List It} {x : It}, okM m l → x ∈ l → okI m x
  | y :: r, x, h, hx => by
    rcases List.mem_cons.mp hx with rfl | hx
    · exact h.1
    · exact okM_mem h.2 hx
theorem dpM_mem : ∀ {l : List It} {x : It}, x ∈ l → dpI x ≤ dpM l
  | y :: r, x, hx => by
    show dpI x ≤ max (dpI y) (dpM r)
    rcases List.mem_cons.mp hx with rfl | hx
    · omega
    · have := dpM_mem hx
      omega
def row (ds : List Dd) (its : List It) : List Dd := rowD ds (unM its)
theorem row_app (ds : List Dd) (a b : List It) : row ds (a ++ b) = row ds a ++ row ds b := by
  unfold row
  rw [unM_app, rowD_app]
theorem row_cons (ds : List Dd) (x : It) (r : List It) : row ds (x :: r) = row ds [x] ++ row ds r := row_app ds [x] r
theorem row_nil (ds : List Dd) : row ds [] = [] := rfl
theorem row_lap (ds : List Dd) (b : List It) (t : Nat) : row ds [.lap b t] = rep t (row ds b) := by
  unfold row
  have : unM [It.lap b t] = (List.replicate t (unM b)).flatten := by simp [unM, unI]
  rw [this, rowD_rep]
/-! ### gain, peak -/
def gnR : List Dd → Int
  | [] => 0
  | d :: r => d.c + gnR r
def pk : List Dd → Int
  | [] => 0
  | d :: r => max 0 (d.c + pk r)
theorem gn_app : ∀ a b : List Dd, gnR (a ++ b) = gnR a + gnR b
  | [], b => by simp [gnR]
  | d :: r, b => by
    show d.c + gnR (r ++ b) = d.c + gnR r + gnR b
    rw [gn_app r b]
    omega
theorem pk_nn : ∀ a : List Dd, 0 ≤ pk a
  | [] => Int.le_refl _
  | d :: r => by show 0 ≤ max 0 _; omega
theorem pk_app : ∀ a b : List Dd, pk (a ++ b) = max (pk a) (gnR a + pk b)
  | [], b => by
    have := pk_nn b
    show pk b = max 0 (0 + pk b)
    omega
  | d :: r, b => by
    show max 0 (d.c + pk (r ++ b)) = max (max 0 (d.c + pk r)) (d.c + gnR r + pk b)
    rw [pk_app r b]
    omega
theorem gn_pk : ∀ a : List Dd, gnR a ≤ pk a
  | [] => Int.le_refl _
  | d :: r => by
    have := gn_pk r
    show d.c + gnR r ≤ max 0 (d.c + pk r)
    omega
theorem gn_rep (r : List Dd) : ∀ t : Nat, gnR (rep t r) = gnR r * t
  | 0 => by
    show gnR [] = gnR r * ((0 : Nat) : Int)
    simp [gnR]
  | t + 1 => by
    rw [rep_succ, gn_app, gn_rep r t, show ((t + 1 : Nat) : Int) = (t : Int) + 1 by omega, Int.mul_add]
    omega
theorem pk_rep (r : List Dd) : ∀ t : Nat, pk (rep (t + 1) r) = pk r + max 0 (gnR r) * t
  | 0 => by
    have := gn_pk r
    have h2 : pk (rep 0 r) = 0 := rfl
    have h3 := pk_nn r
    rw [rep_succ, pk_app, h2, show ((0 : Nat) : Int) = 0 from rfl, Int.mul_zero]
    omega
  | t + 1 => by
    rw [rep_succ, pk_app, pk_rep r t, show ((t + 1 : Nat) : Int) = (t : Int) + 1 by omega, Int.mul_add, Int.mul_one]
    have h0 : 0 ≤ max 0 (gnR r) * (t : Int) := Int.mul_nonneg (by omega) (by omega)
    by_cases h : gnR r ≤ 0
    · rw [show max 0 (gnR r) = 0 by omega, Int.zero_mul]
      omega
    · omega
theorem run_gn : ∀ {r : List Dd} {p s p' s' : Int}, runD r p s = some (p', s') → s' = s + gnR r
  | [], _, _, _, _, e => by
    have := (Prod.mk.inj (Option.some.inj e)).2
    show _ = _ + 0
    omega
  | d :: r, p, s, p', s', e => by
    unfold runD at e
    split at e
    · exact nomatch e
    · have := run_gn e
      show s' = s + (d.c + gnR r)
      omega
/-! ### the law's summary -/
abbrev Pt := Option (Int × Int) × Int × Int × Int
def p0 : Pt := (none, 0, 0, 0)
def d00 : Dd := ⟨0, 0, 0, "any"⟩
def glue (a q : Pt) : Option Pt :=
  match a.1, q.1 with
  | some e, some f => if e.2 ≠ f.1 then none else some (some (e.1, f.2), a.2.1 + q.2.1, max a.2.2.1 (q.2.2.1 - a.2.1), max a.2.2.2 (a.2.1 + q.2.2.2))
  | none, f => some (f, a.2.1 + q.2.1, max a.2.2.1 (q.2.2.1 - a.2.1), max a.2.2.2 (a.2.1 + q.2.2.2))
  | e, none => some (e, a.2.1 + q.2.1, max a.2.2.1 (q.2.2.1 - a.2.1), max a.2.2.2 (a.2.1 + q.2.2.2))
def apart (q : Pt) : Bool := match q.1 with
  | some e => !decide (e.1 = e.2)
  | none => false
def lapF (o : Option Pt) (t : Nat) : Option Pt := if t = 0 then some p0 else match o with
  | none => none
  | some q => if 1 < t ∧ apart q = true then none else some (q.1, q.2.1 + q.2.1 * ((t : Int) - 1), q.2.2.1 - min 0 (q.2.1 * ((t : Int) - 1)), q.2.2.2 + max 0 (q.2.1 * ((t : Int) - 1)))
def deedP (d : Dd) : Option Pt := if d.w = "any" then some (some (d.p, d.g), d.c, if d.c < 0 then 1 else 0, max 0 d.c) else none
mutual
def plI (ds : List Dd) : It → Option Pt
  | .deed i => deedP (ds.getD i d00)
  | .lap b t => lapF (plM ds b p0) t
def plM (ds : List Dd) : List It → Pt → Option Pt
  | [], a => some a
  | x :: r, a => match (plI ds x).bind (glue a) with
    | none => none
    | some a' => plM ds r a'
end
structure SmP (q : Pt) (r : List Dd) : Prop where
  g : q.2.1 = gnR r
  m : q.2.2.2 = pk r
  no : q.1 = none → r = []
  run : ∀ a b, q.1 = some (a, b) → ∀ s, 0 ≤ s → q.2.2.1 ≤ s → runD r a s = some (b, s + gnR r)
theorem SmP.nil : SmP p0 [] := ⟨rfl, rfl, fun _ => rfl, fun _ _ e => nomatch e⟩
theorem SmP.glue {a q a' : Pt} {r r' : List Dd} (ha : SmP a r) (hq : SmP q r') (e : glue a q = some a') : SmP a' (r ++ r') := by
  have key : ∀ f, (f = none → r ++ r' = []) → (∀ x y, f = some (x, y) → ∀ s, 0 ≤ s → max a.2.2.1 (q.2.2.1 - a.2.1) ≤ s → runD (r ++ r') x s = some (y, s + gnR (r ++ r'))) → SmP (f, a.2.1 + q.2.1, max a.2.2.1 (q.2.2.1 - a.2.1), max a.2.2.2 (a.2.1 + q.2.2.2)) (r ++ r') := fun f h1 h2 =>
    ⟨by show a.2.1 + q.2.1 = _; rw [gn_app, ha.g, hq.g], by show max a.2.2.2 (a.2.1 + q.2.2.2) = _; rw [pk_app, ha.m, hq.m, ha.g], h1, h2⟩
  unfold K75.glue at e
  obtain ⟨a1, ag, an, am⟩ := a
  obtain ⟨q1, qg, qn, qm⟩ := q
  cases a1 with
  | none =>
    obtain rfl := ha.no rfl
    have h0 : ag = 0 := ha.g
    obtain rfl := Option.some.inj e
    refine key q1 (fun z => hq.no z) fun x y z s hs hl => ?_
    exact hq.run x y z s hs (by show qn ≤ s; have hl : max an (qn - ag) ≤ s := hl; omega)
  | some e1 =>
    cases q1 with
    | none =>
      obtain rfl := hq.no rfl
      obtain rfl := Option.some.inj e
      refine key (some e1) (fun z => nomatch z) fun x y z s hs hl => ?_
      rw [List.append_nil]
      exact ha.run x y z s hs (by show an ≤ s; have hl : max an (qn - ag) ≤ s := hl; omega)
    | some f =>
      have e : (if e1.2 ≠ f.1 then none else some ((some (e1.1, f.2), ag + qg, max an (qn - ag), max am (ag + qm)) : Pt)) = some a' := e
      split at e
      · exact nomatch e
      · rename_i h
        have h : e1.2 = f.1 := Decidable.not_not.mp h
        obtain rfl := Option.some.inj e
        refine key (some (e1.1, f.2)) (fun z => nomatch z) fun x y z s hs hl => ?_
        obtain ⟨rfl, rfl⟩ := Prod.mk.inj (Option.some.inj z)
        have hl : max an (qn - ag) ≤ s := hl
        have r1 := ha.run e1.1 e1.2 rfl s hs (by show an ≤ s; omega)
        have nn := runD_nn _ _ _ _ _ hs r1
        have g1 : ag = gnR r := ha.g
        have r2 := hq.run f.1 f.2 rfl (s + gnR r) nn (by show qn ≤ _; omega)
        rw [runD_app, r1, Option.bind_some]
        show runD r' e1.2 (s + gnR r) = _
        rw [h, r2, gn_app]
        congr 2
        omega
theorem SmP.deed {m : Int} {d : Dd} (ok : d.Ok m) {q : Pt} (e : deedP d = some q) : SmP q [d] := by
  unfold deedP at e
  split at e
  · rename_i w
    obtain rfl := Option.some.inj e
    have ne : ¬ d.w = "empty" := fun z => by rw [w] at z; exact absurd z (by decide +kernel)
    have c1 : -1 ≤ d.c := by
      rcases ok.w with ⟨_, c, _⟩ | ⟨_, c, _⟩ <;> omega
    refine ⟨by show d.c = d.c + 0; omega, by show max 0 d.c = max 0 (d.c + 0); omega, (fun z => nomatch z), fun a b z s hs hl => ?_⟩
    obtain ⟨rfl, rfl⟩ := Prod.mk.inj (Option.some.inj z)
    have hl : (if d.c < 0 then (1 : Int) else 0) ≤ s := hl
    have h2 : ¬ s + d.c < 0 := by split at hl <;> omega
    show (if d.p ≠ d.p ∨ s + d.c < 0 ∨ (d.w = "empty" ∧ s ≠ 0) then none else some (d.g, s + d.c)) = some (d.g, s + (d.c + 0))
    rw [if_neg (by
      rintro (z | z | z)
      · exact z rfl
      · exact h2 z
      · exact ne z.1), Int.add_zero]
  · exact nomatch e
theorem run_laps {r : List Dd} {a n0 : Int} (h : ∀ s, 0 ≤ s → n0 ≤ s → runD r a s = some (a, s + gnR r)) : ∀ (t : Nat) (s : Int), 0 ≤ s → n0 ≤ s → n0 ≤ s + gnR r * t → runD (rep (t + 1) r) a s = some (a, s + gnR r * (t + 1))
  | 0, s, hs, h1, _ => by
    rw [rep_succ, runD_app, h s hs h1, Option.bind_some]
    show some (a, s + gnR r) = _
    rw [show ((0 : Nat) : Int) = 0 from rfl, Int.zero_add, Int.mul_one]
  | t + 1, s, hs, h1, h2 => by
    have r1 := h s hs h1
    have nn := runD_nn _ _ _ _ _ hs r1
    have e1 : ((t + 1 : Nat) : Int) = (t : Int) + 1 := by omega
    rw [e1, Int.mul_add, Int.mul_one] at h2
    have h3 : n0 ≤ s + gnR r := by
      by_cases g0 : 0 ≤ gnR r
      · omega
      · have : gnR r * (t : Int) ≤ 0 := Int.mul_nonpos_of_nonpos_of_nonneg (by omega) (by omega)
        omega
    rw [rep_succ, runD_app, r1, Option.bind_some]
    show runD (rep (t + 1) r) a (s + gnR r) = _
    rw [run_laps h t (s + gnR r) nn h3 (by omega), e1]
    congr 2
    rw [Int.mul_add, Int.mul_add, Int.mul_add, Int.mul_one]
    omega
theorem SmP.lap {q q' : Pt} {r : List Dd} (hq : SmP q r) {t : Nat} (e : lapF (some q) t = some q') (t0 : t ≠ 0) : SmP q' (rep t r) := by
  unfold lapF at e
  rw [if_neg t0] at e
  have e : (if 1 < t ∧ apart q = true then none else some ((q.1, q.2.1 + q.2.1 * ((t : Int) - 1), q.2.2.1 - min 0 (q.2.1 * ((t : Int) - 1)), q.2.2.2 + max 0 (q.2.1 * ((t : Int) - 1))) : Pt)) = some q' := e
  split at e
  · exact nomatch e
  · rename_i h
    obtain rfl := Option.some.inj e
    obtain ⟨u, rfl⟩ : ∃ u, t = u + 1 := ⟨t - 1, by omega⟩
    have e1 : ((u + 1 : Nat) : Int) - 1 = (u : Int) := by omega
    have mx : max 0 (gnR r * (u : Int)) = max 0 (gnR r) * (u : Int) := by
      by_cases g0 : 0 ≤ gnR r
      · have : 0 ≤ gnR r * (u : Int) := Int.mul_nonneg g0 (by omega)
        rw [show max 0 (gnR r) = gnR r by omega]
        omega
      · have : gnR r * (u : Int) ≤ 0 := Int.mul_nonpos_of_nonpos_of_nonneg (by omega) (by omega)
        rw [show max 0 (gnR r) = 0 by omega, Int.zero_mul]
        omega
    refine ⟨?_, ?_, fun z => by rw [hq.no z, rep_nil], fun a b z s hs hl => ?_⟩
    · show q.2.1 + q.2.1 * (((u + 1 : Nat) : Int) - 1) = _
      rw [gn_rep, hq.g, e1, show ((u + 1 : Nat) : Int) = (u : Int) + 1 by omega, Int.mul_add, Int.mul_one]
      omega
    · show q.2.2.2 + max 0 (q.2.1 * (((u + 1 : Nat) : Int) - 1)) = _
      rw [pk_rep, hq.m, hq.g, e1, mx]
    · have z : q.1 = some (a, b) := z
      have hl : q.2.2.1 - min 0 (q.2.1 * (((u + 1 : Nat) : Int) - 1)) ≤ s := hl
      rw [hq.g, e1] at hl
      have base := fun s h1 h2 => hq.run a b z s h1 h2
      have gm : gnR (rep (u + 1) r) = gnR r * ((u : Int) + 1) := by rw [gn_rep, show ((u + 1 : Nat) : Int) = (u : Int) + 1 by omega]
      rw [gm]
      by_cases u0 : u = 0
      · subst u0
        rw [rep_succ]
        have : rep 0 r = [] := rfl
        rw [this, List.append_nil, base s hs (by have : ((0 : Nat) : Int) = 0 := rfl; rw [this, Int.mul_zero] at hl; omega), show ((0 : Nat) : Int) = 0 from rfl, Int.zero_add, Int.mul_one]
      · have ab : a = b := by
          by_cases c : a = b
          · exact c
          · refine absurd ⟨by omega, ?_⟩ h
            unfold apart
            rw [z]
            show (!decide (a = b)) = true
            rw [decide_eq_false c]
            rfl
        subst ab
        exact run_laps base u s hs (by omega) (by omega)
mutual
theorem plI_ok {ds : List Dd} {m : Int} (ok : ∀ d ∈ ds, d.Ok m) : ∀ (x : It) (q : Pt), okI ds.length x → plI ds x = some q → SmP q (row ds [x])
  | .deed i, q, h, e => by
    have h : i < ds.length := h
    have e : deedP (ds.getD i d00) = some q := e
    have g : ds.getD i d00 = ds[i] := by rw [List.getD_eq_getElem?_getD, List.getElem?_eq_getElem h]; rfl
    have g2 : ds.getD i rowD.d00 = ds[i] := by rw [List.getD_eq_getElem?_getD, List.getElem?_eq_getElem h]; rfl
    have : row ds [.deed i] = [ds[i]] := by
      unfold row rowD
      have u : unM [It.deed i] = [i] := by simp [unM, unI]
      rw [u]
      show [ds.getD i rowD.d00] = _
      rw [g2]
    rw [this, ← g]
    exact SmP.deed (ok _ (by rw [g]; exact List.getElem_mem h)) e
  | .lap b t, q, h, e => by
    have e : lapF (plM ds b p0) t = some q := e
    rw [row_lap]
    by_cases t0 : t = 0
    · subst t0
      obtain rfl : p0 = q := Option.some.inj e
      exact SmP.nil
    · cases hb : plM ds b p0 with
      | none =>
        rw [hb] at e
        unfold lapF at e
        rw [if_neg t0] at e
        exact nomatch e
      | some q1 =>
        rw [hb] at e
        have := plM_ok ok b p0 q1 [] h SmP.nil hb
        exact SmP.lap this e t0
theorem plM_ok {ds : List Dd} {m : Int} (ok : ∀ d ∈ ds, d.Ok m) : ∀ (l : List It) (a q : Pt) (r : List Dd), okM ds.length l → SmP a r → plM ds l a = some q → SmP q (r ++ row ds l)
  | [], a, q, r, _, h, e => by
    obtain rfl : a = q := Option.some.inj e
    rw [row_nil, List.append_nil]
    exact h
  | x :: l, a, q, r, hl, h, e => by
    have e : (match (plI ds x).bind (glue a) with | none => none | some a' => plM ds l a') = some q := e
    cases hx : plI ds x with
    | none =>
      rw [hx] at e
      exact nomatch e
    | some q1 =>
      rw [hx, Option.bind_some] at e
      cases hg : glue a q1 with
      | none =>
        rw [hg] at e
        exact nomatch e
      | some a' =>
        rw [hg] at e
        rw [row_cons, ← List.append_assoc]
        exact plM_ok ok l a' q _ hl.2 (h.glue (plI_ok ok x q1 hl.1 hx) hg) e
end
/-! ### doing it -/
abbrev Hr := (Int × Int) × Int
def stepP (q : Pt) (h : Hr) : Option Hr := match q.1 with
  | some e => if e.1 ≠ h.1.1 ∨ h.1.2 < q.2.2.1 then none else some ((e.2, h.1.2 + q.2.1), max h.2 (h.1.2 + q.2.2.2))
  | none => some ((h.1.1, h.1.2 + q.2.1), max h.2 (h.1.2 + q.2.2.2))
def canB (d : Dd) (s : Int × Int) : Bool := decide (d.p = s.1 ∧ 0 ≤ s.2 + d.c ∧ (d.w = "any" ∨ s.2 = 0))
def stepD (d : Dd) (h : Hr) : Option Hr := if canB d h.1 = true then some ((d.g, h.1.2 + d.c), max h.2 (h.1.2 + d.c)) else none
def stepL (o : Option Hr) (t : Nat) (h : Hr) : Option Hr := match o with
  | none => none
  | some k => if 1 < t ∧ k.1 ≠ h.1 then none else some (k.1, max h.2 k.2)
mutual
def dnI (ds : List Dd) : It → Hr → Option Hr
  | .deed i, h => match plM ds [.deed i] p0 with
    | some q => stepP q h
    | none => stepD (ds.getD i d00) h
  | .lap b t, h => match plM ds [.lap b t] p0 with
    | some q => stepP q h
    | none => stepL (dnM ds b (h.1, h.1.2)) t h
def dnM (ds : List Dd) : List It → Hr → Option Hr
  | [], h => some h
  | x :: r, h => match dnI ds x h with
    | none => none
    | some k => dnM ds r k
end
/-- r brings h to k -/
structure Br (r : List Dd) (h k : Hr) : Prop where
  run : runD r h.1.1 h.1.2 = some k.1
  most : k.2 = max h.2 (h.1.2 + pk r)
theorem Br.end' {r : List Dd} {h k : Hr} (b : Br r h k) (h0 : 0 ≤ h.1.2) : 0 ≤ k.1.2 ∧ k.1.2 ≤ k.2 ∧ k.1.2 = h.1.2 + gnR r := by
  obtain ⟨⟨p, s⟩, m⟩ := k
  have e := run_gn b.run
  have nn := runD_nn _ _ _ _ _ h0 b.run
  have := gn_pk r
  have bm := b.most
  refine ⟨nn, ?_, e⟩
  show s ≤ m
  have bm : m = max h.2 (h.1.2 + pk r) := bm
  omega
theorem br_step {q : Pt} {r : List Dd} (hq : SmP q r) {h k : Hr} (h0 : 0 ≤ h.1.2) (e : stepP q h = some k) : Br r h k := by
  obtain ⟨q1, qg, qn, qm⟩ := q
  have hg : qg = gnR r := hq.g
  have hm : qm = pk r := hq.m
  cases q1 with
  | none =>
    obtain rfl := hq.no rfl
    obtain rfl := Option.some.inj e
    have hg : qg = 0 := hg
    refine ⟨?_, ?_⟩
    · show some (h.1.1, h.1.2) = some (h.1.1, h.1.2 + qg)
      rw [hg, Int.add_zero]
    · show max h.2 (h.1.2 + qm) = _
      rw [hm]
  | some f =>
    have e : (if f.1 ≠ h.1.1 ∨ h.1.2 < qn then none else some (((f.2, h.1.2 + qg), max h.2 (h.1.2 + qm)) : Hr)) = some k := e
    split at e
    · exact nomatch e
    · rename_i c
      obtain rfl := Option.some.inj e
      have c1 : f.1 = h.1.1 := Decidable.not_not.mp fun z => c (.inl z)
      have c2 : ¬ h.1.2 < qn := fun z => c (.inr z)
      refine ⟨?_, by show max h.2 (h.1.2 + qm) = _; rw [hm]⟩
      rw [← c1]
      have := hq.run f.1 f.2 rfl h.1.2 h0 (by show qn ≤ _; omega)
      rw [this, ← hg]
theorem br_deed {d : Dd} {h k : Hr} (e : stepD d h = some k) (m0 : h.1.2 ≤ h.2) : Br [d] h k := by
  unfold stepD canB at e
  split at e
  · rename_i c
    obtain ⟨c1, c2, c3⟩ := of_decide_eq_true c
    obtain rfl := Option.some.inj e
    refine ⟨?_, ?_⟩
    · show (if d.p ≠ h.1.1 ∨ h.1.2 + d.c < 0 ∨ (d.w = "empty" ∧ h.1.2 ≠ 0) then none else some (d.g, h.1.2 + d.c)) = _
      rw [if_neg]
      rintro (z | z | z)
      · exact z c1
      · omega
      · rcases c3 with w | w
        · rw [w] at z
          exact absurd z.1 (by decide +kernel)
        · exact z.2 w
    · show max h.2 (h.1.2 + d.c) = max h.2 (h.1.2 + max 0 (d.c + 0))
      omega
  · exact nomatch e
theorem br_laps {r : List Dd} {h : Hr} (e : runD r h.1.1 h.1.2 = some h.1) : ∀ t, runD (rep t r) h.1.1 h.1.2 = some h.1
  | 0 => rfl
  | t + 1 => by
    rw [rep_succ, runD_app, e, Option.bind_some]
    exact br_laps e t
mutual
theorem dnI_ok {ds : List Dd} {m : Int} (ok : ∀ d ∈ ds, d.Ok m) : ∀ (x : It) (h k : Hr), okI ds.length x → 0 ≤ h.1.2 → h.1.2 ≤ h.2 → dnI ds x h = some k → Br (row ds [x]) h k
  | .deed i, h, k, hi, h0, hm, e => by
    have e : (match plM ds [.deed i] p0 with | some q => stepP q h | none => stepD (ds.getD i d00) h) = some k := e
    cases hp : plM ds [.deed i] p0 with
    | some q =>
      rw [hp] at e
      exact br_step (plM_ok ok [.deed i] p0 q [] ⟨hi, trivial⟩ SmP.nil hp) h0 e
    | none =>
      rw [hp] at e
      have hi : i < ds.length := hi
      have g : ds.getD i d00 = ds[i] := by rw [List.getD_eq_getElem?_getD, List.getElem?_eq_getElem hi]; rfl
      have g2 : ds.getD i rowD.d00 = ds[i] := by rw [List.getD_eq_getElem?_getD, List.getElem?_eq_getElem hi]; rfl
      have : row ds [.deed i] = [ds.getD i d00] := by
        unfold row rowD
        have u : unM [It.deed i] = [i] := by simp [unM, unI]
        rw [u, g]
        show [ds.getD i rowD.d00] = _
        rw [g2]
      rw [this]
      exact br_deed e hm
  | .lap b t, h, k, hi, h0, hm, e => by
    have e : (match plM ds [.lap b t] p0 with | some q => stepP q h | none => stepL (dnM ds b (h.1, h.1.2)) t h) = some k := e
    cases hp : plM ds [.lap b t] p0 with
    | some q =>
      rw [hp] at e
      exact br_step (plM_ok ok [.lap b t] p0 q [] ⟨hi, trivial⟩ SmP.nil hp) h0 e
    | none =>
      rw [hp] at e
      have t0 : t ≠ 0 := fun z => by
        subst z
        have : plM ds [.lap b 0] p0 = some (none, 0 + 0, max 0 (0 - 0), max 0 (0 + 0)) := rfl
        rw [this] at hp
        exact nomatch hp
      rw [row_lap]
      cases hd : dnM ds b (h.1, h.1.2) with
      | none =>
        rw [hd] at e
        exact nomatch e
      | some j =>
        rw [hd] at e
        have bj := dnM_ok ok b (h.1, h.1.2) j hi h0 (Int.le_refl _) hd
        have e : (if 1 < t ∧ j.1 ≠ h.1 then none else some ((j.1, max h.2 j.2) : Hr)) = some k := e
        split at e
        · exact nomatch e
        · rename_i c
          obtain rfl := Option.some.inj e
          have jm : j.2 = max h.1.2 (h.1.2 + pk (row ds b)) := bj.most
          have pn := pk_nn (row ds b)
          obtain ⟨u, rfl⟩ : ∃ u, t = u + 1 := ⟨t - 1, by omega⟩
          by_cases u0 : u = 0
          · subst u0
            have : rep 1 (row ds b) = row ds b := by
              rw [rep_succ]
              show _ ++ [] = _
              rw [List.append_nil]
            rw [this]
            exact ⟨bj.run, by show max h.2 j.2 = _; omega⟩
          · have ej : j.1 = h.1 := Decidable.not_not.mp fun z => c ⟨by omega, z⟩
            have rj : runD (row ds b) h.1.1 h.1.2 = some h.1 := ej ▸ bj.run
            have g0 : gnR (row ds b) = 0 := by
              have := run_gn (p' := h.1.1) (s' := h.1.2) rj
              omega
            refine ⟨by show _ = some j.1; rw [ej]; exact br_laps rj _, ?_⟩
            show max h.2 j.2 = _
            rw [pk_rep, g0, show max (0 : Int) 0 = 0 from rfl, Int.zero_mul]
            omega
theorem dnM_ok {ds : List Dd} {m : Int} (ok : ∀ d ∈ ds, d.Ok m) : ∀ (l : List It) (h k : Hr), okM ds.length l → 0 ≤ h.1.2 → h.1.2 ≤ h.2 → dnM ds l h = some k → Br (row ds l) h k
  | [], h, k, _, h0, hm, e => by
    obtain rfl : h = k := Option.some.inj e
    exact ⟨rfl, by show h.2 = max h.2 (h.1.2 + 0); omega⟩
  | x :: l, h, k, hl, h0, hm, e => by
    have e : (match dnI ds x h with | none => none | some k => dnM ds l k) = some k := e
    cases hx : dnI ds x h with
    | none =>
      rw [hx] at e
      exact nomatch e
    | some j =>
      rw [hx] at e
      have b1 := dnI_ok ok x h j hl.1 h0 hm hx
      obtain ⟨j0, jm, jg⟩ := b1.end' h0
      have b2 := dnM_ok ok l j k hl.2 j0 jm e
      rw [row_cons]
      refine ⟨?_, ?_⟩
      · rw [runD_app, b1.run, Option.bind_some]
        exact b2.run
      · rw [b2.most, b1.most, pk_app, jg]
        omega
end
end L2.K75
end

section
set_option Elab.async false
set_option linter.all false
set_option maxRecDepth 100000
set_option maxHeartbeats 1000000
namespace L2.K75
open PySem PySem.Spec PyProof.Rows L2.Gd
/-! ### goings as data -/
mutual
theorem unr_I {m : Nat} : ∀ (k : Nat) (x : It), okI m x → dpI x ≤ k → itemU (unr k m) m (It.D x) = some (unI x)
  | k, .deed i, h, _ => by
    have h : i < m := h
    have : unI (.deed i) = [i] := by simp [unI]
    rw [this]
    have e : It.D (.deed i) = .int (i : Int) := by simp [It.D]
    rw [e]
    show (if 0 ≤ (i : Int) ∧ (i : Int) < m then some [((i : Int)).toNat] else none) = _
    rw [if_pos ⟨by omega, by omega⟩, Int.toNat_natCast]
  | 0, .lap b t, h, l => by
    have l : dpM b + 1 ≤ 0 := l
    omega
  | k + 1, .lap b t, h, l => by
    have h : okM m b := h
    have l : dpM b + 1 ≤ k + 1 := l
    have e : It.D (.lap b t) = .tuple [.list (It.DL b), .int (t : Int)] := by simp [It.D]
    have u : unI (.lap b t) = (List.replicate t (unM b)).flatten := by simp [unI]
    rw [e, u]
    show (if (t : Int) < 0 then none else (unr (k + 1) m (.list (It.DL b))).map fun r => (List.replicate ((t : Int)).toNat r).flatten) = _
    rw [if_neg (by omega)]
    have : unr (k + 1) m (.list (It.DL b)) = unrL (unr k m) m (It.DL b) := rfl
    rw [this, unr_M k b h (by omega), Option.map_some, Int.toNat_natCast]
theorem unr_M {m : Nat} : ∀ (k : Nat) (l : List It), okM m l → dpM l ≤ k → unrL (unr k m) m (It.DL l) = some (unM l)
  | k, [], _, _ => by
    have : It.DL [] = [] := by simp [It.DL]
    rw [this]
    have : unM [] = [] := by simp [unM]
    rw [this]
    rfl
  | k, x :: r, h, l => by
    have e : It.DL (x :: r) = It.D x :: It.DL r := by simp [It.DL]
    have u : unM (x :: r) = unI x ++ unM r := by simp [unM]
    have l : max (dpI x) (dpM r) ≤ k := l
    rw [e, u]
    unfold unrL
    rw [unr_I k x h.1 (by omega), unr_M k r h.2 (by omega)]
end
theorem unr_it {m k : Nat} {l : List It} (h : okM m l) (d : dpM l ≤ k) : unr (k + 1) m (.list (It.DL l)) = some (unM l) := unr_M k l h d
theorem unr_itT {m k : Nat} {l : List It} (h : okM m l) (d : dpM l ≤ k) : unr (k + 1) m (.tuple (It.DL l)) = some (unM l) := unr_M k l h d
/-! ### gains and lengths of courses -/
def GN (c : Crs) (r : List Dd) : Prop := c.n = (r.length : Int) ∧ c.g = gnR r
theorem GN.beh {a b c : Crs} {r r' : List Dd} (ha : GN a r) (hb : GN b r') (e : behC a b = some c) : GN c (r ++ r') := by
  have z : ∀ {a : Crs} {r : List Dd}, GN a r → a.n = 0 → r = [] := fun {a r} h n => List.length_eq_zero_iff.mp (by have := h.1; omega)
  unfold behC at e
  split at e
  · rename_i n
    obtain rfl := Option.some.inj e
    rw [z ha n]
    exact hb
  · split at e
    · rename_i n
      obtain rfl := Option.some.inj e
      rw [z hb n, List.append_nil]
      exact ha
    · split at e
      · exact nomatch e
      · obtain rfl := Option.some.inj e
        refine ⟨?_, ?_⟩
        · show a.n + b.n = _
          rw [ha.1, hb.1, List.length_append]
          omega
        · show a.g + b.g = _
          rw [ha.2, hb.2, gnR_app']
where gnR_app' {a b : List Dd} : gnR (a ++ b) = gnR a + gnR b := gn_app a b
theorem rep_len (t : Nat) (r : List Dd) : (rep t r).length = r.length * t := by
  unfold rep
  rw [List.length_flatten, List.map_replicate, List.sum_replicate_nat, Nat.mul_comm]
theorem GN.oft {a c : Crs} {r : List Dd} (ha : GN a r) {t : Nat} (e : oftC a t = some c) : GN c (rep t r) := by
  unfold oftC at e
  split at e
  · rename_i h
    obtain rfl := Option.some.inj e
    obtain rfl : t = 1 := by omega
    have : rep 1 r = r := by
      rw [rep_succ]
      show r ++ [] = r
      rw [List.append_nil]
    rw [this]
    exact ha
  · split at e
    · exact nomatch e
    · obtain rfl := Option.some.inj e
      refine ⟨?_, ?_⟩
      · show a.n * (t : Int) = _
        rw [ha.1, rep_len, Int.natCast_mul]
      · show a.g * (t : Int) = _
        rw [ha.2, gn_rep]
mutual
theorem cw_I {ds : List Dd} : ∀ (k : Nat) (x : It) (c : Crs), okI ds.length x → itemC (cwC k ds) ds (It.D x) = some c → GN c (row ds [x])
  | k, .deed i, c, h, e => by
    have h : i < ds.length := h
    have e1 : It.D (.deed i) = .int (i : Int) := by simp [It.D]
    rw [e1] at e
    have e : ((ds[((i : Int)).toNat]?).map deedC) = some c := e
    rw [Int.toNat_natCast, List.getElem?_eq_getElem h, Option.map_some] at e
    obtain rfl := Option.some.inj e
    have g2 : ds.getD i rowD.d00 = ds[i] := by rw [List.getD_eq_getElem?_getD, List.getElem?_eq_getElem h]; rfl
    have u : unM [It.deed i] = [i] := by simp [unM, unI]
    unfold row rowD
    rw [u]
    show GN (deedC ds[i]) [ds.getD i rowD.d00]
    rw [g2]
    exact ⟨rfl, by show ds[i].c = ds[i].c + 0; omega⟩
  | k, .lap b t, c, h, e => by
    have h : okM ds.length b := h
    have e1 : It.D (.lap b t) = .tuple [.list (It.DL b), .int (t : Int)] := by simp [It.D]
    rw [e1] at e
    have e : ((if (t : Int) > 0 then cwC k ds (.list (It.DL b)) else some noC).bind fun c => oftC c (t : Int)) = some c := e
    rw [row_lap]
    by_cases t0 : t = 0
    · subst t0
      rw [if_neg (by omega), Option.bind_some] at e
      have : GN noC (row ds []) := ⟨rfl, rfl⟩
      have := this.oft (t := 0) e
      exact this
    · rw [if_pos (by omega)] at e
      cases hc : cwC k ds (.list (It.DL b)) with
      | none =>
        rw [hc] at e
        exact nomatch e
      | some c1 =>
        rw [hc, Option.bind_some] at e
        exact (cw_C k b c1 h hc).oft e
theorem cw_M {ds : List Dd} : ∀ (k : Nat) (l : List It) (c0 c : Crs) (r : List Dd), okM ds.length l → GN c0 r → cwL (itemC (cwC k ds) ds) (It.DL l) c0 = some c → GN c (r ++ row ds l)
  | k, [], c0, c, r, _, h, e => by
    have e1 : It.DL [] = [] := by simp [It.DL]
    rw [e1] at e
    obtain rfl := Option.some.inj e
    rw [row_nil, List.append_nil]
    exact h
  | k, x :: l, c0, c, r, hl, h, e => by
    have e1 : It.DL (x :: l) = It.D x :: It.DL l := by simp [It.DL]
    rw [e1] at e
    have e : (match (itemC (cwC k ds) ds (It.D x)).bind (behC c0) with | none => none | some c' => cwL (itemC (cwC k ds) ds) (It.DL l) c') = some c := e
    cases hx : itemC (cwC k ds) ds (It.D x) with
    | none =>
      rw [hx] at e
      exact nomatch e
    | some c1 =>
      rw [hx, Option.bind_some] at e
      cases hb : behC c0 c1 with
      | none =>
        rw [hb] at e
        exact nomatch e
      | some c' =>
        rw [hb] at e
        rw [row_cons, ← List.append_assoc]
        exact cw_M k l c' c _ hl.2 (h.beh (cw_I k x c1 hl.1 hx) hb) e
theorem cw_C {ds : List Dd} : ∀ (k : Nat) (l : List It) (c : Crs), okM ds.length l → cwC k ds (.list (It.DL l)) = some c → GN c (row ds l)
  | 0, l, c, _, e => nomatch e
  | k + 1, l, c, h, e => by
    have := cw_M k l noC c [] h ⟨rfl, rfl⟩ e
    exact this
end
theorem gn_len {r : List Dd} (h : ∀ d ∈ r, d.c.natAbs ≤ 1) : (gnR r).natAbs ≤ r.length := by
  induction r with
  | nil => exact Nat.le_refl 0
  | cons d r ih =>
    have h1 := h d List.mem_cons_self
    have h2 := ih fun x hx => h x (List.mem_cons_of_mem _ hx)
    show (d.c + gnR r).natAbs ≤ r.length + 1
    omega
theorem pk_len {r : List Dd} (h : ∀ d ∈ r, d.c.natAbs ≤ 1) : (pk r).natAbs ≤ r.length := by
  induction r with
  | nil => exact Nat.le_refl 0
  | cons d r ih =>
    have h1 := h d List.mem_cons_self
    have h2 := ih fun x hx => h x (List.mem_cons_of_mem _ hx)
    show (max 0 (d.c + pk r)).natAbs ≤ r.length + 1
    omega
theorem row_one {ds : List Dd} {m : Int} (ok : ∀ d ∈ ds, d.Ok m) (l : List It) : ∀ d ∈ row ds l, d.c.natAbs ≤ 1 := by
  intro d hd
  obtain ⟨i, _, rfl⟩ := List.mem_map.mp hd
  by_cases h : i < ds.length
  · have g2 : ds.getD i rowD.d00 = ds[i] := by rw [List.getD_eq_getElem?_getD, List.getElem?_eq_getElem h]; rfl
    rw [g2]
    rcases (ok _ (List.getElem_mem h)).w with ⟨_, _, c⟩ | ⟨_, _, c⟩ <;> omega
  · rw [List.getD_eq_getElem?_getD, List.getElem?_eq_none (by omega)]
    exact Nat.zero_le 1
theorem row_len (ds : List Dd) (l : List It) : (row ds l).length = (unM l).length := List.length_map _
mutual
def fwI : It → Prop
  | .deed _ => True
  | .lap b t => t < 2 ^ 99 ∧ (unM b).length < 2 ^ 150 ∧ b.length ≤ 10000 ∧ fwM b
def fwM : List It → Prop
  | [] => True
  | x :: r => fwI x ∧ fwM r
end
theorem fwM_mem : ∀ {l : List It} {x : It}, fwM l → x ∈ l → fwI x
  | y :: r, x, h, hx => by
    rcases List.mem_cons.mp hx with rfl | hx
    · exact h.1
    · exact fwM_mem h.2 hx
theorem few_M {ds : List Dd} {m : Int} (ok : ∀ d ∈ ds, d.Ok m) : ∀ (k : Nat) (l : List It), okM ds.length l → fwM l → few k ds (.list (It.DL l)) ∧ few k ds (.tuple (It.DL l))
  | 0, _, _, _ => ⟨trivial, trivial⟩
  | k + 1, l, h, f => by
    have key : ∀ it ∈ It.DL l, ∀ x t, it = .tuple [x, .int t] → t.natAbs < 2 ^ 99 ∧ few k ds x ∧ ∀ c, cwC k ds x = some c → BgC c := by
      intro it hit x t e
      rw [DL_map] at hit
      obtain ⟨y, hy, rfl⟩ := List.mem_map.mp hit
      have f := fwM_mem f hy
      have h := okM_mem h hy
      cases y with
      | deed i =>
        have : It.D (.deed i) = .int (i : Int) := by simp [It.D]
        rw [this] at e
        exact nomatch e
      | lap b u =>
        have : It.D (.lap b u) = .tuple [.list (It.DL b), .int (u : Int)] := by simp [It.D]
        rw [this] at e
        injection e with e
        injection e with e1 e2
        injection e2 with e2 _
        injection e2 with e2
        subst e1 e2
        refine ⟨f.1, (few_M ok k b h f.2.2.2).1, fun c hc => ?_⟩
        have g := cw_C k b c h hc
        have g1 : c.n = ((row ds b).length : Int) := g.1
        have l1 := row_len ds b
        have l2 := gn_len (row_one ok b)
        have lt : (2 : Nat) ^ 150 ≤ 2 ^ 200 := Nat.pow_le_pow_right (by decide) (by decide)
        have fb := f.2.1
        generalize (2 : Nat) ^ 150 = z1 at *
        exact ⟨by rw [g1]; generalize (2 : Nat) ^ 200 = z2 at *; omega, by rw [g.2]; generalize (2 : Nat) ^ 200 = z2 at *; omega⟩
    exact ⟨fun its e => Option.some.inj e ▸ key, fun its e => Option.some.inj e ▸ key⟩
/-- what the program makes of a going that can be done -/
theorem whole_it {ds : List Dd} {m : Int} (ok : ∀ d ∈ ds, d.Ok m) {l : List It} (h : okM ds.length l) (d : dpM l ≤ 3) {v : PyData} (hv : v = .list (It.DL l) ∨ v = .tuple (It.DL l)) {p s : Int} {x : Int × Int} (hs : 0 ≤ s) (r : runD (row ds l) p s = some x) :
    ∃ c, wholeC ds v = some c ∧ fitsC c p s = true ∧ (if c.n = 0 then p else c.f.getD 0) = x.1 ∧ (c.n ≠ 0 → ∃ f, c.f = some f) ∧ s + c.g = x.2 := by
  have u : unr 4 ds.length v = some (unM l) := by
    rcases hv with rfl | rfl
    · exact unr_it h d
    · exact unr_itT h d
  have gd := going_due ok hs v (p := p)
  have du : dueB ds p s v = true := by
    unfold dueB
    rw [u]
    show (runD (row ds l) p s).isSome = true
    rw [r]
    rfl
  rw [du] at gd
  unfold goingB at gd
  have hf : hasF 4 ds.length v = true := by rw [has_unr, u]; rfl
  have wc : wholeC ds v = cwC 4 ds v := if_pos hf
  have sp := spec_cw ok 4 v (unM l) u
  rw [wc] at gd ⊢
  cases hc : cwC 4 ds v with
  | none =>
    rw [hc] at gd
    exact nomatch gd
  | some c =>
    rw [hc] at gd sp
    have sp : SpecC c (row ds l) := sp
    refine ⟨c, rfl, gd, ?_⟩
    obtain ⟨s1, s2, s3⟩ := sp
    by_cases n0 : row ds l = []
    · have c0 : c.n = 0 := by rw [s1, n0]; rfl
      rw [n0] at r
      obtain rfl := Option.some.inj r
      rw [if_pos c0]
      have cg : GN c (row ds l) := by
        rcases hv with rfl | rfl
        · exact cw_C 4 l c h hc
        · exact cw_C 4 l c h hc
      refine ⟨rfl, fun z => absurd c0 z, ?_⟩
      rw [cg.2, n0]
      show s + 0 = s
      omega
    · have c0 : c.n ≠ 0 := fun z => n0 (List.length_eq_zero_iff.mp (by omega))
      obtain ⟨b, f, e1, e2, e3⟩ := s3 n0
      have := e3 p s hs
      rw [r] at this
      split at this
      · obtain rfl := Option.some.inj this
        rw [if_neg c0, e2]
        exact ⟨rfl, fun _ => ⟨f, rfl⟩, rfl⟩
      · exact nomatch this
end L2.K75
end

section
set_option Elab.async false
set_option linter.all false
set_option maxRecDepth 100000
set_option maxHeartbeats 4000000
namespace L2.K75
open PySem PySem.Spec PyProof.Rows L2.Gd
/-! ### peak_within -/
/-- a list or a tuple of items -/
structure GoAt (p : Addr) (H : Hp) (a : Addr) (xs : List V) (its : List It) : Prop where
  dv : DVs p H xs (It.DL its)
  at_ : (a ≠ p ∧ H a = some (.lst xs)) ∨ H a = some (.tup xs)
theorem GoAt.same {p a : Addr} {H H' : Hp} {xs : List V} {its : List It} (s : Same H H') (g : GoAt p H a xs its) : GoAt p H' a xs its :=
  ⟨g.dv.same s, g.at_.imp (fun h => ⟨h.1, s _ _ h.2⟩) fun h => s _ _ h⟩
def GoAt.d {p a : Addr} {H : Hp} {xs : List V} {its : List It} (g : GoAt p H a xs its) : ∃ d, (d = .list (It.DL its) ∨ d = .tuple (It.DL its)) ∧ DV p H (.ref a) d :=
  g.at_.elim (fun h => ⟨_, .inl rfl, .lst h.1 h.2 g.dv⟩) fun h => ⟨_, .inr rfl, .tup h g.dv⟩
/-- one item -/
theorem it_deed {p : Addr} {H : Hp} {v : V} {i : Nat} (h : DV p H v (It.D (.deed i))) : v = .int (i : Nat) := by
  have : It.D (.deed i) = .int (i : Int) := by simp [It.D]
  rw [this] at h
  cases h
  rfl
theorem it_lap {p : Addr} {H : Hp} {v : V} {b : List It} {t : Nat} (h : DV p H v (It.D (.lap b t))) : ∃ (u a : Addr) (xs : List V), v = .ref u ∧ H u = some (.tup [.ref a, .int (t : Nat)]) ∧ GoAt p H a xs b ∧ a ≠ p ∧ H a = some (.lst xs) := by
  have : It.D (.lap b t) = .tuple [.list (It.DL b), .int (t : Int)] := by simp [It.D]
  rw [this] at h
  cases h with
  | tup hu tt =>
    cases tt with
    | cons h1 t1 =>
      cases t1 with
      | cons h2 t2 =>
        cases t2
        cases h2
        cases h1 with
        | lst ne ha hs => exact ⟨_, _, _, rfl, hu, ⟨hs, .inl ⟨ne, ha⟩⟩, ne, ha⟩
theorem DVs.it {p : Addr} {H : Hp} {xs : List V} {its : List It} (h : DVs p H xs (It.DL its)) {i : Nat} {v : V} (e : xs[i]? = some v) : ∃ x, its[i]? = some x ∧ DV p H v (It.D x) := by
  obtain ⟨d, hd, hv⟩ := h.at e
  rw [DL_map, List.getElem?_map] at hd
  obtain ⟨x, hx, rfl⟩ := Option.map_eq_some_iff.mp hd
  exact ⟨x, hx, hv⟩
theorem DVs.itl {p : Addr} {H : Hp} {xs : List V} {its : List It} (h : DVs p H xs (It.DL its)) : xs.length = its.length := by
  rw [h.len, DL_map, List.length_map]
theorem row_deed {ds : List Dd} {i : Nat} (h : i < ds.length) : row ds [.deed i] = [ds[i]] := by
  have g2 : ds.getD i rowD.d00 = ds[i] := by rw [List.getD_eq_getElem?_getD, List.getElem?_eq_getElem h]; rfl
  have u : unM [It.deed i] = [i] := by simp [unM, unI]
  unfold row rowD
  rw [u]
  show [ds.getD i rowD.d00] = _
  rw [g2]
theorem bnd1 {g : Int} {t : Nat} (h : g.natAbs < 2 ^ 150) (ht : t < 2 ^ 99) : CMulW (if g > 0 then g else 0) ((t : Int) - 1) ∧ CMulW g (t : Int) := by
  have e : (2 : Nat) ^ 100 = 2 * 2 ^ 99 := by decide
  have p : 0 < (2 : Nat) ^ 99 := by decide
  have p2 : 0 < (2 : Nat) ^ 150 := by decide
  refine ⟨wide_mul (a := 150) (b := 100) ?_ ?_ (by decide) (by decide) (by decide), wide_mul (a := 150) (b := 100) h ?_ (by decide) (by decide) (by decide)⟩
  · split
    · exact h
    · exact p2
  · rw [e]
    generalize (2 : Nat) ^ 99 = z at ht p
    omega
  · rw [e]
    generalize (2 : Nat) ^ 99 = z at ht p
    omega
theorem high_lap (r : List Dd) (t : Nat) (h : 0 < t) : pk r + (if gnR r > 0 then gnR r else 0) * ((t : Int) - 1) = pk (rep t r) := by
  obtain ⟨u, rfl⟩ : ∃ u, t = u + 1 := ⟨t - 1, by omega⟩
  rw [pk_rep, show ((u + 1 : Nat) : Int) - 1 = (u : Int) by omega]
  congr 2
  split <;> omega
def spPW (k : Nat) : Sp := fun vs H Q _ => ∃ (p D a : Addr) (ys xs : List V) (ds : List Dd) (m : Int) (its : List It), vs = [.ref D, .ref a] ∧ H D = some (.lst ys) ∧ DdAll H ys ds ∧ (∀ d ∈ ds, d.Ok m) ∧ GoAt p H a xs its ∧ okM ds.length its ∧ fwM its ∧ dpM its ≤ k ∧ its.length ≤ 10000 ∧
  ∀ t H', Same H H' → H' t = some (.tup [.int (gnR (row ds its)), .int (pk (row ds its))]) → Q (.ref t) H'
def NPw : List Str := ["deeds", "going", "gain", "most", "item", "more", "high"]
theorem scPw : FnScope NPw ["deeds", "going"] (defScope (top 30)) := ⟨rfl, rfl, rfl, by decide +kernel, rfl, by decide +kernel, by decide +kernel⟩
section
variable {P : Program} {w : World} {K : PySem.W.Frag} {mg : Str → Option Value} {base : Heap} {C C2 : Addr}
/-- the def itself one list deeper, if there may be one -/
theorem ok_pw {k : Nat} {f : Addr} {fd : FuncData} (F : Fun K "peak_within" "peak_within" (top 30) f fd) (n : Nm mg) (GP : Fn P w K mg base (k + 1) "peak_within" ["deeds", "going"] (fun vs H Q E => ∃ j, k = j + 1 ∧ spPW j vs H Q E)) :
    FnOk P w K mg base CX0 (k + 2) f fd ["deeds", "going"] (spPW k) := by
  refine F.ok scPw (fun vs H Q E h => ?_) (fun cdv A outer s H vs Q E hr h => ?_)
  · obtain ⟨p, D, a, ys, xs, ds, m, its, rfl, _⟩ := h
    rfl
  · obtain ⟨p, D, a, ys, xs, ds, m, its, rfl, hD, dd, ok, ga, hok, hfw, hdp, hlen, q⟩ := h
    have N := scPw.nd
    have xl := ga.dv.itl
    have yl := Paired.length dd
    rcases ga.at_ with ⟨nep, hx⟩ | hx
    case' inl => refine ⟨_, pss_cons (ps_asg (pe_tup (pa_cons pe_int (pa_cons pe_int pa_nil))) (pg_tup rfl (pgs_cons (pg_name (i := 2) N rfl (.inl rfl)) (pgs_cons (pg_name (i := 3) N rfl (.inl rfl)) pgs_nil))))
      (pss_cons (ps_for PassesOwn.never rfl (pi_list (pv 1)) (pg_name (i := 4) N rfl (.inl rfl))
        (pss_cons (ps_if (pt_val (pe_isTuple n (pv 4)))
          (pss_cons (ps_asg (pe_fn GP hr (pa_cons (pv 0) (pa_cons (pe_ix ix_tup (pv 4) pe_int (fun _ _ => rfl)) pa_nil))) (pg_tup rfl (pgs_cons (pg_name (i := 5) N rfl (.inl rfl)) (pgs_cons (pg_name (i := 6) N rfl (.inl rfl)) pgs_nil))))
          (pss_cons (ps_set (i := 6) N rfl (.inl rfl) (pe_ifExp (pt_cmpR op_gt (pe_ix ix_tup (pv 4) pe_int (fun _ _ => rfl)) pe_int (nomark _))
            (pe_op op_add (pv 6) (pe_op op_mulW (pe_callB (call_max2 rfl) (by rfl) n.max (by decide +kernel) (pa_cons pe_int (pa_cons (pv 5) pa_nil))) (pe_op op_sub (pe_ix ix_tup (pv 4) pe_int (fun _ _ => rfl)) pe_int))) pe_int))
          (pss_one (ps_set (i := 5) N rfl (.inl rfl) (pe_op op_mulW (pv 5) (pe_ix ix_tup (pv 4) pe_int (fun _ _ => rfl)))))))
          (pss_cons (ps_set (i := 5) N rfl (.inl rfl) (pe_ix ix_tup (pe_ix ix_list (pv 0) (pv 4) (fun _ _ => rfl)) pe_int (fun _ _ => rfl)))
          (pss_one (ps_set (i := 6) N rfl (.inl rfl) (pv 5)))))
        (pss_cons (ps_set (i := 3) N rfl (.inl rfl) (pe_callB (call_max2 rfl) (by rfl) n.max (by decide +kernel) (pa_cons (pv 3) (pa_cons (pe_op op_add (pv 2) (pv 6)) pa_nil))))
        (pss_one (ps_set (i := 2) N rfl (.inl rfl) (pe_op op_add (pv 2) (pv 5)))))))
      (pss_one (ps_ret (pe_tup (pa_cons (pv 2) (pa_cons (pv 3) pa_nil)))))), ?_⟩
    case' inr => refine ⟨_, pss_cons (ps_asg (pe_tup (pa_cons pe_int (pa_cons pe_int pa_nil))) (pg_tup rfl (pgs_cons (pg_name (i := 2) N rfl (.inl rfl)) (pgs_cons (pg_name (i := 3) N rfl (.inl rfl)) pgs_nil))))
      (pss_cons (ps_for PassesOwn.never rfl (pi_tup (pv 1)) (pg_name (i := 4) N rfl (.inl rfl))
        (pss_cons (ps_if (pt_val (pe_isTuple n (pv 4)))
          (pss_cons (ps_asg (pe_fn GP hr (pa_cons (pv 0) (pa_cons (pe_ix ix_tup (pv 4) pe_int (fun _ _ => rfl)) pa_nil))) (pg_tup rfl (pgs_cons (pg_name (i := 5) N rfl (.inl rfl)) (pgs_cons (pg_name (i := 6) N rfl (.inl rfl)) pgs_nil))))
          (pss_cons (ps_set (i := 6) N rfl (.inl rfl) (pe_ifExp (pt_cmpR op_gt (pe_ix ix_tup (pv 4) pe_int (fun _ _ => rfl)) pe_int (nomark _))
            (pe_op op_add (pv 6) (pe_op op_mulW (pe_callB (call_max2 rfl) (by rfl) n.max (by decide +kernel) (pa_cons pe_int (pa_cons (pv 5) pa_nil))) (pe_op op_sub (pe_ix ix_tup (pv 4) pe_int (fun _ _ => rfl)) pe_int))) pe_int))
          (pss_one (ps_set (i := 5) N rfl (.inl rfl) (pe_op op_mulW (pv 5) (pe_ix ix_tup (pv 4) pe_int (fun _ _ => rfl)))))))
          (pss_cons (ps_set (i := 5) N rfl (.inl rfl) (pe_ix ix_tup (pe_ix ix_list (pv 0) (pv 4) (fun _ _ => rfl)) pe_int (fun _ _ => rfl)))
          (pss_one (ps_set (i := 6) N rfl (.inl rfl) (pv 5)))))
        (pss_cons (ps_set (i := 3) N rfl (.inl rfl) (pe_callB (call_max2 rfl) (by rfl) n.max (by decide +kernel) (pa_cons (pv 3) (pa_cons (pe_op op_add (pv 2) (pv 6)) pa_nil))))
        (pss_one (ps_set (i := 2) N rfl (.inl rfl) (pe_op op_add (pv 2) (pv 5)))))))
      (pss_one (ps_ret (pe_tup (pa_cons (pv 2) (pa_cons (pv 3) pa_nil)))))), ?_⟩
    all_goals
      refine seqV (Good := fun σ2 H2 => Same H H2 ∧ σ2 = [some (.ref D), some (.ref a), some (.int 0), some (.int 0), none, none, none]) ?_ ?_
      · intro nx hnx
        refine ⟨(by show 2 ≤ sizeLine; decide), fun t ht => ⟨t, _, rfl, .inl (.inl upd_same), rfl, _, _, rfl, _, _, rfl, rfl, ?_⟩⟩
        exact hnx _ _ ⟨same_upd ht, rfl⟩
      rintro _ H1 ⟨s1, rfl⟩
      refine ⟨_, rfl, a, rfl, ⟨_, .inl (.inl (s1 _ _ hx))⟩, ?_⟩
      refine loop_of (n := xs.length) (fun i σ H2 => ∃ v4 v5 v6 : Option V, σ = [some (.ref D), some (.ref a), some (.int (gnR (row ds (its.take i)))), some (.int (pk (row ds (its.take i)))), v4, v5, v6] ∧ Same H H2) ⟨none, none, none, rfl, s1⟩ ?_ ?_
      · rintro σ H2 ⟨v4, v5, v6, rfl, s2⟩
        refine ⟨⟨xs, .inl (.inl (s2 _ _ hx)), Nat.le_refl _⟩, ?_⟩
        rw [xl, List.take_length]
        refine ⟨_, rfl, _, rfl, (by show 2 ≤ sizeLine; decide), fun t ht => ?_⟩
        exact q t _ (s2.trans (same_upd ht)) upd_same
      · rintro i σ H2 hi ⟨v4, v5, v6, rfl, s2⟩
        refine ⟨⟨xs, _, .inl (.inl (s2 _ _ hx)), List.getElem?_eq_getElem hi⟩, ?_⟩
        rintro v H3 ⟨rfl, hy⟩
        have hxi := hy xs (.inl (.inl (s2 _ _ hx)))
        obtain ⟨x, hit, hdx⟩ := ga.dv.it hxi
        have hdx := hdx.same s2
        have hm := List.mem_of_getElem? hit
        have hxo := okM_mem hok hm
        have hxf := fwM_mem hfw hm
        have hxd := dpM_mem hm
        have tk : its.take (i + 1) = its.take i ++ [x] := by rw [List.take_succ, hit]; rfl
        refine gn ?_
        -- more, high
        refine seqV (Good := fun σ2 H4 => ∃ hh : Int, Same H3 H4 ∧ max (pk (row ds (its.take i))) (gnR (row ds (its.take i)) + hh) = max (pk (row ds (its.take i))) (gnR (row ds (its.take i)) + pk (row ds [x])) ∧ σ2 = [some (.ref D), some (.ref a), some (.int (gnR (row ds (its.take i)))), some (.int (pk (row ds (its.take i)))), some v, some (.int (gnR (row ds [x]))), some (.int hh)]) ?_ ?_
        · intro nx hnx
          refine ⟨_, rfl, isi_mk hdx.ty (kit_tuple _) ⟨_, rfl, ?_⟩⟩
          cases x with
          | deed j =>
            obtain rfl := it_deed hdx
            have hj : j < ds.length := hxo
            have eT : isT (It.D (.deed j)) = false := by simp [It.D, isT]
            rw [eT]
            rw [row_deed hj] at hnx
            have dd2 := DdAll.same s2 dd
            have hyk : ys[j]? = some ys[j] := List.getElem?_eq_getElem (by omega)
            obtain ⟨d1, hd1, td, ed, htd⟩ := Paired.at dd2 hyk
            rw [List.getElem?_eq_getElem hj] at hd1
            obtain rfl := Option.some.inj hd1
            have e1 : gnR [ds[j]] = ds[j].c := by show ds[j].c + 0 = _; omega
            have e2 : pk [ds[j]] = max 0 ds[j].c := by show max 0 (ds[j].c + 0) = _; rw [Int.add_zero]
            refine iteF ⟨_, rfl, _, rfl, D, ys, _, _, rfl, rfl, .inl (.inl (s2 _ _ hD)), atI_nat hyk, td, _, _, _, ed, rfl, .inl (.inl htd), rfl, ?_⟩
            rw [e1, e2] at hnx
            have gp := gn_pk (row ds (its.take i))
            exact ⟨_, rfl, hnx _ _ ⟨ds[j].c, fun _ _ z => z, by omega, rfl⟩⟩
          | lap b t =>
            obtain ⟨u, a2, xs2, rfl, hu, gb, ne2, ha2⟩ := it_lap hdx
            have eT : isT (It.D (.lap b t)) = true := by simp [It.D, isT]
            rw [eT]
            rw [row_lap, gn_rep] at hnx
            have hb : okM ds.length b := hxo
            have hd2 : dpM b + 1 ≤ dpM its := hxd
            obtain ⟨t99, l150, lb, fb⟩ : t < 2 ^ 99 ∧ (unM b).length < 2 ^ 150 ∧ b.length ≤ 10000 ∧ fwM b := hxf
            have l1 := row_len ds b
            have l2 := gn_len (row_one ok b)
            have bd := bnd1 (g := gnR (row ds b)) (t := t) (Nat.lt_of_le_of_lt l2 (by rw [l1]; exact l150)) t99
            obtain ⟨j, rfl⟩ : ∃ j, k = j + 1 := ⟨k - 1, by omega⟩
            refine iteT ⟨_, rfl, _, rfl, u, _, _, _, rfl, rfl, .inl (.inl hu), rfl, j, rfl, p, D, a2, ys, xs2, ds, m, b, rfl, s2 _ _ hD, DdAll.same s2 dd, ok, gb, hb, fb, by omega, lb, fun t2 H4 s4 ht2 => ?_⟩
            refine ⟨t2, _, rfl, .inl (.inl ht2), rfl, _, _, rfl, _, _, rfl, rfl, ?_⟩
            have hu4 := s4 _ _ hu
            refine ⟨_, rfl, u, _, _, _, rfl, rfl, .inl (.inl hu4), rfl, _, _, rfl, rfl, decide ((t : Int) > 0), rfl, ?_⟩
            by_cases t0 : t = 0
            · subst t0
              rw [decide_eq_false (by omega)]
              refine iteF ⟨_, rfl, _, rfl, u, _, _, _, rfl, rfl, .inl (.inl hu4), rfl, _, _, rfl, rfl, bd.2, hnx _ _ ⟨0, s4, ?_, rfl⟩⟩
              rfl
            · rw [decide_eq_true (by omega)]
              refine iteT ⟨_, rfl, _, rfl, _, _, rfl, _, rfl, u, _, _, _, rfl, rfl, .inl (.inl hu4), rfl, _, _, rfl, rfl, _, _, rfl, rfl, bd.1, _, _, rfl, rfl, ?_⟩
              refine ⟨_, rfl, _, rfl, u, _, _, _, rfl, rfl, .inl (.inl hu4), rfl, _, _, rfl, rfl, bd.2, hnx _ _ ⟨_, s4, ?_, rfl⟩⟩
              rw [high_lap _ _ (by omega)]
        rintro _ H4 ⟨hh, s4, eh, rfl⟩
        have ea : gnR (row ds (its.take (i + 1))) = gnR (row ds (its.take i)) + gnR (row ds [x]) := by rw [tk, row_app, gn_app]
        have eb : pk (row ds (its.take (i + 1))) = max (pk (row ds (its.take i))) (gnR (row ds (its.take i)) + pk (row ds [x])) := by rw [tk, row_app, pk_app]
        refine ⟨_, rfl, _, rfl, _, rfl, _, _, rfl, rfl, _, _, rfl, ?_⟩
        refine ⟨_, rfl, _, rfl, _, _, rfl, rfl, ?_⟩
        refine gn ⟨some v, some (.int (gnR (row ds [x]))), some (.int hh), ?_, s2.trans s4⟩
        rw [ea, eb, ← eh]
        have em : (if gnR (row ds (its.take i)) + hh > pk (row ds (its.take i)) then gnR (row ds (its.take i)) + hh else pk (row ds (its.take i))) = max (pk (row ds (its.take i))) (gnR (row ds (its.take i)) + hh) := by split <;> omega
        rw [← em]
        rfl
/-! ### course_of, check_doing -/
/-- a going that can be done from where it is asked -/
structure DoAt (C2 : Addr) (H : Hp) (q h l : Addr) (n : Nat) (xs : List V) (ds : List Dd) (a : Addr) (ys : List V) (its : List It) (p s : Nat) (x : Int × Int) : Prop where
  hh : HouseL C2 H h l n xs ds
  wf : WF n ds
  ga : GoAt q H a ys its
  ok : okM ds.length its
  fw : fwM its
  dp : dpM its ≤ 3
  ln : its.length ≤ 10000
  pn : p < n
  run : runD (row ds its) p s = some x
theorem DoAt.same {H H' : Hp} {q h l a : Addr} {n : Nat} {xs ys : List V} {ds : List Dd} {its : List It} {p s : Nat} {x : Int × Int} (S : Same H H') (d : DoAt C2 H q h l n xs ds a ys its p s x) : DoAt C2 H' q h l n xs ds a ys its p s x :=
  ⟨d.hh.same S, d.wf, d.ga.same S, d.ok, d.fw, d.dp, d.ln, d.pn, d.run⟩
def spCO (C C2 : Addr) : Sp := fun vs H Q _ => ∃ (q h l a : Addr) (n : Nat) (xs : List V) (ds : List Dd) (ys : List V) (its : List It) (p s : Nat) (x : Int × Int), vs = [.ref h, .ref a] ∧ DoAt C2 H q h l n xs ds a ys its p s x ∧
  ∀ y H' c, Same H H' → CrsAt C H' y c → fitsC c p s = true → (if c.n = 0 then (p : Int) else c.f.getD 0) = x.1 → (c.n ≠ 0 → ∃ f, c.f = some f) → (s : Int) + c.g = x.2 → Q (.ref y) H'
theorem scCO : FnScope ["house", "going", "course"] ["house", "going"] (defScope (top 28)) := ⟨rfl, rfl, rfl, by decide +kernel, rfl, by decide +kernel, by decide +kernel⟩
theorem ok_co {f : Addr} {fd : FuncData} (F : Fun K "course_of" "course_of" (top 28) f fd) (CN : Fn P w K mg base 9 "course_or_none" ["house", "value"] (spCN C C2)) : FnOk P w K mg base CX0 10 f fd ["house", "going"] (spCO C C2) := by
  refine F.ok scCO (fun vs H Q E h => ?_) (fun cdv A outer s H vs Q E hr h => ?_)
  · obtain ⟨q, h, l, a, n, xs, ds, ys, its, p, s, x, rfl, _⟩ := h
    rfl
  · obtain ⟨q, h, l, a, n, xs, ds, ys, its, p, st, x, rfl, d, k⟩ := h
    have N := scCO.nd
    refine ⟨_, pss_cons (ps_set (i := 2) N rfl (.inl rfl) (pe_fn CN hr (pa_cons (pv 0) (pa_cons (pv 1) pa_nil)))) (pss_cons (ps_if (pt_cmp (pc_isN (pv 2))) pss_never pss_nil) (pss_one (ps_ret (pv 2)))), ?_⟩
    obtain ⟨dd, hdd, dv⟩ := d.ga.d
    have fw := few_M d.wf.ok 4 its d.ok d.fw
    obtain ⟨c, c1, c2, c3, c4, c5⟩ := whole_it d.wf.ok d.ok d.dp hdd (p := (p : Int)) (s := (st : Int)) (by omega) d.run
    refine ⟨_, rfl, _, rfl, q, h, l, n, xs, ds, .ref a, dd, rfl, d.hh, d.wf.len, dv, (fun _ => by rcases hdd with rfl | rfl; exact fw.1; exact fw.2), fun v H1 s1 cv => ?_⟩
    rw [c1] at cv
    obtain ⟨y, rfl, hc⟩ := cv
    exact ⟨_, rfl, false, rfl, iteF ⟨_, rfl, k y H1 c s1 hc c2 c3 c4 c5⟩⟩
def spCD (C2 : Addr) : Sp := fun vs H Q _ => ∃ (q h l a : Addr) (n : Nat) (xs : List V) (ds : List Dd) (ys : List V) (its : List It) (p s : Nat) (x : Int × Int), vs = [.ref h, .int (p : Nat), .int (s : Nat), .ref a] ∧ DoAt C2 H q h l n xs ds a ys its p s x ∧ ∀ H', Same H H' → Q .non H'
abbrev P4 : List Str := ["house", "place", "start", "going"]
theorem scCD : FnScope P4 P4 (defScope (top 31)) := ⟨rfl, rfl, rfl, by decide +kernel, rfl, by decide +kernel, by decide +kernel⟩
theorem ok_cd {f : Addr} {fd : FuncData} (F : Fun K "check_doing" "check_doing" (top 31) f fd) (T : ClsC K mg C) (CP : Fn P w K mg base 3 "check_place" ["house", "place"] (spCP C2)) (CM : Fn P w K mg base 3 "check_many" ["many"] spCM) (CO : Fn P w K mg base 10 "course_of" ["house", "going"] (spCO C C2))
    (FT : MeH P w K mg base C "fits" 1 ["self", "place", "start"] (spFits C)) : FnOk P w K mg base CX0 11 f fd P4 (spCD C2) := by
  refine F.ok scCD (fun vs H Q E h => ?_) (fun cdv A outer s H vs Q E hr h => ?_)
  · obtain ⟨q, h, l, a, n, xs, ds, ys, its, p, s, x, rfl, _⟩ := h
    rfl
  · obtain ⟨q, h, l, a, n, xs, ds, ys, its, p, st, x, rfl, d, k⟩ := h
    have r1 := hr.mono (k := 10) (j := 1) (by decide)
    have r3 := hr.mono (k := 10) (j := 3) (by decide)
    refine ⟨_, pss_cons (ps_expr (pe_fn CP r3 (pa_cons (pv 0) (pa_cons (pv 1) pa_nil)))) (pss_cons (ps_expr (pe_fn CM r3 (pa_cons (pv 2) pa_nil)))
      (pss_one (ps_if (pt_not (pt_val (pe_mH FT T.cl r1 (pe_fn CO hr (pa_cons (pv 0) (pa_cons (pv 3) pa_nil))) (pa_cons (pv 1) (pa_cons (pv 2) pa_nil))))) pss_never pss_nil))), ?_⟩
    have pn := d.pn
    refine ⟨_, rfl, _, rfl, h, l, n, p, xs, ds, rfl, d.hh, by omega, by omega, ?_⟩
    refine ⟨_, rfl, st, rfl, by omega, ?_⟩
    refine ⟨_, rfl, _, rfl, q, h, l, a, n, xs, ds, ys, its, p, st, x, rfl, d, fun y H1 c s1 hc c2 c3 c4 c5 => ?_⟩
    obtain ⟨dx, hx⟩ := hc
    refine ⟨y, dx, _, rfl, hx, cf_fits c, _, rfl, _, rfl, y, c, p, st, rfl, ⟨dx, hx⟩, ?_⟩
    rw [c2]
    exact ⟨true, rfl, iteF (k H1 s1)⟩
/-! ### roof_of, is_under, behind -/
def spRO (C2 : Addr) : Sp := fun vs H Q _ => ∃ (q h l a : Addr) (n : Nat) (xs : List V) (ds : List Dd) (ys : List V) (its : List It) (p s : Nat) (x : Int × Int), vs = [.ref h, .int (p : Nat), .int (s : Nat), .ref a] ∧ DoAt C2 H q h l n xs ds a ys its p s x ∧ ∀ H', Same H H' → Q (.int ((s : Int) + pk (row ds its))) H'
def spIU (C2 : Addr) : Sp := fun vs H Q _ => ∃ (q h l a : Addr) (n : Nat) (xs : List V) (ds : List Dd) (ys : List V) (its : List It) (p s r : Nat) (x : Int × Int), vs = [.ref h, .int (p : Nat), .int (s : Nat), .ref a, .int (r : Nat)] ∧ DoAt C2 H q h l n xs ds a ys its p s x ∧ ∀ H', Same H H' → Q (.bl (decide ((s : Int) + pk (row ds its) ≤ r))) H'
def spBe (C2 : Addr) : Sp := fun vs H Q _ => ∃ (q h l a : Addr) (n : Nat) (xs : List V) (ds : List Dd) (ys : List V) (its : List It) (p s : Nat) (x : Int × Int), vs = [.ref h, .int (p : Nat), .int (s : Nat), .ref a] ∧ DoAt C2 H q h l n xs ds a ys its p s x ∧ ∀ t H', Same H H' → H' t = some (.tup [.int x.1, .int x.2]) → Q (.ref t) H'
abbrev P5 : List Str := ["house", "place", "start", "going", "roof"]
theorem scRO : FnScope P4 P4 (defScope (top 32)) := ⟨rfl, rfl, rfl, by decide +kernel, rfl, by decide +kernel, by decide +kernel⟩
theorem scIU : FnScope P5 P5 (defScope (top 33)) := ⟨rfl, rfl, rfl, by decide +kernel, rfl, by decide +kernel, by decide +kernel⟩
theorem scBe : FnScope ["house", "place", "start", "going", "course"] P4 (defScope (top 35)) := ⟨rfl, rfl, rfl, by decide +kernel, rfl, by decide +kernel, by decide +kernel⟩
theorem ok_roo {f : Addr} {fd : FuncData} (F : Fun K "roof_of" "roof_of" (top 32) f fd) (T2 : ClsT K mg C2) (CD : Fn P w K mg base 11 "check_doing" P4 (spCD C2)) (DE : MeH P w K mg base C2 "deeds" 1 ["self"] (spDeeds C2)) (PW : Fn P w K mg base 5 "peak_within" ["deeds", "going"] (spPW 3)) : FnOk P w K mg base CX0 12 f fd P4 (spRO C2) := by
  refine F.ok scRO (fun vs H Q E h => ?_) (fun cdv A outer s H vs Q E hr h => ?_)
  · obtain ⟨q, h, l, a, n, xs, ds, ys, its, p, s, x, rfl, _⟩ := h
    rfl
  · obtain ⟨q, h, l, a, n, xs, ds, ys, its, p, st, x, rfl, d, k⟩ := h
    have r1 := hr.mono (k := 11) (j := 1) (by decide)
    have r5 := hr.mono (k := 11) (j := 5) (by decide)
    refine ⟨_, pss_cons (ps_expr (pe_fn CD hr (pa_cons (pv 0) (pa_cons (pv 1) (pa_cons (pv 2) (pa_cons (pv 3) pa_nil))))))
      (pss_one (ps_ret (pe_op op_add (pv 2) (pe_ix ix_tup (pe_fn PW r5 (pa_cons (pe_mH0 DE T2.isc.cl r1 (pv 0)) (pa_cons (pv 3) pa_nil))) pe_int (fun _ _ => rfl))))), ?_⟩
    refine ⟨_, rfl, _, rfl, _, rfl, _, rfl, q, h, l, a, n, xs, ds, ys, its, p, st, x, rfl, d, fun H1 s1 => ?_⟩
    have d1 := d.same s1
    obtain ⟨dx, ob⟩ := d1.hh.ob
    refine ⟨_, rfl, _, rfl, h, dx, _, rfl, ob, flds_no _ _ (by decide +kernel) (by decide +kernel), h, l, n, xs, ds, rfl, d1.hh, fun D hD => ?_⟩
    have s2 := same_upd (o := .lst xs) hD
    have d2 := d1.same s2
    refine ⟨_, rfl, q, D, a, xs, ys, ds, n, its, rfl, upd_same, d2.hh.dd, d2.wf.ok, d2.ga, d2.ok, d2.fw, d2.dp, d2.ln, fun t H3 s3 ht => ?_⟩
    exact ⟨t, _, _, _, rfl, rfl, .inl (.inl ht), rfl, _, _, rfl, rfl, k H3 (s1.trans (s2.trans s3))⟩
theorem ok_iu {f : Addr} {fd : FuncData} (F : Fun K "is_under" "is_under" (top 33) f fd) (T2 : ClsT K mg C2) (CD : Fn P w K mg base 11 "check_doing" P4 (spCD C2)) (CM : Fn P w K mg base 3 "check_many" ["many"] spCM) (DE : MeH P w K mg base C2 "deeds" 1 ["self"] (spDeeds C2)) (PW : Fn P w K mg base 5 "peak_within" ["deeds", "going"] (spPW 3)) : FnOk P w K mg base CX0 12 f fd P5 (spIU C2) := by
  refine F.ok scIU (fun vs H Q E h => ?_) (fun cdv A outer s H vs Q E hr h => ?_)
  · obtain ⟨q, h, l, a, n, xs, ds, ys, its, p, s, r, x, rfl, _⟩ := h
    rfl
  · obtain ⟨q, h, l, a, n, xs, ds, ys, its, p, st, r, x, rfl, d, k⟩ := h
    have r1 := hr.mono (k := 11) (j := 1) (by decide)
    have r3 := hr.mono (k := 11) (j := 3) (by decide)
    have r5 := hr.mono (k := 11) (j := 5) (by decide)
    refine ⟨_, pss_cons (ps_expr (pe_fn CD hr (pa_cons (pv 0) (pa_cons (pv 1) (pa_cons (pv 2) (pa_cons (pv 3) pa_nil)))))) (pss_cons (ps_expr (pe_fn CM r3 (pa_cons (pv 4) pa_nil)))
      (pss_one (ps_ret (pe_cmpR op_le (pe_op op_add (pv 2) (pe_ix ix_tup (pe_fn PW r5 (pa_cons (pe_mH0 DE T2.isc.cl r1 (pv 0)) (pa_cons (pv 3) pa_nil))) pe_int (fun _ _ => rfl))) (pv 4) (nomark _))))), ?_⟩
    refine ⟨_, rfl, _, rfl, _, rfl, _, rfl, q, h, l, a, n, xs, ds, ys, its, p, st, x, rfl, d, fun H1 s1 => ?_⟩
    refine ⟨_, rfl, r, rfl, by omega, ?_⟩
    have d1 := d.same s1
    obtain ⟨dx, ob⟩ := d1.hh.ob
    refine ⟨_, rfl, _, rfl, h, dx, _, rfl, ob, flds_no _ _ (by decide +kernel) (by decide +kernel), h, l, n, xs, ds, rfl, d1.hh, fun D hD => ?_⟩
    have s2 := same_upd (o := .lst xs) hD
    have d2 := d1.same s2
    refine ⟨_, rfl, q, D, a, xs, ys, ds, n, its, rfl, upd_same, d2.hh.dd, d2.wf.ok, d2.ga, d2.ok, d2.fw, d2.dp, d2.ln, fun t H3 s3 ht => ?_⟩
    exact ⟨t, _, _, _, rfl, rfl, .inl (.inl ht), rfl, _, _, rfl, rfl, _, rfl, _, _, rfl, rfl, k H3 (s1.trans (s2.trans s3))⟩
theorem ok_beh {f : Addr} {fd : FuncData} (F : Fun K "behind" "behind" (top 35) f fd) (T : ClsC K mg C) (CP : Fn P w K mg base 3 "check_place" ["house", "place"] (spCP C2)) (CM : Fn P w K mg base 3 "check_many" ["many"] spCM) (CO : Fn P w K mg base 10 "course_of" ["house", "going"] (spCO C C2))
    (FT : MeH P w K mg base C "fits" 1 ["self", "place", "start"] (spFits C)) : FnOk P w K mg base CX0 11 f fd P4 (spBe C2) := by
  refine F.ok scBe (fun vs H Q E h => ?_) (fun cdv A outer s H vs Q E hr h => ?_)
  · obtain ⟨q, h, l, a, n, xs, ds, ys, its, p, s, x, rfl, _⟩ := h
    rfl
  · obtain ⟨q, h, l, a, n, xs, ds, ys, its, p, st, x, rfl, d, k⟩ := h
    have N := scBe.nd
    have r1 := hr.mono (k := 10) (j := 1) (by decide)
    have r3 := hr.mono (k := 10) (j := 3) (by decide)
    refine ⟨_, pss_cons (ps_expr (pe_fn CP r3 (pa_cons (pv 0) (pa_cons (pv 1) pa_nil)))) (pss_cons (ps_expr (pe_fn CM r3 (pa_cons (pv 2) pa_nil)))
      (pss_cons (ps_set (i := 4) N rfl (.inl rfl) (pe_fn CO hr (pa_cons (pv 0) (pa_cons (pv 3) pa_nil))))
      (pss_cons (ps_if (pt_not (pt_val (pe_mH FT T.cl r1 (pv 4) (pa_cons (pv 1) (pa_cons (pv 2) pa_nil))))) pss_never pss_nil)
      (pss_one (ps_ret (pe_tup (pa_cons (pe_ifExp (pt_cmpR op_eq (pe_fld (pv 4) rfl) pe_int (nomark _)) (pv 1) (pe_fld (pv 4) rfl)) (pa_cons (pe_op op_add (pv 2) (pe_fld (pv 4) rfl)) pa_nil)))))))), ?_⟩
    have pn := d.pn
    refine ⟨_, rfl, _, rfl, h, l, n, p, xs, ds, rfl, d.hh, by omega, by omega, ?_⟩
    refine ⟨_, rfl, st, rfl, by omega, ?_⟩
    refine ⟨_, rfl, _, rfl, q, h, l, a, n, xs, ds, ys, its, p, st, x, rfl, d, fun y H1 c s1 hc c2 c3 c4 c5 => ?_⟩
    obtain ⟨dx, hx⟩ := hc
    refine ⟨_, rfl, y, dx, _, rfl, hx, cf_fits c, _, rfl, _, rfl, y, c, p, st, rfl, ⟨dx, hx⟩, ?_⟩
    rw [c2]
    refine ⟨true, rfl, iteF ?_⟩
    refine ⟨_, rfl, y, C, dx, _, _, rfl, hx, T.cl, T.nn, cf_n c, rfl, decide (V.int c.n = V.int 0), rfl, ?_⟩
    by_cases c0 : c.n = 0
    · rw [if_pos c0] at c3
      rw [decide_eq_true (by rw [c0])]
      refine iteT ⟨_, rfl, _, rfl, _, rfl, y, C, dx, _, _, rfl, hx, T.cl, T.ng, cf_g c, _, _, rfl, rfl, (by show 2 ≤ sizeLine; decide), fun t ht => k t _ (s1.trans (same_upd ht)) ?_⟩
      rw [← c3, ← c5]
      exact upd_same
    · rw [if_neg c0] at c3
      rw [decide_eq_false (fun z => c0 (V.int.inj z))]
      obtain ⟨g, hg⟩ := c4 c0
      refine iteF ⟨_, rfl, y, C, dx, _, _, rfl, hx, T.cl, T.nf, cf_f c, _, rfl, _, rfl, y, C, dx, _, _, rfl, hx, T.cl, T.ng, cf_g c, _, _, rfl, rfl, (by show 2 ≤ sizeLine; decide), fun t ht => k t _ (s1.trans (same_upd ht)) ?_⟩
      rw [← c3, ← c5, hg]
      exact upd_same
end
end L2.K75
end

section
set_option Elab.async false
set_option linter.all false
set_option maxRecDepth 100000
set_option maxHeartbeats 4000000
namespace L2.K75
open PySem PySem.Spec PyProof.Rows L2.Gd
/-! ### the pot, drawn deeds -/
abbrev sPot : Stmt := top 43
def spPot (K : PySem.W.Frag) : Sp := fun vs H Q _ => ∃ (s : Addr) (k : Nat) (ns : List Int), vs = [.ref s, .int k] ∧ SqL K H s (ns.map V.int) ∧ (ns.length ≤ 100000) ∧
  ∀ p H', H p = none → Same H H' → PotAt H' p → Q (.ref p) H'
theorem scPot : FnScope ["_law_script", "_law_k", "_law_cell"] ["_law_script", "_law_k"] (defScope sPot) := ⟨rfl, rfl, rfl, by decide +kernel, rfl, by decide +kernel, by decide +kernel⟩
theorem pot_refs {H : Hp} {p b : Addr} {zs : List V} (hp : PotAt H p) (h : H b = some (.lst zs)) (hr : ∀ v ∈ zs, ∃ t, v = V.ref t) : b ≠ p := by
  rintro rfl
  obtain ⟨x, y, e, _⟩ := hp
  rw [h] at e
  have e : zs = [V.int x, V.int y] := HO.lst.inj (Option.some.inj e)
  obtain ⟨t, ht⟩ := hr (.int x) (by rw [e]; exact List.mem_cons_self)
  exact nomatch ht
theorem DdAll.refs {H : Hp} : ∀ {zs : List V} {ps : List Dd}, DdAll H zs ps → ∀ v ∈ zs, ∃ t, v = V.ref t
  | _, _, .nil, _, h => nomatch h
  | _, _, .cons ⟨t, e, _⟩ r, v, h => (List.mem_cons.mp h).elim (fun z => ⟨t, z.trans e⟩) (DdAll.refs r v)
theorem pot_free {H H' : Hp} {p l : Addr} (hp : PotAt H p) (hp' : PotAt H' p) (b : ButD p H H') (n : H' l = none) : H l = none := by
  by_cases e : l = p
  · subst e
    obtain ⟨x, y, e, _⟩ := hp'
    rw [n] at e
    exact nomatch e
  · cases h : H l with
    | none => rfl
    | some o =>
      have := b _ _ e h
      rw [n] at this
      exact nomatch this
section
variable {P : Program} {w : World} {K : PySem.W.Frag} {mg : Str → Option Value} {base : Heap} {C C2 : Addr}
theorem ok_pot {f : Addr} {fd : FuncData} (F : Fun K "_law_pot" "_law_pot" sPot f fd) (n : Nm mg) : FnOk P w K mg base CX0 1 f fd ["_law_script", "_law_k"] (spPot K) := by
  refine F.ok scPot (fun vs H Q E h => ?_) (fun cdv A outer s H vs Q E hr h => ?_)
  · obtain ⟨s, k, ns, rfl, _⟩ := h
    rfl
  · obtain ⟨s, k, ns, rfl, hs, hz, q⟩ := h
    have N := scPot.nd
    refine ⟨_, pss_cons (ps_set (i := 2) N rfl (.inl rfl) (pe_ifExp (pt_cmpR op_lt (pv 1) (pe_callB call_len_seq (by rfl) n.len PySem.boot_len (pa_cons (pv 0) pa_nil)) (nomark _))
          (pe_callB call_abs (by rfl) n.abs (by decide +kernel) (pa_cons (pe_ix ix_list (pv 0) (pv 1) (fun _ _ => rfl)) pa_nil)) (pe_op op_add (pe_op op_mul pe_int (pv 1)) pe_int)))
      (pss_one (ps_ret (pe_lst (pa_cons (pe_callB (call_max2 rfl) (by rfl) n.max (by decide +kernel) (pa_cons pe_int (pa_cons (pe_op op_sub (pv 2) (pe_op op_pow pe_int pe_int)) pa_nil)))
        (pa_cons (pe_op op_add (pe_op op_mod (pe_callTy call_int1 (by rfl) n.int (by decide +kernel) (pa_cons (pe_op op_add (pe_op op_add (pe_op op_mul (pe_op op_mod (pe_callTy call_int1 (by rfl) n.int (by decide +kernel) (pa_cons (pv 2) pa_nil)) pe_int) pe_int) (pe_op op_mul pe_int (pv 1))) pe_int) pa_nil)) pe_int) pe_int) pa_nil))))), ?_⟩
    refine seqV (Good := fun σ2 H2 => H = H2 ∧ ∃ c : Int, σ2 = [some (.ref s), some (.int (k : Nat)), some (.int c)]) ?_ ?_
    · intro nx hnx
      refine ⟨_, rfl, _, rfl, s, _, rfl, .inl hs, _, _, rfl, rfl, decide ((k : Int) < (ns.map V.int).length), rfl, ?_⟩
      rw [List.length_map]
      by_cases hk : k < ns.length
      · rw [decide_eq_true (by omega)]
        exact iteT ⟨_, rfl, _, rfl, s, _, _, _, rfl, rfl, hs, atI_nat (by rw [List.getElem?_map, List.getElem?_eq_getElem hk]; rfl), _, rfl, hnx _ _ ⟨rfl, _, rfl⟩⟩
      · rw [decide_eq_false (by omega)]
        exact iteF ⟨_, rfl, _, _, rfl, rfl, .inl (by decide), _, _, rfl, rfl, hnx _ _ ⟨rfl, _, rfl⟩⟩
    rintro _ _ ⟨rfl, c, rfl⟩
    refine ⟨_, rfl, _, _, rfl, rfl, ⟨by decide, by decide, by decide⟩, _, _, rfl, rfl, _, _, rfl, ?_⟩
    refine ⟨_, rfl, .inl ⟨_, rfl, _, _, rfl, rfl, (by show (0 : Int) < 2147483549; decide), _, _, rfl, rfl, .inr (by decide), _, rfl, _, _, rfl, rfl, .inl (by decide), _, _, rfl, rfl, _, _, rfl, rfl, .inl ⟨_, rfl, ?_⟩⟩⟩
    refine ⟨_, _, rfl, rfl, (by show (0 : Int) < 2147483563; decide), _, _, rfl, rfl, (by show 2 ≤ sizeLine; decide), fun p hp => ?_⟩
    refine q p _ hp (same_upd hp) ⟨_, _, upd_same, ?_, ?_, ?_⟩
    · split <;> omega
    · omega
    · omega
/-! ### one of some -/
def spPick : Sp := fun vs H Q _ => ∃ (p a : Addr) (xs : List V), vs = [.ref p, .ref a] ∧ PotAt H p ∧ H a = some (.lst xs) ∧ a ≠ p ∧ 0 < xs.length ∧ xs.length ≤ 1000 ∧ ∀ x H', x ∈ xs → PotAt H' p → ButD p H H' → Q x H'
theorem scPick : FnScope ["_law_pot_here", "_law_some"] ["_law_pot_here", "_law_some"] (defScope (top 45)) := ⟨rfl, rfl, rfl, by decide +kernel, rfl, by decide +kernel, by decide +kernel⟩
theorem ok_pick {f : Addr} {fd : FuncData} (F : Fun K "_law_pick" "_law_pick" (top 45) f fd) (n : Nm mg) (GD : Fn P w K mg base 1 "_law_draw" ["_law_pot_here", "_law_many"] spDraw) : FnOk P w K mg base CX0 2 f fd ["_law_pot_here", "_law_some"] spPick := by
  refine F.ok scPick (fun vs H Q E h => ?_) (fun cdv A outer s H vs Q E hr h => ?_)
  · obtain ⟨p, a, xs, rfl, _⟩ := h
    rfl
  · obtain ⟨p, a, xs, rfl, hp, ha, nap, x0, x1, q⟩ := h
    refine ⟨_, pss_one (ps_ret (pe_ix ix_list (pv 1) (pe_fn GD hr (pa_cons (pv 0) (pa_cons (pe_callB call_len_seq (by rfl) n.len PySem.boot_len (pa_cons (pv 1) pa_nil)) pa_nil))) (fun _ _ => rfl))), ?_⟩
    refine ⟨_, rfl, _, rfl, _, rfl, a, xs, rfl, .inl (.inl (.inl ha)), p, (xs.length : Int), rfl, hp, by omega, by omega, fun d H1 d0 d1 hp1 b1 => ?_⟩
    obtain ⟨k, rfl⟩ : ∃ k : Nat, d = k := ⟨d.toNat, by omega⟩
    have hk : k < xs.length := by omega
    exact ⟨a, xs, _, _, rfl, rfl, .inl (.inl (b1 _ _ nap ha)), atI_nat (List.getElem?_eq_getElem hk), q _ H1 (List.getElem_mem hk) hp1 b1⟩
/-! more deeds -/
def spMd : Sp := fun vs H Q _ => ∃ (p D : Addr) (ys : List V) (ds : List Dd) (m : Int) (k : Nat), vs = [.ref p, .int m, .ref D, .int (k : Nat), .bl false] ∧ PotAt H p ∧ H D = some (.lst ys) ∧ D ≠ p ∧ DdAll H ys ds ∧ (∀ d ∈ ds, d.Ok m) ∧ ds.Nodup ∧ ds.length ≤ 30 ∧ 1 ≤ m ∧ m ≤ 100 ∧ k ≤ 30 ∧
  ∀ l xs es H', H l = none → H' l = some (.lst xs) → PotAt H' p → ButD p H H' → DdAll H' xs es → (∀ d ∈ es, d.Ok m) → es.Nodup → es.length ≤ ds.length + k → Q (.ref l) H'
def NMd : List Str := ["_law_pot_here", "_law_places", "_law_deeds", "_law_many", "_law_is_plain", "_law_found", "_law_turn", "_law_change", "_law_is_empty", "_law_deed"]
theorem scMd : FnScope NMd ["_law_pot_here", "_law_places", "_law_deeds", "_law_many", "_law_is_plain"] (defScope (top 46)) := ⟨rfl, rfl, rfl, by decide +kernel, rfl, by decide +kernel, by decide +kernel⟩
theorem ok_md {f : Addr} {fd : FuncData} (F : Fun K "_law_more_deeds" "_law_more_deeds" (top 46) f fd) (n : Nm mg) (GD : Fn P w K mg base 1 "_law_draw" ["_law_pot_here", "_law_many"] spDraw) :
    FnOk P w K mg base CX0 2 f fd ["_law_pot_here", "_law_places", "_law_deeds", "_law_many", "_law_is_plain"] spMd := by
  refine F.ok scMd (fun vs H Q E h => ?_) (fun cdv A outer s H vs Q E hr h => ?_)
  · obtain ⟨p, D, ys, ds, m, k, rfl, _⟩ := h
    rfl
  · obtain ⟨p, D, ys, ds, m, k, rfl, hp, hD, nDp, dd, ok, nd, d30, m1, m100, k30, q⟩ := h
    have N := scMd.nd
    refine ⟨_, pss_cons (ps_set (i := 5) N rfl (.inl rfl) (pe_callTy call_list_of (by rfl) n.list (by decide +kernel) (pa_cons (pv 2) pa_nil)))
      (pss_cons (ps_for PassesOwn.never rfl (pi_range1 (by rfl) n.range (pa_cons (pv 3) pa_nil)) (pg_name (i := 6) N rfl (.inl rfl))
        (pss_cons (ps_set (i := 7) N rfl (.inl rfl) (pe_op op_sub (pe_fn GD hr (pa_cons (pv 0) (pa_cons pe_int pa_nil))) pe_int))
        (pss_cons (ps_set (i := 8) N rfl (.inl rfl) (pe_and (pe_not (pv 4)) (pe_and (pe_cmpR op_gt (pv 7) (pe_un un_neg pe_int) (nomark _)) (pe_one (pe_cmpR op_eq (pe_fn GD hr (pa_cons (pv 0) (pa_cons pe_int pa_nil))) pe_int (nomark _))))))
        (pss_cons (ps_set (i := 9) N rfl (.inl rfl) (pe_tup (pa_cons (pe_fn GD hr (pa_cons (pv 0) (pa_cons (pv 1) pa_nil))) (pa_cons (pv 7) (pa_cons (pe_fn GD hr (pa_cons (pv 0) (pa_cons (pv 1) pa_nil))) (pa_cons (pe_ifExp (pt_val (pv 8)) pe_str pe_str) pa_nil))))))
        (pss_one (ps_set (i := 5) N rfl (.inl rfl) (pe_ifExp (pt_cmpR (op_inD (hu65 hr)) (pv 9) (pv 5) (by rfl)) (pv 5) (pe_op op_cat (pv 5) (pe_lst (pa_cons (pv 9) pa_nil))))))))))
      (pss_one (ps_ret (pv 5)))), ?_⟩
    refine ⟨_, rfl, D, ys, rfl, .inl (.inl (.inl hD)), fun l hl => ?_⟩
    have sl := same_upd (o := .lst ys) hl
    refine ⟨_, rfl, k, rfl, by omega, by omega, for_range (lo := 0) (n := (k : Int).toNat) (fun i σ H2 => ∃ (l : Addr) (a6 a7 a8 a9 : Option V) (xs : List V) (es : List Dd),
      σ = [some (.ref p), some (.int m), some (.ref D), some (.int (k : Nat)), some (.bl false), some (.ref l), a6, a7, a8, a9] ∧ PotAt H2 p ∧ ButD p H H2 ∧ H l = none ∧ H2 l = some (.lst xs) ∧ DdAll H2 xs es ∧ (∀ d ∈ es, d.Ok m) ∧ es.Nodup ∧ es.length ≤ ds.length + i)
      ⟨l, none, none, none, none, ys, ds, rfl, hp.same sl, Same.but sl, hl, upd_same, dd.same sl, ok, nd, Nat.le_refl _⟩ ?_ ?_⟩
    · clear sl hl l
      rintro i σ H2 hi ⟨l, a6, a7, a8, a9, xs, es, rfl, hp2, b2, nl, hl2, dd2, ok2, nd2, len⟩
      refine gn ?_
      refine seqV (Good := fun σ2 H3 => ∃ ch : Int, -1 ≤ ch ∧ ch ≤ 1 ∧ PotAt H3 p ∧ ButD p H2 H3 ∧ σ2 = [some (.ref p), some (.int m), some (.ref D), some (.int (k : Nat)), some (.bl false), some (.ref l), some (.int (0 + (i : Int))), some (.int ch), a8, a9])
        (fun nx hnx => ⟨_, rfl, p, 3, rfl, hp2, by decide, by decide, fun d H3 d0 d3 hp3 b3 => ⟨_, _, rfl, rfl, hnx _ _ ⟨_, by omega, by omega, hp3, b3, rfl⟩⟩⟩) ?_
      rintro _ H3 ⟨ch, c1, c2, hp3, b3, rfl⟩
      refine seqV (Good := fun σ2 H4 => ∃ em : Bool, (em = true → -1 < ch) ∧ PotAt H4 p ∧ ButD p H2 H4 ∧ σ2 = [some (.ref p), some (.int m), some (.ref D), some (.int (k : Nat)), some (.bl false), some (.ref l), some (.int (0 + (i : Int))), some (.int ch), some (.bl em), a9]) ?_ ?_
      · intro nx hnx
        refine ⟨_, rfl, false, rfl, true, rfl, iteT ⟨_, rfl, 1, rfl, _, _, rfl, rfl, decide (ch > -1), rfl, ?_⟩⟩
        by_cases c : ch > -1
        · rw [decide_eq_true c]
          exact iteT ⟨_, rfl, p, 3, rfl, hp3, by decide, by decide, fun d H4 d0 d3 hp4 b4 => ⟨rfl, hnx _ _ ⟨_, fun _ => by omega, hp4, ButD.trans b3 b4, rfl⟩⟩⟩
        · rw [decide_eq_false c]
          exact iteF (hnx _ _ ⟨false, (fun z => nomatch z), hp3, b3, rfl⟩)
      rintro _ H4 ⟨em, hem, hp4, b4, rfl⟩
      refine seqV (Good := fun σ2 H5 => ∃ (t : Addr) (dn : Dd), dn.Ok m ∧ H5 t = some (.tup dn.vs) ∧ PotAt H5 p ∧ ButD p H2 H5 ∧ σ2 = [some (.ref p), some (.int m), some (.ref D), some (.int (k : Nat)), some (.bl false), some (.ref l), some (.int (0 + (i : Int))), some (.int ch), some (.bl em), some (.ref t)]) ?_ ?_
      · intro nx hnx
        refine ⟨_, rfl, _, rfl, p, m, rfl, hp4, m1, by omega, fun pl H5 pl0 pln hp5 b5 => ⟨_, rfl, _, rfl, _, rfl, p, m, rfl, hp5, m1, by omega, fun gl H6 gl0 gln hp6 b6 => ⟨_, rfl, em, rfl, ?_⟩⟩⟩
        have b6' : ButD p H2 H6 := ButD.trans b4 (ButD.trans b5 b6)
        cases em with
        | true =>
          refine iteT ⟨(by show 4 ≤ sizeLine; decide), fun t ht => ?_⟩
          have st := same_upd (o := .tup [.int pl, .int ch, .int gl, .str "empty"]) ht
          have := hem rfl
          exact hnx _ _ ⟨t, ⟨pl, ch, gl, "empty"⟩, ⟨pl0, pln, gl0, gln, .inr ⟨rfl, by show 0 ≤ ch; omega, c2⟩⟩, upd_same, hp6.same st, ButD.trans b6' (Same.but st), rfl⟩
        | false =>
          refine iteF ⟨(by show 4 ≤ sizeLine; decide), fun t ht => ?_⟩
          have st := same_upd (o := .tup [.int pl, .int ch, .int gl, .str "any"]) ht
          exact hnx _ _ ⟨t, ⟨pl, ch, gl, "any"⟩, ⟨pl0, pln, gl0, gln, .inl ⟨rfl, c1, c2⟩⟩, upd_same, hp6.same st, ButD.trans b6' (Same.but st), rfl⟩
      rintro _ H5 ⟨t, dn, okd, ht, hp5, b5, rfl⟩
      have nlp : l ≠ p := pot_refs hp2 hl2 dd2.refs
      have hl5 := b5 _ _ nlp hl2
      have dd5 := DdAll.pot hp2 b5 dd2
      refine ⟨_, rfl, _, rfl, dn.d, es.map Dd.d, DdAt.dp ⟨_, rfl, ht⟩, .lst (.inl (.inl hl5)) dd5.dps, Dd.shaped okd.wd, shapedL (fun x hx => (ok2 x hx).wd), _, rfl, ?_⟩
      rw [any_in]
      by_cases hin : dn ∈ es
      · rw [decide_eq_true hin]
        exact iteT ⟨_, rfl, l, _, _, _, _, xs, es, rfl, hp5, ButD.trans b2 b5, nl, hl5, dd5, ok2, nd2, by omega⟩
      · rw [decide_eq_false hin]
        have xl := Paired.length dd5
        refine iteF ⟨_, rfl, _, rfl, (by show 1 ≤ sizeLine; decide), fun e he => ?_⟩
        have se := same_upd (o := .lst [V.ref t]) he
        refine ⟨l, e, xs, [.ref t], rfl, rfl, se _ _ hl5, upd_same, by rw [sizeLine_eq]; show xs.length + 1 ≤ _; omega, fun u hu => ?_⟩
        have su := same_upd (o := .lst (xs ++ [V.ref t])) hu
        have s57 := se.trans su
        refine ⟨u, _, _, _, _, xs ++ [.ref t], es ++ [dn], rfl, hp5.same s57, ButD.trans b2 (ButD.trans b5 (Same.but s57)), pot_free hp hp5 (ButD.trans b2 b5) (se.free hu), upd_same, PySem.Paired.snoc (DdAll.same s57 dd5) ⟨t, rfl, s57 _ _ ht⟩, fun d hd => ?_, ?_, by rw [List.length_append]; show es.length + 1 ≤ _; omega⟩
        · rcases List.mem_append.mp hd with hd | hd
          · exact ok2 d hd
          · rw [List.mem_singleton.mp hd]
            exact okd
        · exact List.nodup_append.mpr ⟨nd2, List.pairwise_singleton _ _, fun a ha b hb z => by
            rw [List.mem_singleton.mp hb] at z
            exact hin (z ▸ ha)⟩
    · rintro σ H2 ⟨l, a6, a7, a8, a9, xs, es, rfl, hp2, b2, nl, hl2, dd2, ok2, nd2, len⟩
      exact ⟨_, rfl, q l xs es H2 nl hl2 hp2 b2 dd2 ok2 nd2 (by omega)⟩
end
end L2.K75
end

section
set_option Elab.async false
set_option linter.all false
set_option maxRecDepth 100000
set_option maxHeartbeats 4000000
namespace L2.K75
open PySem PySem.Spec PyProof.Rows L2.Gd
/-! ### a drawn house -/
theorem rgI_mem {lo e : Int} {n : Nat} : e ∈ rgI lo n ↔ lo ≤ e ∧ e < lo + n := by
  unfold rgI
  rw [List.mem_map]
  constructor
  · rintro ⟨i, hi, rfl⟩
    have := List.mem_range.mp hi
    omega
  · rintro ⟨h1, h2⟩
    exact ⟨(e - lo).toNat, List.mem_range.mpr (by omega), by omega⟩
theorem rgI_lt (lo : Int) (n : Nat) : (rgI lo n).Pairwise (· < ·) := by
  unfold rgI
  rw [List.pairwise_map]
  exact List.pairwise_lt_range.imp fun {a b} h => by omega
/-- a ring up, a ring down -/
def dU (u : Nat) (e : Int) : Dd := ⟨e, 1, (e + 1) % (u : Int), "any"⟩
def dV (u v : Nat) (e : Int) : Dd := ⟨(u : Int) + e, -1, (u : Int) + (e + 1) % (v : Int), "any"⟩
theorem ring_ok {u v : Nat} {d : Dd} {x : Int} (u1 : 1 ≤ u) (v1 : 1 ≤ v) (x0 : 0 ≤ x) (xu : x < u) (c1 : -1 ≤ d.c) (c2 : d.c ≤ 1) (hd : d = ⟨x, d.c, (u : Int), "any"⟩) :
    (∀ a ∈ (rgI 0 u).map (dU u) ++ [d] ++ (rgI 0 v).map (dV u v), a.Ok ((u : Int) + v)) ∧ ((rgI 0 u).map (dU u) ++ [d] ++ (rgI 0 v).map (dV u v)).Nodup := by
  have mU : ∀ a ∈ (rgI 0 u).map (dU u), 0 ≤ a.p ∧ a.p < u ∧ 0 ≤ a.g ∧ a.g < u ∧ a.c = 1 ∧ a.w = "any" := fun a ha => by
    obtain ⟨e, he, rfl⟩ := List.mem_map.mp ha
    have := rgI_mem.mp he
    exact ⟨this.1, by show e < u; omega, Int.emod_nonneg _ (by omega), Int.emod_lt_of_pos _ (by omega), rfl, rfl⟩
  have mV : ∀ a ∈ (rgI 0 v).map (dV u v), (u : Int) ≤ a.p ∧ a.p < u + v ∧ (u : Int) ≤ a.g ∧ a.g < u + v ∧ a.c = -1 ∧ a.w = "any" := fun a ha => by
    obtain ⟨e, he, rfl⟩ := List.mem_map.mp ha
    have := rgI_mem.mp he
    have h1 := Int.emod_nonneg (e + 1) (show (v : Int) ≠ 0 by omega)
    have h2 := Int.emod_lt_of_pos (e + 1) (show (0 : Int) < v by omega)
    refine ⟨?_, ?_, ?_, ?_, rfl, rfl⟩
    · show (u : Int) ≤ u + e; omega
    · show (u : Int) + e < u + v; omega
    · show (u : Int) ≤ u + (e + 1) % (v : Int); omega
    · show (u : Int) + (e + 1) % (v : Int) < u + v; omega
  have dg : d.g = u := by rw [hd]
  have dp : d.p = x := by rw [hd]
  have dw : d.w = "any" := by rw [hd]
  constructor
  · intro a ha
    rcases List.mem_append.mp ha with ha | ha
    · rcases List.mem_append.mp ha with ha | ha
      · obtain ⟨h1, h2, h3, h4, h5, h6⟩ := mU a ha
        exact ⟨h1, by omega, h3, by omega, .inl ⟨h6, by omega, by omega⟩⟩
      · rw [List.mem_singleton.mp ha]
        exact ⟨by omega, by omega, by omega, by omega, .inl ⟨dw, c1, c2⟩⟩
    · obtain ⟨h1, h2, h3, h4, h5, h6⟩ := mV a ha
      exact ⟨by omega, h2, by omega, h4, .inl ⟨h6, by omega, by omega⟩⟩
  · refine List.nodup_append.mpr ⟨List.nodup_append.mpr ⟨?_, List.pairwise_singleton _ _, fun a ha b hb z => ?_⟩, ?_, fun a ha b hb z => ?_⟩
    · exact List.pairwise_map.mpr ((rgI_lt 0 u).imp fun {a b} h e => by
        have := congrArg Dd.p e
        have : a = b := this
        omega)
    · rw [List.mem_singleton.mp hb] at z
      have := mU a ha
      rw [z] at this
      omega
    · exact List.pairwise_map.mpr ((rgI_lt 0 v).imp fun {a b} h e => by
        have := congrArg Dd.p e
        have : (u : Int) + a = u + b := this
        omega)
    · have hb := mV b hb
      rcases List.mem_append.mp ha with ha | ha
      · have := mU a ha
        rw [z] at this
        omega
      · rw [List.mem_singleton.mp ha] at z
        rw [← z] at hb
        omega
def spHo : Sp := fun vs H Q _ => ∃ (p : Addr), vs = [.ref p, .int 4, .bl false] ∧ PotAt H p ∧
  ∀ t D ys ds (n : Nat) H', H' t = some (.tup [.int (n : Nat), .ref D]) → H' D = some (.lst ys) → D ≠ p → DdAll H' ys ds → WF n ds → n ≤ 4 → PotAt H' p → ButD p H H' → Q (.ref t) H'
def NHo : List Str := ["_law_pot_here", "_law_most", "_law_is_plain", "_law_places", "_law_ups", "_law_downs", "_law_deeds", "_law_at"]
theorem scHo : FnScope NHo ["_law_pot_here", "_law_most", "_law_is_plain"] (defScope (top 47)) := ⟨rfl, rfl, rfl, by decide +kernel, rfl, by decide +kernel, by decide +kernel⟩
abbrev σH (p : Addr) (x3 x4 x5 x6 : Option V) : L2.St := [some (.ref p), some (.int 4), some (.bl false), x3, x4, x5, x6, none]
section
variable {P : Program} {w : World} {K : PySem.W.Frag} {mg : Str → Option Value} {base : Heap} {C C2 : Addr}
theorem ok_ho {f : Addr} {fd : FuncData} (F : FunD K "_law_house" "_law_house" (defArgs (top 47)) (defBody (top 47)) (defScope (top 47)) [.bl false] [] f fd) (n : Nm mg) (GD : Fn P w K mg base 1 "_law_draw" ["_law_pot_here", "_law_many"] spDraw)
    (MD : Fn P w K mg base 2 "_law_more_deeds" ["_law_pot_here", "_law_places", "_law_deeds", "_law_many", "_law_is_plain"] spMd) :
    FnOk P w K mg base CX0 3 f fd ["_law_pot_here", "_law_most", "_law_is_plain"] spHo := by
  refine F.ok scHo (fun vs H Q E h => ?_) (fun cdv A outer s H vs Q E hr h => ?_)
  · obtain ⟨p, rfl, _⟩ := h
    rfl
  · obtain ⟨p, rfl, hp, q⟩ := h
    have N := scHo.nd
    have r1 := hr.mono (k := 2) (j := 1) (by decide)
    refine ⟨_, pss_cons (ps_if (pt_cmpR op_eq (pe_fn GD r1 (pa_cons (pv 0) (pa_cons pe_int pa_nil))) pe_int (nomark _))
        (pss_cons (ps_set (i := 3) N rfl (.inl rfl) (pe_op op_add pe_int (pe_fn GD r1 (pa_cons (pv 0) (pa_cons (pv 1) pa_nil)))))
        (pss_one (ps_ret (pe_tup (pa_cons (pv 3) (pa_cons (pe_fn MD hr (pa_cons (pv 0) (pa_cons (pv 3) (pa_cons (pe_lst pa_nil) (pa_cons (pe_op op_add pe_int (pe_fn GD r1 (pa_cons (pv 0) (pa_cons pe_int pa_nil)))) (pa_cons (pv 2) pa_nil)))))) pa_nil)))))) pss_nil)
      (pss_cons (ps_set (i := 4) N rfl (.inr rfl) (pe_op op_add pe_int (pe_fn GD r1 (pa_cons (pv 0) (pa_cons (pe_ifExp (pt_cmpR op_lt (pv 1) pe_int (nomark _)) (pe_op op_sub (pv 1) pe_int) pe_int) pa_nil)))))
      (pss_cons (ps_set (i := 5) N rfl (.inr rfl) (pe_op op_add pe_int (pe_fn GD r1 (pa_cons (pv 0) (pa_cons (pe_op op_sub (pv 1) (pv 4)) pa_nil)))))
      (pss_cons (ps_setLc (i := 6) (own := [("_law_at", 7)]) (g := gName 7) (tt := tYes) (by rfl) N rfl rfl (sw_true rfl rfl rfl (by decide +kernel)) (pi_range1 (by rfl) n.range (pa_cons (pv 4) pa_nil)) (blkOk_by (N := NHo) (sc := defScope (top 47)) (by decide +kernel)) (fun _ _ _ _ _ => pg_name (i := 7) N rfl (.inl rfl))
          (fun _ _ _ _ _ => pts_nil) (fun _ _ _ _ _ => pe_tup (pa_cons (pv 7) (pa_cons pe_int (pa_cons (pe_op op_mod (pe_op op_add (pv 7) pe_int) (pv 4)) (pa_cons pe_str pa_nil))))))
      (pss_cons (ps_expr (pe_bm PySem.F.plainAttrs_list PySem.F.slot_list_append PySem.F.type_list_append mt_append (pv 6) (pa_cons
          (pe_tup (pa_cons (pe_fn GD r1 (pa_cons (pv 0) (pa_cons (pv 4) pa_nil))) (pa_cons (pe_op op_sub (pe_fn GD r1 (pa_cons (pv 0) (pa_cons pe_int pa_nil))) pe_int) (pa_cons (pv 4) (pa_cons pe_str pa_nil))))) pa_nil)))
      (pss_cons (ps_expr (pe_bm PySem.F.plainAttrs_list PySem.F.slot_list_extend PySem.F.type_list_extend mt_extend (pv 6) (pa_cons
          (pe_lc (own := [("_law_at", 7)]) (g := gName 7) (tt := tYes) rfl N (pi_range1 (by rfl) n.range (pa_cons (pv 5) pa_nil)) (blkOk_by (N := NHo) (sc := defScope (top 47)) (by decide +kernel)) (fun _ _ _ _ _ => pg_name (i := 7) N rfl (.inl rfl))
            (fun _ _ _ _ _ => pts_nil) (fun _ _ _ _ _ => pe_tup (pa_cons (pe_op op_add (pv 4) (pv 7)) (pa_cons (pe_un un_neg pe_int) (pa_cons (pe_op op_add (pv 4) (pe_op op_mod (pe_op op_add (pv 7) pe_int) (pv 5))) (pa_cons pe_str pa_nil)))))) pa_nil)))
      (pss_one (ps_ret (pe_tup (pa_cons (pe_op op_add (pv 4) (pv 5)) (pa_cons (pe_fn MD hr (pa_cons (pv 0) (pa_cons (pe_op op_add (pv 4) (pv 5)) (pa_cons (pv 6) (pa_cons (pe_fn GD r1 (pa_cons (pv 0) (pa_cons pe_int pa_nil))) (pa_cons (pv 2) pa_nil)))))) pa_nil)))))))))), ?_⟩
    -- drawn deeds alone
    refine seqV (Good := fun σ2 H2 => PotAt H2 p ∧ ButD p H H2 ∧ σ2 = σH p none none none none) ?_ ?_
    · intro nx hnx
      refine ⟨_, rfl, p, 2, rfl, hp, by decide, by decide, fun z H1 z0 z2 hp1 b1 => ⟨rfl, decide (V.int z = V.int 0), rfl, ?_⟩⟩
      by_cases c : z = 0
      · rw [decide_eq_true (by rw [c])]
        refine iteT ?_
        refine ⟨_, rfl, _, rfl, p, 4, rfl, hp1, by decide, by decide, fun d H2 d0 d5 hp2 b2 => ⟨_, _, rfl, rfl, ?_⟩⟩
        obtain ⟨k, rfl⟩ : ∃ k : Nat, d = k := ⟨d.toNat, by omega⟩
        have e1 : (1 : Int) + (k : Int) = ((k + 1 : Nat) : Int) := by omega
        refine ⟨_, rfl, _, rfl, _, rfl, (by show 0 ≤ sizeLine; decide), fun l hl => ?_⟩
        have sl := same_upd (o := .lst []) hl
        refine ⟨_, rfl, p, 6, rfl, hp2.same sl, by decide, by decide, fun j H3 j0 j6 hp3 b3 => ⟨_, _, rfl, rfl, _, rfl, ?_⟩⟩
        obtain ⟨j, rfl⟩ : ∃ k : Nat, j = k := ⟨j.toNat, by omega⟩
        have nlp : l ≠ p := fun z => by
          subst z
          obtain ⟨_, _, e, _⟩ := hp2
          rw [hl] at e
          exact nomatch e
        refine ⟨p, l, [], [], 1 + (k : Int), 2 + j, ?_, hp3, b3 _ _ nlp upd_same, nlp, .nil, (fun d z => nomatch z), .nil, Nat.zero_le _, by omega, by omega, by omega, fun u xs es H4 nu hu hp4 b4 dd ok nd le => ⟨(by show 2 ≤ sizeLine; decide), fun t ht => ?_⟩⟩
        · show [V.ref p, V.int (1 + (k : Int)), V.ref l, V.int (2 + (j : Int)), V.bl false] = _
          rw [show (2 + (j : Int)) = ((2 + j : Nat) : Int) by omega]
        have st := same_upd (o := .tup [V.int (1 + (k : Int)), V.ref u]) ht
        have nup : u ≠ p := pot_refs hp4 hu dd.refs
        have le : es.length ≤ 0 + (2 + j) := le
        refine q t u xs es (k + 1) _ ?_ (st _ _ hu) nup (dd.same st) ⟨by omega, by omega, ?_, nd, by omega⟩ (by omega) (hp4.same st) (ButD.trans b1 (ButD.trans b2 (ButD.trans (Same.but sl) (ButD.trans b3 (ButD.trans b4 (Same.but st))))))
        · rw [← e1]
          exact upd_same
        · rw [← e1]
          exact ok
      · rw [decide_eq_false (fun z => c (V.int.inj z))]
        exact iteF (hnx _ _ ⟨hp1, b1, rfl⟩)
    clear hp
    rintro _ H1 ⟨hp1, b1, rfl⟩
    -- ups
    refine seqV (Good := fun σ2 H2 => ∃ u : Nat, 1 ≤ u ∧ u ≤ 3 ∧ PotAt H2 p ∧ ButD p H H2 ∧ σ2 = σH p none (some (.int (u : Nat))) none none) ?_ ?_
    · intro nx hnx
      refine ⟨_, rfl, _, rfl, _, _, rfl, rfl, false, rfl, iteF ?_⟩
      refine ⟨p, 3, rfl, hp1, by decide, by decide, fun d H2 d0 d3 hp2 b2 => ⟨_, _, rfl, rfl, ?_⟩⟩
      obtain ⟨k, rfl⟩ : ∃ k : Nat, d = k := ⟨d.toNat, by omega⟩
      refine hnx _ _ ⟨k + 1, by omega, by omega, hp2, ButD.trans b1 b2, ?_⟩
      show _ = [some (V.ref p), some (V.int 4), some (V.bl false), none, some (V.int ((k + 1 : Nat) : Int)), none, none, none]
      rw [show ((k + 1 : Nat) : Int) = 1 + (k : Int) by omega]
      rfl
    clear hp1 b1 H1
    rintro _ H1 ⟨u, u1, u3, hp1, b1, rfl⟩
    -- downs
    refine seqV (Good := fun σ2 H2 => ∃ v : Nat, 1 ≤ v ∧ u + v ≤ 4 ∧ PotAt H2 p ∧ ButD p H H2 ∧ σ2 = σH p none (some (.int (u : Nat))) (some (.int (v : Nat))) none) ?_ ?_
    · intro nx hnx
      refine ⟨_, rfl, _, rfl, _, rfl, _, _, rfl, rfl, ?_⟩
      refine ⟨p, 4 - (u : Int), rfl, hp1, by omega, by omega, fun d H2 d0 d3 hp2 b2 => ⟨_, _, rfl, rfl, ?_⟩⟩
      obtain ⟨k, rfl⟩ : ∃ k : Nat, d = k := ⟨d.toNat, by omega⟩
      refine hnx _ _ ⟨k + 1, by omega, by omega, hp2, ButD.trans b1 b2, ?_⟩
      show _ = [some (V.ref p), some (V.int 4), some (V.bl false), none, some (V.int (u : Nat)), some (V.int ((k + 1 : Nat) : Int)), none, none]
      rw [show ((k + 1 : Nat) : Int) = 1 + (k : Int) by omega]
      rfl
    clear hp1 b1 H1
    rintro _ H1 ⟨v, v1, uv, hp1, b1, rfl⟩
    -- the ring up
    refine seqV (Good := fun σ2 H2 => ∃ (l : Addr) (ys : List V), H1 l = none ∧ Same H1 H2 ∧ H2 l = some (.lst ys) ∧ DdAll H2 ys ((rgI 0 u).map (dU u)) ∧ σ2 = σH p none (some (.int (u : Nat))) (some (.int (v : Nat))) (some (.ref l))) ?_ ?_
    · intro nx hnx
      refine ⟨_, rfl, u, rfl, by omega, by omega, fun D hD => ?_⟩
      refine lc_mapR (lo := 0) (n := ((u : Int)).toNat) (G := DdAt) (f := fun e => some (dU u e)) (stabD D) (by omega) ?_ ?_
      · rintro x e H2 A B he rfl b ⟨zs, hz⟩ hA hB
        refine ⟨rfl, yes_ite ?_⟩
        refine ⟨_, rfl, _, rfl, _, _, rfl, rfl, _, rfl, _, _, rfl, rfl, (by show (0 : Int) < u; omega), (by show 4 ≤ sizeLine; decide), fun t ht => ?_⟩
        exact hA _ _ _ rfl (same_upd ht) ⟨t, rfl, upd_same⟩
      · intro ys H2 h1 h2 h3
        rw [mapE, Int.toNat_natCast] at h2
        exact hnx _ _ ⟨D, ys, hD, h3.new hD, h1, h2, rfl⟩
    rintro _ H2 ⟨l, ys, nl, s2, hl, dd, rfl⟩
    have hp2 := hp1.same s2
    have nlp : l ≠ p := pot_refs hp2 hl dd.refs
    have yl := Paired.length dd
    rw [List.length_map, rgI_len] at yl
    -- the way across
    refine seqV (Good := fun σ2 H3 => ∃ (zs : List V) (d : Dd) (x : Int), 0 ≤ x ∧ x < u ∧ -1 ≤ d.c ∧ d.c ≤ 1 ∧ d = ⟨x, d.c, (u : Int), "any"⟩ ∧ PotAt H3 p ∧ ButD p H H3 ∧ H3 l = some (.lst zs) ∧ DdAll H3 zs ((rgI 0 u).map (dU u) ++ [d]) ∧ σ2 = σH p none (some (.int (u : Nat))) (some (.int (v : Nat))) (some (.ref l))) ?_ ?_
    · intro nx hnx
      refine ⟨_, rfl, .inl ⟨rfl, _, .inl (.inl hl)⟩, _, rfl, _, rfl, p, u, rfl, hp2, by omega, by omega, fun x H3 x0 xu hp3 b3 => ?_⟩
      refine ⟨_, rfl, p, 3, rfl, hp3, by decide, by decide, fun c H4 c0 c3 hp4 b4 => ⟨_, _, rfl, rfl, _, rfl, (by show 4 ≤ sizeLine; decide), fun t ht => ?_⟩⟩
      have st := same_upd (o := .tup [V.int x, V.int (c - 1), V.int (u : Nat), V.str "any"]) ht
      have b24 : ButD p H2 _ := ButD.trans b3 (ButD.trans b4 (Same.but st))
      have hl5 := b24 _ _ nlp hl
      have dd5 := DdAll.pot hp2 b24 dd
      have hp5 := hp4.same st
      have bl : ButD l (upd H4 t (.tup [V.int x, V.int (c - 1), V.int (u : Nat), V.str "any"])) (upd (upd H4 t (.tup [V.int x, V.int (c - 1), V.int (u : Nat), V.str "any"])) l (.lst (ys ++ [.ref t]))) := ButD.start
      have tup_l : ∀ {t : Addr} {us : List V}, upd H4 t (.tup us) t = some (.tup us) := fun {_ _} => upd_same
      refine ⟨l, _, _, rfl, rfl, hl5, by rw [sizeLine_eq]; omega, ?_⟩
      have ddl : DdAll (upd (upd H4 t (.tup [V.int x, V.int (c - 1), V.int (u : Nat), V.str "any"])) l (.lst (ys ++ [.ref t]))) (ys ++ [.ref t]) ((rgI 0 u).map (dU u) ++ [⟨x, c - 1, (u : Int), "any"⟩]) := by
        have st2 : ∀ {y d}, DdAt (upd H4 t (.tup [V.int x, V.int (c - 1), V.int (u : Nat), V.str "any"])) y d → DdAt (upd (upd H4 t (.tup [V.int x, V.int (c - 1), V.int (u : Nat), V.str "any"])) l (.lst (ys ++ [.ref t]))) y d := fun {y d} ⟨a, e, hq⟩ => ⟨a, e, bl _ _ (fun z => by rw [z, hl5] at hq; exact nomatch hq) hq⟩
        exact PySem.Paired.snoc (Paired.mapP dd5 fun _ _ z => st2 z) (st2 ⟨t, rfl, upd_same⟩)
      refine hnx _ _ ⟨_, ⟨x, c - 1, (u : Int), "any"⟩, x, x0, xu, by show -1 ≤ c - 1; omega, by show c - 1 ≤ 1; omega, rfl, ?_, ?_, upd_same, ddl, rfl⟩
      · obtain ⟨a, b, e, r⟩ := hp5
        exact ⟨a, b, bl _ _ (Ne.symm nlp) e, r⟩
      · intro a o ne e
        have e1 := b1 a o ne e
        exact bl _ _ (ne_of_none e1 nl) (b24 _ _ ne (s2 _ _ e1))
    clear hp2 dd hl s2
    rintro _ H3 ⟨zs, d, x, x0, xu, c1, c2, ed, hp3, b3, hl3, dd3, rfl⟩
    have zl := Paired.length dd3
    rw [List.length_append, List.length_map, rgI_len] at zl
    have zl : zs.length = u + 1 := zl
    -- the ring down
    refine seqV (Good := fun σ2 H4 => ∃ (ys : List V), PotAt H4 p ∧ ButD p H H4 ∧ H4 l = some (.lst ys) ∧ DdAll H4 ys ((rgI 0 u).map (dU u) ++ [d] ++ (rgI 0 v).map (dV u v)) ∧ σ2 = σH p none (some (.int (u : Nat))) (some (.int (v : Nat))) (some (.ref l))) ?_ ?_
    · intro nx hnx
      refine ⟨_, rfl, .inl ⟨rfl, _, .inl (.inl hl3)⟩, _, rfl, v, rfl, by omega, by omega, fun D hD => ?_⟩
      refine lc_mapR (lo := 0) (n := ((v : Int)).toNat) (G := DdAt) (f := fun e => some (dV u v e)) (stabD D) (by omega) ?_ ?_
      · rintro x e H4 A B he rfl b ⟨zs, hz⟩ hA hB
        refine ⟨rfl, yes_ite ?_⟩
        refine ⟨_, rfl, _, rfl, _, _, rfl, rfl, 1, rfl, _, rfl, _, rfl, _, _, rfl, rfl, _, rfl, _, _, rfl, rfl, (by show (0 : Int) < v; omega), _, _, rfl, rfl, (by show 4 ≤ sizeLine; decide), fun t ht => ?_⟩
        exact hA _ _ _ rfl (same_upd ht) ⟨t, rfl, upd_same⟩
      · intro us H4 h1 h2 h3
        rw [mapE, Int.toNat_natCast] at h2
        have s4 := h3.new hD
        have hl4 := s4 _ _ hl3
        have ul := Paired.length h2
        rw [List.length_map, rgI_len] at ul
        have bl : ButD l H4 (upd H4 l (.lst (zs ++ us))) := ButD.start
        refine ⟨l, D, zs, us, rfl, rfl, hl4, h1, by rw [sizeLine_eq]; omega, ?_⟩
        refine hnx _ _ ⟨_, ?_, ?_, upd_same, ?_, rfl⟩
        · obtain ⟨a, b, e, r⟩ := hp3
          exact ⟨a, b, bl _ _ (Ne.symm nlp) (s4 _ _ e), r⟩
        · intro a o ne e
          exact bl _ _ (ne_of_none (b1 a o ne e) nl) (s4 _ _ (b3 a o ne e))
        · have st2 : ∀ {y d}, DdAt H4 y d → DdAt (upd H4 l (.lst (zs ++ us))) y d := fun {y d} ⟨a, e, hq⟩ => ⟨a, e, bl _ _ (fun z => by rw [z, hl4] at hq; exact nomatch hq) hq⟩
          exact Paired.app (Paired.mapP (DdAll.same s4 dd3) fun _ _ z => st2 z) (Paired.mapP h2 fun _ _ z => st2 z)
    clear hp3 b3 hl3 dd3
    rintro _ H4 ⟨zs, hp4, b4, hl4, dd4, rfl⟩
    obtain ⟨ok, nd⟩ := ring_ok u1 v1 x0 xu c1 c2 ed
    have dl : ((rgI 0 u).map (dU u) ++ [d] ++ (rgI 0 v).map (dV u v)).length = u + 1 + v := by
      rw [List.length_append, List.length_append, List.length_map, List.length_map, rgI_len, rgI_len]
      rfl
    refine ⟨_, rfl, _, rfl, _, _, rfl, rfl, _, rfl, _, rfl, _, rfl, _, _, rfl, rfl, _, rfl, _, rfl, p, 3, rfl, hp4, by decide, by decide, fun k H5 k0 k3 hp5 b5 => ⟨_, rfl, ?_⟩⟩
    obtain ⟨k, rfl⟩ : ∃ j : Nat, k = j := ⟨k.toNat, by omega⟩
    refine ⟨p, l, zs, _, (u : Int) + (v : Int), k, rfl, hp5, b5 _ _ nlp hl4, nlp, DdAll.pot hp4 b5 dd4, ok, nd, by omega, by omega, by omega, by omega, fun a xs es H6 na ha hp6 b6 dd ok6 nd6 le => ⟨(by show 2 ≤ sizeLine; decide), fun t ht => ?_⟩⟩
    have st := same_upd (o := .tup [V.int ((u : Int) + (v : Int)), V.ref a]) ht
    have nap : a ≠ p := pot_refs hp6 ha dd.refs
    have euv : (u : Int) + (v : Int) = ((u + v : Nat) : Int) := by omega
    refine q t a xs es (u + v) _ ?_ (st _ _ ha) nap (dd.same st) ⟨by omega, by omega, ?_, nd6, by omega⟩ uv (hp6.same st) (ButD.trans b4 (ButD.trans b5 (ButD.trans b6 (Same.but st))))
    · rw [← euv]
      exact upd_same
    · rw [← euv]
      exact ok6
end
end L2.K75
end

section
set_option Elab.async false
set_option linter.all false
set_option maxRecDepth 100000
set_option maxHeartbeats 4000000
namespace L2.K75
open PySem PySem.Spec PyProof.Rows L2.Gd
/-! ### the law's summaries -/
def EV (H : Hp) : V → Option (Int × Int) → Prop
  | v, none => v = .non
  | v, some e => ∃ t, v = .ref t ∧ H t = some (.tup [.int e.1, .int e.2])
def PtV (H : Hp) (v : V) (q : Pt) : Prop := ∃ t e, v = .ref t ∧ H t = some (.tup [e, .int q.2.1, .int q.2.2.1, .int q.2.2.2]) ∧ EV H e q.1
def PO (H : Hp) : V → Option Pt → Prop
  | v, none => v = .non
  | v, some q => PtV H v q
theorem EV.same {H H' : Hp} {v : V} {o : Option (Int × Int)} (s : Same H H') (h : EV H v o) : EV H' v o := by
  cases o with
  | none => exact h
  | some e => exact let ⟨t, a, b⟩ := h; ⟨t, a, s _ _ b⟩
theorem PtV.same {H H' : Hp} {v : V} {q : Pt} (s : Same H H') (h : PtV H v q) : PtV H' v q := let ⟨t, e, a, b, c⟩ := h; ⟨t, e, a, s _ _ b, c.same s⟩
theorem PO.same {H H' : Hp} {v : V} {o : Option Pt} (s : Same H H') (h : PO H v o) : PO H' v o := by
  cases o with
  | none => exact h
  | some q => exact PtV.same s h
/-- a list of items -/
def LsAt (p : Addr) (H : Hp) (a : Addr) (xs : List V) (its : List It) : Prop := H a = some (.lst xs) ∧ DVs p H xs (It.DL its)
theorem LsAt.same {p a : Addr} {H H' : Hp} {xs : List V} {its : List It} (s : Same H H') (h : LsAt p H a xs its) : LsAt p H' a xs its := ⟨s _ _ h.1, h.2.same s⟩
structure Gd (ds : List Dd) (m : Int) (its : List It) (k : Nat) : Prop where
  ok : okM ds.length its
  fw : fwM its
  dp : dpM its ≤ k
  ln : its.length ≤ 10000
structure DsAt (H : Hp) (D : Addr) (ys : List V) (ds : List Dd) (m : Int) : Prop where
  hD : H D = some (.lst ys)
  dd : DdAll H ys ds
  ok : ∀ d ∈ ds, d.Ok m
theorem DsAt.same {H H' : Hp} {D : Addr} {ys : List V} {ds : List Dd} {m : Int} (s : Same H H') (d : DsAt H D ys ds m) : DsAt H' D ys ds m := ⟨s _ _ d.hD, d.dd.same s, d.ok⟩
def spPl (k : Nat) : Sp := fun vs H Q _ => ∃ (p D a : Addr) (ys xs : List V) (ds : List Dd) (m : Int) (its : List It), vs = [.ref D, .ref a] ∧ DsAt H D ys ds m ∧ LsAt p H a xs its ∧ Gd ds m its k ∧
  ∀ v H', Same H H' → PO H' v (plM ds its p0) → Q v H'
def spLap (k : Nat) : Sp := fun vs H Q _ => ∃ (p D u a : Addr) (ys xs : List V) (ds : List Dd) (m : Int) (b : List It) (t : Nat), vs = [.ref D, .ref u] ∧ DsAt H D ys ds m ∧ H u = some (.tup [.ref a, .int (t : Nat)]) ∧ LsAt p H a xs b ∧ Gd ds m b k ∧ t < 2 ^ 99 ∧ (unM b).length < 2 ^ 150 ∧
  ∀ v H', Same H H' → PO H' v (lapF (plM ds b p0) t) → Q v H'
def NPl : List Str := ["_law_deeds", "_law_items", "_law_ends", "_law_gain", "_law_need", "_law_most", "_law_item_here", "_law_part", "_law_place", "_law_change", "_law_goal", "_law_when"]
theorem scPlL : FnScope NPl ["_law_deeds", "_law_items"] (defScope (top 49)) := ⟨rfl, rfl, rfl, by decide +kernel, rfl, by decide +kernel, by decide +kernel⟩
def NLa : List Str := ["_law_deeds", "_law_item_here", "_law_part", "_law_times", "_law_more"]
theorem scLa : FnScope NLa ["_law_deeds", "_law_item_here"] (defScope (top 50)) := ⟨rfl, rfl, rfl, by decide +kernel, rfl, by decide +kernel, by decide +kernel⟩
theorem bnd2 {g : Int} {t : Nat} (h : g.natAbs < 2 ^ 150) (ht : t < 2 ^ 99) : CMulW g ((t : Int) - 1) := by
  have e : (2 : Nat) ^ 100 = 2 * 2 ^ 99 := by decide
  have p : 0 < (2 : Nat) ^ 99 := by decide
  refine wide_mul (a := 150) (b := 100) h ?_ (by decide) (by decide) (by decide)
  rw [e]
  generalize (2 : Nat) ^ 99 = z at ht p
  omega
section
variable {P : Program} {w : World} {K : PySem.W.Frag} {mg : Str → Option Value} {base : Heap} {C C2 : Addr}
theorem ok_lap {k : Nat} {f : Addr} {fd : FuncData} (F : Fun K "_law_lap" "_law_lap" (top 50) f fd) (n : Nm mg) (GP : Fn P w K mg base (2 * k + 2) "_law_plain" ["_law_deeds", "_law_items"] (spPl k)) :
    FnOk P w K mg base CX0 (2 * k + 3) f fd ["_law_deeds", "_law_item_here"] (spLap k) := by
  refine F.ok scLa (fun vs H Q E h => ?_) (fun cdv A outer s H vs Q E hr h => ?_)
  · obtain ⟨p, D, u, a, ys, xs, ds, m, b, t, rfl, _⟩ := h
    rfl
  · obtain ⟨p, D, u, a, ys, xs, ds, m, b, t, rfl, dA, hu, la, gd, t99, l150, q⟩ := h
    have N := scLa.nd
    refine ⟨_, pss_cons (ps_par (i := 2) (j := 3) rfl N rfl rfl (by decide) rfl rfl (pa_cons (pe_fn GP hr (pa_cons (pv 0) (pa_cons (pe_ix ix_tup (pv 1) pe_int (fun _ _ => rfl)) pa_nil))) (pa_cons (pe_ix ix_tup (pv 1) pe_int (fun _ _ => rfl)) pa_nil)) (by rfl))
      (pss_cons (ps_if (pt_cmpR op_eq (pv 3) pe_int (nomark _)) (pss_one (ps_ret (pe_tup (pa_cons pe_non (pa_cons pe_int (pa_cons pe_int (pa_cons pe_int pa_nil))))))) pss_nil)
      (pss_cons (ps_if (pw_or (pt_cmp (pc_isN (pv 2))) (pw_or1 (PW.pt (pw_and (pt_cmpR op_gt (pv 3) pe_int (nomark _)) (pw_and (pt_cmp (pc_notN (pe_ix ix_tup (pv 2) pe_int (fun _ _ => rfl)))) (pw_and1 (pt_cmpR op_ne (pe_ix ix_tup (pe_ix ix_tup (pv 2) pe_int (fun _ _ => rfl)) pe_int (fun _ _ => rfl)) (pe_ix ix_tup (pe_ix ix_tup (pv 2) pe_int (fun _ _ => rfl)) pe_int (fun _ _ => rfl)) (nomark _)))))))).pt (pss_one (ps_ret pe_non)) pss_nil)
      (pss_cons (ps_set (i := 4) N rfl (.inl rfl) (pe_op op_mulW (pe_ix ix_tup (pv 2) pe_int (fun _ _ => rfl)) (pe_op op_sub (pv 3) pe_int)))
      (pss_one (ps_ret (pe_tup (pa_cons (pe_ix ix_tup (pv 2) pe_int (fun _ _ => rfl)) (pa_cons (pe_op op_add (pe_ix ix_tup (pv 2) pe_int (fun _ _ => rfl)) (pv 4))
        (pa_cons (pe_op op_sub (pe_ix ix_tup (pv 2) pe_int (fun _ _ => rfl)) (pe_callB (call_min2 rfl) (by rfl) n.min (by decide +kernel) (pa_cons pe_int (pa_cons (pv 4) pa_nil))))
        (pa_cons (pe_op op_add (pe_ix ix_tup (pv 2) pe_int (fun _ _ => rfl)) (pe_callB (call_max2 rfl) (by rfl) n.max (by decide +kernel) (pa_cons pe_int (pa_cons (pv 4) pa_nil)))) pa_nil)))))))))), ?_⟩
    refine seqV (Good := fun σ2 H1 => ∃ v, Same H H1 ∧ PO H1 v (plM ds b p0) ∧ σ2 = [some (.ref D), some (.ref u), some v, some (.int (t : Nat)), none]) ?_ ?_
    · intro nx hnx
      refine ⟨_, rfl, _, rfl, u, _, _, _, rfl, rfl, .inl (.inl hu), rfl, p, D, a, ys, xs, ds, m, b, rfl, dA, la, gd, fun v H1 s1 hv => ?_⟩
      exact ⟨_, rfl, u, _, _, _, rfl, rfl, .inl (.inl (s1 _ _ hu)), rfl, _, _, rfl, hnx _ _ ⟨v, s1, hv, rfl⟩⟩
    rintro _ H1 ⟨v, s1, hv, rfl⟩
    have e0 : decide (V.int ((t : Nat) : Int) = V.int 0) = decide (t = 0) := by
      rw [decide_eq_decide]
      exact ⟨fun z => by have := V.int.inj z; omega, fun z => by rw [z]; rfl⟩
    refine seqV (Good := fun σ2 H2 => H1 = H2 ∧ t ≠ 0 ∧ σ2 = [some (.ref D), some (.ref u), some v, some (.int (t : Nat)), none]) ?_ ?_
    · intro nx hnx
      refine ⟨_, rfl, rfl, _, congrArg V.bl e0, ?_⟩
      by_cases t0 : t = 0
      · rw [decide_eq_true t0]
        refine iteT ⟨(by show 4 ≤ sizeLine; decide), fun o ho => q _ _ (s1.trans (same_upd ho)) ?_⟩
        have : lapF (plM ds b p0) t = some p0 := if_pos t0
        rw [this]
        exact ⟨o, .non, rfl, upd_same, rfl⟩
      · rw [decide_eq_false t0]
        exact iteF (hnx _ _ ⟨rfl, t0, rfl⟩)
    rintro _ _ ⟨rfl, t0, rfl⟩
    cases hp : plM ds b p0 with
    | none =>
      rw [hp] at hv q
      obtain rfl : v = .non := hv
      have : lapF none t = none := if_neg t0
      rw [this] at q
      exact ⟨_, rfl, true, rfl, iteT (iteT (q .non H1 s1 rfl))⟩
    | some q1 =>
      rw [hp] at hv q
      obtain ⟨o, e, rfl, ho, he⟩ := hv
      have gq : q1.2.1 = gnR (row ds b) := by
        have := (plM_ok dA.ok b p0 q1 [] gd.ok SmP.nil hp).g
        exact this
      have l1 := row_len ds b
      have l2 := gn_len (row_one dA.ok b)
      have bd : CMulW q1.2.1 ((t : Int) - 1) := bnd2 (by rw [gq]; exact Nat.lt_of_le_of_lt l2 (by rw [l1]; exact l150)) t99
      have el : lapF (some q1) t = if 1 < t ∧ apart q1 = true then none else some (q1.1, q1.2.1 + q1.2.1 * ((t : Int) - 1), q1.2.2.1 - min 0 (q1.2.1 * ((t : Int) - 1)), q1.2.2.2 + max 0 (q1.2.1 * ((t : Int) - 1))) := if_neg t0
      rw [el] at q
      refine seqV (Good := fun σ2 H2 => H1 = H2 ∧ ¬ (1 < t ∧ apart q1 = true) ∧ σ2 = [some (.ref D), some (.ref u), some (.ref o), some (.int (t : Nat)), none]) ?_ ?_
      · intro nx hnx
        refine ⟨_, rfl, false, rfl, iteF ⟨_, rfl, _, _, rfl, rfl, decide ((t : Int) > 1), rfl, ?_⟩⟩
        by_cases t1 : ¬ 1 < t
        · rw [decide_eq_false (by omega)]
          exact iteF (hnx _ _ ⟨rfl, fun z => t1 z.1, rfl⟩)
        replace t1 := Decidable.not_not.mp t1
        rw [decide_eq_true (by omega)]
        refine iteT ⟨_, rfl, o, _, _, _, rfl, rfl, .inl (.inl ho), rfl, !decide (e = .non), rfl, ?_⟩
        cases h1 : q1.1 with
        | none =>
          rw [h1] at he
          obtain rfl : e = .non := he
          rw [decide_eq_true rfl]
          refine iteF (hnx _ _ ⟨rfl, fun z => ?_, rfl⟩)
          have := z.2
          unfold apart at this
          rw [h1] at this
          exact nomatch this
        | some ee =>
          rw [h1] at he
          obtain ⟨o2, rfl, ho2⟩ := he
          have ap : apart q1 = !decide (ee.1 = ee.2) := by
            unfold apart
            rw [h1]
          rw [decide_eq_false (by simp)]
          refine iteT ⟨_, rfl, o, _, _, _, rfl, rfl, .inl (.inl ho), rfl, o2, _, _, _, rfl, rfl, .inl (.inl ho2), rfl, _, rfl, o, _, _, _, rfl, rfl, .inl (.inl ho), rfl, o2, _, _, _, rfl, rfl, .inl (.inl ho2), rfl, rfl, !decide (ee.1 = ee.2), congrArg (fun b => V.bl (!b)) (by simp), ?_⟩
          by_cases c : ee.1 = ee.2
          · rw [decide_eq_true c]
            refine iteF (hnx _ _ ⟨rfl, fun z => ?_, rfl⟩)
            have := z.2
            rw [ap, decide_eq_true c] at this
            exact nomatch this
          · rw [decide_eq_false c]
            refine iteT (q .non H1 s1 ?_)
            rw [if_pos ⟨t1, by rw [ap, decide_eq_false c]; rfl⟩]
            rfl
      rintro _ _ ⟨rfl, nap, rfl⟩
      rw [if_neg nap] at q
      refine ⟨_, rfl, o, _, _, _, rfl, rfl, .inl (.inl ho), rfl, _, rfl, _, _, rfl, rfl, _, _, rfl, rfl, bd, ?_⟩
      refine ⟨_, rfl, o, _, _, _, rfl, rfl, .inl (.inl ho), rfl, _, rfl, o, _, _, _, rfl, rfl, .inl (.inl ho), rfl, _, rfl, _, _, rfl, rfl, _, rfl, o, _, _, _, rfl, rfl, .inl (.inl ho), rfl, _, rfl, _, _, rfl, _, _, rfl, rfl, _, rfl, o, _, _, _, rfl, rfl, .inl (.inl ho), rfl, _, rfl, _, _, rfl, _, _, rfl, rfl, (by show 4 ≤ sizeLine; decide), fun o3 ho3 => ?_⟩
      have s3 := same_upd (o := .tup [e, V.int (q1.2.1 + q1.2.1 * ((t : Int) - 1)), V.int (q1.2.2.1 - (if q1.2.1 * ((t : Int) - 1) < 0 then q1.2.1 * ((t : Int) - 1) else 0)), V.int (q1.2.2.2 + (if q1.2.1 * ((t : Int) - 1) > 0 then q1.2.1 * ((t : Int) - 1) else 0))]) ho3
      refine q _ _ (s1.trans s3) ⟨o3, e, rfl, ?_, he.same s3⟩
      rw [upd_same]
      have e1 : min 0 (q1.2.1 * ((t : Int) - 1)) = if q1.2.1 * ((t : Int) - 1) < 0 then q1.2.1 * ((t : Int) - 1) else 0 := by split <;> omega
      have e2 : max 0 (q1.2.1 * ((t : Int) - 1)) = if q1.2.1 * ((t : Int) - 1) > 0 then q1.2.1 * ((t : Int) - 1) else 0 := by split <;> omega
      show some (HO.tup [e, V.int (q1.2.1 + q1.2.1 * ((t : Int) - 1)), V.int (q1.2.2.1 - (if q1.2.1 * ((t : Int) - 1) < 0 then q1.2.1 * ((t : Int) - 1) else 0)), V.int (q1.2.2.2 + (if q1.2.1 * ((t : Int) - 1) > 0 then q1.2.1 * ((t : Int) - 1) else 0))]) = some (HO.tup [e, V.int (q1.2.1 + q1.2.1 * ((t : Int) - 1)), V.int (q1.2.2.1 - min 0 (q1.2.1 * ((t : Int) - 1))), V.int (q1.2.2.2 + max 0 (q1.2.1 * ((t : Int) - 1)))])
      rw [e1, e2]
end
end L2.K75
end

section
set_option Elab.async false
set_option linter.all false
set_option maxRecDepth 100000
set_option maxHeartbeats 4000000
namespace L2.K75
open PySem PySem.Spec PyProof.Rows L2.Gd
section
variable {P : Program} {w : World} {K : PySem.W.Frag} {mg : Str → Option Value} {base : Heap} {C C2 : Addr}
abbrev σL (D a : Addr) (e : V) (g nd ms : Int) (x6 x7 x8 x9 x10 x11 : Option V) : L2.St := [some (.ref D), some (.ref a), some e, some (.int g), some (.int nd), some (.int ms), x6, x7, x8, x9, x10, x11]
theorem ok_pl {k : Nat} {f : Addr} {fd : FuncData} (F : Fun K "_law_plain" "_law_plain" (top 49) f fd) (n : Nm mg) (GL : Fn P w K mg base (2 * k + 1) "_law_lap" ["_law_deeds", "_law_item_here"] (fun vs H Q E => ∃ j, k = j + 1 ∧ spLap j vs H Q E)) :
    FnOk P w K mg base CX0 (2 * k + 2) f fd ["_law_deeds", "_law_items"] (spPl k) := by
  refine F.ok scPlL (fun vs H Q E h => ?_) (fun cdv A outer s H vs Q E hr h => ?_)
  · obtain ⟨p, D, a, ys, xs, ds, m, its, rfl, _⟩ := h
    rfl
  · obtain ⟨p, D, a, ys, xs, ds, m, its, rfl, dA, ⟨hx, dv⟩, gd, q⟩ := h
    have N := scPlL.nd
    have xl := dv.itl
    have yl := Paired.length dA.dd
    refine ⟨_, pss_cons (ps_asg (pe_tup (pa_cons pe_non (pa_cons pe_int (pa_cons pe_int (pa_cons pe_int pa_nil))))) (pg_tup rfl (pgs_cons (pg_name (i := 2) N rfl (.inl rfl)) (pgs_cons (pg_name (i := 3) N rfl (.inl rfl)) (pgs_cons (pg_name (i := 4) N rfl (.inl rfl)) (pgs_cons (pg_name (i := 5) N rfl (.inl rfl)) pgs_nil))))))
      (pss_cons (ps_for PassesOwn.never rfl (pi_list (pv 1)) (pg_name (i := 6) N rfl (.inl rfl))
        (pss_cons (ps_if (pt_val (pe_isTuple n (pv 6)))
          (pss_one (ps_set (i := 7) N rfl (.inl rfl) (pe_fn GL hr (pa_cons (pv 0) (pa_cons (pv 6) pa_nil)))))
          (pss_cons (ps_asg (pe_ix ix_list (pv 0) (pv 6) (fun _ _ => rfl)) (pg_tup rfl (pgs_cons (pg_name (i := 8) N rfl (.inl rfl)) (pgs_cons (pg_name (i := 9) N rfl (.inl rfl)) (pgs_cons (pg_name (i := 10) N rfl (.inl rfl)) (pgs_cons (pg_name (i := 11) N rfl (.inl rfl)) pgs_nil))))))
          (pss_one (ps_set (i := 7) N rfl (.inl rfl) (pe_ifExp (pt_cmpR op_eq (pv 11) pe_str (nomark _)) (pe_tup (pa_cons (pe_tup (pa_cons (pv 8) (pa_cons (pv 10) pa_nil))) (pa_cons (pv 9) (pa_cons (pe_ifExp (pt_cmpR op_lt (pv 9) pe_int (nomark _)) pe_int pe_int) (pa_cons (pe_callB (call_max2 rfl) (by rfl) n.max (by decide +kernel) (pa_cons pe_int (pa_cons (pv 9) pa_nil))) pa_nil))))) pe_non)))))
        (pss_cons (ps_if (pw_or (pt_cmp (pc_isN (pv 7))) (pw_or1 (PW.pt (pw_and (pt_cmp (pc_notN (pv 2))) (pw_and (pt_cmp (pc_notN (pe_ix ix_tup (pv 7) pe_int (fun _ _ => rfl)))) (pw_and1 (pt_cmpR op_ne (pe_ix ix_tup (pv 2) pe_int (fun _ _ => rfl)) (pe_ix ix_tup (pe_ix ix_tup (pv 7) pe_int (fun _ _ => rfl)) pe_int (fun _ _ => rfl)) (nomark _)))))))).pt (pss_one (ps_ret pe_non)) pss_nil)
        (pss_cons (ps_if (pt_cmp (pc_notN (pe_ix ix_tup (pv 7) pe_int (fun _ _ => rfl))))
          (pss_one (ps_set (i := 2) N rfl (.inl rfl) (pe_ifExp (pt_cmp (pc_isN (pv 2))) (pe_ix ix_tup (pv 7) pe_int (fun _ _ => rfl)) (pe_tup (pa_cons (pe_ix ix_tup (pv 2) pe_int (fun _ _ => rfl)) (pa_cons (pe_ix ix_tup (pe_ix ix_tup (pv 7) pe_int (fun _ _ => rfl)) pe_int (fun _ _ => rfl)) pa_nil)))))) pss_nil)
        (pss_one (ps_par3 (i := 3) (j := 4) (l := 5) rfl N rfl rfl rfl (by decide) (by decide) (by decide) rfl rfl rfl (pa_cons (pe_op op_add (pv 3) (pe_ix ix_tup (pv 7) pe_int (fun _ _ => rfl)))
          (pa_cons (pe_callB (call_max2 rfl) (by rfl) n.max (by decide +kernel) (pa_cons (pv 4) (pa_cons (pe_op op_sub (pe_ix ix_tup (pv 7) pe_int (fun _ _ => rfl)) (pv 3)) pa_nil)))
          (pa_cons (pe_callB (call_max2 rfl) (by rfl) n.max (by decide +kernel) (pa_cons (pv 5) (pa_cons (pe_op op_add (pv 3) (pe_ix ix_tup (pv 7) pe_int (fun _ _ => rfl))) pa_nil))) pa_nil))) (by rfl)))))))
      (pss_one (ps_ret (pe_tup (pa_cons (pv 2) (pa_cons (pv 3) (pa_cons (pv 4) (pa_cons (pv 5) pa_nil)))))))), ?_⟩
    refine seqV (Good := fun σ2 H1 => Same H H1 ∧ σ2 = σL D a .non 0 0 0 none none none none none none) ?_ ?_
    · intro nx hnx
      refine ⟨(by show 4 ≤ sizeLine; decide), fun t ht => ⟨t, _, rfl, .inl (.inl upd_same), rfl, _, _, rfl, _, _, rfl, _, _, rfl, _, _, rfl, rfl, ?_⟩⟩
      exact hnx _ _ ⟨same_upd ht, rfl⟩
    rintro _ H1 ⟨s1, rfl⟩
    refine ⟨_, rfl, a, rfl, ⟨_, .inl (.inl (s1 _ _ hx))⟩, ?_⟩
    refine loop_of (n := xs.length) (fun i σ H2 => ∃ (acc : Pt) (e : V) (x6 x7 x8 x9 x10 x11 : Option V), σ = σL D a e acc.2.1 acc.2.2.1 acc.2.2.2 x6 x7 x8 x9 x10 x11 ∧ Same H H2 ∧ EV H2 e acc.1 ∧ plM ds (its.drop i) acc = plM ds its p0) ⟨p0, .non, none, none, none, none, none, none, rfl, s1, rfl, rfl⟩ ?_ ?_
    · rintro σ H2 ⟨acc, e, x6, x7, x8, x9, x10, x11, rfl, s2, he, ep⟩
      refine ⟨⟨xs, .inl (.inl (s2 _ _ hx)), Nat.le_refl _⟩, ?_⟩
      rw [xl, List.drop_length] at ep
      refine ⟨_, rfl, _, rfl, _, rfl, _, rfl, (by show 4 ≤ sizeLine; decide), fun o ho => q _ _ (s2.trans (same_upd ho)) ?_⟩
      rw [← ep]
      exact ⟨o, e, rfl, upd_same, he.same (same_upd ho)⟩
    · rintro i σ H2 hi ⟨acc, e, x6, x7, x8, x9, x10, x11, rfl, s2, he, ep⟩
      refine ⟨⟨xs, _, .inl (.inl (s2 _ _ hx)), List.getElem?_eq_getElem hi⟩, ?_⟩
      rintro v H3 ⟨rfl, hy⟩
      have hxi := hy xs (.inl (.inl (s2 _ _ hx)))
      obtain ⟨x, hit, hdx⟩ := dv.it hxi
      have hdx := hdx.same s2
      have hm := List.mem_of_getElem? hit
      have hxo := okM_mem gd.ok hm
      have hxf := fwM_mem gd.fw hm
      have hxd : dpI x ≤ k := Nat.le_trans (dpM_mem hm) gd.dp
      have dr : its.drop i = x :: its.drop (i + 1) := by
        rw [List.drop_eq_getElem_cons (by omega)]
        congr 1
        rw [List.getElem?_eq_getElem (by omega)] at hit
        exact Option.some.inj hit
      rw [dr] at ep
      have ep : (match (plI ds x).bind (glue acc) with | none => none | some a' => plM ds (its.drop (i + 1)) a') = plM ds its p0 := ep
      have d3 := dA.same s2
      refine gn ?_
      -- part
      refine seqV (Good := fun σ2 H4 => ∃ (pv : V) (x8 x9 x10 x11 : Option V), Same H3 H4 ∧ PO H4 pv (plI ds x) ∧ σ2 = σL D a e acc.2.1 acc.2.2.1 acc.2.2.2 (some v) (some pv) x8 x9 x10 x11) ?_ ?_
      · intro nx hnx
        refine ⟨_, rfl, isi_mk hdx.ty (kit_tuple _) ⟨_, rfl, ?_⟩⟩
        cases x with
        | lap b t =>
          obtain ⟨u, a2, xs2, rfl, hu, gb, ne2, ha2⟩ := it_lap hdx
          have eT : isT (It.D (.lap b t)) = true := by simp [It.D, isT]
          rw [eT]
          obtain ⟨t99, l150, lb, fb⟩ : t < 2 ^ 99 ∧ (unM b).length < 2 ^ 150 ∧ b.length ≤ 10000 ∧ fwM b := hxf
          have hd2 : dpM b + 1 ≤ k := hxd
          obtain ⟨j, rfl⟩ : ∃ j, k = j + 1 := ⟨k - 1, by omega⟩
          refine iteT ⟨_, rfl, _, rfl, j, rfl, p, D, u, a2, ys, xs2, ds, m, b, t, rfl, d3, hu, ⟨ha2, gb.dv⟩, ⟨hxo, fb, by omega, lb⟩, t99, l150, fun pv H4 s4 hp => ?_⟩
          exact hnx _ _ ⟨pv, _, _, _, _, s4, hp, rfl⟩
        | deed j =>
          obtain rfl := it_deed hdx
          have eT : isT (It.D (.deed j)) = false := by simp [It.D, isT]
          rw [eT]
          have hj : j < ds.length := hxo
          have hyk : ys[j]? = some ys[j] := List.getElem?_eq_getElem (by omega)
          obtain ⟨d1, hd1, td, ed, htd⟩ := Paired.at d3.dd hyk
          rw [List.getElem?_eq_getElem hj] at hd1
          obtain rfl := Option.some.inj hd1
          have g : ds.getD j d00 = ds[j] := by rw [List.getD_eq_getElem?_getD, List.getElem?_eq_getElem hj]; rfl
          have eP : plI ds (.deed j) = deedP ds[j] := by
            show deedP (ds.getD j d00) = _
            rw [g]
          refine iteF ⟨_, rfl, _, rfl, D, ys, _, _, rfl, rfl, .inl (.inl d3.hD), atI_nat hyk, td, _, ed, .inl (.inl htd), rfl, _, _, rfl, _, _, rfl, _, _, rfl, _, _, rfl, rfl, ?_⟩
          refine ⟨_, rfl, rfl, decide (ds[j].w = "any"), congrArg V.bl (by simp), ?_⟩
          by_cases c : ds[j].w = "any"
          · rw [decide_eq_true c]
            refine iteT ⟨_, rfl, _, rfl, (by show 2 ≤ sizeLine; decide), fun o ho => ⟨_, rfl, _, rfl, _, _, rfl, rfl, decide (ds[j].c < 0), rfl, ?_⟩⟩
            have so := same_upd (o := .tup [V.int ds[j].p, V.int ds[j].g]) ho
            have fin : ∀ (z : Int), z = (if ds[j].c < 0 then 1 else 0) → ∀ o2, upd H3 o (.tup [V.int ds[j].p, V.int ds[j].g]) o2 = none → nx (σL D a e acc.2.1 acc.2.2.1 acc.2.2.2 (some (.int (j : Nat))) (some (.ref o2)) (some (.int ds[j].p)) (some (.int ds[j].c)) (some (.int ds[j].g)) (some (.str ds[j].w))) (upd (upd H3 o (.tup [V.int ds[j].p, V.int ds[j].g])) o2 (.tup [V.ref o, V.int ds[j].c, V.int z, V.int (if ds[j].c > 0 then ds[j].c else 0)])) := by
              intro z hz o2 ho2
              have s2' := same_upd (o := .tup [V.ref o, V.int ds[j].c, V.int z, V.int (if ds[j].c > 0 then ds[j].c else 0)]) ho2
              refine hnx _ _ ⟨.ref o2, _, _, _, _, so.trans s2', ?_, rfl⟩
              rw [eP]
              have : deedP ds[j] = some (some (ds[j].p, ds[j].g), ds[j].c, if ds[j].c < 0 then 1 else 0, max 0 ds[j].c) := if_pos c
              rw [this]
              refine ⟨o2, .ref o, rfl, ?_, ⟨o, rfl, s2' _ _ upd_same⟩⟩
              rw [upd_same, hz]
              have e2 : max 0 ds[j].c = if ds[j].c > 0 then ds[j].c else 0 := by split <;> omega
              show some (HO.tup [V.ref o, V.int ds[j].c, V.int (if ds[j].c < 0 then 1 else 0), V.int (if ds[j].c > 0 then ds[j].c else 0)]) = some (HO.tup [V.ref o, V.int ds[j].c, V.int (if ds[j].c < 0 then 1 else 0), V.int (max 0 ds[j].c)])
              rw [e2]
            by_cases c2 : ds[j].c < 0
            · rw [decide_eq_true c2]
              exact iteT ⟨_, rfl, _, _, rfl, (by show 4 ≤ sizeLine; decide), fun o2 ho2 => fin 1 (by rw [if_pos c2]) o2 ho2⟩
            · rw [decide_eq_false c2]
              exact iteF ⟨_, rfl, _, _, rfl, (by show 4 ≤ sizeLine; decide), fun o2 ho2 => fin 0 (by rw [if_neg c2]) o2 ho2⟩
          · rw [decide_eq_false c]
            refine iteF (hnx _ _ ⟨.non, _, _, _, _, fun _ _ z => z, ?_, rfl⟩)
            rw [eP]
            have : deedP ds[j] = none := if_neg c
            rw [this]
            rfl
      rintro _ H4 ⟨pv, y8, y9, y10, y11, s4, hp, rfl⟩
      have he4 := he.same s4
      have s24 := s2.trans s4
      cases hq : plI ds x with
      | none =>
        rw [hq] at hp ep
        obtain rfl : pv = .non := hp
        refine ⟨_, rfl, true, rfl, iteT (iteT (q .non H4 s24 ?_))⟩
        rw [← ep]
        rfl
      | some q1 =>
        rw [hq, Option.bind_some] at ep
        rw [hq] at hp
        obtain ⟨o, e1, rfl, ho, he1⟩ := hp
        -- do they hang together
        refine seqV (Good := fun σ2 H5 => H4 = H5 ∧ (∀ e f, acc.1 = some e → q1.1 = some f → e.2 = f.1) ∧ σ2 = σL D a e acc.2.1 acc.2.2.1 acc.2.2.2 (some v) (some (.ref o)) y8 y9 y10 y11) ?_ ?_
        · intro nx hnx
          refine ⟨_, rfl, false, rfl, iteF ⟨_, rfl, !decide (e = .non), rfl, ?_⟩⟩
          cases h1 : acc.1 with
          | none =>
            rw [h1] at he4
            obtain rfl : e = .non := he4
            rw [decide_eq_true rfl]
            exact iteF (hnx _ _ ⟨rfl, (fun e f z => by rw [h1] at z; exact nomatch z), rfl⟩)
          | some ea =>
            rw [h1] at he4
            obtain ⟨oa, rfl, hoa⟩ := he4
            rw [decide_eq_false (by simp)]
            refine iteT ⟨_, rfl, o, _, _, _, rfl, rfl, .inl (.inl ho), rfl, !decide (e1 = .non), rfl, ?_⟩
            cases h2 : q1.1 with
            | none =>
              rw [h2] at he1
              obtain rfl : e1 = .non := he1
              rw [decide_eq_true rfl]
              exact iteF (hnx _ _ ⟨rfl, (fun e f z1 z => by rw [h2] at z; exact nomatch z), rfl⟩)
            | some eb =>
              rw [h2] at he1
              obtain ⟨ob, rfl, hob⟩ := he1
              rw [decide_eq_false (by simp)]
              refine iteT ⟨_, rfl, oa, _, _, _, rfl, rfl, .inl (.inl hoa), rfl, _, rfl, o, _, _, _, rfl, rfl, .inl (.inl ho), rfl, ob, _, _, _, rfl, rfl, .inl (.inl hob), rfl, rfl, !decide (ea.2 = eb.1), congrArg (fun b => V.bl (!b)) (by simp), ?_⟩
              by_cases c : ea.2 = eb.1
              · rw [decide_eq_true c]
                exact iteF (hnx _ _ ⟨rfl, fun e f z1 z2 => by rw [h1] at z1; rw [h2] at z2; rw [← Option.some.inj z1, ← Option.some.inj z2]; exact c, rfl⟩)
              · rw [decide_eq_false c]
                refine iteT (q .non H4 s24 ?_)
                have : glue acc q1 = none := by
                  unfold glue
                  rw [h1, h2]
                  exact if_pos c
                rw [this] at ep
                rw [← ep]
                rfl
        rintro _ _ ⟨rfl, hang, rfl⟩
        -- ends
        refine seqV (Good := fun σ2 H5 => ∃ e2 : V, Same H4 H5 ∧ glue acc q1 = some ((match acc.1, q1.1 with | some e, some f => some (e.1, f.2) | none, f => f | e, none => e), acc.2.1 + q1.2.1, max acc.2.2.1 (q1.2.2.1 - acc.2.1), max acc.2.2.2 (acc.2.1 + q1.2.2.2)) ∧ EV H5 e2 (match acc.1, q1.1 with | some e, some f => some (e.1, f.2) | none, f => f | e, none => e) ∧ σ2 = σL D a e2 acc.2.1 acc.2.2.1 acc.2.2.2 (some v) (some (.ref o)) y8 y9 y10 y11) ?_ ?_
        · intro nx hnx
          refine ⟨_, rfl, o, _, _, _, rfl, rfl, .inl (.inl ho), rfl, !decide (e1 = .non), rfl, ?_⟩
          cases h2 : q1.1 with
          | none =>
            rw [h2] at he1
            obtain rfl : e1 = .non := he1
            rw [decide_eq_true rfl]
            refine iteF (hnx _ _ ⟨e, fun _ _ z => z, ?_, ?_, rfl⟩)
            · unfold glue
              rw [h2]
              cases acc.1 <;> rfl
            · rw [h2]
              cases h1 : acc.1 with
              | none =>
                rw [h1] at he4
                exact he4
              | some ea =>
                rw [h1] at he4
                exact he4
          | some eb =>
            rw [h2] at he1
            obtain ⟨ob, rfl, hob⟩ := he1
            rw [decide_eq_false (by simp)]
            refine iteT ⟨_, rfl, decide (e = .non), rfl, ?_⟩
            cases h1 : acc.1 with
            | none =>
              rw [h1] at he4
              obtain rfl : e = .non := he4
              rw [decide_eq_true rfl]
              refine iteT ⟨_, rfl, o, _, _, _, rfl, rfl, .inl (.inl ho), rfl, hnx _ _ ⟨.ref ob, fun _ _ z => z, ?_, ?_, rfl⟩⟩
              · unfold glue
                rw [h1]
              · rw [h1, h2]
                exact ⟨ob, rfl, hob⟩
            | some ea =>
              rw [h1] at he4
              obtain ⟨oa, rfl, hoa⟩ := he4
              rw [decide_eq_false (by simp)]
              refine iteF ⟨_, rfl, oa, _, _, _, rfl, rfl, .inl (.inl hoa), rfl, _, rfl, o, _, _, _, rfl, rfl, .inl (.inl ho), rfl, ob, _, _, _, rfl, rfl, .inl (.inl hob), rfl, (by show 2 ≤ sizeLine; decide), fun o2 ho2 => hnx _ _ ⟨.ref o2, same_upd ho2, ?_, ?_, rfl⟩⟩
              · unfold glue
                rw [h1, h2]
                exact if_neg fun z => z (hang ea eb h1 h2)
              · rw [h1, h2]
                exact ⟨o2, rfl, upd_same⟩
        rintro _ H5 ⟨e2, s5, hg, he2, rfl⟩
        rw [hg] at ep
        have ho5 := s5 _ _ ho
        refine ⟨_, rfl, _, rfl, o, _, _, _, rfl, rfl, .inl (.inl ho5), rfl, _, _, rfl, rfl, _, rfl, _, rfl, o, _, _, _, rfl, rfl, .inl (.inl ho5), rfl, _, rfl, _, _, rfl, rfl, _, _, rfl, _, rfl, _, rfl, _, rfl, o, _, _, _, rfl, rfl, .inl (.inl ho5), rfl, _, _, rfl, rfl, _, _, rfl, _, _, _, rfl, ?_⟩
        refine ⟨_, e2, some v, some (.ref o), y8, y9, y10, y11, ?_, s24.trans s5, he2, ep⟩
        have m1 : max acc.2.2.1 (q1.2.2.1 - acc.2.1) = if q1.2.2.1 - acc.2.1 > acc.2.2.1 then q1.2.2.1 - acc.2.1 else acc.2.2.1 := by split <;> omega
        have m2 : max acc.2.2.2 (acc.2.1 + q1.2.2.2) = if acc.2.1 + q1.2.2.2 > acc.2.2.2 then acc.2.1 + q1.2.2.2 else acc.2.2.2 := by split <;> omega
        show _ = σL D a e2 (acc.2.1 + q1.2.1) (max acc.2.2.1 (q1.2.2.1 - acc.2.1)) (max acc.2.2.2 (acc.2.1 + q1.2.2.2)) (some v) (some (.ref o)) y8 y9 y10 y11
        rw [m1, m2]
        rfl
end
end L2.K75
end

section
set_option Elab.async false
set_option linter.all false
set_option maxRecDepth 100000
set_option maxHeartbeats 4000000
namespace L2.K75
open PySem PySem.Spec PyProof.Rows L2.Gd
theorem pr_shaped (a b : Int) : SeqAt.shaped (.tuple [.int a, .int b]) = true := by
  show (PyData.canLay0 (.tuple [.int a, .int b]) && decide (PyData.depth (.tuple [.int a, .int b]) ≤ 64)) = true
  rw [Bool.and_eq_true]
  exact ⟨by simp [PyData.canLay0, PyData.canLayAll0], by simp [PyData.depth, PyData.depthAll]⟩
theorem pr_eqv (x y : Int × Int) : PyData.eqv (.tuple [.int x.1, .int x.2]) (.tuple [.int y.1, .int y.2]) = decide (x = y) := by
  simp only [PyData.eqv, PyData.eqvAll]
  rw [Bool.eq_iff_iff, decide_eq_true_eq, Prod.ext_iff]
  simp
def HrV (H : Hp) (v : V) (x : Int × Int) : Prop := ∃ t, v = .ref t ∧ H t = some (.tup [.int x.1, .int x.2])
def RO (H : Hp) : V → Option Hr → Prop
  | v, none => v = .non
  | v, some h => ∃ t e, v = .ref t ∧ H t = some (.tup [e, .int h.2]) ∧ HrV H e h.1
theorem HrV.same {H H' : Hp} {v : V} {x : Int × Int} (s : Same H H') (h : HrV H v x) : HrV H' v x := let ⟨t, a, b⟩ := h; ⟨t, a, s _ _ b⟩
theorem RO.same {H H' : Hp} {v : V} {o : Option Hr} (s : Same H H') (h : RO H v o) : RO H' v o := by
  cases o with
  | none => exact h
  | some q => exact let ⟨t, e, a, b, c⟩ := h; ⟨t, e, a, s _ _ b, c.same s⟩
def spCan : Sp := fun vs H Q _ => ∃ (t : Addr) (d : Dd) (s : Int × Int), vs = [.ref t, .int s.1, .int s.2] ∧ H t = some (.tup d.vs) ∧ Q (.bl (canB d s)) H
theorem scCan : FnScope ["_law_deed", "_law_here", "_law_number"] ["_law_deed", "_law_here", "_law_number"] (defScope (top 48)) := ⟨rfl, rfl, rfl, by decide +kernel, rfl, by decide +kernel, by decide +kernel⟩
def spDn (k : Nat) : Sp := fun vs H Q _ => ∃ (p D a : Addr) (ys xs : List V) (ds : List Dd) (m : Int) (its : List It) (x : Int × Int), vs = [.ref D, .int x.1, .int x.2, .ref a] ∧ DsAt H D ys ds m ∧ LsAt p H a xs its ∧ Gd ds m its k ∧
  ∀ v H', Same H H' → RO H' v (dnM ds its (x, x.2)) → Q v H'
def NDn : List Str := ["_law_deeds", "_law_place", "_law_number", "_law_items", "_law_here", "_law_most", "_law_item_here", "_law_part", "_law_once"]
theorem scDn : FnScope NDn ["_law_deeds", "_law_place", "_law_number", "_law_items"] (defScope (top 51)) := ⟨rfl, rfl, rfl, by decide +kernel, rfl, by decide +kernel, by decide +kernel⟩
section
variable {P : Program} {w : World} {K : PySem.W.Frag} {mg : Str → Option Value} {base : Heap} {C C2 : Addr}
theorem ok_can {f : Addr} {fd : FuncData} (F : Fun K "_law_can" "_law_can" (top 48) f fd) : FnOk P w K mg base CX0 1 f fd ["_law_deed", "_law_here", "_law_number"] spCan := by
  refine F.ok scCan (fun vs H Q E h => ?_) (fun cdv A outer s H vs Q E hr h => ?_)
  · obtain ⟨t, d, s, rfl, _⟩ := h
    rfl
  · obtain ⟨t, d, st, rfl, ht, q⟩ := h
    refine ⟨_, pss_one (ps_ret (pe_and (pe_cmpR op_eq (pe_ix ix_tup (pv 0) pe_int (fun _ _ => rfl)) (pv 1) (nomark _)) (pe_and (pe_cmpR op_ge (pe_op op_add (pv 2) (pe_ix ix_tup (pv 0) pe_int (fun _ _ => rfl))) pe_int (nomark _))
      (pe_one (pe_or (pe_cmpR op_eq (pe_ix ix_tup (pv 0) pe_int (fun _ _ => rfl)) pe_str (nomark _)) (pe_one (pe_cmpR op_eq (pv 2) pe_int (nomark _)))))))), ?_⟩
    have e2 : decide (V.int d.p = V.int st.1) = decide (d.p = st.1) := by simp
    have e0 : decide (V.int st.2 = V.int 0) = decide (st.2 = 0) := by simp
    refine ⟨_, rfl, t, _, _, _, rfl, rfl, .inl (.inl ht), rfl, _, rfl, rfl, _, congrArg V.bl e2, ?_⟩
    unfold canB at q
    by_cases c1 : ¬ d.p = st.1
    · rw [decide_eq_false c1]
      rw [decide_eq_false fun z => c1 z.1] at q
      exact iteF q
    replace c1 := Decidable.not_not.mp c1
    rw [decide_eq_true c1]
    refine iteT ⟨_, rfl, _, rfl, t, _, _, _, rfl, rfl, .inl (.inl ht), rfl, _, _, rfl, rfl, _, _, rfl, rfl, decide (st.2 + d.c ≥ 0), rfl, ?_⟩
    by_cases c2 : ¬ st.2 + d.c ≥ 0
    · rw [decide_eq_false c2]
      rw [decide_eq_false fun z => c2 z.2.1] at q
      exact iteF q
    replace c2 := Decidable.not_not.mp c2
    rw [decide_eq_true c2]
    refine iteT ⟨_, rfl, t, _, _, _, rfl, rfl, .inl (.inl ht), rfl, rfl, decide (d.w = "any"), congrArg V.bl (by simp), ?_⟩
    by_cases c3 : d.w = "any"
    · rw [decide_eq_true c3]
      rw [decide_eq_true ⟨c1, c2, .inl c3⟩] at q
      exact iteT q
    · rw [decide_eq_false c3]
      have : decide (d.p = st.1 ∧ 0 ≤ st.2 + d.c ∧ (d.w = "any" ∨ st.2 = 0)) = decide (st.2 = 0) := by
        rw [decide_eq_decide]
        exact ⟨fun z => z.2.2.resolve_left c3, fun z => ⟨c1, c2, .inr z⟩⟩
      rw [this, ← e0] at q
      exact iteF ⟨_, rfl, rfl, q⟩
abbrev σD (D a : Addr) (x : Int × Int) (e : V) (m : Int) (x6 x7 x8 : Option V) : L2.St := [some (.ref D), some (.int x.1), some (.int x.2), some (.ref a), some e, some (.int m), x6, x7, x8]
theorem ok_dn {k : Nat} {f : Addr} {fd : FuncData} (F : Fun K "_law_done" "_law_done" (top 51) f fd) (n : Nm mg) (GP : Fn P w K mg base (2 * k + 2) "_law_plain" ["_law_deeds", "_law_items"] (spPl k)) (GC : Fn P w K mg base 1 "_law_can" ["_law_deed", "_law_here", "_law_number"] spCan)
    (GD : Fn P w K mg base (2 * k + 3) "_law_done" ["_law_deeds", "_law_place", "_law_number", "_law_items"] (fun vs H Q E => ∃ j, k = j + 1 ∧ spDn j vs H Q E)) : FnOk P w K mg base CX0 (2 * k + 4) f fd ["_law_deeds", "_law_place", "_law_number", "_law_items"] (spDn k) := by
  refine F.ok scDn (fun vs H Q E h => ?_) (fun cdv A outer s H vs Q E hr h => ?_)
  · obtain ⟨p, D, a, ys, xs, ds, m, its, x, rfl, _⟩ := h
    rfl
  · obtain ⟨p, D, a, ys, xs, ds, m, its, x0, rfl, dA, ⟨hx, dv⟩, gd, q⟩ := h
    have N := scDn.nd
    have xl := dv.itl
    have yl := Paired.length dA.dd
    have r1 := hr.mono (k := 2 * k + 3) (j := 1) (by omega)
    have r2 := hr.mono (k := 2 * k + 3) (j := 2 * k + 2) (by omega)
    refine ⟨_, pss_cons (ps_par (i := 4) (j := 5) rfl N rfl rfl (by decide) rfl rfl (pa_cons (pe_tup (pa_cons (pv 1) (pa_cons (pv 2) pa_nil))) (pa_cons (pv 2) pa_nil)) (by rfl))
      (pss_cons (ps_for PassesOwn.never rfl (pi_list (pv 3)) (pg_name (i := 6) N rfl (.inl rfl))
        (pss_cons (ps_set (i := 7) N rfl (.inl rfl) (pe_fn GP r2 (pa_cons (pv 0) (pa_cons (pe_lst (pa_cons (pv 6) pa_nil)) pa_nil))))
        (pss_one (ps_if (pt_cmp (pc_notN (pv 7)))
          (pss_cons (ps_if (PW.pt (pw_and (pt_cmp (pc_notN (pe_ix ix_tup (pv 7) pe_int (fun _ _ => rfl)))) (pw_and1 (pw_or (pt_cmpR op_ne (pe_ix ix_tup (pe_ix ix_tup (pv 7) pe_int (fun _ _ => rfl)) pe_int (fun _ _ => rfl)) (pe_ix ix_tup (pv 4) pe_int (fun _ _ => rfl)) (nomark _))
              (pw_or1 (pt_cmpR op_lt (pe_ix ix_tup (pv 4) pe_int (fun _ _ => rfl)) (pe_ix ix_tup (pv 7) pe_int (fun _ _ => rfl)) (nomark _)))).pt))) (pss_one (ps_ret pe_non)) pss_nil)
          (pss_one (ps_par (i := 5) (j := 4) rfl N rfl rfl (by decide) rfl rfl (pa_cons (pe_callB (call_max2 rfl) (by rfl) n.max (by decide +kernel) (pa_cons (pv 5) (pa_cons (pe_op op_add (pe_ix ix_tup (pv 4) pe_int (fun _ _ => rfl)) (pe_ix ix_tup (pv 7) pe_int (fun _ _ => rfl))) pa_nil)))
            (pa_cons (pe_tup (pa_cons (pe_ifExp (pt_cmp (pc_isN (pe_ix ix_tup (pv 7) pe_int (fun _ _ => rfl)))) (pe_ix ix_tup (pv 4) pe_int (fun _ _ => rfl)) (pe_ix ix_tup (pe_ix ix_tup (pv 7) pe_int (fun _ _ => rfl)) pe_int (fun _ _ => rfl))) (pa_cons (pe_op op_add (pe_ix ix_tup (pv 4) pe_int (fun _ _ => rfl)) (pe_ix ix_tup (pv 7) pe_int (fun _ _ => rfl))) pa_nil))) pa_nil)) (by rfl))))
          (pss_one (ps_if (pt_val (pe_isTuple n (pv 6)))
            (pss_cons (ps_set (i := 8) N rfl (.inl rfl) (pe_fn GD hr (pa_cons (pv 0) (pa_cons (pe_ix ix_tup (pv 4) pe_int (fun _ _ => rfl)) (pa_cons (pe_ix ix_tup (pv 4) pe_int (fun _ _ => rfl)) (pa_cons (pe_ix ix_tup (pv 6) pe_int (fun _ _ => rfl)) pa_nil))))))
            (pss_cons (ps_if (pw_or (pt_cmp (pc_isN (pv 8))) (pw_or1 (PW.pt (pw_and (pt_cmpR op_gt (pe_ix ix_tup (pv 6) pe_int (fun _ _ => rfl)) pe_int (nomark _)) (pw_and1 (pt_cmpR (op_neD hr.units) (pe_ix ix_tup (pv 8) pe_int (fun _ _ => rfl)) (pv 4) (nomark _))))))).pt (pss_one (ps_ret pe_non)) pss_nil)
            (pss_one (ps_par (i := 4) (j := 5) rfl N rfl rfl (by decide) rfl rfl (pa_cons (pe_ix ix_tup (pv 8) pe_int (fun _ _ => rfl)) (pa_cons (pe_callB (call_max2 rfl) (by rfl) n.max (by decide +kernel) (pa_cons (pv 5) (pa_cons (pe_ix ix_tup (pv 8) pe_int (fun _ _ => rfl)) pa_nil))) pa_nil)) (by rfl)))))
            (pss_cons (ps_if (pt_not (pt_val (pe_fn GC r1 (pa_cons (pe_ix ix_list (pv 0) (pv 6) (fun _ _ => rfl)) (pa_cons (pe_ix ix_tup (pv 4) pe_int (fun _ _ => rfl)) (pa_cons (pe_ix ix_tup (pv 4) pe_int (fun _ _ => rfl)) pa_nil)))))) (pss_one (ps_ret pe_non)) pss_nil)
            (pss_cons (ps_set (i := 4) N rfl (.inl rfl) (pe_tup (pa_cons (pe_ix ix_tup (pe_ix ix_list (pv 0) (pv 6) (fun _ _ => rfl)) pe_int (fun _ _ => rfl)) (pa_cons (pe_op op_add (pe_ix ix_tup (pv 4) pe_int (fun _ _ => rfl)) (pe_ix ix_tup (pe_ix ix_list (pv 0) (pv 6) (fun _ _ => rfl)) pe_int (fun _ _ => rfl))) pa_nil))))
            (pss_one (ps_set (i := 5) N rfl (.inl rfl) (pe_callB (call_max2 rfl) (by rfl) n.max (by decide +kernel) (pa_cons (pv 5) (pa_cons (pe_ix ix_tup (pv 4) pe_int (fun _ _ => rfl)) pa_nil)))))))))))))
      (pss_one (ps_ret (pe_tup (pa_cons (pv 4) (pa_cons (pv 5) pa_nil)))))), ?_⟩
    refine seqV (Good := fun σ2 H1 => ∃ e, Same H H1 ∧ HrV H1 e x0 ∧ σ2 = σD D a x0 e x0.2 none none none) ?_ ?_
    · intro nx hnx
      refine ⟨_, rfl, _, rfl, (by show 2 ≤ sizeLine; decide), fun t ht => ⟨_, rfl, _, _, rfl, hnx _ _ ⟨.ref t, same_upd ht, ⟨t, rfl, upd_same⟩, rfl⟩⟩⟩
    rintro _ H1 ⟨e0, s1, he0, rfl⟩
    refine ⟨_, rfl, a, rfl, ⟨_, .inl (.inl (s1 _ _ hx))⟩, ?_⟩
    refine loop_of (n := xs.length) (fun i σ H2 => ∃ (h : Hr) (e : V) (x6 x7 x8 : Option V), σ = σD D a x0 e h.2 x6 x7 x8 ∧ Same H H2 ∧ HrV H2 e h.1 ∧ dnM ds (its.drop i) h = dnM ds its (x0, x0.2)) ⟨(x0, x0.2), e0, none, none, none, rfl, s1, he0, rfl⟩ ?_ ?_
    · rintro σ H2 ⟨h, e, x6, x7, x8, rfl, s2, he, ep⟩
      refine ⟨⟨xs, .inl (.inl (s2 _ _ hx)), Nat.le_refl _⟩, ?_⟩
      rw [xl, List.drop_length] at ep
      refine ⟨_, rfl, _, rfl, (by show 2 ≤ sizeLine; decide), fun o ho => q _ _ (s2.trans (same_upd ho)) ?_⟩
      rw [← ep]
      exact ⟨o, e, rfl, upd_same, he.same (same_upd ho)⟩
    · rintro i σ H2 hi ⟨h, e, x6, x7, x8, rfl, s2, he, ep⟩
      refine ⟨⟨xs, _, .inl (.inl (s2 _ _ hx)), List.getElem?_eq_getElem hi⟩, ?_⟩
      rintro v H3 ⟨rfl, hy⟩
      have hxi := hy xs (.inl (.inl (s2 _ _ hx)))
      obtain ⟨x, hit, hdx⟩ := dv.it hxi
      have hdx := hdx.same s2
      have hm := List.mem_of_getElem? hit
      have hxo := okM_mem gd.ok hm
      have hxf := fwM_mem gd.fw hm
      have hxd : dpI x ≤ k := Nat.le_trans (dpM_mem hm) gd.dp
      have dr : its.drop i = x :: its.drop (i + 1) := by
        rw [List.drop_eq_getElem_cons (by omega)]
        congr 1
        rw [List.getElem?_eq_getElem (by omega)] at hit
        exact Option.some.inj hit
      rw [dr] at ep
      have ep : (match dnI ds x h with | none => none | some j => dnM ds (its.drop (i + 1)) j) = dnM ds its (x0, x0.2) := ep
      have d3 := dA.same s2
      refine gn ?_
      -- part
      refine seqV (Good := fun σ2 H4 => ∃ pv : V, Same H3 H4 ∧ PO H4 pv (plM ds [x] p0) ∧ σ2 = σD D a x0 e h.2 (some v) (some pv) x8) ?_ ?_
      · intro nx hnx
        refine ⟨_, rfl, _, rfl, (by show 1 ≤ sizeLine; decide), fun l hl => ?_⟩
        have sl := same_upd (o := .lst [v]) hl
        have dl : It.DL [x] = [It.D x] := by simp [It.DL]
        refine ⟨p, D, l, ys, [v], ds, m, [x], rfl, d3.same sl, ⟨upd_same, by rw [dl]; exact .cons (hdx.same sl) .nil⟩, ⟨⟨hxo, trivial⟩, ⟨hxf, trivial⟩, by show max (dpI x) 0 ≤ k; omega, by show 1 ≤ 10000; decide⟩, fun pv H4 s4 hp => hnx _ _ ⟨pv, sl.trans s4, hp, rfl⟩⟩
      rintro _ H4 ⟨pv, s4, hp, rfl⟩
      have he4 := he.same s4
      have s24 := s2.trans s4
      obtain ⟨th, rfl, hth⟩ := id he4
      cases hq : plM ds [x] p0 with
      | some q1 =>
        rw [hq] at hp
        obtain ⟨o, e1, rfl, ho, he1⟩ := hp
        have eD : dnI ds x h = stepP q1 h := by
          cases x with
          | deed j => show (match plM ds [.deed j] p0 with | some q => stepP q h | none => _) = _; rw [hq]
          | lap b t => show (match plM ds [.lap b t] p0 with | some q => stepP q h | none => _) = _; rw [hq]
        rw [eD] at ep
        refine ⟨_, rfl, true, rfl, iteT ?_⟩
        have esk : stepP q1 h = match q1.1 with
            | some e => if e.1 ≠ h.1.1 ∨ h.1.2 < q1.2.2.1 then none else some ((e.2, h.1.2 + q1.2.1), max h.2 (h.1.2 + q1.2.2.2))
            | none => some ((h.1.1, h.1.2 + q1.2.1), max h.2 (h.1.2 + q1.2.2.2)) := rfl
        refine seqV (Good := fun σ2 H5 => H4 = H5 ∧ stepP q1 h = some (((match q1.1 with | some e => e.2 | none => h.1.1), h.1.2 + q1.2.1), max h.2 (h.1.2 + q1.2.2.2)) ∧ σ2 = σD D a x0 (.ref th) h.2 (some v) (some (.ref o)) x8) ?_ ?_
        · intro nx hnx
          refine ⟨_, rfl, o, _, _, _, rfl, rfl, .inl (.inl ho), rfl, !decide (e1 = .non), rfl, ?_⟩
          cases h2 : q1.1 with
          | none =>
            rw [h2] at he1 esk
            obtain rfl : e1 = .non := he1
            rw [decide_eq_true rfl]
            exact iteF (hnx _ _ ⟨rfl, by rw [esk, h2], rfl⟩)
          | some eb =>
            rw [h2] at he1 esk
            obtain ⟨ob, rfl, hob⟩ := he1
            rw [decide_eq_false (by simp)]
            refine iteT ⟨_, rfl, o, _, _, _, rfl, rfl, .inl (.inl ho), rfl, ob, _, _, _, rfl, rfl, .inl (.inl hob), rfl, _, rfl, th, _, _, _, rfl, rfl, .inl (.inl hth), rfl, rfl, !decide (eb.1 = h.1.1), congrArg (fun b => V.bl (!b)) (by simp), ?_⟩
            by_cases c : eb.1 = h.1.1
            · rw [decide_eq_true c]
              refine iteF ⟨_, rfl, th, _, _, _, rfl, rfl, .inl (.inl hth), rfl, _, rfl, o, _, _, _, rfl, rfl, .inl (.inl ho), rfl, _, _, rfl, rfl, decide (h.1.2 < q1.2.2.1), rfl, ?_⟩
              by_cases c2 : h.1.2 < q1.2.2.1
              · rw [decide_eq_true c2]
                refine iteT (q .non H4 s24 ?_)
                rw [esk] at ep
                have ep : (match (if eb.1 ≠ h.1.1 ∨ h.1.2 < q1.2.2.1 then none else some (((eb.2, h.1.2 + q1.2.1), max h.2 (h.1.2 + q1.2.2.2)) : Hr)) with | none => none | some j => dnM ds (its.drop (i + 1)) j) = dnM ds its (x0, x0.2) := ep
                rw [if_pos (.inr c2)] at ep
                rw [← ep]
                rfl
              · rw [decide_eq_false c2]
                refine iteF (hnx _ _ ⟨rfl, ?_, rfl⟩)
                rw [esk, h2]
                exact if_neg fun z => z.elim (fun z => z c) c2
            · rw [decide_eq_false c]
              refine iteT (iteT (q .non H4 s24 ?_))
              rw [esk] at ep
              have ep : (match (if eb.1 ≠ h.1.1 ∨ h.1.2 < q1.2.2.1 then none else some (((eb.2, h.1.2 + q1.2.1), max h.2 (h.1.2 + q1.2.2.2)) : Hr)) with | none => none | some j => dnM ds (its.drop (i + 1)) j) = dnM ds its (x0, x0.2) := ep
              rw [if_pos (.inl c)] at ep
              rw [← ep]
              rfl
        rintro _ _ ⟨rfl, est, rfl⟩
        rw [est] at ep
        have em : max h.2 (h.1.2 + q1.2.2.2) = if h.1.2 + q1.2.2.2 > h.2 then h.1.2 + q1.2.2.2 else h.2 := by split <;> omega
        refine ⟨_, rfl, _, rfl, th, _, _, _, rfl, rfl, .inl (.inl hth), rfl, _, rfl, o, _, _, _, rfl, rfl, .inl (.inl ho), rfl, _, _, rfl, rfl, _, _, rfl, _, rfl, o, _, _, _, rfl, rfl, .inl (.inl ho), rfl, decide (e1 = .non), rfl, ?_⟩
        have fin : ∀ (z : Int), z = (match q1.1 with | some e => e.2 | none => h.1.1) → ∀ t2, H4 t2 = none → ∃ (h' : Hr) (e : V) (x6 x7 x8' : Option V), σD D a x0 (.ref t2) (if h.1.2 + q1.2.2.2 > h.2 then h.1.2 + q1.2.2.2 else h.2) (some v) (some (.ref o)) x8 = σD D a x0 e h'.2 x6 x7 x8' ∧ Same H (upd H4 t2 (.tup [V.int z, V.int (h.1.2 + q1.2.1)])) ∧ HrV (upd H4 t2 (.tup [V.int z, V.int (h.1.2 + q1.2.1)])) e h'.1 ∧ dnM ds (its.drop (i + 1)) h' = dnM ds its (x0, x0.2) := by
          rintro z rfl t2 ht2
          refine ⟨_, .ref t2, some v, some (.ref o), x8, ?_, s24.trans (same_upd ht2), ⟨t2, rfl, ?_⟩, ep⟩
          · rw [em]
          · rw [upd_same]
        cases h2 : q1.1 with
        | none =>
          rw [h2] at he1 fin
          obtain rfl : e1 = .non := he1
          rw [decide_eq_true rfl]
          exact iteT ⟨_, rfl, th, _, _, _, rfl, rfl, .inl (.inl hth), rfl, _, rfl, th, _, _, _, rfl, rfl, .inl (.inl hth), rfl, _, rfl, o, _, _, _, rfl, rfl, .inl (.inl ho), rfl, _, _, rfl, rfl, (by show 2 ≤ sizeLine; decide), fun t2 ht2 => ⟨_, _, rfl, fin _ rfl t2 ht2⟩⟩
        | some eb =>
          rw [h2] at he1 fin
          obtain ⟨ob, rfl, hob⟩ := he1
          rw [decide_eq_false (by simp)]
          exact iteF ⟨_, rfl, o, _, _, _, rfl, rfl, .inl (.inl ho), rfl, ob, _, _, _, rfl, rfl, .inl (.inl hob), rfl, _, rfl, th, _, _, _, rfl, rfl, .inl (.inl hth), rfl, _, rfl, o, _, _, _, rfl, rfl, .inl (.inl ho), rfl, _, _, rfl, rfl, (by show 2 ≤ sizeLine; decide), fun t2 ht2 => ⟨_, _, rfl, fin _ rfl t2 ht2⟩⟩
      | none =>
        rw [hq] at hp
        obtain rfl : pv = .non := hp
        refine ⟨_, rfl, false, rfl, iteF ?_⟩
        have hdx4 := hdx.same s4
        have d4 := d3.same s4
        refine ⟨_, rfl, isi_mk hdx4.ty (kit_tuple _) ⟨_, rfl, ?_⟩⟩
        cases x with
        | deed j =>
          obtain rfl := it_deed hdx4
          have eT : isT (It.D (.deed j)) = false := by simp [It.D, isT]
          rw [eT]
          have hj : j < ds.length := hxo
          have g : ds.getD j d00 = ds[j] := by rw [List.getD_eq_getElem?_getD, List.getElem?_eq_getElem hj]; rfl
          have eD : dnI ds (.deed j) h = stepD ds[j] h := by
            show (match plM ds [.deed j] p0 with | some q => stepP q h | none => stepD (ds.getD j d00) h) = _
            rw [hq, g]
          rw [eD] at ep
          have hyk : ys[j]? = some ys[j] := List.getElem?_eq_getElem (by omega)
          obtain ⟨d1, hd1, td, ed, htd⟩ := Paired.at d4.dd hyk
          rw [List.getElem?_eq_getElem hj] at hd1
          obtain rfl := Option.some.inj hd1
          rw [ed] at hyk
          refine iteF ⟨_, rfl, _, rfl, D, ys, _, _, rfl, rfl, .inl (.inl d4.hD), atI_nat hyk, _, rfl, th, _, _, _, rfl, rfl, .inl (.inl hth), rfl, _, rfl, th, _, _, _, rfl, rfl, .inl (.inl hth), rfl, td, ds[j], h.1, rfl, htd, canB ds[j] h.1, rfl, ?_⟩
          have es : stepD ds[j] h = if canB ds[j] h.1 = true then some ((ds[j].g, h.1.2 + ds[j].c), max h.2 (h.1.2 + ds[j].c)) else none := rfl
          cases hc : canB ds[j] h.1 with
          | false =>
            rw [es, hc, if_neg (by decide)] at ep
            refine iteT (q .non H4 s24 ?_)
            rw [← ep]
            rfl
          | true =>
            rw [es, hc, if_pos rfl] at ep
            refine iteF ⟨_, rfl, _, rfl, D, ys, _, _, rfl, rfl, .inl (.inl d4.hD), atI_nat hyk, td, _, _, _, rfl, rfl, .inl (.inl htd), rfl, _, rfl, th, _, _, _, rfl, rfl, .inl (.inl hth), rfl, _, rfl, _, rfl, D, ys, _, _, rfl, rfl, .inl (.inl d4.hD), atI_nat hyk, td, _, _, _, rfl, rfl, .inl (.inl htd), rfl, _, _, rfl, rfl, (by show 2 ≤ sizeLine; decide), fun t2 ht2 => ?_⟩
            refine ⟨_, rfl, _, rfl, t2, _, _, _, rfl, rfl, .inl (.inl upd_same), rfl, _, _, rfl, ?_⟩
            refine ⟨_, .ref t2, some (.int (j : Nat)), some .non, x8, ?_, s24.trans (same_upd ht2), ⟨t2, rfl, upd_same⟩, ep⟩
            have em : max h.2 (h.1.2 + ds[j].c) = if h.1.2 + ds[j].c > h.2 then h.1.2 + ds[j].c else h.2 := by split <;> omega
            show _ = σD D a x0 (.ref t2) (max h.2 (h.1.2 + ds[j].c)) (some (.int (j : Nat))) (some .non) x8
            rw [em]
            rfl
        | lap b t =>
          obtain ⟨u, a2, xs2, rfl, hu, gb, ne2, ha2⟩ := it_lap hdx4
          have eT : isT (It.D (.lap b t)) = true := by simp [It.D, isT]
          rw [eT]
          obtain ⟨t99, l150, lb, fb⟩ : t < 2 ^ 99 ∧ (unM b).length < 2 ^ 150 ∧ b.length ≤ 10000 ∧ fwM b := hxf
          have hd2 : dpM b + 1 ≤ k := hxd
          obtain ⟨j, rfl⟩ : ∃ j, k = j + 1 := ⟨k - 1, by omega⟩
          have eD : dnI ds (.lap b t) h = stepL (dnM ds b (h.1, h.1.2)) t h := by
            show (match plM ds [.lap b t] p0 with | some q => stepP q h | none => stepL (dnM ds b (h.1, h.1.2)) t h) = _
            rw [hq]
          rw [eD] at ep
          refine iteT ?_
          refine seqV (Good := fun σ2 H5 => ∃ ov : V, Same H4 H5 ∧ RO H5 ov (dnM ds b (h.1, h.1.2)) ∧ σ2 = σD D a x0 (.ref th) h.2 (some (.ref u)) (some .non) (some ov)) ?_ ?_
          · intro nx hnx
            refine ⟨_, rfl, _, rfl, th, _, _, _, rfl, rfl, .inl (.inl hth), rfl, _, rfl, th, _, _, _, rfl, rfl, .inl (.inl hth), rfl, _, rfl, u, _, _, _, rfl, rfl, .inl (.inl hu), rfl, j, rfl, p, D, a2, ys, xs2, ds, m, b, h.1, rfl, d4, ⟨ha2, gb.dv⟩, ⟨hxo, fb, by omega, lb⟩, fun ov H5 s5 ho => hnx _ _ ⟨ov, s5, ho, rfl⟩⟩
          rintro _ H5 ⟨ov, s5, hov, rfl⟩
          have hu5 := s5 _ _ hu
          have hth5 := s5 _ _ hth
          have s25 := s24.trans s5
          cases hd : dnM ds b (h.1, h.1.2) with
          | none =>
            rw [hd] at hov ep
            obtain rfl : ov = .non := hov
            refine ⟨_, rfl, true, rfl, iteT (iteT (q .non H5 s25 ?_))⟩
            rw [← ep]
            rfl
          | some kk =>
            rw [hd] at hov ep
            obtain ⟨ot, oe, rfl, hot, ⟨oo, rfl, hoo⟩⟩ := hov
            have es : stepL (some kk) t h = if 1 < t ∧ kk.1 ≠ h.1 then none else some (kk.1, max h.2 kk.2) := rfl
            rw [es] at ep
            refine seqV (Good := fun σ2 H6 => H5 = H6 ∧ ¬ (1 < t ∧ kk.1 ≠ h.1) ∧ σ2 = σD D a x0 (.ref th) h.2 (some (.ref u)) (some .non) (some (.ref ot))) ?_ ?_
            · intro nx hnx
              refine ⟨_, rfl, false, rfl, iteF ⟨_, rfl, u, _, _, _, rfl, rfl, .inl (.inl hu5), rfl, _, _, rfl, rfl, decide ((t : Int) > 1), rfl, ?_⟩⟩
              by_cases t1 : ¬ 1 < t
              · rw [decide_eq_false (by omega)]
                exact iteF (hnx _ _ ⟨rfl, fun z => t1 z.1, rfl⟩)
              replace t1 := Decidable.not_not.mp t1
              rw [decide_eq_true (by omega)]
              refine iteT ⟨_, rfl, ot, _, _, _, rfl, rfl, .inl (.inl hot), rfl, _, rfl, .tuple [.int kk.1.1, .int kk.1.2], .tuple [.int h.1.1, .int h.1.2], .tup (.inl (.inl hoo)) (.cons (.int _) (.cons (.int _) .nil)), .tup (.inl (.inl hth5)) (.cons (.int _) (.cons (.int _) .nil)), pr_shaped _ _, pr_shaped _ _, !decide (kk.1 = h.1), congrArg (fun b => V.bl (!b)) (pr_eqv _ _), ?_⟩
              by_cases c : kk.1 = h.1
              · rw [decide_eq_true c]
                exact iteF (hnx _ _ ⟨rfl, fun z => z.2 c, rfl⟩)
              · rw [decide_eq_false c]
                refine iteT (q .non H5 s25 ?_)
                rw [if_pos ⟨t1, c⟩] at ep
                rw [← ep]
                rfl
            rintro _ _ ⟨rfl, nn, rfl⟩
            rw [if_neg nn] at ep
            have em : max h.2 kk.2 = if kk.2 > h.2 then kk.2 else h.2 := by split <;> omega
            refine ⟨_, rfl, ot, _, _, _, rfl, rfl, .inl (.inl hot), rfl, _, rfl, _, rfl, ot, _, _, _, rfl, rfl, .inl (.inl hot), rfl, _, _, rfl, _, _, rfl, ?_⟩
            refine ⟨(kk.1, max h.2 kk.2), .ref oo, some (.ref u), some .non, some (.ref ot), ?_, s25, ⟨oo, rfl, hoo⟩, ep⟩
            show _ = σD D a x0 (.ref oo) (max h.2 kk.2) (some (.ref u)) (some .non) (some (.ref ot))
            rw [em]
            rfl
end
end L2.K75
end

section
set_option Elab.async false
set_option linter.all false
set_option maxRecDepth 100000
set_option maxHeartbeats 400000
namespace L2.K75
open PySem PySem.Spec PyProof.Rows L2.Gd
/-! ### laid flat, and walked -/
def iVs (r : List Nat) : List V := r.map fun i : Nat => V.int (i : Int)
def Lk : Nat → Nat
  | 0 => 401
  | k + 1 => 400 + 7 * Lk k
theorem Lk_1 : ∀ k, 401 ≤ Lk k
  | 0 => Nat.le_refl _
  | k + 1 => by
    have := Lk_1 k
    show 401 ≤ 400 + 7 * Lk k
    omega
theorem Lk_le (k : Nat) (h : k ≤ 3) : Lk k ≤ 160343 := by
  have : k = 0 ∨ k = 1 ∨ k = 2 ∨ k = 3 := by omega
  rcases this with rfl | rfl | rfl | rfl <;> simp [Lk]
theorem unM_snoc (a : List It) (x : It) : unM (a ++ [x]) = unM a ++ unI x := by
  rw [unM_app]
  have : unM [x] = unI x := by simp [unM]
  rw [this]
def FV (k : Nat) (H : Hp) (v : V) (its : List It) : Prop := v = .non ∨ ∃ l, v = .ref l ∧ H l = some (.lst (iVs (unM its))) ∧ (unM its).length ≤ Lk k
def spFl (k : Nat) : Sp := fun vs H Q _ => ∃ (p a : Addr) (xs : List V) (its : List It), vs = [.ref a] ∧ LsAt p H a xs its ∧ dpM its ≤ k ∧ k ≤ 3 ∧ ∀ v H', Same H H' → FV k H' v its → Q v H'
def NFl : List Str := ["_law_items", "_law_found", "_law_item_here", "_law_inner"]
theorem scFl : FnScope NFl ["_law_items"] (defScope (top 55)) := ⟨rfl, rfl, rfl, by decide +kernel, rfl, by decide +kernel, by decide +kernel⟩
def spWk : Sp := fun vs H Q _ => ∃ (D l : Addr) (ys : List V) (ds : List Dd) (m p s : Int) (r : List Nat), vs = [.ref D, .int p, .int s, .ref l] ∧ DsAt H D ys ds m ∧ H l = some (.lst (iVs r)) ∧ (∀ i ∈ r, i < ds.length) ∧ Q (.int (s + pk (rowD ds r))) H
def NWk : List Str := ["_law_deeds", "_law_place", "_law_start", "_law_items", "_law_most", "_law_number", "_law_at"]
theorem scWk : FnScope NWk ["_law_deeds", "_law_place", "_law_start", "_law_items"] (defScope (top 56)) := ⟨rfl, rfl, rfl, by decide +kernel, rfl, by decide +kernel, by decide +kernel⟩
section
variable {P : Program} {w : World} {K : PySem.W.Frag} {mg : Str → Option Value} {base : Heap} {C C2 : Addr}
theorem ok_wk {f : Addr} {fd : FuncData} (F : Fun K "_law_walked" "_law_walked" (top 56) f fd) (n : Nm mg) : FnOk P w K mg base CX0 1 f fd ["_law_deeds", "_law_place", "_law_start", "_law_items"] spWk := by
  refine F.ok scWk (fun vs H Q E h => ?_) (fun cdv A outer s H vs Q E hr h => ?_)
  · obtain ⟨D, l, ys, ds, m, p, s, r, rfl, _⟩ := h
    rfl
  · obtain ⟨D, l, ys, ds, m, p, st, r, rfl, dA, hl, lt, q⟩ := h
    have N := scWk.nd
    have yl := Paired.length dA.dd
    refine ⟨_, pss_cons (ps_par (i := 4) (j := 5) rfl N rfl rfl (by decide) rfl rfl (pa_cons (pv 2) (pa_cons (pv 2) pa_nil)) (by rfl))
      (pss_cons (ps_for PassesOwn.never rfl (pi_list (pv 3)) (pg_name (i := 6) N rfl (.inl rfl))
        (pss_cons (ps_set (i := 5) N rfl (.inl rfl) (pe_op op_add (pv 5) (pe_ix ix_tup (pe_ix ix_list (pv 0) (pv 6) (fun _ _ => rfl)) pe_int (fun _ _ => rfl))))
        (pss_one (ps_set (i := 4) N rfl (.inl rfl) (pe_callB (call_max2 rfl) (by rfl) n.max (by decide +kernel) (pa_cons (pv 4) (pa_cons (pv 5) pa_nil)))))))
      (pss_one (ps_ret (pv 4)))), ?_⟩
    refine ⟨_, rfl, _, rfl, _, _, rfl, _, rfl, l, rfl, ⟨_, .inl (.inl hl)⟩, ?_⟩
    have ll : (iVs r).length = r.length := List.length_map _
    refine loop_of (n := (iVs r).length) (fun i σ H2 => H = H2 ∧ ∃ x6 : Option V, σ = [some (.ref D), some (.int p), some (.int st), some (.ref l), some (.int (st + pk (rowD ds (r.take i)))), some (.int (st + gnR (rowD ds (r.take i)))), x6]) ⟨rfl, none, by
      show _ = [some (V.ref D), some (V.int p), some (V.int st), some (V.ref l), some (V.int (st + 0)), some (V.int (st + 0)), none]
      rw [Int.add_zero]
      rfl⟩ ?_ ?_
    · rintro σ H2 ⟨rfl, x6, rfl⟩
      refine ⟨⟨_, .inl (.inl hl), Nat.le_refl _⟩, ?_⟩
      rw [ll, List.take_length]
      exact ⟨_, rfl, q⟩
    · rintro i σ H2 hi ⟨rfl, x6, rfl⟩
      refine ⟨⟨_, _, .inl (.inl hl), List.getElem?_eq_getElem hi⟩, ?_⟩
      rintro v H3 ⟨rfl, hy⟩
      have hxi := hy _ (.inl (.inl hl))
      have hir : i < r.length := by rw [← ll]; exact hi
      obtain ⟨j, hjr⟩ : ∃ j, r[i]? = some j := ⟨_, List.getElem?_eq_getElem hir⟩
      have e0 : (iVs r)[i]? = some (V.int (j : Nat)) := by
        unfold iVs
        rw [List.getElem?_map, hjr]
        rfl
      rw [e0] at hxi
      obtain rfl := Option.some.inj hxi
      have hj := lt j (List.mem_of_getElem? hjr)
      obtain ⟨yj, hyk⟩ : ∃ y, ys[j]? = some y := ⟨_, List.getElem?_eq_getElem (by omega)⟩
      obtain ⟨d1, hd1, td, rfl, htd⟩ := Paired.at dA.dd hyk
      have g2 : ds.getD j rowD.d00 = d1 := by rw [List.getD_eq_getElem?_getD, hd1]; rfl
      have tk : rowD ds (r.take (i + 1)) = rowD ds (r.take i) ++ [d1] := by
        rw [List.take_succ, hjr, rowD_app]
        show _ ++ [ds.getD j rowD.d00] = _
        rw [g2]
      have e1 : gnR [d1] = d1.c := by show d1.c + 0 = _; omega
      have e2 : pk [d1] = max 0 d1.c := by show max 0 (d1.c + 0) = _; rw [Int.add_zero]
      have gp := gn_pk (rowD ds (r.take i))
      rw [tk, gn_app, pk_app, e1, e2]
      generalize gnR (rowD ds (r.take i)) = gg at gp ⊢
      generalize pk (rowD ds (r.take i)) = pp at gp ⊢
      have ea : st + (gg + d1.c) = st + gg + d1.c := by omega
      have eb : st + max pp (gg + max 0 d1.c) = if st + gg + d1.c > st + pp then st + gg + d1.c else st + pp := by split <;> omega
      rw [ea, eb]
      refine gn ?_
      refine ⟨_, rfl, _, rfl, _, rfl, D, ys, _, _, rfl, rfl, .inl (.inl dA.hD), atI_nat hyk, td, _, _, _, rfl, rfl, .inl (.inl htd), rfl, _, _, rfl, rfl, ?_⟩
      exact ⟨_, rfl, _, rfl, _, _, rfl, rfl, some (.int (j : Nat)), rfl⟩
theorem ok_fl {k : Nat} {f : Addr} {fd : FuncData} (F : Fun K "_law_flat" "_law_flat" (top 55) f fd) (n : Nm mg) (GF : Fn P w K mg base (k + 1) "_law_flat" ["_law_items"] (fun vs H Q E => ∃ j, k = j + 1 ∧ spFl j vs H Q E)) :
    FnOk P w K mg base CX0 (k + 2) f fd ["_law_items"] (spFl k) := by
  refine F.ok scFl (fun vs H Q E h => ?_) (fun cdv A outer s H vs Q E hr h => ?_)
  · obtain ⟨p, a, xs, its, rfl, _⟩ := h
    rfl
  · obtain ⟨p, a, xs, its, rfl, ⟨hx, dv⟩, hdp, k3, q⟩ := h
    have N := scFl.nd
    have xl := dv.itl
    have LK : Lk k ≤ 160343 := Lk_le k k3
    refine ⟨_, pss_cons (ps_set (i := 1) N rfl (.inl rfl) (pe_lst pa_nil))
      (pss_cons (ps_for PassesOwn.never rfl (pi_list (pv 0)) (pg_name (i := 2) N rfl (.inl rfl))
        (pss_cons (ps_set (i := 3) N rfl (.inl rfl) (pe_ifExp (pt_not (pt_val (pe_isTuple n (pv 2)))) (pe_lst (pa_cons (pv 2) pa_nil)) (pe_ifExp (pt_cmpR op_gt (pe_ix ix_tup (pv 2) pe_int (fun _ _ => rfl)) pe_int (nomark _)) pe_non (pe_fn GF hr (pa_cons (pe_ix ix_tup (pv 2) pe_int (fun _ _ => rfl)) pa_nil)))))
        (pss_cons (ps_if (pw_or (pt_cmp (pc_isN (pv 3))) (pw_or1 (pt_cmpR op_gt (pe_callB call_len_seq (by rfl) n.len PySem.boot_len (pa_cons (pv 1) pa_nil)) pe_int (nomark _)))).pt (pss_one (ps_ret pe_non)) pss_nil)
        (pss_one (ps_set (i := 1) N rfl (.inl rfl) (pe_op op_cat (pv 1) (pe_ifExp (pt_val (pe_isTuple n (pv 2))) (pe_op op_rep (pv 3) (pe_ix ix_tup (pv 2) pe_int (fun _ _ => rfl))) (pv 3))))))))
      (pss_one (ps_ret (pv 1)))), ?_⟩
    refine ⟨(by show 0 ≤ sizeLine; decide), fun l0 hl0 => ?_⟩
    have s1 := same_upd (o := .lst []) hl0
    refine ⟨_, rfl, a, rfl, ⟨_, .inl (.inl (s1 _ _ hx))⟩, ?_⟩
    refine loop_of (n := xs.length) (fun i σ H2 => ∃ (l : Addr) (x2 x3 : Option V), σ = [some (.ref a), some (.ref l), x2, x3] ∧ Same H H2 ∧ H2 l = some (.lst (iVs (unM (its.take i)))) ∧ (unM (its.take i)).length ≤ Lk k) ⟨l0, none, none, rfl, s1, upd_same, Nat.zero_le _⟩ ?_ ?_
    · rintro σ H2 ⟨l, x2, x3, rfl, s2, hl, le⟩
      refine ⟨⟨xs, .inl (.inl (s2 _ _ hx)), Nat.le_refl _⟩, ?_⟩
      rw [xl, List.take_length] at hl le
      exact ⟨_, rfl, q _ _ s2 (.inr ⟨l, rfl, hl, le⟩)⟩
    · rintro i σ H2 hi ⟨l, x2, x3, rfl, s2, hl, le⟩
      refine ⟨⟨xs, _, .inl (.inl (s2 _ _ hx)), List.getElem?_eq_getElem hi⟩, ?_⟩
      rintro v H3 ⟨rfl, hy⟩
      have hxi := hy xs (.inl (.inl (s2 _ _ hx)))
      obtain ⟨x, hit, hdx⟩ := dv.it hxi
      have hdx := hdx.same s2
      have hm := List.mem_of_getElem? hit
      have hxd : dpI x ≤ k := Nat.le_trans (dpM_mem hm) hdp
      have tk : unM (its.take (i + 1)) = unM (its.take i) ++ unI x := by
        rw [List.take_succ, hit]
        exact unM_snoc _ _
      refine gn ?_
      have ll : ∀ r : List Nat, (iVs r).length = r.length := fun r => List.length_map _
      -- inner
      refine seqV (Good := fun σ2 H4 => ∃ iv : V, Same H3 H4 ∧ (iv = .non ∨ ∃ z r, iv = .ref z ∧ H4 z = some (.lst (iVs r)) ∧ ((∃ j, x = .deed j ∧ r = [j]) ∨ ∃ b t, x = .lap b t ∧ r = unM b ∧ t ≤ 7 ∧ r.length * 7 + 400 ≤ Lk k)) ∧ σ2 = [some (.ref a), some (.ref l), some v, some iv]) ?_ ?_
      · intro nx hnx
        refine ⟨_, rfl, isi_mk hdx.ty (kit_tuple _) ⟨_, rfl, ?_⟩⟩
        cases x with
        | deed j =>
          obtain rfl := it_deed hdx
          have eT : isT (It.D (.deed j)) = false := by simp [It.D, isT]
          rw [eT]
          refine iteT ⟨_, rfl, (by show 1 ≤ sizeLine; decide), fun z hz => hnx _ _ ⟨.ref z, same_upd hz, .inr ⟨z, [j], rfl, upd_same, .inl ⟨j, rfl, rfl⟩⟩, rfl⟩⟩
        | lap b t =>
          obtain ⟨u, a2, xs2, rfl, hu, gb, ne2, ha2⟩ := it_lap hdx
          have eT : isT (It.D (.lap b t)) = true := by simp [It.D, isT]
          rw [eT]
          have hd2 : dpM b + 1 ≤ k := hxd
          obtain ⟨j, rfl⟩ : ∃ j, k = j + 1 := ⟨k - 1, by omega⟩
          refine iteF ⟨_, rfl, u, _, _, _, rfl, rfl, .inl (.inl hu), rfl, _, _, rfl, rfl, decide ((t : Int) > 7), rfl, ?_⟩
          by_cases t7 : t ≤ 7
          · rw [decide_eq_false (by omega)]
            refine iteF ⟨_, rfl, u, _, _, _, rfl, rfl, .inl (.inl hu), rfl, j, rfl, p, a2, xs2, b, rfl, ⟨ha2, gb.dv⟩, by omega, by omega, fun iv H4 s4 fv => hnx _ _ ⟨iv, s4, ?_, rfl⟩⟩
            rcases fv with rfl | ⟨z, rfl, hz, lz⟩
            · exact .inl rfl
            · refine .inr ⟨z, _, rfl, hz, .inr ⟨b, t, rfl, rfl, t7, ?_⟩⟩
              show _ ≤ 400 + 7 * Lk j
              omega
          · rw [decide_eq_true (by omega)]
            exact iteT (hnx _ _ ⟨.non, fun _ _ z => z, .inl rfl, rfl⟩)
      rintro _ H4 ⟨iv, s4, hiv, rfl⟩
      have s24 := s2.trans s4
      have hl4 := s4 _ _ hl
      rcases hiv with rfl | ⟨z, r, rfl, hz, hr2⟩
      · exact ⟨_, rfl, true, rfl, iteT (iteT (q .non H4 s24 (.inl rfl)))⟩
      · refine ⟨_, rfl, false, rfl, iteF ⟨_, rfl, l, _, rfl, .inl (.inl (.inl hl4)), _, _, rfl, rfl, decide (((iVs (unM (its.take i))).length : Int) > 400), rfl, ?_⟩⟩
        by_cases c : (unM (its.take i)).length ≤ 400
        · rw [ll, decide_eq_false (by omega)]
          refine iteF ⟨_, rfl, _, rfl, isi_mk (hdx.same s4).ty (kit_tuple _) ?_⟩
          have L1 := Lk_1 k
          rcases hr2 with ⟨j, rfl, rfl⟩ | ⟨b, t, rfl, rfl, t7, lb⟩
          · have eT : isT (It.D (.deed j)) = false := by simp [It.D, isT]
            rw [eT]
            have eu : unI (.deed j) = [j] := by simp [unI]
            refine ⟨_, rfl, iteF ⟨_, rfl, l, z, _, _, rfl, rfl, hl4, hz, by rw [ll, ll, sizeLine_eq]; show _ + 1 ≤ _; omega, fun o ho => ?_⟩⟩
            refine ⟨o, _, _, rfl, s24.trans (same_upd ho), ?_, ?_⟩
            · rw [upd_same, tk, eu]
              unfold iVs
              rw [List.map_append]
            · rw [tk, eu, List.length_append]
              show _ + 1 ≤ _
              omega
          · obtain ⟨u, a2, xs2, rfl, hu, gb, ne2, ha2⟩ := it_lap (hdx.same s4)
            have eT : isT (It.D (.lap b t)) = true := by simp [It.D, isT]
            rw [eT]
            have eu : unI (.lap b t) = (List.replicate t (unM b)).flatten := by simp [unI]
            have lt7 : (unM b).length * t ≤ (unM b).length * 7 := Nat.mul_le_mul_left _ t7
            have lr : ((List.replicate t (unM b)).flatten).length = (unM b).length * t := by rw [List.length_flatten, List.map_replicate, List.sum_replicate_nat, Nat.mul_comm]
            refine ⟨_, rfl, iteT ⟨_, rfl, _, rfl, u, _, _, _, rfl, rfl, .inl (.inl hu), rfl, z, t, _, rfl, rfl, hz, by omega, by omega, by rw [ll, sizeLine_eq, Int.toNat_natCast]; omega, fun o ho => ?_⟩⟩
            have so := same_upd (o := .lst (List.replicate ((t : Int)).toNat (iVs (unM b))).flatten) ho
            have er : (List.replicate ((t : Int)).toNat (iVs (unM b))).flatten = iVs ((List.replicate t (unM b)).flatten) := by
              unfold iVs
              rw [Int.toNat_natCast, List.map_flatten, List.map_replicate]
            refine ⟨l, o, _, _, rfl, rfl, so _ _ hl4, upd_same, by rw [er, ll, ll, lr, sizeLine_eq]; omega, fun o2 ho2 => ?_⟩
            refine ⟨o2, _, _, rfl, (s24.trans so).trans (same_upd ho2), ?_, ?_⟩
            · rw [upd_same, tk, eu, er]
              unfold iVs
              rw [List.map_append]
            · rw [tk, eu, List.length_append, lr]
              omega
        · rw [ll, decide_eq_true (by omega)]
          exact iteT (q .non H4 s24 (.inl rfl))
end
end L2.K75
end

section
set_option Elab.async false
set_option linter.all false
set_option maxRecDepth 100000
set_option maxHeartbeats 1000000
namespace L2.K75
open PySem PySem.Spec PyProof.Rows L2.Gd
/-! ### steps that can be done -/
def iD (r : List Nat) : List PyData := r.map fun i : Nat => PyData.int (i : Int)
theorem iV_dps {K : PySem.W.Frag} {H : Hp} : ∀ r : List Nat, DpAll K H (iVs r) (iD r)
  | [] => .nil
  | i :: r => .cons (.int _) (iV_dps r)
theorem iD_lay : ∀ r : List Nat, PyData.canLayAll0 (iD r) = true
  | [] => by simp [iD, PyData.canLayAll0]
  | i :: r => by
    have := iD_lay r
    unfold iD at *
    simp [PyData.canLayAll0, PyData.canLay0, this]
theorem iD_dep : ∀ r : List Nat, PyData.depthAll (iD r) = 0
  | [] => by simp [iD, PyData.depthAll]
  | i :: r => by
    have := iD_dep r
    unfold iD at *
    simp [PyData.depthAll, PyData.depth, this]
theorem iD_shaped (r : List Nat) : SeqAt.shaped (.list (iD r)) = true := by
  show (PyData.canLay0 (.list (iD r)) && decide (PyData.depth (.list (iD r)) ≤ 64)) = true
  rw [Bool.and_eq_true]
  refine ⟨by simp only [PyData.canLay0]; exact iD_lay r, decide_eq_true ?_⟩
  simp only [PyData.depth, iD_dep]
  decide
theorem iD_nil (r : List Nat) : PyData.eqv (.list (iD r)) (.list []) = decide (r = []) := by
  cases r with
  | nil => simp [iD, PyData.eqv, PyData.eqvAll]
  | cons x r => simp [iD, PyData.eqv, PyData.eqvAll]
theorem iVs_app (a b : List Nat) : iVs (a ++ b) = iVs a ++ iVs b := List.map_append
theorem iVs_len (r : List Nat) : (iVs r).length = r.length := List.length_map _
def spSt : Sp := fun vs H Q _ => ∃ (p D t : Addr) (ys : List V) (ds : List Dd) (m : Int) (x : Int × Int) (k : Nat), vs = [.ref p, .ref D, .ref t, .int (k : Nat)] ∧ PotAt H p ∧ DsAt H D ys ds m ∧ D ≠ p ∧ ds.length ≤ 60 ∧ H t = some (.tup [.int x.1, .int x.2]) ∧ k ≤ 20 ∧
  ∀ l r H', H l = none → H' l = some (.lst (iVs r)) → PotAt H' p → ButD p H H' → (∀ i ∈ r, i < ds.length) → r.length ≤ k → Q (.ref l) H'
def NSt : List Str := ["_law_pot_here", "_law_deeds", "_law_stand", "_law_many", "_law_found", "_law_here", "_law_turn", "_law_can_here", "_law_deed", "_law_at"]
theorem scSt : FnScope NSt ["_law_pot_here", "_law_deeds", "_law_stand", "_law_many"] (defScope (top 52)) := ⟨rfl, rfl, rfl, by decide +kernel, rfl, by decide +kernel, by decide +kernel⟩
section
variable {P : Program} {w : World} {K : PySem.W.Frag} {mg : Str → Option Value} {base : Heap} {C C2 : Addr}
theorem ok_st {f : Addr} {fd : FuncData} (F : Fun K "_law_steps" "_law_steps" (top 52) f fd) (n : Nm mg) (GC : Fn P w K mg base 1 "_law_can" ["_law_deed", "_law_here", "_law_number"] spCan) (PK : Fn P w K mg base 2 "_law_pick" ["_law_pot_here", "_law_some"] spPick) :
    FnOk P w K mg base CX0 3 f fd ["_law_pot_here", "_law_deeds", "_law_stand", "_law_many"] spSt := by
  refine F.ok scSt (fun vs H Q E h => ?_) (fun cdv A outer s H vs Q E hr h => ?_)
  · obtain ⟨p, D, t, ys, ds, m, x, k, rfl, _⟩ := h
    rfl
  · obtain ⟨p, D, t, ys, ds, m, x, k, rfl, hp, dA, nDp, d60, ht, k20, q⟩ := h
    have N := scSt.nd
    have r1 := hr.mono (k := 2) (j := 1) (by decide)
    have yl := Paired.length dA.dd
    refine ⟨_, pss_cons (ps_asg (pe_tup (pa_cons (pe_lst pa_nil) (pa_cons (pv 2) pa_nil))) (pg_tup rfl (pgs_cons (pg_name (i := 4) N rfl (.inl rfl)) (pgs_cons (pg_name (i := 5) N rfl (.inr rfl)) pgs_nil))))
      (pss_cons (ps_for PassesOwn.never rfl (pi_range1 (by rfl) n.range (pa_cons (pv 3) pa_nil)) (pg_name (i := 6) N rfl (.inl rfl))
        (pss_cons (ps_setLc (i := 7) (own := [("_law_at", 9)]) (g := gName 9) (by rfl) N rfl rfl (sw_true rfl rfl rfl (by decide +kernel)) (pi_range1 (by rfl) n.range (pa_cons (pe_callB call_len_seq (by rfl) n.len PySem.boot_len (pa_cons (pv 1) pa_nil)) pa_nil)) (blkOk_by (N := NSt) (sc := defScope (top 52)) (by decide +kernel)) (fun _ _ _ _ _ => pg_name (i := 9) N rfl (.inl rfl))
            (fun _ _ _ _ _ => pts_one (pt_val (pe_fn GC r1 (pa_cons (pe_ix (r := rIxL K) ix_list (pv 1) (pv 9) (fun _ _ => rfl)) (pa_cons (pe_ix (r := rIxT K) ix_tup (pv 5) pe_int (fun _ _ => rfl)) (pa_cons (pe_ix (r := rIxT K) ix_tup (pv 5) pe_int (fun _ _ => rfl)) pa_nil)))))) (fun _ _ _ _ _ => pv 9))
        (pss_one (ps_if (pt_cmpR (op_neD hr.units) (pv 7) (pe_lst pa_nil) (nomark _))
          (pss_cons (ps_expr (pe_bm PySem.F.plainAttrs_list PySem.F.slot_list_append PySem.F.type_list_append mt_append (pv 4) (pa_cons (pe_fn PK hr (pa_cons (pv 0) (pa_cons (pv 7) pa_nil))) pa_nil)))
          (pss_cons (ps_set (i := 8) N rfl (.inl rfl) (pe_ix ix_list (pv 1) (pe_ix ix_list (pv 4) (pe_un un_neg pe_int) (fun _ _ => rfl)) (fun _ _ => rfl)))
          (pss_one (ps_set (i := 5) N rfl (.inr rfl) (pe_tup (pa_cons (pe_ix ix_tup (pv 8) pe_int (fun _ _ => rfl)) (pa_cons (pe_op op_add (pe_ix ix_tup (pv 5) pe_int (fun _ _ => rfl)) (pe_ix ix_tup (pv 8) pe_int (fun _ _ => rfl))) pa_nil))))))) pss_nil))))
      (pss_one (ps_ret (pv 4)))), ?_⟩
    refine seqV (Good := fun σ2 H1 => ∃ l, H l = none ∧ Same H H1 ∧ H1 l = some (.lst (iVs [])) ∧ σ2 = [some (.ref p), some (.ref D), some (.ref t), some (.int (k : Nat)), some (.ref l), some (.ref t), none, none, none, none]) ?_ ?_
    · intro nx hnx
      refine ⟨(by show 0 ≤ sizeLine; decide), fun l hl => ⟨_, rfl, (by show 2 ≤ sizeLine; decide), fun o ho => ⟨o, _, rfl, .inl (.inl upd_same), rfl, _, _, rfl, _, _, rfl, rfl, ?_⟩⟩⟩
      have s1 := same_upd (o := .lst []) hl
      have s2 := same_upd (o := .tup [V.ref l, V.ref t]) ho
      exact hnx _ _ ⟨l, hl, s1.trans s2, s2 _ _ upd_same, rfl⟩
    rintro _ H1 ⟨l, nl, s1, hl, rfl⟩
    have nlp : l ≠ p := fun z => by
      obtain ⟨_, _, e, _⟩ := hp
      rw [← z, nl] at e
      exact nomatch e
    refine ⟨_, rfl, k, rfl, by omega, by omega, for_range (lo := 0) (n := ((k : Nat) : Int).toNat) (fun i σ H2 => ∃ (r : List Nat) (th : Addr) (x : Int × Int) (x6 x7 x8 : Option V), σ = [some (.ref p), some (.ref D), some (.ref t), some (.int (k : Nat)), some (.ref l), some (.ref th), x6, x7, x8, none] ∧ PotAt H2 p ∧ ButD p H H2 ∧ H2 l = some (.lst (iVs r)) ∧ H2 th = some (.tup [.int x.1, .int x.2]) ∧ (∀ i ∈ r, i < ds.length) ∧ r.length ≤ i)
      ⟨[], t, x, none, none, none, rfl, hp.same s1, Same.but s1, hl, s1 _ _ ht, (fun _ z => nomatch z), Nat.le_refl _⟩ ?_ ?_⟩
    · rintro i σ H2 hi ⟨r, th, x, x6, x7, x8, rfl, hp2, b2, hl2, hth, lt, le⟩
      refine gn ?_
      have dA2 : DsAt H2 D ys ds m := ⟨b2 _ _ nDp dA.hD, DdAll.pot hp b2 dA.dd, dA.ok⟩
      refine seqV (Good := fun σ2 H3 => ∃ (o2 : Addr) (cs : List Nat), H2 o2 = none ∧ Same H2 H3 ∧ H3 o2 = some (.lst (iVs cs)) ∧ (∀ i ∈ cs, i < ds.length) ∧ cs.length ≤ ds.length ∧ σ2 = [some (.ref p), some (.ref D), some (.ref t), some (.int (k : Nat)), some (.ref l), some (.ref th), some (.int (0 + (i : Int))), some (.ref o2), x8, none]) ?_ ?_
      · intro nx hnx
        refine ⟨_, rfl, D, ys, rfl, .inl (.inl (.inl dA2.hD)), ys.length, rfl, by omega, by omega, fun o2 ho2 => ?_⟩
        refine lc_range (lo := 0) (n := ((ys.length : Nat) : Int).toNat) (fun j H4 => ButD o2 H2 H4 ∧ ∃ cs : List Nat, H4 o2 = some (.lst (iVs cs)) ∧ (∀ i ∈ cs, i < ds.length) ∧ cs.length ≤ j) ⟨.start, [], upd_same, (fun _ z => nomatch z), Nat.zero_le _⟩ ?_ ?_
        · rintro j H4 hj ⟨b4, cs, h4, lt4, le4⟩
          have s4 := b4.new ho2
          have jl : j < ds.length := by omega
          have dA4 := dA2.same s4
          have hyk : ys[j]? = some ys[j] := List.getElem?_eq_getElem (by omega)
          obtain ⟨d1, hd1, td, ed, htd⟩ := Paired.at dA4.dd hyk
          rw [ed] at hyk
          have e0 : (0 : Int) + (j : Int) = (j : Int) := Int.zero_add _
          refine ⟨rfl, ?_⟩
          rw [e0]
          refine ⟨_, rfl, _, rfl, D, ys, _, _, rfl, rfl, .inl (.inl dA4.hD), atI_nat hyk, _, rfl, th, _, _, _, rfl, rfl, .inl (.inl (s4 _ _ hth)), rfl, _, rfl, th, _, _, _, rfl, rfl, .inl (.inl (s4 _ _ hth)), rfl, td, d1, x, rfl, htd, canB d1 x, rfl, ?_⟩
          cases canB d1 x with
          | false => exact iteF ⟨b4, cs, h4, lt4, by omega⟩
          | true =>
            refine iteT ⟨_, rfl, _, h4, by rw [iVs_len, sizeLine_eq]; omega, b4.put, cs ++ [j], ?_, fun i hi => ?_, by rw [List.length_append]; show cs.length + 1 ≤ _; omega⟩
            · rw [upd_same, iVs_app]
              rfl
            · rcases List.mem_append.mp hi with hi | hi
              · exact lt4 i hi
              · rw [List.mem_singleton.mp hi]
                exact jl
        · rintro H4 ⟨b4, cs, h4, lt4, le4⟩
          exact hnx _ _ ⟨o2, cs, ho2, b4.new ho2, h4, lt4, by omega, rfl⟩
      rintro _ H3 ⟨o2, cs, no2, s3, ho2, ltc, lec, rfl⟩
      have hp3 := hp2.same s3
      have b3 := ButD.trans b2 (Same.but (D := p) s3)
      have hl3 := s3 _ _ hl2
      have hth3 := s3 _ _ hth
      refine ⟨_, rfl, (by show 0 ≤ sizeLine; decide), fun e he => ?_⟩
      have se := same_upd (o := .lst []) he
      refine ⟨_, .list [], .lst (.inl (.inl (se _ _ ho2))) (iV_dps cs), .lst (.inl (.inl upd_same)) .nil, iD_shaped _, by decide +kernel, !decide (cs = []), congrArg (fun b => V.bl (!b)) (iD_nil cs), ?_⟩
      by_cases c : cs = []
      · rw [decide_eq_true c]
        exact iteF ⟨r, th, x, _, _, _, rfl, hp3.same se, ButD.trans b3 (Same.but se), se _ _ hl3, se _ _ hth3, lt, by omega⟩
      · rw [decide_eq_false c]
        have no2p : o2 ≠ p := fun z => by
          obtain ⟨_, _, e, _⟩ := hp2
          rw [← z, no2] at e
          exact nomatch e
        have cl : 0 < cs.length := List.length_pos_iff.mpr c
        have hp4 := hp3.same se
        have hl4 := se _ _ hl3
        refine iteT ?_
        refine seqV (Good := fun σ2 H5 => ∃ j, j < ds.length ∧ PotAt H5 p ∧ ButD p H H5 ∧ H5 l = some (.lst (iVs (r ++ [j]))) ∧ H5 th = some (.tup [.int x.1, .int x.2]) ∧ σ2 = [some (.ref p), some (.ref D), some (.ref t), some (.int (k : Nat)), some (.ref l), some (.ref th), some (.int (0 + (i : Int))), some (.ref o2), x8, none]) ?_ ?_
        · intro nx hnx
          refine ⟨_, rfl, .inl ⟨rfl, _, .inl (.inl hl4)⟩, _, rfl, _, rfl, p, o2, iVs cs, rfl, hp4, se _ _ ho2, no2p, by rw [iVs_len]; exact cl, by rw [iVs_len]; omega, fun v H5 hv hp5 b5 => ?_⟩
          unfold iVs at hv
          obtain ⟨j, hj, rfl⟩ := List.mem_map.mp hv
          have hl5 := b5 _ _ nlp hl4
          refine ⟨l, _, _, rfl, rfl, hl5, by rw [iVs_len, sizeLine_eq]; omega, hnx _ _ ⟨j, ltc j hj, ?_, ?_, ?_, ?_, rfl⟩⟩
          · obtain ⟨a, b, e, z⟩ := hp5
            exact ⟨a, b, by rw [upd_ne nlp.symm]; exact e, z⟩
          · intro b o ne e
            rw [upd_ne (ne_of_none e nl)]
            exact b5 _ _ ne (se _ _ (b3 _ _ ne e))
          · rw [upd_same, iVs_app]
            rfl
          · rw [upd_ne (fun z => by rw [z, hl2] at hth; exact nomatch hth)]
            exact b5 _ _ (pot_ne hp4 (se _ _ hth3)) (se _ _ hth3)
        rintro _ H5 ⟨j, jl, hp5, b5, hl5, hth5, rfl⟩
        have dA5 : DsAt H5 D ys ds m := ⟨b5 _ _ nDp dA.hD, DdAll.pot hp b5 dA.dd, dA.ok⟩
        have hyk : ys[j]? = some ys[j] := List.getElem?_eq_getElem (by omega)
        obtain ⟨d1, hd1, td, ed, htd⟩ := Paired.at dA5.dd hyk
        rw [ed] at hyk
        have hlast : atI (iVs (r ++ [j])) (-1) = some (.int (j : Nat)) := by
          rw [iVs_app]
          exact atI_last _ _
        refine ⟨_, rfl, _, rfl, 1, rfl, l, _, _, _, rfl, rfl, .inl (.inl hl5), hlast, D, ys, _, _, rfl, rfl, .inl (.inl dA5.hD), atI_nat hyk, ?_⟩
        refine ⟨_, rfl, td, _, _, _, rfl, rfl, .inl (.inl htd), rfl, _, rfl, th, _, _, _, rfl, rfl, .inl (.inl hth5), rfl, _, rfl, td, _, _, _, rfl, rfl, .inl (.inl htd), rfl, _, _, rfl, rfl, (by show 2 ≤ sizeLine; decide), fun o ho => ?_⟩
        have so := same_upd (o := .tup [V.int d1.g, V.int (x.2 + d1.c)]) ho
        exact ⟨r ++ [j], o, (d1.g, x.2 + d1.c), _, _, _, rfl, hp5.same so, ButD.trans b5 (Same.but so), so _ _ hl5, upd_same, fun i hi => (List.mem_append.mp hi).elim (lt i) fun z => by rw [List.mem_singleton.mp z]; exact jl, by rw [List.length_append]; show r.length + 1 ≤ _; omega⟩
    · rintro σ H2 ⟨r, th, x, x6, x7, x8, rfl, hp2, b2, hl2, hth, lt, le⟩
      exact ⟨_, rfl, q l r H2 nl hl2 hp2 b2 lt (by omega)⟩
end
end L2.K75
end

section
set_option Elab.async false
set_option linter.all false
set_option maxRecDepth 100000
set_option maxHeartbeats 1000000
namespace L2.K75
open PySem PySem.Spec PyProof.Rows L2.Gd
/-! ### what is told of items fits -/
-- weight of items
mutual
def ndI : It → Nat
  | .deed _ => 92
  | .lap b _ => ndM b + 94
def ndM : List It → Nat
  | [] => 0
  | x :: r => ndI x + ndM r
end
-- all numbers below 2 ^ 90
mutual
def smI : It → Prop
  | .deed i => i < 2 ^ 90
  | .lap b t => smM b ∧ t < 2 ^ 90
def smM : List It → Prop
  | [] => True
  | x :: r => smI x ∧ smM r
end
theorem ndM_app : ∀ a b : List It, ndM (a ++ b) = ndM a + ndM b
  | [], b => by simp [ndM]
  | x :: r, b => by
    show ndI x + ndM (r ++ b) = ndI x + ndM r + ndM b
    rw [ndM_app r b]
    omega
theorem smM_app : ∀ {a b : List It}, smM a → smM b → smM (a ++ b)
  | [], _, _, h => h
  | _ :: _, _, h, k => ⟨h.1, smM_app h.2 k⟩
theorem big_log {i : Int} (h : i.natAbs < 2 ^ 90) : i.natAbs.log2 < 90 := by
  by_cases c : i.natAbs = 0
  · rw [c]
    decide
  · exact (Nat.log2_lt c).mpr h
theorem shown_big {i : Int} (h : i.natAbs < 2 ^ 90) : (PyData.shown (.int i)).length ≤ 91 := by
  have e := int_text_length_le (a := i) (k := 90) (by decide) (big_log h)
  show (Str.ofString (toString i)).length ≤ 91
  rw [PySem.ofString_length]
  exact e
theorem int_w {i : Int} (h : i.natAbs < 2 ^ 90) : (PyData.int i).weight ≤ 91 := by
  have l := big_log h
  show (if i == 0 then 0 else i.natAbs.log2 + 1) ≤ 91
  split <;> omega
structure SwD (d : PyData) (W D : Nat) : Prop where
  w : d.weight ≤ W
  l : PyData.leavesShort 100 d = true
  s : d.showable = true
  h : d.hasDict = false
  d : d.depth ≤ D
structure SwL (ds : List PyData) (W D : Nat) : Prop where
  w : PyData.weightAll ds ≤ W
  l : PyData.leavesShortAll 100 ds = true
  s : PyData.showableAll ds = true
  h : PyData.hasDictAll ds = false
  d : PyData.depthAll ds ≤ D
theorem SwD.int {i : Int} (h : i.natAbs < 2 ^ 90) (D : Nat) : SwD (.int i) 91 D :=
  ⟨int_w h, decide_eq_true (Nat.le_trans (shown_big h) (by decide)), decide_eq_true (show i.natAbs.log2 < 1920 by have := big_log h; omega), rfl, Nat.zero_le _⟩
theorem SwL.nil (D : Nat) : SwL [] 0 D := ⟨by simp [PyData.weightAll], by simp [PyData.leavesShortAll], by simp [PyData.showableAll], by simp [PyData.hasDictAll], by simp [PyData.depthAll]⟩
theorem SwL.cons {d : PyData} {ds : List PyData} {W W' D : Nat} (h : SwD d W D) (k : SwL ds W' D) : SwL (d :: ds) (W + 1 + W') D :=
  ⟨by have := h.w; have := k.w; simp only [PyData.weightAll]; omega, by simp [PyData.leavesShortAll, h.l, k.l], by simp [PyData.showableAll, h.s, k.s], by simp [PyData.hasDictAll, h.h, k.h], by have := h.d; have := k.d; simp only [PyData.depthAll]; omega⟩
theorem SwL.lst {ds : List PyData} {W D : Nat} (h : SwL ds W D) : SwD (.list ds) W (D + 1) := ⟨by simp only [PyData.weight]; exact h.w, by simp [PyData.leavesShort, h.l], by simp [PyData.showable, h.s], by simp [PyData.hasDict, h.h], by have := h.d; simp only [PyData.depth]; omega⟩
theorem SwL.tup {ds : List PyData} {W D : Nat} (h : SwL ds W D) : SwD (.tuple ds) W (D + 1) := ⟨by simp only [PyData.weight]; exact h.w, by simp [PyData.leavesShort, h.l], by simp [PyData.showable, h.s], by simp [PyData.hasDict, h.h], by have := h.d; simp only [PyData.depth]; omega⟩
theorem SwD.mono {d : PyData} {W W' D D' : Nat} (h : SwD d W D) (a : W ≤ W') (b : D ≤ D') : SwD d W' D' := ⟨Nat.le_trans h.w a, h.l, h.s, h.h, Nat.le_trans h.d b⟩
theorem SwL.mono {d : List PyData} {W W' D D' : Nat} (h : SwL d W D) (a : W ≤ W') (b : D ≤ D') : SwL d W' D' := ⟨Nat.le_trans h.w a, h.l, h.s, h.h, Nat.le_trans h.d b⟩
mutual
theorem sw_I : ∀ x : It, smI x → SwD (It.D x) (ndI x - 1) (2 * dpI x)
  | .deed i, h => by
    have e : It.D (.deed i) = .int (i : Int) := by simp [It.D]
    rw [e]
    exact (SwD.int (i := (i : Int)) h 0).mono (by show 91 ≤ 92 - 1; decide) (Nat.zero_le _)
  | .lap b t, h => by
    have e : It.D (.lap b t) = .tuple [.list (It.DL b), .int (t : Int)] := by simp [It.D]
    rw [e]
    have hb := (sw_M b h.1).lst
    have := SwL.tup (SwL.cons hb (SwL.cons (SwD.int (i := (t : Int)) h.2 (2 * dpM b + 1)) (SwL.nil _)))
    exact this.mono (by show _ ≤ ndM b + 94 - 1; omega) (by show _ ≤ 2 * (dpM b + 1); omega)
theorem sw_M : ∀ l : List It, smM l → SwL (It.DL l) (ndM l) (2 * dpM l)
  | [], _ => by
    have e : It.DL [] = [] := by simp [It.DL]
    rw [e]
    exact (SwL.nil 0).mono (Nat.zero_le _) (Nat.zero_le _)
  | x :: r, h => by
    have e : It.DL (x :: r) = It.D x :: It.DL r := by simp [It.DL]
    rw [e]
    have n1 : 1 ≤ ndI x := by cases x <;> simp [ndI]
    have d : 2 * dpI x ≤ 2 * max (dpI x) (dpM r) := by omega
    have d2 : 2 * dpM r ≤ 2 * max (dpI x) (dpM r) := by omega
    have := SwL.cons ((sw_I x h.1).mono (Nat.le_refl _) d) ((sw_M r h.2).mono (Nat.le_refl _) d2)
    exact this.mono (by show _ ≤ ndI x + ndM r; omega) (Nat.le_refl _)
end
theorem SwD.showy {d : PyData} {W D : Nat} (h : SwD d W D) (w : W ≤ 100000) (k : D ≤ 20) : Showy d := by
  have b := PyData.shown_le 100 (by decide) d h.l
  refine ⟨h.s, h.h, Nat.le_trans h.d k, ?_⟩
  rw [sizeLine_eq]
  have hw := h.w
  have : (100 + 2) * d.weight + 100 ≤ (100 + 2) * 100000 + 100 := Nat.add_le_add_right (Nat.mul_le_mul_left _ (by omega)) _
  omega
end L2.K75
end

section
set_option Elab.async false
set_option linter.all false
set_option maxRecDepth 100000
set_option maxHeartbeats 1000000
namespace L2.K75
open PySem PySem.Spec PyProof.Rows L2.Gd
/-! ### one item -/
theorem ds_DL : ∀ r : List Nat, It.DL (r.map It.deed) = iD r
  | [] => by simp [It.DL, iD]
  | i :: r => by
    have := ds_DL r
    unfold iD at *
    simp [It.DL, It.D, this]
theorem ds_un : ∀ r : List Nat, unM (r.map It.deed) = r
  | [] => by simp [unM]
  | i :: r => by
    have := ds_un r
    simp [unM, unI, this]
theorem ds_ok {n : Nat} : ∀ {r : List Nat}, (∀ i ∈ r, i < n) → okM n (r.map It.deed)
  | [], _ => trivial
  | i :: r, h => ⟨h i List.mem_cons_self, ds_ok fun j hj => h j (List.mem_cons_of_mem _ hj)⟩
theorem ds_fw : ∀ r : List Nat, fwM (r.map It.deed)
  | [] => trivial
  | i :: r => ⟨trivial, ds_fw r⟩
theorem ds_dp : ∀ r : List Nat, dpM (r.map It.deed) = 0
  | [] => by simp [dpM]
  | i :: r => by
    have := ds_dp r
    simp [dpM, dpI, this]
theorem ds_dv {p : Addr} {H : Hp} : ∀ r : List Nat, DVs p H (iVs r) (iD r)
  | [] => .nil
  | i :: r => .cons (.int _) (ds_dv r)
/-- what is drawn -/
structure GI (n k m L W : Nat) (its : List It) : Prop where
  ok : okM n its
  fw : fwM its
  dp : dpM its ≤ k
  ln : its.length ≤ m
  un : (unM its).length ≤ L
  nd : ndM its ≤ W
  sm : smM its
theorem ds_nd : ∀ r : List Nat, ndM (r.map It.deed) = 92 * r.length
  | [] => by simp [ndM]
  | i :: r => by
    have := ds_nd r
    show 92 + ndM (r.map It.deed) = 92 * (r.length + 1)
    omega
theorem ds_sm : ∀ {r : List Nat}, (∀ i ∈ r, i < 60) → smM (r.map It.deed)
  | [], _ => trivial
  | i :: r, h => ⟨Nat.lt_trans (h i List.mem_cons_self) (by decide), ds_sm fun j hj => h j (List.mem_cons_of_mem _ hj)⟩
theorem un_lap (b : List It) (t : Nat) : (unM [.lap b t]).length = (unM b).length * t := by
  have : unM [It.lap b t] = (List.replicate t (unM b)).flatten := by simp [unM, unI]
  rw [this, List.length_flatten, List.map_replicate, List.sum_replicate_nat, Nat.mul_comm]
theorem GI.lap {n k m L W t T : Nat} {b : List It} (g : GI n k m L W b) (ht : t ≤ T) (hT : T < 2 ^ 90) (hL : L < 2 ^ 150) (hm : m ≤ 10000) : GI n (k + 1) 1 (L * T) (W + 94) [.lap b t] := by
  have hd : dpM [It.lap b t] = max (dpM b + 1) 0 := by simp [dpM, dpI]
  exact ⟨⟨g.ok, trivial⟩, ⟨⟨Nat.lt_trans (Nat.lt_of_le_of_lt ht hT) (Nat.pow_lt_pow_right (by decide) (by decide)), Nat.lt_of_le_of_lt g.un hL, Nat.le_trans g.ln hm, g.fw⟩, trivial⟩, by rw [hd]; have := g.dp; omega, Nat.le_refl _, by rw [un_lap]; exact Nat.mul_le_mul g.un ht, by show ndM b + 94 + 0 ≤ _; have := g.nd; omega, ⟨⟨g.sm, Nat.lt_of_le_of_lt ht hT⟩, trivial⟩⟩
def spIt : Sp := fun vs H Q _ => ∃ (p D t : Addr) (ys : List V) (ds : List Dd) (m : Int) (x : Int × Int), vs = [.ref p, .ref D, .ref t] ∧ PotAt H p ∧ DsAt H D ys ds m ∧ D ≠ p ∧ ds.length ≤ 60 ∧ H t = some (.tup [.int x.1, .int x.2]) ∧
  ∀ l xs its H', H l = none → LsAt p H' l xs its → GI ds.length 2 1 (8 * 10 ^ 20) 556 its → PotAt H' p → ButD p H H' → Q (.ref l) H'
def NIt : List Str := ["_law_pot_here", "_law_deeds", "_law_stand", "_law_steps_here", "_law_inner", "_law_times"]
theorem scIt : FnScope NIt ["_law_pot_here", "_law_deeds", "_law_stand"] (defScope (top 53)) := ⟨rfl, rfl, rfl, by decide +kernel, rfl, by decide +kernel, by decide +kernel⟩
section
variable {P : Program} {w : World} {K : PySem.W.Frag} {mg : Str → Option Value} {base : Heap} {C C2 : Addr}
abbrev σI (p D t l : Addr) (x4 x5 : Option V) : L2.St := [some (.ref p), some (.ref D), some (.ref t), some (.ref l), x4, x5]
theorem ok_it {f : Addr} {fd : FuncData} (F : Fun K "_law_item" "_law_item" (top 53) f fd) (n : Nm mg) (ST : Fn P w K mg base 3 "_law_steps" ["_law_pot_here", "_law_deeds", "_law_stand", "_law_many"] spSt) (DR : Fn P w K mg base 1 "_law_draw" ["_law_pot_here", "_law_many"] spDraw)
    (PK : Fn P w K mg base 2 "_law_pick" ["_law_pot_here", "_law_some"] spPick) : FnOk P w K mg base CX0 4 f fd ["_law_pot_here", "_law_deeds", "_law_stand"] spIt := by
  refine F.ok scIt (fun vs H Q E h => ?_) (fun cdv A outer s H vs Q E hr h => ?_)
  · obtain ⟨p, D, t, ys, ds, m, x, rfl, _⟩ := h
    rfl
  · obtain ⟨p, D, t, ys, ds, m, x, rfl, hp, dA, nDp, d60, ht, q⟩ := h
    have N := scIt.nd
    have r1 := hr.mono (k := 3) (j := 1) (by decide)
    have r2 := hr.mono (k := 3) (j := 2) (by decide)
    refine ⟨_, pss_cons (ps_set (i := 3) N rfl (.inl rfl) (pe_fn ST hr (pa_cons (pv 0) (pa_cons (pv 1) (pa_cons (pv 2) (pa_cons (pe_op op_add pe_int (pe_fn DR r1 (pa_cons (pv 0) (pa_cons pe_int pa_nil)))) pa_nil))))))
      (pss_cons (ps_if (pw_or (pt_cmpR (op_eqD hr.units) (pv 3) (pe_lst pa_nil) (nomark _)) (pw_or1 (pt_cmpR op_eq (pe_fn DR r1 (pa_cons (pv 0) (pa_cons pe_int pa_nil))) pe_int (nomark _)))).pt (pss_one (ps_ret (pe_slice sl_list (pv 3) po_none (po_some pe_int)))) pss_nil)
      (pss_cons (ps_set (i := 4) N rfl (.inl rfl) (pe_ifExp (pt_cmpR op_gt (pe_fn DR r1 (pa_cons (pv 0) (pa_cons pe_int pa_nil))) pe_int (nomark _)) (pv 3) (pe_lst (pa_cons (pe_tup (pa_cons (pv 3) (pa_cons (pe_op op_add pe_int (pe_fn DR r1 (pa_cons (pv 0) (pa_cons pe_int pa_nil)))) pa_nil))) pa_nil))))
      (pss_cons (ps_set (i := 5) N rfl (.inl rfl) (pe_fn PK r2 (pa_cons (pv 0) (pa_cons (pe_lst (pa_cons pe_int (pa_cons pe_int (pa_cons pe_int (pa_cons pe_int (pa_cons pe_int (pa_cons (pe_op op_pow pe_int pe_int)
          (pa_cons (pe_callB (call_max2 rfl) (by rfl) n.max (by decide +kernel) (pa_cons pe_int (pa_cons (pe_callB (call_min2 rfl) (by rfl) n.min (by decide +kernel) (pa_cons (pe_op op_pow pe_int pe_int) (pa_cons (pe_op op_fdiv (pe_ix ix_tup (pv 2) pe_int (fun _ _ => rfl)) pe_int) pa_nil))) pa_nil)))
          (pa_cons (pe_callB (call_max2 rfl) (by rfl) n.max (by decide +kernel) (pa_cons pe_int (pa_cons (pe_callB (call_min2 rfl) (by rfl) n.min (by decide +kernel) (pa_cons (pe_op op_pow pe_int pe_int) (pa_cons (pe_op op_fdiv (pe_ix ix_tup (pv 2) pe_int (fun _ _ => rfl)) pe_int) pa_nil))) pa_nil))) pa_nil))))))))) pa_nil))))
      (pss_one (ps_ret (pe_lst (pa_cons (pe_tup (pa_cons (pv 4) (pa_cons (pv 5) pa_nil))) pa_nil))))))), ?_⟩
    -- steps
    refine seqV (Good := fun σ2 H1 => ∃ (l : Addr) (r : List Nat), H l = none ∧ l ≠ p ∧ H1 l = some (.lst (iVs r)) ∧ PotAt H1 p ∧ ButD p H H1 ∧ (∀ i ∈ r, i < ds.length) ∧ r.length ≤ 4 ∧ σ2 = σI p D t l none none) ?_ ?_
    · intro nx hnx
      refine ⟨_, rfl, _, rfl, _, rfl, _, rfl, p, 4, rfl, hp, by decide, by decide, fun d H1 d0 d4 hp1 b1 => ?_⟩
      obtain ⟨k, rfl⟩ : ∃ k : Nat, d = k := ⟨d.toNat, by omega⟩
      refine ⟨_, _, rfl, rfl, p, D, t, ys, ds, m, x, 1 + k, ?_, hp1, ⟨b1 _ _ nDp dA.hD, DdAll.pot hp b1 dA.dd, dA.ok⟩, nDp, d60, b1 _ _ (pot_ne hp ht) ht, by omega, fun l r H2 nl hl hp2 b2 lt le => ?_⟩
      · rw [show ((1 + k : Nat) : Int) = 1 + (k : Int) by omega]
        rfl
      have nl0 := pot_free hp hp1 b1 nl
      have nlp0 : l ≠ p := fun z => by
        obtain ⟨_, _, e, _⟩ := hp
        rw [← z, nl0] at e
        exact nomatch e
      exact hnx _ _ ⟨l, r, nl0, nlp0, hl, hp2, ButD.trans b1 b2, lt, by omega, rfl⟩
    rintro _ H1 ⟨l, r, nl, nlp, hl, hp1, b1, lt, le, rfl⟩
    have lt60 : ∀ i ∈ r, i < 60 := fun i hi => Nat.lt_of_lt_of_le (lt i hi) d60
    have g0 : GI ds.length 0 4 4 368 (r.map It.deed) := ⟨ds_ok lt, ds_fw r, Nat.le_of_eq (ds_dp r), by rw [List.length_map]; exact le, by rw [ds_un]; exact le, by rw [ds_nd]; omega, ds_sm lt60⟩
    -- none
    refine seqV (Good := fun σ2 H2 => H2 l = some (.lst (iVs r)) ∧ PotAt H2 p ∧ ButD p H H2 ∧ σ2 = σI p D t l none none) ?_ ?_
    · intro nx hnx
      refine ⟨_, rfl, (by show 0 ≤ sizeLine; decide), fun e he => ?_⟩
      have se := same_upd (o := .lst []) he
      have cut : ∀ H2, H2 l = some (.lst (iVs r)) → PotAt H2 p → ButD p H H2 → ∀ o, H2 o = none → Q (.ref o) (upd H2 o (.lst (cutV (iVs r) none (some 1)))) := fun H2 hl2 hp2 b2 o ho => by
        have so := same_upd (o := .lst (cutV (iVs r) none (some 1))) ho
        have e1 : cutV (iVs r) none (some 1) = iVs (r.take 1) := by
          cases r with
          | nil => rfl
          | cons i r' =>
            rw [show (1 : Int) = ((1 : Nat) : Int) from rfl, cutV_take _ (by rw [iVs_len]; show 1 ≤ r'.length + 1; omega)]
            rfl
        have nl0 := pot_free hp hp2 b2 ho
        have lt1 : ∀ i ∈ r.take 1, i < ds.length := fun i hi => lt i (List.mem_of_mem_take hi)
        have l1 : (r.take 1).length ≤ 1 := List.length_take_le 1 r
        refine q o (iVs (r.take 1)) ((r.take 1).map It.deed) _ nl0 ⟨by rw [upd_same, e1], by rw [ds_DL]; exact ds_dv _⟩ ⟨ds_ok lt1, ds_fw _, by rw [ds_dp]; exact Nat.zero_le _, by rw [List.length_map]; exact l1, by rw [ds_un]; exact Nat.le_trans l1 (by decide), by rw [ds_nd]; omega, ds_sm fun i hi => Nat.lt_of_lt_of_le (lt1 i hi) d60⟩ (hp2.same so) (ButD.trans b2 (Same.but so))
      refine ⟨_, .list [], .lst (.inl (.inl (se _ _ hl))) (iV_dps r), .lst (.inl (.inl upd_same)) .nil, iD_shaped _, by decide +kernel, decide (r = []), congrArg V.bl (iD_nil r), ?_⟩
      have hp1e := hp1.same se
      have b1e := ButD.trans b1 (Same.but se)
      have hle := se _ _ hl
      by_cases c : r = []
      · rw [decide_eq_true c]
        exact iteT ⟨_, rfl, _, rfl, l, iVs r, rfl, .inl (.inl hle), cut _ hle hp1e b1e⟩
      · rw [decide_eq_false c]
        refine iteF ⟨_, rfl, p, 3, rfl, hp1e, by decide, by decide, fun z H3 z0 z3 hp3 b3 => ⟨rfl, decide (V.int z = V.int 0), rfl, ?_⟩⟩
        have hl3 := b3 _ _ nlp hle
        have b03 := ButD.trans b1e b3
        by_cases c2 : z = 0
        · rw [decide_eq_true (by rw [c2])]
          exact iteT ⟨_, rfl, _, rfl, l, iVs r, rfl, .inl (.inl hl3), cut _ hl3 hp3 b03⟩
        · rw [decide_eq_false (fun y => c2 (V.int.inj y))]
          exact iteF (hnx _ _ ⟨hl3, hp3, b03, rfl⟩)
    clear hl hp1 b1
    rintro _ H2 ⟨hl, hp2, b2, rfl⟩
    -- inner
    refine seqV (Good := fun σ2 H3 => ∃ (a2 : Addr) (xs2 : List V) (b : List It), a2 ≠ p ∧ LsAt p H3 a2 xs2 b ∧ GI ds.length 1 4 8 462 b ∧ PotAt H3 p ∧ ButD p H H3 ∧ σ2 = σI p D t l (some (.ref a2)) none) ?_ ?_
    · intro nx hnx
      refine ⟨_, rfl, p, 3, rfl, hp2, by decide, by decide, fun z H3 z0 z3 hp3 b3 => ⟨_, _, rfl, rfl, decide (z > 0), rfl, ?_⟩⟩
      have hl3 := b3 _ _ nlp hl
      have b03 := ButD.trans b2 b3
      by_cases c : z > 0
      · rw [decide_eq_true c]
        exact iteT ⟨_, rfl, hnx _ _ ⟨l, iVs r, r.map It.deed, nlp, ⟨hl3, by rw [ds_DL]; exact ds_dv r⟩, ⟨g0.ok, g0.fw, by have := g0.dp; omega, g0.ln, by have := g0.un; omega, by have := g0.nd; omega, g0.sm⟩, hp3, b03, rfl⟩⟩
      · rw [decide_eq_false c]
        refine iteF ⟨_, rfl, _, rfl, p, 2, rfl, hp3, by decide, by decide, fun d H4 d0 d2 hp4 b4 => ⟨_, _, rfl, rfl, (by show 2 ≤ sizeLine; decide), fun o ho => ⟨(by show 1 ≤ sizeLine; decide), fun o2 ho2 => ?_⟩⟩⟩
        obtain ⟨k, rfl⟩ : ∃ k : Nat, d = k := ⟨d.toNat, by omega⟩
        have so := same_upd (o := .tup [V.ref l, V.int (1 + (k : Int))]) ho
        have s2 := same_upd (o := .lst [V.ref o]) ho2
        have hl4 := b4 _ _ nlp hl3
        have b04 := ButD.trans b03 b4
        have ne2 : o2 ≠ p := fun z => by
          obtain ⟨_, _, e, _⟩ := hp4.same so
          rw [← z, ho2] at e
          exact nomatch e
        have gl := g0.lap (t := 1 + k) (T := 2) (by omega) (by decide) (by decide) (by decide)
        have eD : It.DL [It.lap (r.map It.deed) (1 + k)] = [.tuple [.list (iD r), .int ((1 + k : Nat) : Int)]] := by
          simp [It.DL, It.D, ds_DL]
        refine hnx _ _ ⟨o2, [.ref o], [.lap (r.map It.deed) (1 + k)], ne2, ⟨upd_same, ?_⟩, ⟨gl.ok, gl.fw, gl.dp, Nat.le_trans gl.ln (by decide), gl.un, gl.nd, gl.sm⟩, (hp4.same so).same s2, ButD.trans b04 (Same.but (so.trans s2)), rfl⟩
        rw [eD]
        refine .cons (.tup (s2 _ _ upd_same) (.cons (.lst nlp (s2 _ _ (so _ _ hl4)) (ds_dv r)) ?_)) .nil
        rw [show ((1 + k : Nat) : Int) = 1 + (k : Int) by omega]
        exact .cons (.int _) .nil
    clear hl hp2 b2
    rintro _ H3 ⟨a2, xs2, b, ne2, lb, gb, hp3, b3, rfl⟩
    -- times
    refine seqV (Good := fun σ2 H4 => ∃ T : Nat, T ≤ 10 ^ 20 ∧ LsAt p H4 a2 xs2 b ∧ PotAt H4 p ∧ ButD p H H4 ∧ σ2 = σI p D t l (some (.ref a2)) (some (.int (T : Nat)))) ?_ ?_
    · intro nx hnx
      have ht3 := b3 _ _ (pot_ne hp ht) ht
      refine ⟨_, rfl, _, _, rfl, rfl, ⟨by decide, by decide, by decide⟩, _, _, rfl, rfl, ⟨by decide, by decide, by decide⟩, _, rfl, t, _, _, _, rfl, rfl, .inl (.inl ht3), rfl, _, _, rfl, rfl, ⟨by decide, by decide⟩, _, _, rfl, _, _, rfl, _, _, rfl, rfl, ⟨by decide, by decide, by decide⟩, _, rfl, t, _, _, _, rfl, rfl, .inl (.inl ht3), rfl, _, _, rfl, rfl, ⟨by decide, by decide⟩, _, _, rfl, _, _, rfl, (by show 8 ≤ sizeLine; decide), fun o ho => ?_⟩
      have so : ∀ {oo : HO}, Same H3 (upd H3 o oo) := fun {oo} => same_upd ho
      have nop : o ≠ p := fun z => by
        obtain ⟨_, _, e, _⟩ := hp3
        rw [← z, ho] at e
        exact nomatch e
      refine ⟨p, o, _, rfl, hp3.same so, upd_same, nop, by simp, by simp, fun v H4 hv hp4 b4 => ?_⟩
      have b34 := ButD.trans (Same.but (D := p) so) b4
      have e20 : (10 : Int) ^ ((20 : Int)).toNat = 100000000000000000000 := by decide
      have n20 : (10 : Nat) ^ 20 = 100000000000000000000 := by decide
      have key : ∃ T : Nat, v = .int (T : Nat) ∧ T ≤ 10 ^ 20 := by
        rw [n20]
        simp only [List.mem_cons, List.not_mem_nil, or_false] at hv
        rcases hv with rfl | rfl | rfl | rfl | rfl | rfl | rfl | rfl
        · exact ⟨0, rfl, by decide⟩
        · exact ⟨1, rfl, by decide⟩
        · exact ⟨2, rfl, by decide⟩
        · exact ⟨3, rfl, by decide⟩
        · exact ⟨7, rfl, by decide⟩
        · exact ⟨100000000000000000000, by rw [e20]; rfl, by decide⟩
        · rw [e20]
          generalize hq : (if x.2 / 3 < (100000000000000000000 : Int) then x.2 / 3 else 100000000000000000000) = u
          have hu : u ≤ 100000000000000000000 := by rw [← hq]; split <;> omega
          refine ⟨(if u > 1 then u else 1).toNat, ?_, ?_⟩
          · congr 1
            split <;> omega
          · split <;> omega
        · rw [e20]
          generalize hq : (if x.2 / 2 < (100000000000000000000 : Int) then x.2 / 2 else 100000000000000000000) = u
          have hu : u ≤ 100000000000000000000 := by rw [← hq]; split <;> omega
          refine ⟨(if u > 1 then u else 1).toNat, ?_, ?_⟩
          · congr 1
            split <;> omega
          · split <;> omega
      obtain ⟨T, rfl, hT⟩ := key
      exact hnx _ _ ⟨T, hT, ⟨b34 _ _ ne2 lb.1, DVs.but hp3 b34 lb.2⟩, hp4, ButD.trans b3 b34, rfl⟩
    rintro _ H4 ⟨T, hT, lb4, hp4, b4, rfl⟩
    refine ⟨_, rfl, _, rfl, (by show 2 ≤ sizeLine; decide), fun o ho => ⟨(by show 1 ≤ sizeLine; decide), fun o2 ho2 => ?_⟩⟩
    have so := same_upd (o := .tup [V.ref a2, V.int (T : Nat)]) ho
    have s2 := same_upd (o := .lst [V.ref o]) ho2
    have gl := gb.lap (T := 10 ^ 20) hT (by decide) (by decide) (by decide)
    have eD : It.DL [It.lap b T] = [.tuple [.list (It.DL b), .int (T : Int)]] := by simp [It.DL, It.D]
    have lb5 := (lb4.same so).same s2
    refine q o2 [.ref o] [.lap b T] _ (pot_free hp (hp4.same so) (ButD.trans b4 (Same.but so)) ho2) ⟨upd_same, ?_⟩ ⟨gl.ok, gl.fw, gl.dp, gl.ln, gl.un, gl.nd, gl.sm⟩ ((hp4.same so).same s2) (ButD.trans b4 (Same.but (so.trans s2)))
    rw [eD]
    exact .cons (.tup (s2 _ _ upd_same) (.cons (.lst ne2 lb5.1 lb5.2) (.cons (.int _) .nil))) .nil
end
end L2.K75
end

section
set_option Elab.async false
set_option linter.all false
set_option maxRecDepth 100000
set_option maxHeartbeats 1000000
namespace L2.K75
open PySem PySem.Spec PyProof.Rows L2.Gd
/-! ### a going -/
theorem fwM_app : ∀ {a b : List It}, fwM a → fwM b → fwM (a ++ b)
  | [], _, _, h => h
  | _ :: _, _, h, k => ⟨h.1, fwM_app h.2 k⟩
theorem GI.app {n k m m' L L' W W' : Nat} {a b : List It} (g : GI n k m L W a) (h : GI n k m' L' W' b) : GI n k (m + m') (L + L') (W + W') (a ++ b) :=
  ⟨okM_app.mpr ⟨g.ok, h.ok⟩, fwM_app g.fw h.fw, by rw [dpM_app]; have := g.dp; have := h.dp; omega, by rw [List.length_append]; have := g.ln; have := h.ln; omega, by rw [unM_app, List.length_append]; have := g.un; have := h.un; omega, by rw [ndM_app]; have := g.nd; have := h.nd; omega, smM_app g.sm h.sm⟩
theorem DVs.app' {p : Addr} {H : Hp} : ∀ {xs ys : List V} {a b : List PyData}, DVs p H xs a → DVs p H ys b → DVs p H (xs ++ ys) (a ++ b)
  | _, _, _, _, .nil, k => k
  | _, _, _, _, .cons h t, k => .cons h (DVs.app' t k)
theorem DL_app (a b : List It) : It.DL (a ++ b) = It.DL a ++ It.DL b := by rw [DL_map, DL_map, DL_map, List.map_append]
theorem LsAt.pot {p a : Addr} {H H' : Hp} {xs : List V} {its : List It} (hp : PotAt H p) (ne : a ≠ p) (b : ButD p H H') (h : LsAt p H a xs its) : LsAt p H' a xs its := ⟨b _ _ ne h.1, DVs.but hp b h.2⟩
theorem DsAt.pot {p D : Addr} {H H' : Hp} {ys : List V} {ds : List Dd} {m : Int} (hp : PotAt H p) (ne : D ≠ p) (b : ButD p H H') (h : DsAt H D ys ds m) : DsAt H' D ys ds m := ⟨b _ _ ne h.hD, DdAll.pot hp b h.dd, h.ok⟩
def spGo : Sp := fun vs H Q _ => ∃ (p D : Addr) (ys : List V) (ds : List Dd) (m : Int) (x : Int × Int), vs = [.ref p, .ref D, .int x.1, .int x.2] ∧ PotAt H p ∧ DsAt H D ys ds m ∧ D ≠ p ∧ ds.length ≤ 60 ∧
  ∀ l xs its h H', H l = none → LsAt p H' l xs its → GI ds.length 2 9 (9 * (8 * 10 ^ 20)) (9 * 556) its → dnM ds its (x, x.2) = some h → PotAt H' p → ButD p H H' → Q (.ref l) H'
def NGo : List Str := ["_law_pot_here", "_law_deeds", "_law_place", "_law_start", "_law_items", "_law_turn", "_law_stand", "_law_more"]
theorem scGo : FnScope NGo ["_law_pot_here", "_law_deeds", "_law_place", "_law_start"] (defScope (top 54)) := ⟨rfl, rfl, rfl, by decide +kernel, rfl, by decide +kernel, by decide +kernel⟩
section
variable {P : Program} {w : World} {K : PySem.W.Frag} {mg : Str → Option Value} {base : Heap} {C C2 : Addr}
theorem ok_go {f : Addr} {fd : FuncData} (F : Fun K "_law_going" "_law_going" (top 54) f fd) (n : Nm mg) (DN : Fn P w K mg base 8 "_law_done" ["_law_deeds", "_law_place", "_law_number", "_law_items"] (spDn 2)) (IT : Fn P w K mg base 4 "_law_item" ["_law_pot_here", "_law_deeds", "_law_stand"] spIt) (DR : Fn P w K mg base 1 "_law_draw" ["_law_pot_here", "_law_many"] spDraw) :
    FnOk P w K mg base CX0 9 f fd ["_law_pot_here", "_law_deeds", "_law_place", "_law_start"] spGo := by
  refine F.ok scGo (fun vs H Q E h => ?_) (fun cdv A outer s H vs Q E hr h => ?_)
  · obtain ⟨p, D, ys, ds, m, x, rfl, _⟩ := h
    rfl
  · obtain ⟨p, D, ys, ds, m, x, rfl, hp, dA, nDp, d60, q⟩ := h
    have N := scGo.nd
    have r1 := hr.mono (k := 8) (j := 1) (by decide)
    have r4 := hr.mono (k := 8) (j := 4) (by decide)
    refine ⟨_, pss_cons (ps_set (i := 4) N rfl (.inl rfl) (pe_lst pa_nil))
      (pss_cons (ps_for PassesOwn.never rfl (pi_range1 (by rfl) n.range (pa_cons (pe_op op_add pe_int (pe_fn DR r1 (pa_cons (pv 0) (pa_cons pe_int pa_nil)))) pa_nil)) (pg_name (i := 5) N rfl (.inl rfl))
        (pss_cons (ps_set (i := 6) N rfl (.inl rfl) (pe_ix ix_tup (pe_fn DN hr (pa_cons (pv 1) (pa_cons (pv 2) (pa_cons (pv 3) (pa_cons (pv 4) pa_nil))))) pe_int (fun _ _ => rfl)))
        (pss_cons (ps_set (i := 7) N rfl (.inl rfl) (pe_op op_cat (pv 4) (pe_fn IT r4 (pa_cons (pv 0) (pa_cons (pv 1) (pa_cons (pv 6) pa_nil))))))
        (pss_one (ps_set (i := 4) N rfl (.inl rfl) (pe_ifExp (pt_cmp (pc_notN (pe_fn DN hr (pa_cons (pv 1) (pa_cons (pv 2) (pa_cons (pv 3) (pa_cons (pv 7) pa_nil))))))) (pv 7) (pv 4)))))))
      (pss_one (ps_ret (pv 4)))), ?_⟩
    refine ⟨(by show 0 ≤ sizeLine; decide), fun l0 hl0 => ?_⟩
    have s1 := same_upd (o := .lst []) hl0
    refine ⟨_, rfl, p, 7, rfl, hp.same s1, by decide, by decide, fun d H1 d0 d7 hp1 b1 => ?_⟩
    obtain ⟨k, rfl⟩ : ∃ k : Nat, d = k := ⟨d.toNat, by omega⟩
    have n0 : ∀ {H2 : Hp} {o : Addr}, PotAt H2 p → H2 o = none → o ≠ p := fun {H2 o} hp2 ho z => by
      obtain ⟨_, _, e, _⟩ := hp2
      rw [← z, ho] at e
      exact nomatch e
    have nl0 := n0 hp hl0
    have b01 : ButD p H H1 := ButD.trans (Same.but s1) b1
    have eD0 : It.DL [] = [] := by simp [It.DL]
    refine ⟨_, _, rfl, rfl, 3 + (k : Int), rfl, by omega, by omega, for_range (lo := 0) (n := (3 + (k : Int)).toNat) (fun i σ H2 => ∃ (l : Addr) (xs : List V) (its : List It) (h : Hr) (x5 x6 x7 : Option V), σ = [some (.ref p), some (.ref D), some (.int x.1), some (.int x.2), some (.ref l), x5, x6, x7] ∧ H l = none ∧ l ≠ p ∧ LsAt p H2 l xs its ∧ GI ds.length 2 i (i * (8 * 10 ^ 20)) (i * 556) its ∧ dnM ds its (x, x.2) = some h ∧ PotAt H2 p ∧ ButD p H H2)
      ⟨l0, [], [], (x, x.2), none, none, none, rfl, hl0, nl0, ⟨b1 _ _ nl0 upd_same, by rw [eD0]; exact .nil⟩, ⟨trivial, trivial, Nat.zero_le _, Nat.le_refl _, Nat.zero_le _, Nat.zero_le _, trivial⟩, rfl, hp1, b01⟩ ?_ ?_⟩
    · rintro i σ H2 hi ⟨l, xs, its, h, x5, x6, x7, rfl, nl, nlp, la, gi, hd, hp2, b2⟩
      have i9 : i < 10 := by omega
      refine gn ?_
      have dA2 := dA.pot hp nDp b2
      have gd : Gd ds m its 2 := ⟨gi.ok, gi.fw, gi.dp, Nat.le_trans gi.ln (by omega)⟩
      refine seqV (Good := fun σ2 H3 => ∃ th, Same H2 H3 ∧ H3 th = some (.tup [.int h.1.1, .int h.1.2]) ∧ σ2 = [some (.ref p), some (.ref D), some (.int x.1), some (.int x.2), some (.ref l), some (.int (0 + (i : Int))), some (.ref th), x7]) ?_ ?_
      · intro nx hnx
        refine ⟨_, rfl, _, rfl, _, rfl, _, rfl, p, D, l, ys, xs, ds, m, its, x, rfl, dA2, la, gd, fun v H3 s3 hv => ?_⟩
        rw [hd] at hv
        obtain ⟨t, e, rfl, ht, ⟨th, rfl, hth⟩⟩ := hv
        exact ⟨t, _, _, _, rfl, rfl, .inl (.inl ht), rfl, hnx _ _ ⟨th, s3, hth, rfl⟩⟩
      rintro _ H3 ⟨th, s3, hth, rfl⟩
      have hp3 := hp2.same s3
      have b3 := ButD.trans b2 (Same.but (D := p) s3)
      have la3 := la.same s3
      refine seqV (Good := fun σ2 H4 => ∃ (l2 : Addr) (xs2 : List V) (its2 : List It), H l2 = none ∧ l2 ≠ p ∧ LsAt p H4 l xs its ∧ LsAt p H4 l2 xs2 its2 ∧ GI ds.length 2 (i + 1) ((i + 1) * (8 * 10 ^ 20)) ((i + 1) * 556) its2 ∧ PotAt H4 p ∧ ButD p H H4 ∧ σ2 = [some (.ref p), some (.ref D), some (.int x.1), some (.int x.2), some (.ref l), some (.int (0 + (i : Int))), some (.ref th), some (.ref l2)]) ?_ ?_
      · intro nx hnx
        refine ⟨_, rfl, _, rfl, _, rfl, _, rfl, p, D, th, ys, ds, m, h.1, rfl, hp3, dA2.same s3, nDp, d60, hth, fun li xi ii H4 nli lai gii hp4 b4 => ?_⟩
        have la4 := la3.pot hp3 nlp b4
        have l1 := la4.2.itl
        have l2 := lai.2.itl
        have g1 := gi.ln
        have g2 := gii.ln
        refine ⟨l, li, xs, xi, rfl, rfl, la4.1, lai.1, by rw [l1, l2, sizeLine_eq]; omega, fun o ho => ?_⟩
        have so := same_upd (o := .lst (xs ++ xi)) ho
        have b04 := ButD.trans b3 b4
        have ga := gi.app gii
        refine hnx _ _ ⟨o, xs ++ xi, its ++ ii, pot_free hp hp4 b04 ho, n0 hp4 ho, la4.same so, ⟨upd_same, ?_⟩, ⟨ga.ok, ga.fw, ga.dp, ga.ln, ?_, by have := ga.nd; omega, ga.sm⟩, hp4.same so, ButD.trans b04 (Same.but so), rfl⟩
        · rw [DL_app]
          exact DVs.same so (DVs.app' la4.2 lai.2)
        · rw [Nat.succ_mul]
          exact ga.un
      clear hth hp3 b3 la3 s3 H3
      rintro _ H4 ⟨l2, xs2, its2, nl2, nl2p, la4, lb4, g2, hp4, b4, rfl⟩
      have gd2 : Gd ds m its2 2 := ⟨g2.ok, g2.fw, g2.dp, Nat.le_trans g2.ln (by omega)⟩
      refine ⟨_, rfl, _, rfl, _, rfl, _, rfl, p, D, l2, ys, xs2, ds, m, its2, x, rfl, dA.pot hp nDp b4, lb4, gd2, fun v H5 s5 hv => ?_⟩
      cases hd2 : dnM ds its2 (x, x.2) with
      | none =>
        rw [hd2] at hv
        obtain rfl : v = .non := hv
        exact ⟨false, rfl, iteF ⟨_, rfl, l, xs, its, h, _, _, _, rfl, nl, nlp, la4.same s5, ⟨gi.ok, gi.fw, gi.dp, Nat.le_succ_of_le gi.ln, Nat.le_trans gi.un (Nat.mul_le_mul_right _ (Nat.le_succ i)), Nat.le_trans gi.nd (Nat.mul_le_mul_right _ (Nat.le_succ i)), gi.sm⟩, hd, hp4.same s5, ButD.trans b4 (Same.but s5)⟩⟩
      | some h2 =>
        rw [hd2] at hv
        obtain ⟨t, e, rfl, _, _⟩ := hv
        exact ⟨true, rfl, iteT ⟨_, rfl, l2, xs2, its2, h2, _, _, _, rfl, nl2, nl2p, lb4.same s5, g2, hd2, hp4.same s5, ButD.trans b4 (Same.but s5)⟩⟩
    · rintro σ H2 ⟨l, xs, its, h, x5, x6, x7, rfl, nl, nlp, la, gi, hd, hp2, b2⟩
      have e9 : (3 + (k : Int)).toNat ≤ 9 := by omega
      exact ⟨_, rfl, q l xs its h H2 nl la ⟨gi.ok, gi.fw, gi.dp, Nat.le_trans gi.ln e9, Nat.le_trans gi.un (Nat.mul_le_mul_right _ e9), Nat.le_trans gi.nd (Nat.mul_le_mul_right _ e9), gi.sm⟩ hd hp2 b2⟩
end
end L2.K75
end

section
set_option Elab.async false
set_option linter.all false
set_option maxRecDepth 100000
set_option maxHeartbeats 1000000
namespace L2.K75
open PySem PySem.Spec PyProof.Rows L2.Gd
theorem HouseL.pot {C : Addr} {H H' : Hp} {p h l : Addr} {m : Int} {xs : List V} {ds : List Dd} (hp : PotAt H p) (ne : l ≠ p) (b : ButD p H H') (hh : HouseL C H h l m xs ds) : HouseL C H' h l m xs ds := by
  obtain ⟨dx, ob⟩ := hh.ob
  refine ⟨⟨dx, b _ _ (fun z => ?_) ob⟩, b _ _ ne hh.ls, DdAll.pot hp b hh.dd⟩
  obtain ⟨x, y, e, _⟩ := hp
  rw [z, e] at ob
  exact nomatch ob
/-- what _law_going_right is asked -/
structure GrAt (C2 : Addr) (H : Hp) (p h l D a : Addr) (n : Nat) (xs ys zs : List V) (ds : List Dd) (its : List It) (pl st : Nat) (k : Hr) : Prop where
  hp : PotAt H p
  hh : HouseL C2 H h l n xs ds
  wf : WF n ds
  lp : l ≠ p
  dA : DsAt H D ys ds n
  nDp : D ≠ p
  la : LsAt p H a zs its
  nap : a ≠ p
  gi : GI ds.length 2 9 (9 * (8 * 10 ^ 20)) (9 * 556) its
  dn : dnM ds its (((pl : Int), (st : Int)), (st : Int)) = some k
  pn : pl < n
  sm : st ≤ 10 ^ 20 + 7
def spGR (C2 : Addr) : Sp := fun vs H Q _ => ∃ (p h l D a : Addr) (n : Nat) (xs ys zs : List V) (ds : List Dd) (its : List It) (pl st : Nat) (k : Hr), vs = [.ref p, .ref h, .ref D, .int (pl : Nat), .int (st : Nat), .ref a] ∧ GrAt C2 H p h l D a n xs ys zs ds its pl st k ∧
  ∀ H', PotAt H' p → ButD p H H' → Q (.bl true) H'
/-! ### all is right -/
/-- a def called by its name, where nothing is being shown -/
structure FnGd (P : Program) (w : World) (K : PySem.W.Frag) (mg : Str → Option Value) (base : Heap) (k : Nat) (x : Str) (ps : List Str) (sp : Sp) : Prop where
  ex : ∃ f fd, mg x = some (.ref f) ∧ PySem.W.keepIn K (.ref f) = true ∧ Binds K fd ps [] ∧ FnG P w K mg base k f fd ps sp
theorem pe_fnG {X : Cx} {k : Nat} {x : Str} {ps : List Str} {sp : Sp} {e : Expr} {es : List Expr} {t : TA} {p pos : Pos}
    (F : FnGd X.prog X.w X.K X.mg X.base k x ps sp) (hg : X.A.guards = some []) (hr : Room k X.A) (ha : PA X (e :: es) t) (gl : Gl X x := by rfl) (hdb : (x == ("__debug__" : Str)) = false := by decide)
    (he : starEach (e :: es) X.env = (false, eval e X.env) :: starEach es X.env := by rfl)
    (hpl : (backTo pos (starEach es X.env)).any (·.1) = false := by rfl) :
    PE X (.Call (.Name x p) (e :: es) [] pos) (tCall sp [] E0 t) := by
  obtain ⟨f, fd, m, kp, b, G⟩ := F.ex
  exact pe_callG G hg hr gl m kp b ha hdb he hpl
/-- a def called by its name, defaults behind what is written -/
structure FnD (P : Program) (w : World) (K : PySem.W.Frag) (mg : Str → Option Value) (base : Heap) (k : Nat) (x : Str) (ps : List Str) (dvs : List V) (sp : Sp) : Prop where
  ex : ∃ f fd ds, mg x = some (.ref f) ∧ PySem.W.keepIn K (.ref f) = true ∧ Vals dvs ds ∧ Binds K fd ps ds ∧ FnOk P w K mg base CX0 k f fd ps sp
theorem pe_fnD {X : Cx} {k : Nat} {x : Str} {ps : List Str} {dvs : List V} {sp : Sp} {e : Expr} {es : List Expr} {t : TA} {p pos : Pos}
    (F : FnD X.prog X.w X.K X.mg X.base k x ps dvs sp) (hr : Room k X.A) (ha : PA X (e :: es) t) (gl : Gl X x := by rfl) (hdb : (x == ("__debug__" : Str)) = false := by decide)
    (he : starEach (e :: es) X.env = (false, eval e X.env) :: starEach es X.env := by rfl)
    (hpl : (backTo pos (starEach es X.env)).any (·.1) = false := by rfl) :
    PE X (.Call (.Name x p) (e :: es) [] pos) (tCall sp dvs E0 t) := by
  obtain ⟨f, fd, ds, m, kp, v, b, G⟩ := F.ex
  exact pe_call G hr gl m kp b v pass0 ha hdb he hpl
section
variable {P : Program} {w : World} {K : PySem.W.Frag} {mg : Str → Option Value} {base : Heap} {C2 : Addr}
structure RK (P : Program) (w : World) (K : PySem.W.Frag) (mg : Str → Option Value) (base : Heap) (C2 : Addr) : Prop where
  n : Nm mg
  T : ClsT K mg C2
  M : MkH P w K mg base C2
  ho : FnD P w K mg base 3 "_law_house" ["_law_pot_here", "_law_most", "_law_is_plain"] [.bl false] spHo
  dw : Fn P w K mg base 1 "_law_draw" ["_law_pot_here", "_law_many"] spDraw
  pk : Fn P w K mg base 2 "_law_pick" ["_law_pot_here", "_law_some"] spPick
  go : Fn P w K mg base 9 "_law_going" ["_law_pot_here", "_law_deeds", "_law_place", "_law_start"] spGo
  gr : FnGd P w K mg base 13 "_law_going_right" ["_law_pot_here", "_law_house_here", "_law_deeds", "_law_place", "_law_start", "_law_items"] (spGR C2)
def spRight : Sp := fun vs H Q _ => ∃ (p : Addr), vs = [.ref p] ∧ PotAt H p ∧ ∀ H', ButD p H H' → Q (.bl true) H'
def NRi : List Str := ["_law_pot_here", "_law_places", "_law_deeds", "_law_house_here", "_law_turn", "_law_place", "_law_start", "_law_items"]
theorem scRi : FnScope NRi ["_law_pot_here"] (defScope (top 58)) := ⟨rfl, rfl, rfl, by decide +kernel, rfl, by decide +kernel, by decide +kernel⟩
abbrev σR (p : Addr) (m : Nat) (D h : Addr) (x4 x5 x6 x7 : Option V) : L2.St := [some (.ref p), some (.int (m : Nat)), some (.ref D), some (.ref h), x4, x5, x6, x7]
theorem ok_right {f : Addr} {fd : FuncData} (F : Fun K "_law_right" "_law_right" (top 58) f fd) (k : RK P w K mg base C2) : FnG P w K mg base 14 f fd ["_law_pot_here"] spRight := by
  refine okG F scRi (fun vs H Q h => ?_) (fun cdv A outer s H vs Q hg hr h => ?_)
  · obtain ⟨p, rfl, _⟩ := h
    rfl
  · obtain ⟨p, rfl, hp, q⟩ := h
    have N := scRi.nd
    have T := k.T
    have n := k.n
    have r1 := hr.mono (k := 13) (j := 1) (by decide)
    have r2 := hr.mono (k := 13) (j := 2) (by decide)
    have r3 := hr.mono (k := 13) (j := 3) (by decide)
    have r6 := hr.mono (k := 13) (j := 6) (by decide)
    have r9 := hr.mono (k := 13) (j := 9) (by decide)
    refine ⟨_, pss_cons (ps_asg (pe_fnD k.ho r3 (pa_cons (pv 0) (pa_cons pe_int pa_nil))) (pg_tup rfl (pgs_cons (pg_name (i := 1) N rfl (.inl rfl)) (pgs_cons (pg_name (i := 2) N rfl (.inl rfl)) pgs_nil))))
      (pss_cons (ps_set (i := 3) N rfl (.inl rfl) (pe_house k.M T r6 (pa_cons (pv 1) (pa_cons (pv 2) pa_nil))))
      (pss_cons (ps_for PassesOwn.never rfl (pi_range1 (by rfl) n.range (pa_cons pe_int pa_nil)) (pg_name (i := 4) N rfl (.inl rfl))
        (pss_cons (ps_par (i := 5) (j := 6) rfl N rfl rfl (by decide) rfl rfl (pa_cons (pe_fn k.dw r1 (pa_cons (pv 0) (pa_cons (pv 1) pa_nil))) (pa_cons (pe_fn k.pk r2 (pa_cons (pv 0) (pa_cons (pe_lst (pa_cons pe_int (pa_cons pe_int (pa_cons pe_int (pa_cons pe_int (pa_cons pe_int (pa_cons pe_int (pa_cons (pe_op op_add (pe_op op_pow pe_int pe_int) pe_int) pa_nil)))))))) pa_nil))) pa_nil)) (by rfl))
        (pss_cons (ps_set (i := 7) N rfl (.inl rfl) (pe_fn k.go r9 (pa_cons (pv 0) (pa_cons (pv 2) (pa_cons (pv 5) (pa_cons (pv 6) pa_nil))))))
        (pss_one (ps_if (pt_not (pt_val (pe_fnG k.gr hg hr (pa_cons (pv 0) (pa_cons (pv 3) (pa_cons (pv 2) (pa_cons (pv 5) (pa_cons (pv 6) (pa_cons (pv 7) pa_nil)))))))))
          (pss_one (ps_ret pe_bl)) pss_nil)))))
      (pss_one (ps_ret pe_bl)))), ?_⟩
    refine seqV (Good := fun σ2 H1 => ∃ (m : Nat) (D : Addr) (ys : List V) (ds : List Dd), H1 D = some (.lst ys) ∧ D ≠ p ∧ DdAll H1 ys ds ∧ WF m ds ∧ m ≤ 4 ∧ PotAt H1 p ∧ ButD p H H1 ∧ σ2 = [some (.ref p), some (.int (m : Nat)), some (.ref D), none, none, none, none, none]) ?_ ?_
    · intro nx hnx
      refine ⟨_, rfl, p, rfl, hp, fun t D ys ds m H1 ht hD nD dd wf m5 hp1 b1 => ?_⟩
      exact ⟨t, _, rfl, .inl (.inl ht), rfl, _, _, rfl, _, _, rfl, rfl, hnx _ _ ⟨m, D, ys, ds, hD, nD, dd, wf, m5, hp1, b1, rfl⟩⟩
    rintro _ H1 ⟨m, D, ys, ds, hD, nD, dd, wf, m5, hp1, b1, rfl⟩
    have ok := wf.ok
    have m1 := wf.m1
    refine seqV (Good := fun σ2 H2 => ∃ (h l : Addr), HouseL C2 H2 h l (m : Int) ys ds ∧ Same H1 H2 ∧ σ2 = σR p m D h none none none none) ?_ ?_
    · intro nx hnx
      refine ⟨_, rfl, _, rfl, ?_⟩
      exact make_any (K := K) (C := C2) (.inl hD) dd wf (fun h l H3 n3 n3' s3 hh3 => ⟨rfl, hnx _ _ ⟨h, l, hh3, s3, rfl⟩⟩)
    rintro _ H2 ⟨h, l, hh, s2, rfl⟩
    have hp2 := hp1.same s2
    have dA : DsAt H2 D ys ds m := ⟨s2 _ _ hD, dd.same s2, ok⟩
    have lp : l ≠ p := pot_refs hp2 hh.ls hh.dd.refs
    refine ⟨3, rfl, by decide, by decide, for_range (lo := 0) (n := (3 : Int).toNat) (fun i σ2 H3 => ∃ x4 x5 x6 x7 : Option V, PotAt H3 p ∧ ButD p H2 H3 ∧ σ2 = σR p m D h x4 x5 x6 x7)
      ⟨none, none, none, none, hp2, ButD.refl, rfl⟩ ?_ ?_⟩
    · rintro i σ2 H3 hi ⟨x4, x5, x6, x7, hp3, b3, rfl⟩
      refine gn ?_
      refine seqV (Good := fun σ2 H4 => ∃ pl st : Nat, pl < m ∧ st ≤ 10 ^ 20 + 7 ∧ PotAt H4 p ∧ ButD p H2 H4 ∧ σ2 = σR p m D h (some (.int (0 + (i : Int)))) (some (.int (pl : Nat))) (some (.int (st : Nat))) x7) ?_ ?_
      · intro nx2 hnx2
        refine ⟨_, rfl, _, rfl, p, m, rfl, hp3, by omega, by omega, fun d1 H4 d10 d1n hp4 b4 => ?_⟩
        obtain ⟨pl, rfl⟩ : ∃ a : Nat, d1 = a := ⟨d1.toNat, by omega⟩
        refine ⟨_, rfl, _, _, rfl, rfl, ⟨by decide, by decide, by decide⟩, _, _, rfl, rfl, (by show 7 ≤ sizeLine; decide), fun o ho => ?_⟩
        have so : ∀ {oo : HO}, Same H4 (upd H4 o oo) := fun {oo} => same_upd ho
        have nop : o ≠ p := fun z => by
          obtain ⟨_, _, e, _⟩ := hp4
          rw [← z, ho] at e
          exact nomatch e
        refine ⟨p, o, _, rfl, hp4.same so, upd_same, nop, by simp, by simp, fun x H5 hx hp5 b5 => ?_⟩
        have e20 : (10 : Int) ^ ((20 : Int)).toNat = 100000000000000000000 := by decide
        have n20 : (10 : Nat) ^ 20 = 100000000000000000000 := by decide
        obtain ⟨st, rfl, hst⟩ : ∃ j : Nat, x = .int (j : Nat) ∧ j ≤ 10 ^ 20 + 7 := by
          rw [n20]
          simp only [List.mem_cons, List.not_mem_nil, or_false] at hx
          rcases hx with rfl | rfl | rfl | rfl | rfl | rfl | rfl
          · exact ⟨0, rfl, by decide⟩
          · exact ⟨0, rfl, by decide⟩
          · exact ⟨1, rfl, by decide⟩
          · exact ⟨2, rfl, by decide⟩
          · exact ⟨5, rfl, by decide⟩
          · exact ⟨30, rfl, by decide⟩
          · exact ⟨100000000000000000007, by rw [e20]; rfl, by decide⟩
        exact ⟨_, _, rfl, hnx2 _ _ ⟨pl, st, by omega, hst, hp5, ButD.trans b3 (ButD.trans b4 (ButD.trans (Same.but so) b5)), rfl⟩⟩
      rintro _ H4 ⟨pl, st, plm, st20, hp4, b4, rfl⟩
      refine seqV (Good := fun σ2 H5 => ∃ (a : Addr) (zs : List V) (its : List It) (kk : Hr), a ≠ p ∧ LsAt p H5 a zs its ∧ GI ds.length 2 9 (9 * (8 * 10 ^ 20)) (9 * 556) its ∧ dnM ds its (((pl : Int), (st : Int)), (st : Int)) = some kk ∧ PotAt H5 p ∧ ButD p H2 H5 ∧ σ2 = σR p m D h (some (.int (0 + (i : Int)))) (some (.int (pl : Nat))) (some (.int (st : Nat))) (some (.ref a))) ?_ ?_
      · intro nx2 hnx2
        refine ⟨_, rfl, _, rfl, _, rfl, _, rfl, p, D, ys, ds, m, ((pl : Int), (st : Int)), rfl, hp4, dA.pot hp2 nD b4, nD, wf.len, fun a zs its kk H5 na la gi hd hp5 b5 => ?_⟩
        have nap : a ≠ p := fun z => by
          obtain ⟨_, _, e, _⟩ := hp4
          rw [← z, na] at e
          exact nomatch e
        exact hnx2 _ _ ⟨a, zs, its, kk, nap, la, gi, hd, hp5, ButD.trans b4 b5, rfl⟩
      rintro _ H5 ⟨a, zs, its, kk, nap, la, gi, hd, hp5, b5, rfl⟩
      refine ⟨_, rfl, _, rfl, _, rfl, _, rfl, _, rfl, _, rfl, p, h, l, D, a, m, ys, ys, zs, ds, its, pl, st, kk, rfl, ⟨hp5, hh.pot hp2 lp b5, wf, lp, dA.pot hp2 nD b5, nD, la, nap, gi, hd, plm, st20⟩, fun H6 hp6 b6 => ⟨true, rfl, iteF ?_⟩⟩
      exact ⟨_, _, _, _, hp6, ButD.trans b5 b6, rfl⟩
    · rintro σ2 H3 ⟨x4, x5, x6, x7, hp3, b3, rfl⟩
      exact q H3 (ButD.trans b1 (ButD.trans (Same.but s2) b3))
/-! the law -/
abbrev sLaw : Stmt := top 59
def spLaw (K : PySem.W.Frag) : Sp := fun vs H Q _ => ∃ (a : Addr) (ns : List Int), vs = [.ref a] ∧ SqL K H a (ns.map V.int) ∧ ns.length ≤ 63 ∧ ∀ H', Q (.bl true) H'
theorem scLaw : FnScope ["_law_script", "_law_k"] ["_law_script"] (defScope sLaw) := ⟨rfl, rfl, rfl, by decide +kernel, rfl, by decide +kernel, by decide +kernel⟩
theorem ok_law {f : Addr} {fd : FuncData} (F : Fun K "law" "law" sLaw f fd) (n : Nm mg) (GP : Fn P w K mg base 1 "_law_pot" ["_law_script", "_law_k"] (spPot K)) (GR : FnGd P w K mg base 14 "_law_right" ["_law_pot_here"] spRight) :
    FnG P w K mg base 15 f fd ["_law_script"] (spLaw K) := by
  refine okG F scLaw (fun vs H Q h => ?_) (fun cdv A outer s H vs Q hg hr h => ?_)
  · obtain ⟨a, ns, rfl, _⟩ := h
    rfl
  · obtain ⟨a, ns, rfl, hs, hl, q⟩ := h
    have N := scLaw.nd
    have r1 := hr.mono (k := 14) (j := 1) (by decide)
    refine ⟨_, pss_one (ps_ret (pe_callB (cr_all rfl) (by rfl) n.all (by decide +kernel) (pa_cons
      (pe_lc (own := [("_law_k", 1)]) (g := gName 1) (tt := tYes) rfl N (pi_range1 (by rfl) n.range (pa_cons (pe_callB (call_max2 rfl) (by rfl) n.max (by decide +kernel) (pa_cons pe_int (pa_cons
          (pe_callB (call_min2 rfl) (by rfl) n.min (by decide +kernel) (pa_cons pe_int (pa_cons (pe_callB call_len_seq (by rfl) n.len PySem.boot_len (pa_cons (pv 0) pa_nil)) pa_nil))) pa_nil))) pa_nil))
        (blkOk_by (N := ["_law_script", "_law_k"]) (sc := defScope sLaw) (by decide +kernel)) (fun _ _ _ _ _ => pg_name (i := 1) N rfl (.inl rfl)) (fun _ _ _ _ _ => pts_nil)
        (fun _ _ _ _ _ => pe_fnG GR hg hr (pa_cons (pe_fn GP r1 (pa_cons (pv 0) (pa_cons (pv 1) pa_nil))) pa_nil))) pa_nil))), ?_⟩
    refine ⟨_, rfl, a, _, rfl, .inl hs, _, _, rfl, _, _, rfl, ?_⟩
    have hlen : (ns.map V.int).length = ns.length := List.length_map _
    generalize hr' : (if (if ((ns.map V.int).length : Int) < 3 then ((ns.map V.int).length : Int) else 3) > 1 then (if ((ns.map V.int).length : Int) < 3 then ((ns.map V.int).length : Int) else 3) else 1) = R
    have R1 : 1 ≤ R ∧ R ≤ 3 := by
      rw [hlen] at hr'
      subst hr'
      split <;> split <;> omega
    refine ⟨R, rfl, by omega, by omega, fun D hD => ?_⟩
    refine lc_mapR (lo := 0) (n := R.toNat) (G := fun _ v b => v = V.bl b) (f := fun _ => some true) (fun _ _ _ _ _ _ z => z) (by omega) ?_ ?_
    · rintro x e H2 A B he rfl b ⟨zs, hz⟩ hA hB
      unfold rgI at he
      obtain ⟨i, hi, rfl⟩ := List.mem_map.mp he
      have s2 := b.new hD
      refine ⟨rfl, yes_ite ?_⟩
      refine ⟨_, rfl, _, rfl, a, i, ns, by rw [Int.zero_add]; rfl, s2.seq hs, by omega, fun p H4 np s4 hp4 => ?_⟩
      refine ⟨p, rfl, hp4, fun H5 b5 => hA true _ H5 rfl (fun c o z => ?_) rfl⟩
      exact b5 _ _ (ne_of_none z np) (s4 _ _ z)
    · intro ys H2 h1 h2 h3
      rw [mapE] at h2
      rw [bls_of h2] at h1
      exact ⟨D, _, rfl, .inl (.inl h1), by
        have : ((rgI 0 R.toNat).map fun _ => true).all id = true := by simp
        rw [this]
        exact q H2⟩
end
end L2.K75
end

section
set_option Elab.async false
set_option linter.all false
set_option maxRecDepth 100000
set_option maxHeartbeats 1000000
namespace L2.K75
open PySem PySem.Spec PyProof.Rows L2.Gd
/-! ### what _law_going_right wants -/
mutual
theorem dp_I {K : PySem.W.Frag} {p : Addr} {H : Hp} : ∀ (x : It) {v : V}, DV p H v (It.D x) → Dp K H v (It.D x)
  | .deed i, v, h => by
    obtain rfl := it_deed h
    have e : It.D (.deed i) = .int (i : Int) := by simp [It.D]
    rw [e]
    exact .int _
  | .lap b t, v, h => by
    obtain ⟨u, a, xs, rfl, hu, gb, ne, ha⟩ := it_lap h
    have e : It.D (.lap b t) = .tuple [.list (It.DL b), .int (t : Int)] := by simp [It.D]
    rw [e]
    exact .tup (.inl (.inl hu)) (.cons (.lst (.inl (.inl ha)) (dp_M b gb.dv)) (.cons (.int _) .nil))
theorem dp_M {K : PySem.W.Frag} {p : Addr} {H : Hp} : ∀ (l : List It) {vs : List V}, DVs p H vs (It.DL l) → DpAll K H vs (It.DL l)
  | [], vs, h => by
    have e : It.DL [] = [] := by simp [It.DL]
    rw [e] at h ⊢
    cases h
    exact .nil
  | x :: r, vs, h => by
    have e : It.DL (x :: r) = It.D x :: It.DL r := by simp [It.DL]
    rw [e] at h ⊢
    cases h with
    | cons h1 h2 => exact .cons (dp_I x h1) (dp_M r h2)
end
mutual
theorem un_ltI {n : Nat} : ∀ (x : It), okI n x → ∀ i ∈ unI x, i < n
  | .deed j, h, i, hi => by
    have e : unI (.deed j) = [j] := by simp [unI]
    rw [e] at hi
    rw [List.mem_singleton.mp hi]
    exact h
  | .lap b t, h, i, hi => by
    have e : unI (.lap b t) = (List.replicate t (unM b)).flatten := by simp [unI]
    rw [e] at hi
    obtain ⟨l, hl, hil⟩ := List.mem_flatten.mp hi
    rw [(List.mem_replicate.mp hl).2] at hil
    exact un_ltM b h i hil
theorem un_ltM {n : Nat} : ∀ (l : List It), okM n l → ∀ i ∈ unM l, i < n
  | [], _, i, hi => by
    have e : unM [] = [] := by simp [unM]
    rw [e] at hi
    exact nomatch hi
  | x :: r, h, i, hi => by
    have e : unM (x :: r) = unI x ++ unM r := by simp [unM]
    rw [e] at hi
    rcases List.mem_append.mp hi with hi | hi
    · exact un_ltI x h.1 i hi
    · exact un_ltM r h.2 i hi
end
theorem row_mem {ds : List Dd} {l : List It} (h : okM ds.length l) : ∀ d ∈ row ds l, d ∈ ds := by
  intro d hd
  obtain ⟨i, hi, rfl⟩ := List.mem_map.mp hd
  have lt := un_ltM l h i hi
  have g2 : ds.getD i rowD.d00 = ds[i] := by rw [List.getD_eq_getElem?_getD, List.getElem?_eq_getElem lt]; rfl
  rw [g2]
  exact List.getElem_mem lt
theorem run_place {m : Int} : ∀ {r : List Dd} {p s p' s' : Int}, (∀ d ∈ r, d.Ok m) → 0 ≤ p → p < m → runD r p s = some (p', s') → 0 ≤ p' ∧ p' < m
  | [], _, _, _, _, _, h0, h1, e => by
    have := (Prod.mk.inj (Option.some.inj e)).1
    omega
  | d :: r, p, s, p', s', ok, h0, h1, e => by
    unfold runD at e
    split at e
    · exact nomatch e
    · have od := ok d List.mem_cons_self
      exact run_place (fun x hx => ok x (List.mem_cons_of_mem _ hx)) od.g0 od.gn e
/-- roof_of(going=.., start=.., place=.., house=..) -/
def prm4 {α : Type} : List α → List α
  | [g, s, p, h] => [h, p, s, g]
  | _ => []
theorem prm4_vals {zs : List V} {ws : List Value} (h : Vals zs ws) : Vals (prm4 zs) (prm4 ws) := by
  match zs, ws, h with
  | [], [], .nil => exact .nil
  | [_], [_], .cons _ .nil => exact .nil
  | [_, _], [_, _], .cons _ (.cons _ .nil) => exact .nil
  | [_, _, _], [_, _, _], .cons _ (.cons _ (.cons _ .nil)) => exact .nil
  | [_, _, _, _], [_, _, _, _], .cons a (.cons b (.cons c (.cons d .nil))) => exact .cons d (.cons c (.cons b (.cons a .nil)))
  | _ :: _ :: _ :: _ :: _ :: _, _ :: _ :: _ :: _ :: _ :: _, .cons _ (.cons _ (.cons _ (.cons _ (.cons _ _)))) => exact .nil
/-- is_under(roof=.., going=.., start=.., place=.., house=..) -/
def prm5 {α : Type} : List α → List α
  | [r, g, s, p, h] => [h, p, s, g, r]
  | _ => []
theorem prm5_vals {zs : List V} {ws : List Value} (h : Vals zs ws) : Vals (prm5 zs) (prm5 ws) := by
  match zs, ws, h with
  | [], [], .nil => exact .nil
  | [_], [_], .cons _ .nil => exact .nil
  | [_, _], [_, _], .cons _ (.cons _ .nil) => exact .nil
  | [_, _, _], [_, _, _], .cons _ (.cons _ (.cons _ .nil)) => exact .nil
  | [_, _, _, _], [_, _, _, _], .cons _ (.cons _ (.cons _ (.cons _ .nil))) => exact .nil
  | [_, _, _, _, _], [_, _, _, _, _], .cons a (.cons b (.cons c (.cons d (.cons e .nil)))) => exact .cons e (.cons d (.cons c (.cons b (.cons a .nil))))
  | _ :: _ :: _ :: _ :: _ :: _ :: _, _ :: _ :: _ :: _ :: _ :: _ :: _, .cons _ (.cons _ (.cons _ (.cons _ (.cons _ (.cons _ _))))) => exact .nil
/-- a going drawn as _law_going_right has it can be done -/
theorem GrAt.doing {C2 p h l D a : Addr} {H : Hp} {n : Nat} {xs ys zs : List V} {ds : List Dd} {its : List It} {pl st : Nat} {k : Hr} (g : GrAt C2 H p h l D a n xs ys zs ds its pl st k) :
    DoAt C2 H p h l n xs ds a zs its pl st k.1 ∧ k.2 = (st : Int) + pk (row ds its) ∧ 0 ≤ k.1.2 ∧ k.1.2 = (st : Int) + gnR (row ds its) ∧ 0 ≤ k.1.1 ∧ k.1.1 < n := by
  have br := dnM_ok g.wf.ok its (((pl : Int), (st : Int)), (st : Int)) k g.gi.ok (by show (0 : Int) ≤ (st : Int); omega) (Int.le_refl _) g.dn
  have pn := g.pn
  have dp := g.gi.dp
  have ln := g.gi.ln
  have run : runD (row ds its) (pl : Int) (st : Int) = some k.1 := br.run
  have most : k.2 = max (st : Int) ((st : Int) + pk (row ds its)) := br.most
  have nn := pk_nn (row ds its)
  obtain ⟨e1, e2, e3⟩ := br.end' (by show (0 : Int) ≤ (st : Int); omega)
  have rp := run_place (m := n) (p := (pl : Int)) (s := (st : Int)) (p' := k.1.1) (s' := k.1.2) (fun d hd => g.wf.ok d (row_mem g.gi.ok d hd)) (by omega) (by omega) run
  exact ⟨⟨g.hh, g.wf, ⟨g.la.2, .inl ⟨g.nap, g.la.1⟩⟩, g.gi.ok, g.gi.fw, by omega, by omega, pn, run⟩, by omega, e1, e3, rp.1, rp.2⟩
end L2.K75
end

section
set_option Elab.async false
set_option linter.all false
set_option maxRecDepth 100000
set_option maxHeartbeats 1000000
namespace L2.K75
open PySem PySem.Spec PyProof.Rows L2.Gd
/-! ### _law_going_right -/
theorem same_put {H H' : Hp} {x : Addr} {o : HO} (s : Same H H') (n : H x = none) : Same H (upd H' x o) := fun b u e => by
  rw [upd_ne (ne_of_none e n)]
  exact s _ _ e
theorem pot_new {H : Hp} {p o : Addr} (hp : PotAt H p) (h : H o = none) : o ≠ p := fun z => by
  obtain ⟨_, _, e, _⟩ := hp
  rw [← z, h] at e
  exact nomatch e
theorem but_put {p o : Addr} {H H' : Hp} {x : HO} (b : ButD p H H') (n : H o = none) : ButD p H (upd H' o x) := fun c u ne e => by
  rw [upd_ne (ne_of_none e n)]
  exact b c u ne e
theorem pot_upd {p o : Addr} {H : Hp} {x : HO} (hp : PotAt H p) (ne : o ≠ p) : PotAt (upd H o x) p := by
  obtain ⟨a, b, e, r⟩ := hp
  exact ⟨a, b, by rw [upd_ne (Ne.symm ne)]; exact e, r⟩
theorem mul_ck {a b : Nat} (h : a ≤ 10 ^ 20 + 7) (k : b ≤ 9 * (8 * 10 ^ 20)) : a + b < 2 ^ 90 := by
  have e : (10 : Nat) ^ 20 = 100000000000000000000 := by decide
  have e2 : (2 : Nat) ^ 90 = 1237940039285380274899124224 := by decide
  rw [e] at h k
  rw [e2]
  omega
theorem three_showy : Showy (.list [.bool true, .bool true, .bool false]) := ⟨by decide +kernel, by decide +kernel, by decide +kernel, by rw [sizeLine_eq]; decide +kernel⟩
theorem two_showy {i : Int} (h : i.natAbs < 2 ^ 90) : Showy (.list [.int i, .int i]) := (SwL.cons (SwD.int h 0) (SwL.cons (SwD.int h 0) (SwL.nil 0))).lst.showy (by decide) (by decide)
/-! ### a def called by keywords alone -/
section
variable {X : Cx} {CX : CXT} {k n : Nat} {f : Addr} {fd : FuncData} {ps ks : List Str} {sp : Sp} {E : XK} {x : Str} {p pos : Pos} {kws : List Keyword} {tk : TA} {g : List Value → List Value → List Value} {gV : List V → List V → List V}
theorem pe_callN0 (F : FnOk X.prog X.w X.K X.mg X.base CX k f fd ps sp) (hr : Room k X.A) (hg : Gl X x) (hm : X.mg x = some (.ref f)) (hk : PySem.W.keepIn X.K (.ref f) = true) (hb : KBn X.K fd ps 0 ks g gV) (hx : Passes CX X E)
    (hkw : PK X kws tk) (hall : (backToKw pos (keywordEach kws X.env)).all (·.1.isSome) = true := by rfl) (hks : (backToKw pos (keywordEach kws X.env)).filterMap (·.1) = ks := by rfl)
    (hdb : (x == ("__debug__" : Str)) = false := by decide)
    (hpl : ((backTo pos (starEach [] X.env)).any (·.1) || (backToKw pos (keywordEach kws X.env)).any (·.1.isNone)) = false := by rfl) :
    PE X (.Call (.Name x p) [] kws pos) (tCallN 0 ks.length sp gV E tNil tk) := by
  refine ⟨fun pins s σ H Q I h => ?_⟩
  refine wpAny_Call_Name_kw (ld_glob I hg hm ?_ hdb)
  refine PySem.W.callWith_KW0 (h₀ := X.base) I.ok.mod.kin hk hall ?_ hpl
  refine thn (hkw.run pos pins s σ H _ I h) fun ws s2 ⟨zs, H2, I2, rz, l1, l2, q2⟩ => ⟨I2.kIn, ?_⟩
  rw [hks]
  exact run_fnN (us := []) (vs := []) F hr hb hx I2 .nil rz l1 l2 q2
end
structure KRO (P : Program) (w : World) (K : PySem.W.Frag) (mg : Str → Option Value) (base : Heap) (C2 : Addr) : Prop where
  ex : ∃ f fd, mg "roof_of" = some (.ref f) ∧ PySem.W.keepIn K (.ref f) = true ∧ KBn K fd ["house", "place", "start", "going"] 0 ["going", "start", "place", "house"] (fun _ ws => prm4 ws) (fun _ zs => prm4 zs) ∧ FnOk P w K mg base CX0 12 f fd ["house", "place", "start", "going"] (spRO C2)
theorem pe_kRO {X : Cx} {kws : List Keyword} {tk : TA} {p pos : Pos} {C2 : Addr} (G : KRO X.prog X.w X.K X.mg X.base C2) (hr : Room 12 X.A) (hkw : PK X kws tk)
    (hg : Gl X "roof_of" := by rfl) (hall : (backToKw pos (keywordEach kws X.env)).all (·.1.isSome) = true := by rfl) (hks : (backToKw pos (keywordEach kws X.env)).filterMap (·.1) = (["going", "start", "place", "house"] : List Str) := by rfl)
    (hpl : ((backTo pos (starEach [] X.env)).any (·.1) || (backToKw pos (keywordEach kws X.env)).any (·.1.isNone)) = false := by rfl) :
    PE X (.Call (.Name "roof_of" p) [] kws pos) (tCallN 0 4 (spRO C2) (fun _ zs => prm4 zs) E0 tNil tk) := by
  obtain ⟨f, fd, m, kp, b, F⟩ := G.ex
  exact pe_callN0 F hr hg m kp b pass0 hkw hall hks (by decide) hpl
structure KIU (P : Program) (w : World) (K : PySem.W.Frag) (mg : Str → Option Value) (base : Heap) (C2 : Addr) : Prop where
  ex : ∃ f fd, mg "is_under" = some (.ref f) ∧ PySem.W.keepIn K (.ref f) = true ∧ KBn K fd ["house", "place", "start", "going", "roof"] 0 ["roof", "going", "start", "place", "house"] (fun _ ws => prm5 ws) (fun _ zs => prm5 zs) ∧ FnOk P w K mg base CX0 12 f fd ["house", "place", "start", "going", "roof"] (spIU C2)
theorem pe_kIU {X : Cx} {kws : List Keyword} {tk : TA} {p pos : Pos} {C2 : Addr} (G : KIU X.prog X.w X.K X.mg X.base C2) (hr : Room 12 X.A) (hkw : PK X kws tk)
    (hg : Gl X "is_under" := by rfl) (hall : (backToKw pos (keywordEach kws X.env)).all (·.1.isSome) = true := by rfl) (hks : (backToKw pos (keywordEach kws X.env)).filterMap (·.1) = (["roof", "going", "start", "place", "house"] : List Str) := by rfl)
    (hpl : ((backTo pos (starEach [] X.env)).any (·.1) || (backToKw pos (keywordEach kws X.env)).any (·.1.isNone)) = false := by rfl) :
    PE X (.Call (.Name "is_under" p) [] kws pos) (tCallN 0 5 (spIU C2) (fun _ zs => prm5 zs) E0 tNil tk) := by
  obtain ⟨f, fd, m, kp, b, F⟩ := G.ex
  exact pe_callN0 F hr hg m kp b pass0 hkw hall hks (by decide) hpl
abbrev PGr : List Str := ["_law_pot_here", "_law_house_here", "_law_deeds", "_law_place", "_law_start", "_law_items"]
def NGr : List Str := ["_law_pot_here", "_law_house_here", "_law_deeds", "_law_place", "_law_start", "_law_items", "_law_stand", "_law_most", "_law_stay", "_law_flat_here", "_law_told", "_law_asked", "_law_behind_it"]
theorem scGr : FnScope NGr PGr (defScope (top 57)) := ⟨rfl, rfl, rfl, by decide +kernel, rfl, by decide +kernel, by decide +kernel⟩
abbrev σG (p h D : Addr) (pl st : Nat) (a : Addr) (x6 x7 x8 x9 x10 x11 x12 : Option V) : L2.St := [some (.ref p), some (.ref h), some (.ref D), some (.int (pl : Nat)), some (.int (st : Nat)), some (.ref a), x6, x7, x8, x9, x10, x11, x12]
theorem GrAt.pot {C2 p h l D a : Addr} {H H' : Hp} {n : Nat} {xs ys zs : List V} {ds : List Dd} {its : List It} {pl st : Nat} {k : Hr} (g : GrAt C2 H p h l D a n xs ys zs ds its pl st k) (hp' : PotAt H' p) (b : ButD p H H') : GrAt C2 H' p h l D a n xs ys zs ds its pl st k :=
  ⟨hp', g.hh.pot g.hp g.lp b, g.wf, g.lp, g.dA.pot g.hp g.nDp b, g.nDp, g.la.pot g.hp g.nap b, g.nap, g.gi, g.dn, g.pn, g.sm⟩
theorem GrAt.same {C2 p h l D a : Addr} {H H' : Hp} {n : Nat} {xs ys zs : List V} {ds : List Dd} {its : List It} {pl st : Nat} {k : Hr} (g : GrAt C2 H p h l D a n xs ys zs ds its pl st k) (s : Same H H') : GrAt C2 H' p h l D a n xs ys zs ds its pl st k :=
  g.pot (g.hp.same s) (Same.but s)
section
variable {P : Program} {w : World} {K : PySem.W.Frag} {mg : Str → Option Value} {base : Heap} {C2 : Addr}
structure GK (P : Program) (w : World) (K : PySem.W.Frag) (mg : Str → Option Value) (base : Heap) (C2 : Addr) : Prop where
  n : Nm mg
  dn : Fn P w K mg base 8 "_law_done" ["_law_deeds", "_law_place", "_law_number", "_law_items"] (spDn 2)
  fl : Fn P w K mg base 4 "_law_flat" ["_law_items"] (spFl 2)
  wk : Fn P w K mg base 1 "_law_walked" ["_law_deeds", "_law_place", "_law_start", "_law_items"] spWk
  ro : Fn P w K mg base 12 "roof_of" P4 (spRO C2)
  kro : KRO P w K mg base C2
  iu : Fn P w K mg base 12 "is_under" P5 (spIU C2)
  kiu : KIU P w K mg base C2
  be : Fn P w K mg base 11 "behind" P4 (spBe C2)
  dr : Fn P w K mg base 1 "_law_draw" ["_law_pot_here", "_law_many"] spDraw
  go : Fn P w K mg base 9 "_law_going" ["_law_pot_here", "_law_deeds", "_law_place", "_law_start"] spGo
theorem ok_gr {f : Addr} {fd : FuncData} (F : Fun K "_law_going_right" "_law_going_right" (top 57) f fd) (k : GK P w K mg base C2) : FnG P w K mg base 13 f fd PGr (spGR C2) := by
  refine okG F scGr (fun vs H Q h => ?_) (fun cdv A outer s H vs Q hg hr h => ?_)
  · obtain ⟨p, h, l, D, a, m, xs, ys, zs, ds, its, pl, st, kk, rfl, _⟩ := h
    rfl
  · obtain ⟨p, h, l, D, a, m, xs, ys, zs, ds, its, pl, st, kk, rfl, g, q⟩ := h
    have N := scGr.nd
    have n := k.n
    have r1 := hr.mono (k := 12) (j := 1) (by decide)
    have r4 := hr.mono (k := 12) (j := 4) (by decide)
    have r8 := hr.mono (k := 12) (j := 8) (by decide)
    have r9 := hr.mono (k := 12) (j := 9) (by decide)
    have r11 := hr.mono (k := 12) (j := 11) (by decide)
    refine ⟨_, pss_cons (ps_asg (pe_fn k.dn r8 (pa_cons (pv 2) (pa_cons (pv 3) (pa_cons (pv 4) (pa_cons (pv 5) pa_nil))))) (pg_tup rfl (pgs_cons (pg_name (i := 6) N rfl (.inl rfl)) (pgs_cons (pg_name (i := 7) N rfl (.inl rfl)) pgs_nil))))
      (pss_cons (ps_par (i := 8) (j := 9) rfl N rfl rfl (by decide) rfl rfl (pa_cons (pe_callB (call_reprAny hg hr.units) (by rfl) n.repr (by decide +kernel) (pa_cons (pv 5) pa_nil)) (pa_cons (pe_fn k.fl r4 (pa_cons (pv 5) pa_nil)) pa_nil)) (by rfl))
      (pss_cons (ps_if (pw_and (pt_cmp (pc_notN (pv 9))) (pw_and1 (pt_cmpR op_ne (pe_fn k.wk r1 (pa_cons (pv 2) (pa_cons (pv 3) (pa_cons (pv 4) (pa_cons (pv 9) pa_nil))))) (pv 7) (nomark _)))).pt (pss_one (ps_ret pe_bl)) pss_nil)
      (pss_cons (ps_set (i := 10) N rfl (.inl rfl) (pe_lst (pa_cons (pe_fn k.ro hr (pa_cons (pv 1) (pa_cons (pv 3) (pa_cons (pv 4) (pa_cons (pv 5) pa_nil))))) (pa_cons (pe_kRO k.kro hr (pk_cons (pe_callTy call_tuple_of (by rfl) n.tuple (by decide +kernel) (pa_cons (pv 5) pa_nil)) (pk_cons (pv 4) (pk_cons (pv 3) (pk_cons (pv 1) pk_nil))))) pa_nil))))
      (pss_cons (ps_if (pw_or (pt_cmpR op_ne (pe_callB (call_reprAny hg hr.units) (by rfl) n.repr (by decide +kernel) (pa_cons (pv 10) pa_nil)) (pe_callB (call_reprAny hg hr.units) (by rfl) n.repr (by decide +kernel) (pa_cons (pe_op op_rep (pe_lst (pa_cons (pv 7) pa_nil)) pe_int) pa_nil)) (nomark _))
          (pw_or (pt_cmpR (op_neD hr.units) (pe_fn k.be r11 (pa_cons (pv 1) (pa_cons (pv 3) (pa_cons (pv 4) (pa_cons (pv 5) pa_nil))))) (pv 6) (nomark _))
            (pw_or1 (pt_cmpR op_ne (pe_callB (call_reprAny hg hr.units) (by rfl) n.repr (by decide +kernel) (pa_cons (pv 5) pa_nil)) (pv 8) (nomark _))))).pt (pss_one (ps_ret pe_bl)) pss_nil)
      (pss_cons (ps_set (i := 11) N rfl (.inl rfl) (pe_lst (pa_cons (pe_fn k.iu hr (pa_cons (pv 1) (pa_cons (pv 3) (pa_cons (pv 4) (pa_cons (pv 5) (pa_cons (pv 7) pa_nil)))))) (pa_cons (pe_fn k.iu hr (pa_cons (pv 1) (pa_cons (pv 3) (pa_cons (pv 4) (pa_cons (pv 5) (pa_cons (pe_op op_add (pv 7) (pe_fn k.dr r1 (pa_cons (pv 0) (pa_cons pe_int pa_nil)))) pa_nil)))))) pa_nil))))
      (pss_cons (ps_expr (pe_bm PySem.F.plainAttrs_list PySem.F.slot_list_append PySem.F.type_list_append mt_append (pv 11) (pa_cons (pe_and (pe_cmpR op_gt (pv 7) pe_int (nomark _)) (pe_one (pe_kIU k.kiu hr (pk_cons (pe_op op_sub (pv 7) pe_int) (pk_cons (pv 5) (pk_cons (pv 4) (pk_cons (pv 3) (pk_cons (pv 1) pk_nil)))))))) pa_nil)))
      (pss_cons (ps_if (pt_cmpR op_ne (pe_callB (call_reprAny hg hr.units) (by rfl) n.repr (by decide +kernel) (pa_cons (pv 11) pa_nil)) (pe_callB (call_reprAny hg hr.units) (by rfl) n.repr (by decide +kernel) (pa_cons (pe_lst (pa_cons pe_bl (pa_cons pe_bl (pa_cons pe_bl pa_nil)))) pa_nil)) (nomark _)) (pss_one (ps_ret pe_bl)) pss_nil)
      (pss_cons (ps_set (i := 12) N rfl (.inl rfl) (pe_fn k.go r9 (pa_cons (pv 0) (pa_cons (pv 2) (pa_cons (pe_ix ix_tup (pv 6) pe_int (fun _ _ => rfl)) (pa_cons (pe_ix ix_tup (pv 6) pe_int (fun _ _ => rfl)) pa_nil))))))
      (pss_one (ps_ret (pe_cmpR op_eq (pe_fn k.ro hr (pa_cons (pv 1) (pa_cons (pv 3) (pa_cons (pv 4) (pa_cons (pe_op op_cat (pv 5) (pv 12)) pa_nil)))))
        (pe_callB (call_max2 rfl) (by rfl) n.max (by decide +kernel) (pa_cons (pv 7) (pa_cons (pe_fn k.ro hr (pa_cons (pv 1) (pa_cons (pe_ix ix_tup (pv 6) pe_int (fun _ _ => rfl)) (pa_cons (pe_ix ix_tup (pv 6) pe_int (fun _ _ => rfl)) (pa_cons (pv 12) pa_nil))))) pa_nil))) (nomark _)))))))))))), ?_⟩
    obtain ⟨dA, most, k0, ke, kp0, kpm⟩ := g.doing
    have wf := g.wf
    have ok := wf.ok
    have gi := g.gi
    have sm := g.sm
    have dn := g.dn
    have ln := gi.ln
    have dp2 := gi.dp
    have hun := gi.un
    have pl1 := pk_len (row_one ok its)
    have pnn := pk_nn (row ds its)
    have rl : (row ds its).length = (unM its).length := row_len ds its
    obtain ⟨⟨kp, ks⟩, km⟩ := kk
    have k0' : 0 ≤ ks := k0
    have kp0' : 0 ≤ kp := kp0
    have kpm' : kp < m := kpm
    have ke' : ks = (st : Int) + gnR (row ds its) := ke
    have most' : km = (st : Int) + pk (row ds its) := most
    clear k0 kp0 kpm ke most
    obtain ⟨ks, rfl⟩ : ∃ z : Nat, ks = z := ⟨ks.toNat, by omega⟩
    obtain ⟨kp, rfl⟩ : ∃ z : Nat, kp = z := ⟨kp.toNat, by omega⟩
    obtain ⟨km, rfl⟩ : ∃ z : Nat, km = z := ⟨km.toNat, by omega⟩
    have kmb : ((km : Nat) : Int).natAbs < 2 ^ 90 := by
      have e : km ≤ st + (unM its).length := by omega
      rw [Int.natAbs_natCast]
      exact Nat.lt_of_le_of_lt e (mul_ck sm hun)
    have shI : Showy (.list (It.DL its)) := (sw_M its gi.sm).lst.showy (Nat.le_trans gi.nd (by decide)) (by omega)
    -- done
    refine seqV (Good := fun σ2 H1 => ∃ s : Addr, Same H H1 ∧ H1 s = some (.tup [.int (kp : Nat), .int (ks : Nat)]) ∧ σ2 = σG p h D pl st a (some (.ref s)) (some (.int (km : Nat))) none none none none none) ?_ ?_
    · intro nx hnx
      refine ⟨_, rfl, _, rfl, _, rfl, _, rfl, p, D, a, ys, zs, ds, m, its, ((pl : Int), (st : Int)), rfl, g.dA, g.la, ⟨gi.ok, gi.fw, gi.dp, by omega⟩, fun v H1 s1 hv => ?_⟩
      rw [dn] at hv
      obtain ⟨t, e, rfl, ht, s, rfl, hs⟩ := hv
      exact ⟨t, _, rfl, .inl (.inl ht), rfl, _, _, rfl, _, _, rfl, rfl, hnx _ _ ⟨s, s1, hs, rfl⟩⟩
    rintro _ H1 ⟨s, s1, hs1, rfl⟩
    have g1 := g.same s1
    -- stay, flat
    refine seqV (Good := fun σ2 H2 => ∃ fv : V, Same H1 H2 ∧ FV 2 H2 fv its ∧ σ2 = σG p h D pl st a (some (.ref s)) (some (.int (km : Nat))) (some (.str (PyData.shown (.list (It.DL its))))) (some fv) none none none) ?_ ?_
    · intro nx hnx
      refine ⟨_, rfl, _, _, rfl, .lst (.inl (.inl g1.la.1)) (dp_M its g1.la.2), shI, _, rfl, p, a, zs, its, rfl, g1.la, gi.dp, by decide, fun fv H2 s2 hf => ?_⟩
      exact ⟨_, _, rfl, hnx _ _ ⟨fv, s2, hf, rfl⟩⟩
    rintro _ H2 ⟨fv, s2, hf, rfl⟩
    have g2 := g1.same s2
    have hs2 := s2 _ _ hs1
    refine seqV (Good := fun σ2 H3 => H2 = H3 ∧ σ2 = σG p h D pl st a (some (.ref s)) (some (.int (km : Nat))) (some (.str (PyData.shown (.list (It.DL its))))) (some fv) none none none) ?_ ?_
    · intro nx hnx
      rcases hf with rfl | ⟨l2, rfl, hl2, le⟩
      · exact ⟨_, rfl, false, rfl, iteF (hnx _ _ ⟨rfl, rfl⟩)⟩
      · refine ⟨_, rfl, true, rfl, iteT ⟨_, rfl, _, rfl, _, rfl, _, rfl, D, l2, ys, ds, m, pl, st, unM its, rfl, g2.dA, hl2, un_ltM its gi.ok, _, rfl, rfl, false, ?_, iteF (hnx _ _ ⟨rfl, rfl⟩)⟩⟩
        rw [most']
        show V.bl (!decide (V.int ((st : Int) + pk (row ds its)) = V.int ((st : Int) + pk (row ds its)))) = V.bl false
        simp
    rintro _ _ ⟨rfl, rfl⟩
    clear hf
    -- told
    refine seqV (Good := fun σ2 H3 => ∃ t : Addr, Same H2 H3 ∧ H3 t = some (.lst [.int (km : Nat), .int (km : Nat)]) ∧ σ2 = σG p h D pl st a (some (.ref s)) (some (.int (km : Nat))) (some (.str (PyData.shown (.list (It.DL its))))) (some fv) (some (.ref t)) none none) ?_ ?_
    · intro nx hnx
      refine ⟨_, rfl, _, rfl, _, rfl, _, rfl, p, h, l, a, m, xs, ds, zs, its, pl, st, _, rfl, g2.doing.1, fun H3 s3 => ?_⟩
      have g3 := g2.same s3
      refine ⟨_, rfl, a, zs, rfl, .inl ⟨.inl (.inl g3.la.1), fun o ho => ?_⟩⟩
      have so := same_upd (o := .tup zs) ho
      have g4 := g3.same so
      refine ⟨_, rfl, _, rfl, _, rfl, rfl, rfl, p, h, l, o, m, xs, ds, zs, its, pl, st, _, rfl, { g4.doing.1 with ga := ⟨g4.la.2, .inr upd_same⟩ }, fun H4 s4 => ⟨(by show 2 ≤ sizeLine; decide), fun t ht => ?_⟩⟩
      rw [← most'] at *
      exact hnx _ _ ⟨t, s3.trans (so.trans (s4.trans (same_upd ht))), upd_same, rfl⟩
    rintro _ H3 ⟨t, s3, ht, rfl⟩
    have g3 := g2.same s3
    have hs3 := s3 _ _ hs2
    -- compared
    refine seqV (Good := fun σ2 H4 => Same H3 H4 ∧ σ2 = σG p h D pl st a (some (.ref s)) (some (.int (km : Nat))) (some (.str (PyData.shown (.list (It.DL its))))) (some fv) (some (.ref t)) none none) ?_ ?_
    · intro nx hnx
      refine ⟨_, rfl, _, _, rfl, .lst (.inl (.inl ht)) (.cons (.int _) (.cons (.int _) .nil)), two_showy kmb, ?_⟩
      refine ⟨_, rfl, (by show 1 ≤ sizeLine; decide), fun o ho => ?_⟩
      have so := same_upd (o := .lst [V.int (km : Nat)]) ho
      refine ⟨o, 2, _, rfl, rfl, upd_same, by decide, by decide, (by show 1 * 2 ≤ sizeLine; decide), fun o2 ho2 => ?_⟩
      have eo : (List.replicate (2 : Int).toNat [V.int (km : Nat)]).flatten = [V.int (km : Nat), V.int (km : Nat)] := rfl
      rw [eo]
      have so2 := same_upd (o := .lst [V.int (km : Nat), V.int (km : Nat)]) ho2
      refine ⟨_, _, rfl, .lst (.inl (.inl upd_same)) (.cons (.int _) (.cons (.int _) .nil)), two_showy kmb, rfl, false, by simp, iteF ?_⟩
      have g4 := g3.same (so.trans so2)
      refine ⟨_, rfl, _, rfl, _, rfl, _, rfl, p, h, l, a, m, xs, ds, zs, its, pl, st, _, rfl, g4.doing.1, fun b H5 s5 hb => ?_⟩
      have s35 := (so.trans so2).trans s5
      have hs5 := s35 _ _ hs3
      have g5 := g4.same s5
      refine ⟨_, rfl, .tuple [.int (kp : Nat), .int (ks : Nat)], .tuple [.int (kp : Nat), .int (ks : Nat)], .tup (.inl (.inl hb)) (.cons (.int _) (.cons (.int _) .nil)), .tup (.inl (.inl hs5)) (.cons (.int _) (.cons (.int _) .nil)), pr_shaped _ _, pr_shaped _ _, false, ?_, iteF ?_⟩
      · have := pr_eqv ((kp : Int), (ks : Int)) ((kp : Int), (ks : Int))
        rw [decide_eq_true rfl] at this
        rw [this]
        rfl
      · exact ⟨_, rfl, _, _, rfl, .lst (.inl (.inl g5.la.1)) (dp_M its g5.la.2), shI, _, rfl, rfl, false, by simp, iteF (hnx _ _ ⟨s35, rfl⟩)⟩
    rintro _ H4 ⟨s4, rfl⟩
    have g4 := g3.same s4
    have hs4 := s4 _ _ hs3
    have b4 : ButD p H H4 := Same.but (s1.trans (s2.trans (s3.trans s4)))
    clear ht s1 s2 s3 s4 g1 g2 g3 hs1 hs2 hs3 H1 H2 H3
    -- asked
    refine seqV (Good := fun σ2 H5 => ∃ (o : Addr), PotAt H5 p ∧ ButD p H4 H5 ∧ H4 o = none ∧ o ≠ p ∧ H5 o = some (.lst [.bl true, .bl true]) ∧ σ2 = σG p h D pl st a (some (.ref s)) (some (.int (km : Nat))) (some (.str (PyData.shown (.list (It.DL its))))) (some fv) (some (.ref t)) (some (.ref o)) none) ?_ ?_
    · intro nx hnx
      refine ⟨_, rfl, _, rfl, _, rfl, _, rfl, _, rfl, p, h, l, a, m, xs, ds, zs, its, pl, st, km, _, rfl, g4.doing.1, fun H5 s5 => ?_⟩
      have g5 := g4.same s5
      rw [decide_eq_true (by omega)]
      refine ⟨_, rfl, _, rfl, _, rfl, _, rfl, _, rfl, _, rfl, p, 9, rfl, g5.hp, by decide, by decide, fun d H6 d0 d9 hp6 b6 => ?_⟩
      obtain ⟨dd, rfl⟩ : ∃ z : Nat, d = z := ⟨d.toNat, by omega⟩
      have g6 := g5.pot hp6 b6
      refine ⟨_, _, rfl, rfl, p, h, l, a, m, xs, ds, zs, its, pl, st, km + dd, _, ?_, g6.doing.1, fun H7 s7 => ⟨(by show 2 ≤ sizeLine; decide), fun o ho => ?_⟩⟩
      · rw [show ((km + dd : Nat) : Int) = (km : Int) + (dd : Int) by omega]
        rfl
      rw [decide_eq_true (by omega)]
      have b47 : ButD p H4 H7 := ButD.trans (Same.but s5) (ButD.trans b6 (Same.but s7))
      have g7 := g6.same s7
      have so := same_upd (o := .lst [V.bl true, V.bl true]) ho
      exact hnx _ _ ⟨o, g7.hp.same so, ButD.trans b47 (Same.but so), pot_free g4.hp g7.hp b47 ho, pot_new g7.hp ho, upd_same, rfl⟩
    rintro _ H5 ⟨o, hp5, b5, no, nop, ho, rfl⟩
    have g5 := g4.pot hp5 b5
    -- append
    refine seqV (Good := fun σ2 H6 => PotAt H6 p ∧ ButD p H4 H6 ∧ H6 o = some (.lst [.bl true, .bl true, .bl false]) ∧ σ2 = σG p h D pl st a (some (.ref s)) (some (.int (km : Nat))) (some (.str (PyData.shown (.list (It.DL its))))) (some fv) (some (.ref t)) (some (.ref o)) none) ?_ ?_
    · intro nx hnx
      refine ⟨_, rfl, .inl ⟨rfl, _, .inl (.inl ho)⟩, _, rfl, _, _, rfl, rfl, decide ((km : Int) > 0), rfl, ?_⟩
      by_cases c : km = 0
      · rw [decide_eq_false (by omega)]
        refine iteF ⟨o, _, _, rfl, rfl, ho, (by show 2 < sizeLine; decide), ?_⟩
        exact hnx _ _ ⟨pot_upd hp5 nop, but_put b5 no, upd_same, rfl⟩
      · rw [decide_eq_true (by omega)]
        obtain ⟨j, rfl⟩ : ∃ j, km = j + 1 := ⟨km - 1, by omega⟩
        refine iteT ⟨_, rfl, _, _, rfl, rfl, _, rfl, _, rfl, _, rfl, _, rfl, rfl, rfl, p, h, l, a, m, xs, ds, zs, its, pl, st, j, _, ?_, g5.doing.1, fun H6 s6 => ?_⟩
        · show [V.ref h, V.int (pl : Nat), V.int (st : Nat), V.ref a, V.int (((j + 1 : Nat) : Int) - 1)] = _
          rw [show ((j + 1 : Nat) : Int) - 1 = (j : Int) by omega]
        rw [decide_eq_false (by omega)]
        refine ⟨o, _, _, rfl, rfl, s6 _ _ ho, (by show 2 < sizeLine; decide), ?_⟩
        exact hnx _ _ ⟨pot_upd (hp5.same s6) nop, but_put (ButD.trans b5 (Same.but s6)) no, upd_same, rfl⟩
    rintro _ H6 ⟨hp6, b6, ho6, rfl⟩
    have g6 := g4.pot hp6 b6
    have hs6 := b6 _ _ (pot_ne g4.hp hs4) hs4
    refine seqV (Good := fun σ2 H7 => Same H6 H7 ∧ σ2 = σG p h D pl st a (some (.ref s)) (some (.int (km : Nat))) (some (.str (PyData.shown (.list (It.DL its))))) (some fv) (some (.ref t)) (some (.ref o)) none) ?_ ?_
    · intro nx hnx
      refine ⟨_, rfl, _, _, rfl, .lst (.inl (.inl ho6)) (.cons (.bl _) (.cons (.bl _) (.cons (.bl _) .nil))), three_showy, ?_⟩
      refine ⟨(by show 3 ≤ sizeLine; decide), fun o2 ho2 => ?_⟩
      exact ⟨_, _, rfl, .lst (.inl (.inl upd_same)) (.cons (.bl _) (.cons (.bl _) (.cons (.bl _) .nil))), three_showy, rfl, false, by simp, iteF (hnx _ _ ⟨same_upd ho2, rfl⟩)⟩
    rintro _ H7 ⟨s7, rfl⟩
    have g7 := g6.same s7
    have hs7 := s7 _ _ hs6
    have b47 := ButD.trans b6 (Same.but s7)
    refine seqV (Good := fun σ2 H8 => ∃ (a2 : Addr) (zs2 : List V) (its2 : List It) (h2 : Hr), PotAt H8 p ∧ ButD p H7 H8 ∧ a2 ≠ p ∧ LsAt p H8 a2 zs2 its2 ∧ GI ds.length 2 9 (9 * (8 * 10 ^ 20)) (9 * 556) its2 ∧ dnM ds its2 (((kp : Int), (ks : Int)), (ks : Int)) = some h2 ∧ σ2 = σG p h D pl st a (some (.ref s)) (some (.int (km : Nat))) (some (.str (PyData.shown (.list (It.DL its))))) (some fv) (some (.ref t)) (some (.ref o)) (some (.ref a2))) ?_ ?_
    · intro nx hnx
      refine ⟨_, rfl, _, rfl, _, rfl, s, _, _, _, rfl, rfl, .inl (.inl hs7), rfl, _, rfl, s, _, _, _, rfl, rfl, .inl (.inl hs7), rfl, p, D, ys, ds, m, ((kp : Int), (ks : Int)), rfl, g7.hp, g7.dA, g7.nDp, wf.len, fun a2 zs2 its2 h2 H8 na2 la2 gi2 dn2 hp8 b8 => ?_⟩
      exact hnx _ _ ⟨a2, zs2, its2, h2, hp8, b8, pot_new g7.hp na2, la2, gi2, dn2, rfl⟩
    rintro _ H8 ⟨a2, zs2, its2, h2, hp8, b8, na2, la2, gi2, dn2, rfl⟩
    have g8 := g7.pot hp8 b8
    have hs8 := b8 _ _ (pot_ne g7.hp hs7) hs7
    have gn2 := gi2.dp
    have gl2 := gi2.ln
    have br2 := dnM_ok ok its2 (((kp : Int), (ks : Int)), (ks : Int)) h2 gi2.ok (by show (0 : Int) ≤ (ks : Int); omega) (Int.le_refl _) dn2
    have run2 : runD (row ds its2) (kp : Int) (ks : Int) = some h2.1 := br2.run
    have run1 : runD (row ds its) (pl : Int) (st : Int) = some ((kp : Int), (ks : Int)) := dA.run
    have d2 : DoAt C2 H8 p h l m xs ds a2 zs2 its2 kp ks h2.1 := ⟨g8.hh, wf, ⟨la2.2, .inl ⟨na2, la2.1⟩⟩, gi2.ok, gi2.fw, by omega, by omega, by omega, run2⟩
    have ga := gi.app gi2
    have gad := ga.dp
    have gal := ga.ln
    have e1 := g8.la.2.itl
    have e2 := la2.2.itl
    refine ⟨_, rfl, _, rfl, _, rfl, _, rfl, _, rfl, a, a2, zs, zs2, rfl, rfl, g8.la.1, la2.1, by rw [e1, e2, sizeLine_eq]; omega, fun o2 ho2 => ?_⟩
    have so := same_upd (o := .lst (zs ++ zs2)) ho2
    refine ⟨p, h, l, o2, m, xs, ds, zs ++ zs2, its ++ its2, pl, st, h2.1, rfl, ⟨g8.hh.same so, wf, ⟨by rw [DL_app]; exact DVs.same so (DVs.app' g8.la.2 la2.2), .inl ⟨pot_new hp8 ho2, upd_same⟩⟩, ga.ok, ga.fw, by omega, by omega, g.pn, by rw [row_app, runD_app, run1]; exact run2⟩, fun H9 s9 => ?_⟩
    have s89 := so.trans s9
    have hs9 := s89 _ _ hs8
    refine ⟨_, rfl, _, rfl, _, rfl, s, _, _, _, rfl, rfl, .inl (.inl hs9), rfl, _, rfl, s, _, _, _, rfl, rfl, .inl (.inl hs9), rfl, _, rfl, p, h, l, a2, m, xs, ds, zs2, its2, kp, ks, h2.1, rfl, d2.same s89, fun H10 s10 => ⟨_, _, rfl, rfl, ?_⟩⟩
    have e : (st : Int) + pk (row ds (its ++ its2)) = if (ks : Int) + pk (row ds its2) > (km : Int) then (ks : Int) + pk (row ds its2) else (km : Int) := by
      rw [row_app, pk_app]
      split <;> omega
    rw [e, decide_eq_true rfl]
    exact q H10 (hp8.same (s89.trans s10)) (ButD.trans b4 (ButD.trans b47 (ButD.trans b8 (Same.but (s89.trans s10)))))
end
end L2.K75
end

section
set_option Elab.async false
set_option linter.all false
set_option maxRecDepth 100000
set_option maxHeartbeats 4000000
namespace L2.K75
open PySem PySem.Spec PyProof.Rows L2.Gd
section
variable {K : PySem.W.Frag} {mg : Str → Option Value} {h : Heap} {C f p g N : Addr} {x qual : Str} {st : Stmt} {oc kV doc pm cdv ct : Value} {od an : Option Addr} {osl : Array (Option Value)}
/-- a def of the top -/
def MFact (K : PySem.W.Frag) (mg : Str → Option Value) (x : Str) (st : Stmt) : Prop := ∃ f fd, mg x = some (.ref f) ∧ Fun K x x st f fd
theorem mfact (X : K.In h) (G : h.Ns mainGlobals mg) (a : PySem.W.nsIn K mainGlobals x = some (some (.ref f)))
    (l : K.lookup f = some ⟨oc, od, .func (PySem.W.fnOf x x (defArgs st) (defBody st) (defScope st) .none kV doc pm an cdv ct), osl⟩) (c : PySem.W.codeIn K cdv x = true) (k : PySem.W.keepIn K (.ref f) = true) : MFact K mg x st :=
  ⟨f, _, PySem.W.mg_of X G a, fun_mk l c k⟩
/-- a method -/
def CFact (K : PySem.W.Frag) (C : Addr) (x qual : Str) (st : Stmt) : Prop := ∃ f fd, Meth K C x f ∧ Fun K x qual st f fd
theorem cfact (a : PySem.W.findIn K (.ref C) x = some (some (.ref f))) (i : PySem.W.isFn K (.ref f) = true)
    (l : K.lookup f = some ⟨oc, od, .func (PySem.W.fnOf x qual (defArgs st) (defBody st) (defScope st) .none kV doc pm an cdv ct), osl⟩) (c : PySem.W.codeIn K cdv qual = true) (k : PySem.W.keepIn K (.ref f) = true) : CFact K C x qual st :=
  ⟨f, _, ⟨a, i, k⟩, fun_mk l c k⟩
/-- a property -/
def PFact (K : PySem.W.Frag) (C : Addr) (x qual : Str) (st : Stmt) : Prop := ∃ p g fd, PropOf K C x p g ∧ Fun K x qual st g fd
theorem pfact {rest : List Value} (a : PySem.W.findIn K (.ref C) x = some (some (.ref p))) (b : PySem.W.specialIn K (.ref p) "__get__" = some (some (.builtin "property.__get__"))) (t : PySem.W.takesIn K (.ref p) = some true)
    (r : PySem.W.recIn K p "property" = some (.ref g :: rest))
    (l : K.lookup g = some ⟨oc, od, .func (PySem.W.fnOf x qual (defArgs st) (defBody st) (defScope st) .none kV doc pm an cdv ct), osl⟩) (c : PySem.W.codeIn K cdv qual = true) (k : PySem.W.keepIn K (.ref g) = true) : PFact K C x qual st :=
  ⟨p, g, _, ⟨a, b, t, ⟨rest, r⟩⟩, fun_mk l c k⟩
theorem kbn_of {f : Addr} {fd : FuncData} {ps ks : List Str} {n : Nat} {g : List Value → List Value → List Value} {gV : List V → List V → List V} (F : Fun K x qual st f fd)
    (h : ∀ (kV doc pm : Value) (an : Option Addr) (cdv ct : Value) (us ws : List Value), us.length = n → ws.length = ks.length →
      bindArgs (PySem.W.fnOf x qual (defArgs st) (defBody st) (defScope st) .none kV doc pm an cdv ct) ⟨us, ks.zip ws⟩ = pure (ps.zip (g us ws)))
    (r : ∀ {vs : List V} {us : List Value} {zs : List V} {ws : List Value}, Vals vs us → Vals zs ws → Vals (gV vs zs) (g us ws)) : KBn K fd ps n ks g gV := by
  obtain ⟨oc, od, kV, doc, pm, an, cdv, ct, osl, rfl, lk, hcd⟩ := F.ex
  exact ⟨fun s us ws _ l1 l2 => .of_eq (h kV doc pm an cdv ct us ws l1 l2), r⟩
/-- a def with defaults -/
def DFact (K : PySem.W.Frag) (mg : Str → Option Value) (x : Str) (st : Stmt) (dvs : List V) : Prop := ∃ f fd, mg x = some (.ref f) ∧ FunD K x x (defArgs st) (defBody st) (defScope st) dvs [] f fd
theorem dfact_b {T : Addr} {tc : Value} {td : Option Addr} {b : Bool} {tn : Nat} {tsl : Array (Option Value)} (X : K.In h) (G : h.Ns mainGlobals mg) (a : PySem.W.nsIn K mainGlobals x = some (some (.ref f)))
    (l : K.lookup f = some ⟨oc, od, .func (PySem.W.fnOf x x (defArgs st) (defBody st) (defScope st) (.ref T) kV doc pm an cdv ct), osl⟩) (c : PySem.W.codeIn K cdv x = true) (k : PySem.W.keepIn K (.ref f) = true)
    (t : K.lookup T = some ⟨tc, td, .seq #[.bool b] tn, tsl⟩) : DFact K mg x st [.bl b] :=
  ⟨f, _, PySem.W.mg_of X G a, ⟨⟨oc, od, .ref T, kV, doc, pm, an, cdv, ct, osl, rfl, l, c, .inr ⟨List.cons_ne_nil _ _, T, _, [.bool b], tn, rfl, t, rfl, .cons rfl .nil⟩, .inl rfl⟩, k⟩⟩
theorem fun_ne {y r : Str} {st2 : Stmt} {g : Addr} {fd fd2 : FuncData} (F : Fun K x qual st f fd) (G : Fun K y r st2 g fd2) (n : x ≠ y) : f ≠ g := by
  rintro rfl
  obtain ⟨_, _, _, _, _, _, _, _, _, rfl, l, _⟩ := F.ex
  obtain ⟨_, _, _, _, _, _, _, _, _, rfl, l2, _⟩ := G.ex
  have e := Option.some.inj (l.symm.trans l2)
  injection e with _ _ e2 _
  injection e2 with e3
  exact n (congrArg FuncData.name e3)
end
/-- all that the top has left -/
structure Facts (K : PySem.W.Frag) (mg : Str → Option Value) (C C2 : Addr) : Prop where
  n : Nm mg
  m4 : ∃ t, mg "MOST_LISTS" = some (.int 4 t)
  m16 : ∃ t, mg "MOST_PLACES" = some (.int 16 t)
  m60 : ∃ t, mg "MOST_DEEDS" = some (.int 60 t)
  TC : ClsC K mg C
  mkC : PySem.W.makesIn K C = true
  kpC : PySem.W.keepIn K (.ref C) = true
  TC2 : ClsT K mg C2
  mkC2 : PySem.W.makesIn K C2 = true
  kpC2 : PySem.W.keepIn K (.ref C2) = true
  ii : MFact K mg "is_integer" (top 2)
  ic : MFact K mg "is_count" (top 3)
  il : MFact K mg "is_list" (top 4)
  cm : MFact K mg "check_many" (top 15)
  cp : MFact K mg "check_place" (top 16)
  no : MFact K mg "no_course" (top 20)
  dc : MFact K mg "deed_course" (top 21)
  vb : MFact K mg "is_vain_behind" (top 22)
  ba : MFact K mg "behind_another" (top 23)
  oft : MFact K mg "done_often" (top 24)
  hf : MFact K mg "has_going_form" (top 25)
  cw : MFact K mg "course_within" (top 26)
  cn : MFact K mg "course_or_none" (top 27)
  co : MFact K mg "course_of" (top 28)
  pw : MFact K mg "peak_within" (top 30)
  cd : MFact K mg "check_doing" (top 31)
  roo : MFact K mg "roof_of" (top 32)
  iu : MFact K mg "is_under" (top 33)
  beh : MFact K mg "behind" (top 35)
  id : MFact K mg "is_deed" (top 39)
  ck : MFact K mg "check_deeds" (top 40)
  pot : MFact K mg "_law_pot" (top 43)
  dr : MFact K mg "_law_draw" (top 44)
  pk : MFact K mg "_law_pick" (top 45)
  md : MFact K mg "_law_more_deeds" (top 46)
  ca : MFact K mg "_law_can" (top 48)
  pla : MFact K mg "_law_plain" (top 49)
  lap : MFact K mg "_law_lap" (top 50)
  don : MFact K mg "_law_done" (top 51)
  ste : MFact K mg "_law_steps" (top 52)
  ite : MFact K mg "_law_item" (top 53)
  goi : MFact K mg "_law_going" (top 54)
  fla : MFact K mg "_law_flat" (top 55)
  wal : MFact K mg "_law_walked" (top 56)
  gri : MFact K mg "_law_going_right" (top 57)
  ri : MFact K mg "_law_right" (top 58)
  ho : DFact K mg "_law_house" (top 47) [.bl false]
  h_init : CFact K C2 "__init__" "House.__init__" (cHouse 0)
  h_de : CFact K C2 "deeds" "House.deeds" (cHouse 3)
  h_ln : CFact K C2 "__len__" "House.__len__" (cHouse 4)
  c_init : CFact K C "__init__" "Course.__init__" (cCrs 0)
  c_ft : CFact K C "fits" "Course.fits" (cCrs 1)
  h_pl : PFact K C2 "places" "House.places" (cHouse 1)
section
variable {P : Program} {w : World} {K : PySem.W.Frag} {mg : Str → Option Value} {base : Heap} {C C C2 : Addr}
theorem fn_mk {x : Str} {st : Stmt} {k : Nat} {ps : List Str} {sp : Sp} (m : MFact K mg x st)
    (b : ∀ (kV doc pm : Value) (an : Option Addr) (cdv ct : Value) (us : List Value), us.length = ps.length → bindArgs (PySem.W.fnOf x x (defArgs st) (defBody st) (defScope st) .none kV doc pm an cdv ct) ⟨us, []⟩ = pure (ps.zip us))
    (ok : ∀ f fd, Fun K x x st f fd → FnOk P w K mg base CX0 k f fd ps sp) : Fn P w K mg base k x ps sp := by
  obtain ⟨f, fd, e, F⟩ := m
  exact ⟨f, fd, e, F.kp, F.binds b, ok f fd F⟩
theorem fnG_mk {x : Str} {st : Stmt} {k : Nat} {ps : List Str} {sp : Sp} (m : MFact K mg x st)
    (b : ∀ (kV doc pm : Value) (an : Option Addr) (cdv ct : Value) (us : List Value), us.length = ps.length → bindArgs (PySem.W.fnOf x x (defArgs st) (defBody st) (defScope st) .none kV doc pm an cdv ct) ⟨us, []⟩ = pure (ps.zip us))
    (ok : ∀ f fd, Fun K x x st f fd → FnG P w K mg base k f fd ps sp) : FnGd P w K mg base k x ps sp := by
  obtain ⟨f, fd, e, F⟩ := m
  exact ⟨f, fd, e, F.kp, F.binds b, ok f fd F⟩
theorem me_mk {x qual : Str} {st : Stmt} {k : Nat} {ps : List Str} {sp : Sp} (m : CFact K C x qual st)
    (b : ∀ (kV doc pm : Value) (an : Option Addr) (cdv ct : Value) (us : List Value), us.length = ps.length → bindArgs (PySem.W.fnOf x qual (defArgs st) (defBody st) (defScope st) .none kV doc pm an cdv ct) ⟨us, []⟩ = pure (ps.zip us))
    (ok : ∀ f fd, Fun K x qual st f fd → FnOk P w K mg base CX0 k f fd ps sp) : MeH P w K mg base C x k ps sp := by
  obtain ⟨f, fd, e, F⟩ := m
  exact ⟨f, fd, e, F.binds b, ok f fd F⟩
theorem pr_mk {x qual : Str} {st : Stmt} {sp : Sp} (m : PFact K C x qual st)
    (b : ∀ (kV doc pm : Value) (an : Option Addr) (cdv ct : Value) (us : List Value), us.length = (["self"] : List Str).length → bindArgs (PySem.W.fnOf x qual (defArgs st) (defBody st) (defScope st) .none kV doc pm an cdv ct) ⟨us, []⟩ = pure ((["self"] : List Str).zip us))
    (ok : ∀ f fd, Fun K x qual st f fd → FnOk P w K mg base CX0 1 f fd ["self"] sp) : PrH P w K mg base C x sp := by
  obtain ⟨p, g, fd, e, F⟩ := m
  exact ⟨p, g, fd, e, F.binds b, ok g fd F⟩
theorem fn_never {k : Nat} {f : Addr} {fd : FuncData} {ps : List Str} {sp : Sp} (h : ∀ vs H Q E, ¬ sp vs H Q E) : FnOk P w K mg base CX0 k f fd ps sp :=
  ⟨fun vs H Q E x => (h vs H Q E x).elim, fun A outer s H args us vs Q E _ _ _ _ x => (h vs H Q E x).elim⟩
theorem fn_less {j k : Nat} {x : Str} {ps : List Str} {sp sp' : Sp} (G : Fn P w K mg base j x ps sp) (l : j ≤ k) (h : ∀ vs H Q E, sp' vs H Q E → sp vs H Q E) : Fn P w K mg base k x ps sp' := by
  obtain ⟨f, fd, e, kp, b, F⟩ := G
  exact ⟨f, fd, e, kp, b, (F.mono l).imp h⟩
theorem law_of (z : Facts K mg C C2) {f : Addr} {fd : FuncData} (F : Fun K "law" "law" sLaw f fd) : FnG P w K mg base 15 f fd ["_law_script"] (spLaw K) := by
  obtain ⟨tm4, m4⟩ := z.m4
  obtain ⟨tm16, m16⟩ := z.m16
  obtain ⟨tm60, m60⟩ := z.m60
  have n := z.n
  have T := z.TC2
  have TC := z.TC
  have II : Fn P w K mg base 1 "is_integer" ["value"] spIsInt := fn_mk z.ii (fun _ _ _ _ _ _ us hl => match us, hl with | [_], _ => rfl) fun f fd F => ok_isInt F n
  have IC : Fn P w K mg base 2 "is_count" ["value"] spIsCount := fn_mk z.ic (fun _ _ _ _ _ _ us hl => match us, hl with | [_], _ => rfl) fun f fd F => ok_isCount F II
  have IL : Fn P w K mg base 1 "is_list" ["value"] (spIsList K) := fn_mk z.il (fun _ _ _ _ _ _ us hl => match us, hl with | [_], _ => rfl) fun f fd F => ok_isList F n
  have I2 : Fn P w K mg base 1 "is_integer" ["value"] spInt2 := fn_mk z.ii (fun _ _ _ _ _ _ us hl => match us, hl with | [_], _ => rfl) fun f fd F => ok_int2 F n
  have IC2 : Fn P w K mg base 2 "is_count" ["value"] spCnt2 := fn_mk z.ic (fun _ _ _ _ _ _ us hl => match us, hl with | [_], _ => rfl) fun f fd F => ok_cnt2 F I2
  have IL2 : Fn P w K mg base 1 "is_list" ["value"] spLst2 := fn_mk z.il (fun _ _ _ _ _ _ us hl => match us, hl with | [_], _ => rfl) fun f fd F => ok_lst2 F n
  have ID : Fn P w K mg base 3 "is_deed" ["value", "places"] spIsDeed := fn_mk z.id (fun _ _ _ _ _ _ us hl => match us, hl with | [_, _], _ => rfl) fun f fd F => ok_isDeed F n II IC
  have CK : Fn P w K mg base 4 "check_deeds" ["places", "deeds"] (spCheck K) := fn_mk z.ck (fun _ _ _ _ _ _ us hl => match us, hl with | [_, _], _ => rfl) fun f fd F => ok_check F n IL ID m60
  have MK : MkH P w K mg base C2 := by
    obtain ⟨f, fd, me, F⟩ := z.h_init
    exact ⟨f, fd, ⟨z.mkC2, me.at_, me.fn, z.kpC2⟩, F.binds (fun _ _ _ _ _ _ us hl => match us, hl with | [_, _, _], _ => rfl), ok_init F n T II CK m16⟩
  have MC : MkC P w K mg base C := by
    obtain ⟨f, fd, me, F⟩ := z.c_init
    exact ⟨f, fd, ⟨z.mkC, me.at_, me.fn, z.kpC⟩, F.binds (fun _ _ _ _ _ _ us hl => match us, hl with | [_, _, _, _, _, _, _, _], _ => rfl), ok_ci F TC⟩
  have PL : PrH P w K mg base C2 "places" (spPlaces C2) := pr_mk z.h_pl (fun _ _ _ _ _ _ us hl => match us, hl with | [_], _ => rfl) fun f fd F => ok_places F T
  have DE : MeH P w K mg base C2 "deeds" 1 ["self"] (spDeeds C2) := me_mk z.h_de (fun _ _ _ _ _ _ us hl => match us, hl with | [_], _ => rfl) fun f fd F => ok_deeds F n T
  have FT : MeH P w K mg base C "fits" 1 ["self", "place", "start"] (spFits C) := me_mk z.c_ft (fun _ _ _ _ _ _ us hl => match us, hl with | [_, _, _], _ => rfl) fun f fd F => ok_fits F TC
  have LN : LenH P w K mg base C2 := by
    obtain ⟨f, fd, me, F⟩ := z.h_ln
    exact ⟨f, fd, me.at_, me.fn, F.binds (fun _ _ _ _ _ _ us hl => match us, hl with | [_], _ => rfl), ok_len F n T⟩
  have NO : Fn P w K mg base 3 "no_course" [] (spNo C) := fn_mk z.no (fun _ _ _ _ _ _ us hl => match us, hl with | [], _ => rfl) fun f fd F => ok_no F TC MC
  have DC : Fn P w K mg base 3 "deed_course" ["deed"] (spDC C) := fn_mk z.dc (fun _ _ _ _ _ _ us hl => match us, hl with | [_], _ => rfl) fun f fd F => ok_dc F n TC MC
  have VB : Fn P w K mg base 1 "is_vain_behind" ["one", "two"] (spVB C) := fn_mk z.vb (fun _ _ _ _ _ _ us hl => match us, hl with | [_, _], _ => rfl) fun f fd F => ok_vb F TC
  have BA : Fn P w K mg base 3 "behind_another" ["one", "two"] (spBA C) := fn_mk z.ba (fun _ _ _ _ _ _ us hl => match us, hl with | [_, _], _ => rfl) fun f fd F => ok_ba F n TC MC VB
  have OF : Fn P w K mg base 3 "done_often" ["course", "times"] (spOf C) := fn_mk z.oft (fun _ _ _ _ _ _ us hl => match us, hl with | [_, _], _ => rfl) fun f fd F => ok_of F TC MC
  have HF : ∀ j, Fn P w K mg base (3 + j) "has_going_form" ["many", "value", "lists"] (spHF j) := by
    intro j
    induction j with
    | zero => exact fn_mk z.hf (fun _ _ _ _ _ _ us hl => match us, hl with | [_, _, _], _ => rfl) fun f fd F => ok_hf0 F IL2
    | succ j ih => exact fn_mk z.hf (fun _ _ _ _ _ _ us hl => match us, hl with | [_, _, _], _ => rfl) fun f fd F => ok_hfS F n IL2 IC2 ih
  have CW : ∀ j, Fn P w K mg base (4 + j) "course_within" ["deeds", "going"] (spCW C j) := by
    intro j
    induction j with
    | zero => exact fn_mk z.cw (fun _ _ _ _ _ _ us hl => match us, hl with | [_, _], _ => rfl) fun f fd F => ok_cw0 F
    | succ j ih => exact fn_mk z.cw (fun _ _ _ _ _ _ us hl => match us, hl with | [_, _], _ => rfl) fun f fd F => ok_cwS F n NO DC OF BA ih
  have CP : Fn P w K mg base 3 "check_place" ["house", "place"] (spCP C2) := fn_mk z.cp (fun _ _ _ _ _ _ us hl => match us, hl with | [_, _], _ => rfl) fun f fd F => ok_cp F T IC PL
  have CM : Fn P w K mg base 3 "check_many" ["many"] spCM := fn_mk z.cm (fun _ _ _ _ _ _ us hl => match us, hl with | [_], _ => rfl) fun f fd F => ok_cm F IC
  have CN : Fn P w K mg base 9 "course_or_none" ["house", "value"] (spCN C C2) := fn_mk z.cn (fun _ _ _ _ _ _ us hl => match us, hl with | [_, _], _ => rfl) fun f fd F => ok_cn F n T m4 LN DE (HF 4) (CW 4)
  have CO : Fn P w K mg base 10 "course_of" ["house", "going"] (spCO C C2) := fn_mk z.co (fun _ _ _ _ _ _ us hl => match us, hl with | [_, _], _ => rfl) fun f fd F => ok_co F CN
  have PW : ∀ j, Fn P w K mg base (j + 2) "peak_within" ["deeds", "going"] (spPW j) := by
    intro j
    induction j with
    | zero => exact fn_mk z.pw (fun _ _ _ _ _ _ us hl => match us, hl with | [_, _], _ => rfl) fun f fd F => ok_pw (k := 0) F n (fn_mk z.pw (fun _ _ _ _ _ _ us hl => match us, hl with | [_, _], _ => rfl) fun _ _ _ => fn_never fun _ _ _ _ x => match x with | ⟨_, e, _⟩ => nomatch e)
    | succ j ih => exact fn_mk z.pw (fun _ _ _ _ _ _ us hl => match us, hl with | [_, _], _ => rfl) fun f fd F => ok_pw (k := j + 1) F n (fn_less ih (by omega) fun _ _ _ _ x => match x with | ⟨_, e, y⟩ => by cases e; exact y)
  have CD : Fn P w K mg base 11 "check_doing" ["house", "place", "start", "going"] (spCD C2) := fn_mk z.cd (fun _ _ _ _ _ _ us hl => match us, hl with | [_, _, _, _], _ => rfl) fun f fd F => ok_cd F TC CP CM CO FT
  have RO : Fn P w K mg base 12 "roof_of" ["house", "place", "start", "going"] (spRO C2) := fn_mk z.roo (fun _ _ _ _ _ _ us hl => match us, hl with | [_, _, _, _], _ => rfl) fun f fd F => ok_roo F T CD DE (PW 3)
  have IU : Fn P w K mg base 12 "is_under" ["house", "place", "start", "going", "roof"] (spIU C2) := fn_mk z.iu (fun _ _ _ _ _ _ us hl => match us, hl with | [_, _, _, _, _], _ => rfl) fun f fd F => ok_iu F T CD CM DE (PW 3)
  have KR : KRO P w K mg base C2 := by
    obtain ⟨f, fd, e, F⟩ := z.roo
    exact ⟨f, fd, e, F.kp, kbn_of F (fun _ _ _ _ _ _ us ws l1 l2 => match us, ws, l1, l2 with | [], [_, _, _, _], _, _ => rfl) (fun _ r => prm4_vals r), ok_roo F T CD DE (PW 3)⟩
  have KU : KIU P w K mg base C2 := by
    obtain ⟨f, fd, e, F⟩ := z.iu
    exact ⟨f, fd, e, F.kp, kbn_of F (fun _ _ _ _ _ _ us ws l1 l2 => match us, ws, l1, l2 with | [], [_, _, _, _, _], _, _ => rfl) (fun _ r => prm5_vals r), ok_iu F T CD CM DE (PW 3)⟩
  have BE : Fn P w K mg base 11 "behind" ["house", "place", "start", "going"] (spBe C2) := fn_mk z.beh (fun _ _ _ _ _ _ us hl => match us, hl with | [_, _, _, _], _ => rfl) fun f fd F => ok_beh F TC CP CM CO FT
  have DW : Fn P w K mg base 1 "_law_draw" ["_law_pot_here", "_law_many"] spDraw := fn_mk z.dr (fun _ _ _ _ _ _ us hl => match us, hl with | [_, _], _ => rfl) fun f fd F => ok_draw F n
  have PK : Fn P w K mg base 2 "_law_pick" ["_law_pot_here", "_law_some"] spPick := fn_mk z.pk (fun _ _ _ _ _ _ us hl => match us, hl with | [_, _], _ => rfl) fun f fd F => ok_pick F n DW
  have MD : Fn P w K mg base 2 "_law_more_deeds" ["_law_pot_here", "_law_places", "_law_deeds", "_law_many", "_law_is_plain"] spMd := fn_mk z.md (fun _ _ _ _ _ _ us hl => match us, hl with | [_, _, _, _, _], _ => rfl) fun f fd F => ok_md F n DW
  have HO : FnD P w K mg base 3 "_law_house" ["_law_pot_here", "_law_most", "_law_is_plain"] [.bl false] spHo := by
    obtain ⟨f, fd, e, F⟩ := z.ho
    obtain ⟨ds, v, b⟩ := F.binds1 (ps := ["_law_pot_here", "_law_most", "_law_is_plain"]) 2 0 (List.cons_ne_nil _ _) rfl (fun _ _ _ _ _ _ _ us its hl hi => match us, its, hl, hi with | [_, _], [_], _, _ => ⟨_, rfl, rfl⟩)
    exact ⟨f, fd, ds, e, F.kp, v, b, ok_ho F n DW MD⟩
  have CA : Fn P w K mg base 1 "_law_can" ["_law_deed", "_law_here", "_law_number"] spCan := fn_mk z.ca (fun _ _ _ _ _ _ us hl => match us, hl with | [_, _, _], _ => rfl) fun f fd F => ok_can F
  have PM : ∀ j, Fn P w K mg base (2 * j + 2) "_law_plain" ["_law_deeds", "_law_items"] (spPl j) := by
    intro j
    induction j with
    | zero => exact fn_mk z.pla (fun _ _ _ _ _ _ us hl => match us, hl with | [_, _], _ => rfl) fun f fd F => ok_pl (k := 0) F n (fn_mk z.lap (fun _ _ _ _ _ _ us hl => match us, hl with | [_, _], _ => rfl) fun _ _ _ => fn_never fun _ _ _ _ x => match x with | ⟨_, e, _⟩ => nomatch e)
    | succ j ih =>
      have LP : Fn P w K mg base (2 * j + 3) "_law_lap" ["_law_deeds", "_law_item_here"] (spLap j) := fn_mk z.lap (fun _ _ _ _ _ _ us hl => match us, hl with | [_, _], _ => rfl) fun f fd F => ok_lap F n ih
      exact fn_mk z.pla (fun _ _ _ _ _ _ us hl => match us, hl with | [_, _], _ => rfl) fun f fd F => ok_pl (k := j + 1) F n (fn_less LP (by omega) fun _ _ _ _ x => match x with | ⟨_, e, y⟩ => by cases e; exact y)
  have DN : ∀ j, Fn P w K mg base (2 * j + 4) "_law_done" ["_law_deeds", "_law_place", "_law_number", "_law_items"] (spDn j) := by
    intro j
    induction j with
    | zero => exact fn_mk z.don (fun _ _ _ _ _ _ us hl => match us, hl with | [_, _, _, _], _ => rfl) fun f fd F => ok_dn (k := 0) F n (PM _) CA (fn_mk z.don (fun _ _ _ _ _ _ us hl => match us, hl with | [_, _, _, _], _ => rfl) fun _ _ _ => fn_never fun _ _ _ _ x => match x with | ⟨_, e, _⟩ => nomatch e)
    | succ j ih => exact fn_mk z.don (fun _ _ _ _ _ _ us hl => match us, hl with | [_, _, _, _], _ => rfl) fun f fd F => ok_dn (k := j + 1) F n (PM _) CA (fn_less ih (by omega) fun _ _ _ _ x => match x with | ⟨_, e, y⟩ => by cases e; exact y)
  have ST : Fn P w K mg base 3 "_law_steps" ["_law_pot_here", "_law_deeds", "_law_stand", "_law_many"] spSt := fn_mk z.ste (fun _ _ _ _ _ _ us hl => match us, hl with | [_, _, _, _], _ => rfl) fun f fd F => ok_st F n CA PK
  have IT : Fn P w K mg base 4 "_law_item" ["_law_pot_here", "_law_deeds", "_law_stand"] spIt := fn_mk z.ite (fun _ _ _ _ _ _ us hl => match us, hl with | [_, _, _], _ => rfl) fun f fd F => ok_it F n ST DW PK
  have GO : Fn P w K mg base 9 "_law_going" ["_law_pot_here", "_law_deeds", "_law_place", "_law_start"] spGo := fn_mk z.goi (fun _ _ _ _ _ _ us hl => match us, hl with | [_, _, _, _], _ => rfl) fun f fd F => ok_go F n (DN 2) IT DW
  have FL : ∀ j, Fn P w K mg base (j + 2) "_law_flat" ["_law_items"] (spFl j) := by
    intro j
    induction j with
    | zero => exact fn_mk z.fla (fun _ _ _ _ _ _ us hl => match us, hl with | [_], _ => rfl) fun f fd F => ok_fl (k := 0) F n (fn_mk z.fla (fun _ _ _ _ _ _ us hl => match us, hl with | [_], _ => rfl) fun _ _ _ => fn_never fun _ _ _ _ x => match x with | ⟨_, e, _⟩ => nomatch e)
    | succ j ih => exact fn_mk z.fla (fun _ _ _ _ _ _ us hl => match us, hl with | [_], _ => rfl) fun f fd F => ok_fl (k := j + 1) F n (fn_less ih (by omega) fun _ _ _ _ x => match x with | ⟨_, e, y⟩ => by cases e; exact y)
  have WK : Fn P w K mg base 1 "_law_walked" ["_law_deeds", "_law_place", "_law_start", "_law_items"] spWk := fn_mk z.wal (fun _ _ _ _ _ _ us hl => match us, hl with | [_, _, _, _], _ => rfl) fun f fd F => ok_wk F n
  have gk : GK P w K mg base C2 := { n := n, dn := DN 2, fl := FL 2, wk := WK, ro := RO, kro := KR, iu := IU, kiu := KU, be := BE, dr := DW, go := GO }
  have GR : FnGd P w K mg base 13 "_law_going_right" ["_law_pot_here", "_law_house_here", "_law_deeds", "_law_place", "_law_start", "_law_items"] (spGR C2) := fnG_mk z.gri (fun _ _ _ _ _ _ us hl => match us, hl with | [_, _, _, _, _, _], _ => rfl) fun f fd F => ok_gr F gk
  have k : RK P w K mg base C2 := { n := n, T := T, M := MK, ho := HO, dw := DW, pk := PK, go := GO, gr := GR }
  have RI : FnGd P w K mg base 14 "_law_right" ["_law_pot_here"] spRight := fnG_mk z.ri (fun _ _ _ _ _ _ us hl => match us, hl with | [_], _ => rfl) fun f fd F => ok_right F k
  have PO : Fn P w K mg base 1 "_law_pot" ["_law_script", "_law_k"] (spPot K) := fn_mk z.pot (fun _ _ _ _ _ _ us hl => match us, hl with | [_, _], _ => rfl) fun f fd F => ok_pot F n
  exact ok_law F n PO RI
theorem law_all (z : Facts K mg C C2) (l : MFact K mg "law" sLaw) {fa : Addr} (hfa : mg "law" = some (.ref fa)) :
    ∃ fd : FuncData, (∀ (s : Shared) (v : Value), BindsTo s fd ⟨[v], []⟩ [("_law_script", v)]) ∧ ∀ base : Heap, K.In base → base.Ns mainGlobals mg → FnG P w K mg base 15 fa fd ["_law_script"] (spLaw K) := by
  obtain ⟨f, fd, e, F⟩ := l
  cases hfa.symm.trans e
  refine ⟨fd, ?_, fun base _ _ => law_of z F⟩
  obtain ⟨oc, od, kV, doc, pm, an, cdv, ct, osl, rfl, _, _⟩ := F.ex
  exact fun s v => .of_eq rfl
end
end L2.K75
end

section
set_option Elab.async false
set_option linter.all false
set_option maxRecDepth 100000
set_option maxHeartbeats 2000000
namespace L2.K75
open PySem PySem.Spec PyProof.Rows L2.Gd
section
variable {K : PySem.W.Frag} {mg : Str → Option Value} {h : Heap} {C f N : Addr} {oc kV doc pm cdv ct : Value} {od an : Option Addr} {osl : Array (Option Value)}
  {nm q : Str} {bs : List Value} {sn : List Str} {sub : List Value} {ab : Bool} {col : Option Bool} {dd : Option Addr} {k0 k1 k2 k3 k5 : Option Value} {newId : String}
  {nc : Value} {nd : Option Addr} {es : Array DictEntry} {en : Nat} {nsl : Array (Option Value)}
theorem kit_ref {T : String} {b : Bool} (c1 : PySem.W.isClsIn K C = true) (c2 : PySem.W.typeIn K (.ref C) = some (.type "type")) (s : PySem.W.subIn K (.type T) (.ref C) = some b) : PySem.W.kitOne K (.type T) (.ref C) = some b := by
  unfold PySem.W.kitOne
  rw [if_neg (show ¬ (Value.type T == Value.ref C) = true from fun z => nomatch z)]
  unfold PySem.W.kitCls
  have c1' : (PySem.W.clsIn K C).isSome = true := c1
  show (if ((PySem.W.clsIn K C).isSome && PySem.W.typeIn K (.ref C) == some (.type "type")) = true then PySem.W.subIn K (.type T) (.ref C) else none) = some b
  rw [c1', c2, if_pos (by rfl)]
  exact s
theorem kit_self : PySem.W.kitOne K (.ref C) (.ref C) = some true := by
  unfold PySem.W.kitOne
  rw [if_pos (show (Value.ref C == Value.ref C) = true by simp)]
theorem ifact {x : Str} {n : Int} {t : Tok} (X : K.In h) (G : h.Ns mainGlobals mg) (a : PySem.W.nsIn K mainGlobals x = some (some (.int n t))) : ∃ t, mg x = some (.int n t) := ⟨t, PySem.W.mg_of X G a⟩
theorem clsT_of (mC : mg "House" = some (.ref C)) (pg : PySem.W.plainGet K C Str.empty = true) (hd : PySem.W.hasDictIn K C = true) (po : PySem.W.plainOver K C = true) (sa : PySem.W.findIn K (.ref C) "__setattr__" = some (some (.builtin "object.__setattr__")))
    (ha : PySem.W.findIn K (.ref C) "__class__" = some (some (.builtin "object.__class__"))) (hn : PySem.W.specialIn K (.builtin "object.__class__") "__get__" = some (some (.builtin "getset_descriptor.__get__"))) (ht : PySem.W.takesIn K (.builtin "object.__class__") = some true)
    (hm : PySem.W.mroIn K C (.type "object") = some true) (nP : PySem.W.findIn K (.ref C) "_places" = some none) (nD : PySem.W.findIn K (.ref C) "_deeds" = some none) : ClsT K mg C :=
  ⟨⟨⟨pg, hd, po, sa⟩, ha, hn, ht, hm, kit_self⟩, nP, nD, mC⟩
theorem clsC_of (mC : mg "Course" = some (.ref C)) (pg : PySem.W.plainGet K C Str.empty = true) (hd : PySem.W.hasDictIn K C = true) (po : PySem.W.plainOver K C = true) (sa : PySem.W.findIn K (.ref C) "__setattr__" = some (some (.builtin "object.__setattr__")))
    (a0 : PySem.W.findIn K (.ref C) "begin" = some none) (a1 : PySem.W.findIn K (.ref C) "finish" = some none) (a2 : PySem.W.findIn K (.ref C) "many" = some none) (a3 : PySem.W.findIn K (.ref C) "gain" = some none) (a4 : PySem.W.findIn K (.ref C) "need" = some none) (a5 : PySem.W.findIn K (.ref C) "only" = some none) (a6 : PySem.W.findIn K (.ref C) "vain" = some none) : ClsC K mg C :=
  ⟨⟨pg, hd, po, sa⟩, a0, a1, a2, a3, a4, a5, a6, mC⟩
end
end L2.K75
end

section
set_option Elab.async false
set_option linter.all false
open PySem PySem.W PyProof.Rows L2.K75
set_option maxRecDepth 100000 in
set_option maxHeartbeats 0 in
theorem PySem.Challenge.cw_lonetill_k75_whole_roofs_of_goings_holds : PySem.Challenge.rw_lonetill_k75_whole_roofs_of_goings.Holds := by
  w_on; o_law; k_head; (case hw => w_witness2)
  k_fill
  refine L2.Gd.walk_ofG (l := PySem.Challenge.rw_lonetill_k75_whole_roofs_of_goings) (n := 63) (k := 15) (x := "_law_script") (sp := L2.K75.spLaw) rfl (by decide) rfl ⟨rfl, by decide, by decide⟩ (fun w h Y => PySem.W.kIn_of Y) ?F ?hsp
  case hsp =>
    intro K H a ns hl _ hS
    exact ⟨a, ns, rfl, hS, hl, fun _ => rfl⟩
  case F =>
    intro w mg fa h KX G hmg
    refine' (fun {C C2 : Addr} (aC : PySem.W.nsIn _ mainGlobals "Course" = some (some (.ref C))) (aC2 : PySem.W.nsIn _ mainGlobals "House" = some (some (.ref C2))) (z : (mg "Course" = some (.ref C)) → (mg "House" = some (.ref C2)) → Facts _ mg C C2 ∧ MFact _ mg "law" sLaw) => law_all (z (PySem.W.mg_of KX G aC) (PySem.W.mg_of KX G aC2)).1 (z (PySem.W.mg_of KX G aC) (PySem.W.mg_of KX G aC2)).2 hmg) ?aC ?aC2 ?z
    (case aC => k_is)
    (case aC2 => k_is)
    case z =>
      intro mC mC2
      refine' ⟨⟨?n, ?m4, ?m16, ?m60, ?TC, ?mkC, ?kpC, ?TC2, ?mkC2, ?kpC2, ?ii, ?ic, ?il, ?cm, ?cp, ?no, ?dc, ?vb, ?ba, ?oft, ?hf, ?cw, ?cn, ?co, ?pw, ?cd, ?roo, ?iu, ?beh, ?id, ?ck, ?pot, ?dr, ?pk, ?md, ?ca, ?pla, ?lap, ?don, ?ste, ?ite, ?goi, ?fla, ?wal, ?gri, ?ri, ?ho, ?h_init, ?h_de, ?h_ln, ?c_init, ?c_ft, ?h_pl⟩, ?law⟩
      case n =>
        refine' ⟨PySem.W.mg_none_of KX G ?b0, PySem.W.mg_none_of KX G ?b1, PySem.W.mg_none_of KX G ?b2, PySem.W.mg_none_of KX G ?b3, PySem.W.mg_none_of KX G ?b4, PySem.W.mg_none_of KX G ?b5, PySem.W.mg_none_of KX G ?b6, PySem.W.mg_none_of KX G ?b7, PySem.W.mg_none_of KX G ?b8, PySem.W.mg_none_of KX G ?b9, PySem.W.mg_none_of KX G ?b10, PySem.W.mg_none_of KX G ?b11, PySem.W.mg_none_of KX G ?b12, PySem.W.mg_none_of KX G ?b13, PySem.W.mg_none_of KX G ?b14, PySem.W.mg_none_of KX G ?b15, PySem.W.mg_none_of KX G ?b16, PySem.W.mg_none_of KX G ?b17⟩
        (case b0 => k_is); (case b1 => k_is); (case b2 => k_is); (case b3 => k_is); (case b4 => k_is); (case b5 => k_is); (case b6 => k_is); (case b7 => k_is); (case b8 => k_is); (case b9 => k_is); (case b10 => k_is); (case b11 => k_is); (case b12 => k_is); (case b13 => k_is); (case b14 => k_is); (case b15 => k_is); (case b16 => k_is); (case b17 => k_is)
      case m4 =>
        refine' ifact KX G ?a
        case a => k_is
      case m16 =>
        refine' ifact KX G ?a
        case a => k_is
      case m60 =>
        refine' ifact KX G ?a
        case a => k_is
      case TC =>
        refine' clsC_of mC ?pg ?hd ?po ?sa ?a0 ?a1 ?a2 ?a3 ?a4 ?a5 ?a6
        (case pg => k_is); (case hd => k_is); (case po => k_is); (case sa => k_is); (case a0 => k_is); (case a1 => k_is); (case a2 => k_is); (case a3 => k_is); (case a4 => k_is); (case a5 => k_is); (case a6 => k_is)
      case mkC => k_is
      case kpC => k_is
      case TC2 =>
        refine' clsT_of mC2 ?pg ?hd ?po ?sa ?ha ?hn ?ht ?hm ?nP ?nD
        (case pg => k_is); (case hd => k_is); (case po => k_is); (case sa => k_is); (case ha => k_is); (case hn => k_is); (case ht => k_is); (case hm => k_is); (case nP => k_is); (case nD => k_is)
      case mkC2 => k_is
      case kpC2 => k_is
      case ii =>
        refine' mfact KX G ?a ?l ?c ?k
        (case a => k_is); (case l => k_is); (case c => k_is); (case k => k_is)
      case ic =>
        refine' mfact KX G ?a ?l ?c ?k
        (case a => k_is); (case l => k_is); (case c => k_is); (case k => k_is)
      case il =>
        refine' mfact KX G ?a ?l ?c ?k
        (case a => k_is); (case l => k_is); (case c => k_is); (case k => k_is)
      case cm =>
        refine' mfact KX G ?a ?l ?c ?k
        (case a => k_is); (case l => k_is); (case c => k_is); (case k => k_is)
      case cp =>
        refine' mfact KX G ?a ?l ?c ?k
        (case a => k_is); (case l => k_is); (case c => k_is); (case k => k_is)
      case no =>
        refine' mfact KX G ?a ?l ?c ?k
        (case a => k_is); (case l => k_is); (case c => k_is); (case k => k_is)
      case dc =>
        refine' mfact KX G ?a ?l ?c ?k
        (case a => k_is); (case l => k_is); (case c => k_is); (case k => k_is)
      case vb =>
        refine' mfact KX G ?a ?l ?c ?k
        (case a => k_is); (case l => k_is); (case c => k_is); (case k => k_is)
      case ba =>
        refine' mfact KX G ?a ?l ?c ?k
        (case a => k_is); (case l => k_is); (case c => k_is); (case k => k_is)
      case oft =>
        refine' mfact KX G ?a ?l ?c ?k
        (case a => k_is); (case l => k_is); (case c => k_is); (case k => k_is)
      case hf =>
        refine' mfact KX G ?a ?l ?c ?k
        (case a => k_is); (case l => k_is); (case c => k_is); (case k => k_is)
      case cw =>
        refine' mfact KX G ?a ?l ?c ?k
        (case a => k_is); (case l => k_is); (case c => k_is); (case k => k_is)
      case cn =>
        refine' mfact KX G ?a ?l ?c ?k
        (case a => k_is); (case l => k_is); (case c => k_is); (case k => k_is)
      case co =>
        refine' mfact KX G ?a ?l ?c ?k
        (case a => k_is); (case l => k_is); (case c => k_is); (case k => k_is)
      case pw =>
        refine' mfact KX G ?a ?l ?c ?k
        (case a => k_is); (case l => k_is); (case c => k_is); (case k => k_is)
      case cd =>
        refine' mfact KX G ?a ?l ?c ?k
        (case a => k_is); (case l => k_is); (case c => k_is); (case k => k_is)
      case roo =>
        refine' mfact KX G ?a ?l ?c ?k
        (case a => k_is); (case l => k_is); (case c => k_is); (case k => k_is)
      case iu =>
        refine' mfact KX G ?a ?l ?c ?k
        (case a => k_is); (case l => k_is); (case c => k_is); (case k => k_is)
      case beh =>
        refine' mfact KX G ?a ?l ?c ?k
        (case a => k_is); (case l => k_is); (case c => k_is); (case k => k_is)
      case id =>
        refine' mfact KX G ?a ?l ?c ?k
        (case a => k_is); (case l => k_is); (case c => k_is); (case k => k_is)
      case ck =>
        refine' mfact KX G ?a ?l ?c ?k
        (case a => k_is); (case l => k_is); (case c => k_is); (case k => k_is)
      case pot =>
        refine' mfact KX G ?a ?l ?c ?k
        (case a => k_is); (case l => k_is); (case c => k_is); (case k => k_is)
      case dr =>
        refine' mfact KX G ?a ?l ?c ?k
        (case a => k_is); (case l => k_is); (case c => k_is); (case k => k_is)
      case pk =>
        refine' mfact KX G ?a ?l ?c ?k
        (case a => k_is); (case l => k_is); (case c => k_is); (case k => k_is)
      case md =>
        refine' mfact KX G ?a ?l ?c ?k
        (case a => k_is); (case l => k_is); (case c => k_is); (case k => k_is)
      case ca =>
        refine' mfact KX G ?a ?l ?c ?k
        (case a => k_is); (case l => k_is); (case c => k_is); (case k => k_is)
      case pla =>
        refine' mfact KX G ?a ?l ?c ?k
        (case a => k_is); (case l => k_is); (case c => k_is); (case k => k_is)
      case lap =>
        refine' mfact KX G ?a ?l ?c ?k
        (case a => k_is); (case l => k_is); (case c => k_is); (case k => k_is)
      case don =>
        refine' mfact KX G ?a ?l ?c ?k
        (case a => k_is); (case l => k_is); (case c => k_is); (case k => k_is)
      case ste =>
        refine' mfact KX G ?a ?l ?c ?k
        (case a => k_is); (case l => k_is); (case c => k_is); (case k => k_is)
      case ite =>
        refine' mfact KX G ?a ?l ?c ?k
        (case a => k_is); (case l => k_is); (case c => k_is); (case k => k_is)
      case goi =>
        refine' mfact KX G ?a ?l ?c ?k
        (case a => k_is); (case l => k_is); (case c => k_is); (case k => k_is)
      case fla =>
        refine' mfact KX G ?a ?l ?c ?k
        (case a => k_is); (case l => k_is); (case c => k_is); (case k => k_is)
      case wal =>
        refine' mfact KX G ?a ?l ?c ?k
        (case a => k_is); (case l => k_is); (case c => k_is); (case k => k_is)
      case gri =>
        refine' mfact KX G ?a ?l ?c ?k
        (case a => k_is); (case l => k_is); (case c => k_is); (case k => k_is)
      case ri =>
        refine' mfact KX G ?a ?l ?c ?k
        (case a => k_is); (case l => k_is); (case c => k_is); (case k => k_is)
      case ho =>
        refine' dfact_b KX G ?a ?l ?c ?k ?t
        (case a => k_is); (case l => k_is); (case c => k_is); (case k => k_is); (case t => k_is)
      case h_init =>
        refine' cfact ?a ?i ?l ?c ?k
        (case a => k_is); (case i => k_is); (case l => k_is); (case c => k_is); (case k => k_is)
      case h_de =>
        refine' cfact ?a ?i ?l ?c ?k
        (case a => k_is); (case i => k_is); (case l => k_is); (case c => k_is); (case k => k_is)
      case h_ln =>
        refine' cfact ?a ?i ?l ?c ?k
        (case a => k_is); (case i => k_is); (case l => k_is); (case c => k_is); (case k => k_is)
      case c_init =>
        refine' cfact ?a ?i ?l ?c ?k
        (case a => k_is); (case i => k_is); (case l => k_is); (case c => k_is); (case k => k_is)
      case c_ft =>
        refine' cfact ?a ?i ?l ?c ?k
        (case a => k_is); (case i => k_is); (case l => k_is); (case c => k_is); (case k => k_is)
      case h_pl =>
        refine' pfact ?a ?b ?t ?r ?l ?c ?k
        (case a => k_is); (case b => k_is); (case t => k_is); (case r => k_is); (case l => k_is); (case c => k_is); (case k => k_is)
      case law =>
        refine' mfact KX G ?a ?l ?c ?k
        (case a => k_is); (case l => k_is); (case c => k_is); (case k => k_is)
end
