import PyProof.Rows.All
import Wide.All
import OpenK.AllK
import Wide.FinOn
import PyProof.EqAt
import PyProof.EqKinds
import PyProof.TupleCall
import HandS.ForMost
import HandS.FStr
import HandS.RaiseMore
import HandS.IsInst
import PyProof.FactsAll.dict
import HandS.OwnEq
import PyProof.InstNe
import HandS.Defaults
import HandS.MakeKwOnly
import HandS.Conv
import HandS.Property
import HandS.Style
import PySem.Challenge.RW_lonetill_k24_whole_levels_climbs_drops
import HandS.Iter
import PyProof.EnumMake
import PyProof.EnumIter
import HandS.Deep
import HandS.TupAny
import PyProof.P3In
import HandS.Codes
import HandS.Comp
import OpenK.KOps
import PyProof.Draws
import PyProof.FString3
import PyProof.Rows.StrIntSpec
import HandS.NoneIn
import PyProof.DictDisplay
import PyProof.DictFindH
import PyProof.DictRoadsH
import PyProof.DictTable
import HandS.TupSets
import PyProof.Rows.RegFStrParts

section
set_option Elab.async false
set_option linter.all false
set_option maxRecDepth 100000
set_option maxHeartbeats 2000000
/-! Defs that are called while nothing is being shown (no repr runs around): their promise, their calls, the law's end. -/
namespace L2.Gd
open PySem PySem.Spec PyProof.Rows

structure FnG (P : Program) (w : World) (K : PySem.W.Frag) (mg : Str → Option Value) (base : Heap)
    (k : Nat) (f : Addr) (fd : FuncData) (ps : List Str) (sp : Sp) : Prop where
  cnt : ∀ (vs : List V) (H : Hp) (Q : VK), sp vs H Q E0 → vs.length = ps.length
  go : ∀ (A : Around) (outer : List Env) (s : Shared) (H : Hp) (args : Args)
      (us : List Value) (vs : List V) (Q : VK), A.guards = some [] → Room k A →
    Env0 P w K mg base A outer s H → BindsTo s fd args (ps.zip us) → Vals vs us →
    sp vs H Q E0 → codeAny (model P w) A (.call (.ref f) args) (CR CX0 outer P w H s Q E0) s

section
variable {P : Program} {w : World} {K : PySem.W.Frag} {mg : Str → Option Value} {base : Heap}
  {k : Nat} {f : Addr} {fd : FuncData} {ps N : List Str} {sp : Sp}

theorem FnG.of (F : FnOk P w K mg base CX0 k f fd ps sp) : FnG P w K mg base k f fd ps sp :=
  ⟨fun vs H Q h => F.len vs H Q E0 h,
   fun A outer s H args us vs Q _ hr e0 hb r h => F.run A outer s H args us vs Q E0 hr e0 hb r h⟩

theorem FnG.mono {j : Nat} (F : FnG P w K mg base j f fd ps sp) (h : j ≤ k) : FnG P w K mg base k f fd ps sp :=
  ⟨F.cnt, fun A outer s H args us vs Q hg hr => F.go A outer s H args us vs Q hg (hr.mono h)⟩

/-- a def of the text, by its body, where nothing is being shown around it -/
theorem okG {x qual : Str} {st : Stmt} (F : Fun K x qual st f fd) (S : FnScope N ps (defScope st))
    (cnt : ∀ (vs : List V) (H : Hp) (Q : VK), sp vs H Q E0 → vs.length = ps.length)
    (body : ∀ (cdv : Value) (A : Around) (outer : List Env) (s : Shared) (H : Hp) (vs : List V) (Q : VK),
      A.guards = some [] → Room k (A.deeper (envOfC qual (defScope st) s.heap.objs.size f cdv)) →
      sp vs H Q E0 →
      ∃ t, PSs (cxOf CX0 P w K mg base N qual (defScope st) f cdv A outer s H E0).nox (defBody st) t ∧
        t { nx := fun _ H' => Q .non H', rt := Q } (start N vs) H) :
    FnG P w K mg base (k + 1) f fd ps sp := by
  obtain ⟨oc, od, kV, doc, pm, an, cdv, ct, osl, rfl, there, code⟩ := F.ex
  refine ⟨cnt, ?_⟩
  intro A outer s H args us vs Q hg hr e0 bind rv hsp
  have inK : K.In s.heap := e0.mod.kin.keeps (fun b o q => (e0.bs b o q).1)
  have nolim : s.heap.NoLimit := e0.mod.nolimit.keeps (fun b o q => (e0.bs b o q).1)
  have kinds : ∀ y ∈ ps.zip us, (defScope st).names.lookup y.1 = some .local ∨
      ((defScope st).names.lookup y.1 = some .cell ∧
        ((cellsFrom (s.heap.objs.size + 1) (defScope st).names []).lookup y.1).isSome = true) := by
    rintro ⟨n, v⟩ hy
    cases S.par n (List.of_mem_zip hy).1 with
    | inl q => exact .inl q
    | inr q => exact .inr ⟨q, PySem.W.cellsFrom_some _ _ _ (.inl q)⟩
  refine codeAny_call_function hr.depth (inK _ _ there) rfl S.co S.gen rfl
    (PySem.W.codeRec_of inK code) (bind _ _ _ _ ?_)
  refine wpAny_newFunctionEnv_cells S.kind kinds ?_
  intro env he s1 ic
  subst he
  refine ⟨nolim.keeps ic.toInCall.keep, codeAny_func ?_⟩
  obtain ⟨t, ht, hq⟩ := body cdv A outer s H vs Q hg (hr.deeper _) hsp
  have hl : vs.length = ps.length := cnt _ _ _ hsp
  have I := inv_start (CX := CX0) (P := P) (w := w) (mg := mg) (base := base) (E := E0) S hr.hd e0 hl rv ic
  refine wpAny_mono (ht.nox.run [] s1 (start N vs) H _ I hq) (fun fl s' z => ?_) (fun e s' z => z)
  cases fl with
  | ret u =>
    obtain ⟨v, σ', H', J, r1, q⟩ := z
    exact ⟨v, H', J.os, J.bare, J.base, J.hok, r1, q⟩
  | next =>
    obtain ⟨σ', H', J, q⟩ := z
    exact ⟨.non, H', J.os, J.bare, J.base, J.hok, rfl, q⟩
  | brk =>
    obtain ⟨_, _, _, q⟩ := z
    exact q.elim
  | cont =>
    obtain ⟨_, _, _, q⟩ := z
    exact q.elim
end

section
variable {X : Cx} {k : Nat} {f : Addr} {fd : FuncData} {ps : List Str} {sp : Sp} {x : Str}
  {p pos : Pos} {e : Expr} {es : List Expr} {t : TA}

theorem run_fnG {pins : List (Addr × Obj)} {σ : St} {H : Hp} {s : Shared} {Q : VK} {us : List Value} {vs : List V}
    (F : FnG X.prog X.w X.K X.mg X.base k f fd ps sp) (hg : X.A.guards = some []) (hr : Room k X.A)
    (hb : Binds X.K fd ps []) (I : Inv X pins σ H s) (r : Vals vs us) (h : sp vs H Q E0) :
    wpAny (model X.prog X.w) X.A (call (.ref f) us) (EP X pins σ Q) X.xe s := by
  have hl : (us ++ []).length = ps.length := by
    rw [List.append_nil, ← r.length]
    exact F.cnt _ _ _ h
  have hb2 := hb s us I.kIn hl
  rw [List.append_nil] at hb2
  refine wpAny_call (codeAny_mono
    (F.go X.A X.stack s H ⟨us, []⟩ us vs Q hg hr I.env0 hb2 r h) ?_)
  intro res s' hq
  cases res with
  | error er => exact (show False from hq).elim
  | ok fl =>
    cases fl with
    | ret u => exact I.after hq
    | next => exact hq.elim
    | brk => exact hq.elim
    | cont => exact hq.elim

/-- f(e, ..), f such a def -/
theorem pe_callG (F : FnG X.prog X.w X.K X.mg X.base k f fd ps sp) (hg : X.A.guards = some [])
    (hr : Room k X.A) (gl : Gl X x) (hm : X.mg x = some (.ref f))
    (hk : PySem.W.keepIn X.K (.ref f) = true) (hb : Binds X.K fd ps []) (ha : PA X (e :: es) t)
    (hdb : (x == ("__debug__" : Str)) = false := by decide)
    (he : starEach (e :: es) X.env = (false, eval e X.env) :: starEach es X.env := by rfl)
    (hpl : (backTo pos (starEach es X.env)).any (·.1) = false := by rfl) :
    PE X (.Call (.Name x p) (e :: es) [] pos) (tCall sp [] E0 t) := by
  constructor
  intro pins s σ H Q I h
  refine wpAny_Call_Name_kw (ld_glob I gl hm ?_ hdb)
  refine PySem.W.callWith_K (h₀ := X.base) I.ok.mod.kin hk ?_ he hpl
  refine thn (ha.run pos pins s σ H _ I h) ?_
  rintro us s1 ⟨vs, H1, I1, r, q⟩
  rw [List.append_nil] at q
  exact ⟨I1.kIn, run_fnG F hg hr hb I1 r q⟩
end
end L2.Gd
end

section
set_option Elab.async false
set_option linter.all false
set_option maxRecDepth 100000
set_option maxHeartbeats 2000000
namespace L2.Gd
open PySem PySem.Spec PyProof.Rows

section
variable {P : Program} {w : World} {K : PySem.W.Frag} {mg mb : Str → Option Value} {k : Nat} {fa a : Addr}
  {fd : FuncData} {x : Str} {sp : Sp} {s₁ : Shared} {vs : List Value} {ns : List Int}

/-- the law's run from a heap of which at most the script is tracked -/
theorem law_core (inK : K.In s₁.heap) (hns : s₁.heap.Ns mainGlobals mg) (hb : s₁.heap.Ns builtinsNs mb)
    (hbb : ∀ x : Str, x ≠ "__name__" → mb x = bootBuiltins x) (nolim : s₁.heap.NoLimit) (hg : s₁.gens = #[])
    (ha : s₁.heap.get? a = some { cls := .type "list", data := .seq vs.toArray }) (hr : Room k callerA)
    (F : ∀ base : Heap, K.In base → base.Ns mainGlobals mg → FnG P w K mg base k fa fd [x] sp)
    (bind : ∀ (s : Shared) (u : Value), BindsTo s fd ⟨[u], []⟩ [(x, u)])
    (H : Hp) (only : Only H) (hsp : sp [.ref a] H (fun v _ => v = .bl true) E0)
    (ok : HOk P w H s₁.heap) (hA : ∀ b, H b ≠ none → b = a) (hK : H a ≠ none → K.lookup a = none) :
    codeAny (model P w) callerA (.call (.ref fa) ⟨[.ref a], []⟩)
      (fun r s' => r = .ok (.ret (.bool true)) ∧ OldK s₁.heap s'.heap ∧ s'.os = s₁.os ∧ AllBare s'.gens) s₁ := by
  have untracked : ∀ {b : Addr} {o : Obj} {es : Array DictEntry} {ep : Nat},
      s₁.heap.get? b = some o → o.data = .dict es ep → H b = none := by
    intro b o es ep q d
    cases hb' : H b with
    | none => rfl
    | some u =>
      have q2 : b = a := hA b (by rw [hb']; exact fun z => nomatch z)
      subst q2
      have q3 := ha.symm.trans q
      cases q3
      exact nomatch (show Data.seq vs.toArray _ = Data.dict es ep from d)
  have nsB : ∀ {b : Addr} {m : Str → Option Value}, s₁.heap.Ns b m → (hidT s₁.heap H).Ns b m := by
    rintro b m ⟨o, es, ep, q, d, r⟩
    exact ⟨o, es, ep, hidT_get q (untracked q d), d, r⟩
  have inB : K.In (hidT s₁.heap H) := by
    intro b o q
    refine hidT_get (inK b o q) ?_
    cases hb' : H b with
    | none => rfl
    | some u =>
      have q2 : b = a := hA b (by rw [hb']; exact fun z => nomatch z)
      subst q2
      rw [hK (by rw [hb']; exact fun z => nomatch z)] at q
      exact nomatch q
  obtain ⟨mc, l1, l2⟩ := nolim
  have md : Mod K mg (hidT s₁.heap H) := ⟨inB, nsB hns, ⟨mb, nsB hb, hbb⟩, ⟨mc, nsB l1, l2⟩⟩
  have e0 : Env0 P w K mg (hidT s₁.heap H) callerA [] s₁ H :=
    ⟨rfl, md, fun b o q => of_hidT q, Nat.le_of_eq (hidT_size _ _), trivial,
      fun b z => absurd (show b ∈ ([] : List Addr) from z) (by simp), ok, .of_eq hg⟩
  refine codeAny_mono ((F _ inB (nsB hns)).go callerA [] s₁ H ⟨[.ref a], []⟩ [.ref a] [.ref a] _ rfl hr e0
    (bind s₁ (.ref a)) (.cons rfl .nil) hsp) ?_
  intro r s' h
  cases r with
  | error e => exact (show False from h).elim
  | ok fl =>
    cases fl with
    | next => exact h.elim
    | brk => exact h.elim
    | cont => exact h.elim
    | ret u =>
      obtain ⟨v, H', os, bare, un, ok', rv, q⟩ := h
      obtain rfl : v = V.bl true := q
      obtain rfl : u = Value.bool true := rv
      refine ⟨rfl, OldK.of_keep ?_, os, bare⟩
      intro b o q1
      cases hb' : H b with
      | none =>
        exact un.keep b o q1 hb' (fun z => absurd (show b ∈ ([] : List Addr) from z) (by simp)) (by simp)
      | some u =>
        rcases only b with z | ⟨ob, xs, z⟩
        · exact nomatch hb'.symm.trans z
        · obtain ⟨q2, _⟩ := ok b _ z
          obtain ⟨q3, _⟩ := ok' b _ (un.frzs b ob _ z)
          cases q1.symm.trans q2
          exact q3

theorem law_callG (inK : K.In s₁.heap) (hns : s₁.heap.Ns mainGlobals mg) (hb : s₁.heap.Ns builtinsNs mb)
    (hbb : ∀ x : Str, x ≠ "__name__" → mb x = bootBuiltins x) (nolim : s₁.heap.NoLimit) (hg : s₁.gens = #[])
    (ha : s₁.heap.get? a = some { cls := .type "list", data := .seq vs.toArray }) (hi : IntsAre vs ns)
    (hl : ns.length ≤ sizeLine) (hr : Room k callerA)
    (F : ∀ base : Heap, K.In base → base.Ns mainGlobals mg → FnG P w K mg base k fa fd [x] sp)
    (bind : ∀ (s : Shared) (u : Value), BindsTo s fd ⟨[u], []⟩ [(x, u)])
    (hsp : ∀ H : Hp, Only H → SqL K H a (ns.map V.int) → sp [.ref a] H (fun v _ => v = .bl true) E0) :
    codeAny (model P w) callerA (.call (.ref fa) ⟨[.ref a], []⟩)
      (fun r s' => r = .ok (.ret (.bool true)) ∧ OldK s₁.heap s'.heap ∧ s'.os = s₁.os ∧ AllBare s'.gens) s₁ := by
  have rv := vals_ints hi
  have lenV := hi.length
  cases hk : K.lookup a with
  | some o =>
    -- the script is one of the module's own objects
    cases ha.symm.trans (inK a o hk)
    have only : Only (fun _ => none) := fun _ => .inl rfl
    have sq : SqL K (fun _ => none) a (ns.map V.int) :=
      .inr ⟨_, vs.toArray, _, hk, rfl, rfl, rfl, by rw [List.size_toArray, lenV]; exact hl, by simpa using rv⟩
    refine law_core inK hns hb hbb nolim hg ha hr F bind _ only (hsp _ only sq) ?_ ?_ ?_
    · intro b u z
      exact nomatch (show (none : Option HO) = some u from z)
    · exact fun b z => absurd rfl z
    · exact fun z => absurd rfl z
  | none =>
    let Hs : Hp := fun b => if b = a then some (.frz { cls := .type "list", data := .seq vs.toArray } (.lst (ns.map V.int))) else none
    have at_a : Hs a = some (.frz { cls := .type "list", data := .seq vs.toArray } (.lst (ns.map V.int))) := if_pos rfl
    have else_ : ∀ b, b ≠ a → Hs b = none := fun b n => if_neg n
    have only : Only Hs := by
      intro b
      by_cases q : b = a
      · subst q; exact .inr ⟨_, _, at_a⟩
      · exact .inl (else_ b q)
    refine law_core inK hns hb hbb nolim hg ha hr F bind Hs only (hsp _ only (.inl (.inr ⟨_, at_a⟩))) ?_ ?_ ?_
    · intro b u z
      by_cases q : b = a
      · subst q
        cases at_a.symm.trans z
        exact ⟨ha, by rw [List.length_map]; exact hl, vs, _, rv, ha⟩
      · exact nomatch (else_ b q).symm.trans z
    · intro b z
      by_cases q : b = a
      · exact q
      · exact absurd (else_ b q) z
    · exact fun _ => hk
end

/-- the goal that the head leaves, from the law's promise -/
theorem walk_ofG {l : PySem.W.OpenLaw} {n k : Nat} {q : Program} {loose : List Str}
    {XP : (Str → Option Value) → Heap → Prop} {YP : World → Heap → Prop} {d : DefRec} {K : Params → PySem.W.Frag}
    {sp : PySem.W.Frag → Sp} {x : Str}
    (hn : l.most = some n) (hn2 : n ≤ sizeLine) (hdf : d.params.defaults = []) (hr : Room k callerA)
    (hY : ∀ (w : World) (h : Heap), YP w h → (K w.params).In h)
    (F : ∀ (w : World) (mg : Str → Option Value) (fa : Addr) (h : Heap), (K w.params).In h →
      h.Ns mainGlobals mg → mg d.name = some (.ref fa) →
      ∃ fd : FuncData, (∀ (s : Shared) (u : Value), BindsTo s fd ⟨[u], []⟩ [(x, u)]) ∧
        ∀ base : Heap, (K w.params).In base → base.Ns mainGlobals mg →
          FnG l.prog w (K w.params) mg base k fa fd [x] (sp (K w.params)))
    (hsp : ∀ (K : PySem.W.Frag) (H : Hp) (a : Addr) (ns : List Int), ns.length ≤ n → Only H →
      SqL K H a (ns.map V.int) → sp K [.ref a] H (fun v _ => v = .bl true) E0) :
    PySem.W.WalkO q loose XP YP l.row.toRowW d [] (fun f vs => PySem.call f vs) := by
  refine Att.attach_call hn hdf ?_
  intro w s₀ s₁ mg mb fa o pm cd doc a vs ns G Y ho hd hcd hmg hobj hints hlen hg
  have inK := hY w _ Y
  obtain ⟨fd, bind, hF⟩ := F w mg fa _ inK G.T.g hmg
  exact law_callG inK G.T.g G.T.b G.T.builtins G.T.nolimit hg hobj hints (Nat.le_trans hlen hn2) hr hF bind
    (fun H hO hS => hsp (K w.params) H a ns hlen hO hS)
end L2.Gd
end

section
set_option Elab.async false
set_option linter.all false
set_option maxRecDepth 100000
set_option maxHeartbeats 2000000
namespace L2.Gd
open PySem PySem.Spec PyProof.Rows

/-- a list or a tuple of plain data: what is told of it fits -/
def Showy (d : PyData) : Prop := d.showable = true ∧ d.hasDict = false ∧ d.depth ≤ 20 ∧ d.shown.length ≤ sizeLine
section
variable {X : Cx} {pins : List (Addr × Obj)} {σ : St} {H : Hp} {s : Shared}
theorem reprObj_D {A : Around} (I : Inv X pins σ H s) (hg : A.guards = some []) (hu : A.units + 64 < cLine) {a : Addr} {d : PyData}
    (hd : Dp X.K H (.ref a) d) (hs : Showy d) {Q : Value → Shared → Prop} {E : Value → Shared → Prop}
    (h : ∀ s' u, Inv X pins σ H s' → Q (.str d.shown u) s') :
    wpAny (model X.prog X.w) A (pyReprObj (.ref a)) Q E s := by
  obtain ⟨as, r⟩ := Dp.reads I d _ _ hd rfl
  obtain ⟨h1, h2, h3, h4⟩ := hs
  refine pyReprObj_of_reads r h1 (PyData.noDict_hsm h2) hg (by omega) (fun _ _ q => q) ?_ h4
  intro h' u tk k
  exact h _ u (I.kept k)
end
section
variable {X : Cx}
/-- repr(x), x a list or a tuple of plain data -/
theorem call_reprD (hg : X.A.guards = some []) (hu : X.A.units + 64 < cLine) :
    CallR X (.builtin "repr") (fun xs H Q => ∃ a d, xs = [.ref a] ∧ Dp X.K H (.ref a) d ∧ Showy d ∧ Q (.str d.shown) H) := by
  rintro pins s σ H xs us Q I r ⟨a, d, rfl, hd, ⟨h1, h2, h3, h4⟩, q⟩
  cases r with
  | cons r1 r2 =>
    cases r2
    obtain rfl := r1
    obtain ⟨as, rd⟩ := Dp.reads I d _ _ hd rfl
    refine repr_of_reads' rd h1 (PyData.noDict_hsm h2) hg (by omega) (fun _ _ q => q) ?_ h4
    intro h' u tk k
    exact ⟨.str d.shown, H, I.kept k, ⟨_, rfl⟩, q⟩
/-- {x!r} of such -/
theorem pe_fmtRD {e : Expr} {te : TE} {pos : Pos} (hg : X.A.guards = some []) (hu : X.A.units + 64 < cLine) (he : PE X e te) :
    PE X (.FormattedValue e 114 none pos) (fun σ H Q => te σ H fun x H1 => ∃ a d, x = .ref a ∧ Dp X.K H1 (.ref a) d ∧ Showy d ∧ Q (.str d.shown) H1) := by
  constructor
  intro pins s σ H Q I h
  refine wpAny_FormattedValue_repr (thn (he.run pins s σ H _ I h) ?_)
  rintro v s1 ⟨x, H1, I1, r1, a, d, rfl, hd, hs, q⟩
  obtain rfl := r1
  refine reprObj_D I1 hg hu hd hs ?_
  intro s' u I'
  exact wpAny_formatField_str ⟨.str d.shown, H1, I', ⟨u, rfl⟩, q⟩ ⟨.str d.shown, H1, I'.tok _, ⟨_, rfl⟩, q⟩ hs.2.2.2
end
end L2.Gd
end

section
set_option Elab.async false
set_option linter.all false
set_option maxRecDepth 100000
set_option maxHeartbeats 2000000
namespace L2.Gd
open PySem PySem.Spec PyProof.Rows

/-! ### a def's run, whatever it hands back (NotImplemented, too) -/
def RawEnd (R : Result → Shared → Prop) (fl : Flow) (s' : Shared) : Prop := match fl with
  | .ret u => R (.ok (.ret u)) s'
  | .next => R (.ok (.ret .none)) s'
  | _ => False
section
variable {P : Program} {w : World} {K : PySem.W.Frag} {mg : Str → Option Value} {base : Heap}
  {k : Nat} {f : Addr} {fd : FuncData} {ps N : List Str}

theorem raw_call {x qual : Str} {st : Stmt} (F : Fun K x qual st f fd) (S : FnScope N ps (defScope st))
    {A : Around} {outer : List Env} {s : Shared} {H : Hp} {args : Args} {us : List Value} {vs : List V}
    {R : Result → Shared → Prop} (hr : Room (k + 1) A) (e0 : Env0 P w K mg base A outer s H)
    (bind : BindsTo s fd args (ps.zip us)) (rv : Vals vs us) (hl : vs.length = ps.length)
    (body : ∀ (cdv : Value) (s1 : Shared),
      Inv (cxOf CX0 P w K mg base N qual (defScope st) f cdv A outer s H E0).nox [] (start N vs) H s1 →
      wpAny (model P w) (A.deeper (envOfC qual (defScope st) s.heap.objs.size f cdv))
        (execs (defBody st) (envOfC qual (defScope st) s.heap.objs.size f cdv)) (RawEnd R) (fun _ _ => False) s1) :
    codeAny (model P w) A (.call (.ref f) args) R s := by
  obtain ⟨oc, od, kV, doc, pm, an, cdv, ct, osl, rfl, there, code⟩ := F.ex
  have inK : K.In s.heap := e0.mod.kin.keeps (fun b o q => (e0.bs b o q).1)
  have nolim : s.heap.NoLimit := e0.mod.nolimit.keeps (fun b o q => (e0.bs b o q).1)
  have kinds : ∀ y ∈ ps.zip us, (defScope st).names.lookup y.1 = some .local ∨
      ((defScope st).names.lookup y.1 = some .cell ∧
        ((cellsFrom (s.heap.objs.size + 1) (defScope st).names []).lookup y.1).isSome = true) := by
    rintro ⟨n, v⟩ hy
    cases S.par n (List.of_mem_zip hy).1 with
    | inl q => exact .inl q
    | inr q => exact .inr ⟨q, PySem.W.cellsFrom_some _ _ _ (.inl q)⟩
  refine codeAny_call_function hr.depth (inK _ _ there) rfl S.co S.gen rfl
    (PySem.W.codeRec_of inK code) (bind _ _ _ _ ?_)
  refine wpAny_newFunctionEnv_cells S.kind kinds ?_
  intro env he s1 ic
  subst he
  refine ⟨nolim.keeps ic.toInCall.keep, codeAny_func ?_⟩
  have I := inv_start (CX := CX0) (P := P) (w := w) (mg := mg) (base := base) (E := E0) S hr.hd e0 hl rv ic
  refine wpAny_mono (body cdv s1 (I.wish _)) (fun fl s' z => ?_) (fun e s' z => z.elim)
  cases fl with
  | ret u => exact z
  | next => exact z
  | brk => exact z.elim
  | cont => exact z.elim
end

/-! ### == of an own class that answers NotImplemented -/
/-- the state behind it: nothing that was tracked has changed -/
def After (X : Cx) (pins : List (Addr × Obj)) (σ : St) (H : Hp) (s' : Shared) : Prop := ∃ H', Inv X pins σ H' s' ∧ Same H H'
/-- the own __eq__ at f, of the class at C, declines what is of another kind -/
def Declines (X : Cx) (C f : Addr) (D : V → Hp → Prop) : Prop :=
  ∀ (pins : List (Addr × Obj)) (s : Shared) (σ : St) (H : Hp) (x : Addr) (y : V) (v : Value) (dx : Addr) (fs : List (Str × V)),
    Inv X pins σ H s → H x = some (.ins C dx fs) → RelV y v → D y H →
    wpAny (model X.prog X.w) X.A (call (.ref f) [.ref x, v]) (fun r s' => r = .notImplemented ∧ After X pins σ H s') (fun _ _ => False) s

section
variable {X : Cx} {C f : Addr}
theorem wpAny_noE {M : Model} {A : Around} {α : Type} {t : Sem α} {Q : α → Shared → Prop} {E : Value → Shared → Prop} {s : Shared}
    (h : wpAny M A t Q (fun _ _ => False) s) : wpAny M A t Q E s := wpAny_mono h (fun _ _ z => z) (fun _ _ z => z.elim)

/-- the value on the right: its type, and what its own == says of an instance -/
structure OtherKind (X : Cx) (C : Addr) (y : V) (tb : Value) (D : V → Hp → Prop) : Prop where
  ne : (tb == .ref C) = false
  sub : PySem.W.subIn X.K tb (.ref C) = some false
  ty : ∀ (pins : List (Addr × Obj)) (s : Shared) (σ : St) (H : Hp) (v : Value), Inv X pins σ H s → RelV y v → D y H →
    PySem.W.Looks (model X.prog X.w) s.heap (typeOf v) tb
  dec : ∀ (A : Around) (pins : List (Addr × Obj)) (s : Shared) (σ : St) (H : Hp) (x : Addr) (v : Value) (dx : Addr) (fs : List (Str × V)) (Q : Option Value → Shared → Prop) (E : Value → Shared → Prop),
    A.units + 8 < cLine → Inv X pins σ H s → RelV y v → D y H → H x = some (.ins C dx fs) → (∀ s', Inv X pins σ H s' → Q none s') →
    wpAny (model X.prog X.w) A (tryCompare v "__eq__" (.ref x)) Q E s
  mono : ∀ (H H' : Hp), Same H H' → D y H → D y H'
  notSame : ∀ (pins : List (Addr × Obj)) (s : Shared) (σ : St) (H : Hp) (x : Addr) (v : Value) (dx : Addr) (fs : List (Str × V)) (A : Around) (Q : Bool → Shared → Prop) (E : Value → Shared → Prop),
    Inv X pins σ H s → RelV y v → D y H → H x = some (.ins C dx fs) → Q false s → wpAny (model X.prog X.w) A (isSame (.ref x) v) Q E s

/-- x == y, x an instance of the class at C, y of another kind: False -/
theorem op_eqNI (hu : X.A.units + 64 < cLine) {DD : V → Hp → Prop} (hs : PySem.W.findIn X.K (.ref C) "__eq__" = some (some (.ref f)))
    (hf : PySem.W.isFn X.K (.ref f) = true) (dc : Declines X C f DD) :
    OpR X (compareOp .Eq) (fun x y H Q => ∃ (a dx : Addr) (fs : List (Str × V)) (tb : Value) (D : V → Hp → Prop),
      x = .ref a ∧ H a = some (.ins C dx fs) ∧ OtherKind X C y tb D ∧ D y H ∧ DD y H ∧ ∀ H', Same H H' → Q (.bl false) H') := by
  rintro pins s σ H x y u v Q I rx ry ⟨a, dx, fs, tb, D, rfl, ha, O, hD, hDD, q⟩
  obtain rfl := rx
  obtain ⟨mA, J, _⟩ := ins_get I.hok ha
  obtain ⟨od, J, _⟩ := J.look
  show wpAny _ _ (richCompare .Eq (.ref a) v) _ _ _
  unfold richCompare
  simp only [oneThing_ref]
  refine wpAny_holding (wpAny_bind (wpAny_cRoomFor (by omega) ?_))
  refine wpAny_bind (J.type.here (wpAny_bind ((O.ty pins s σ H v I ry hD).here ?_)))
  have ne : (Value.ref C != tb) = true := by
    have := O.ne
    rw [bne_comm, bne, this]
    rfl
  rw [if_pos ne]
  refine wpAny_bind ((PySem.W.looks_subIn I.kIn O.sub).here ?_)
  simp only [Bool.false_eq_true, if_false]
  have one : wpAny (model X.prog X.w) X.A (tryCompare (.ref a) (cmpInfo CmpOp.Eq).2.fst v)
      (fun r s' => r = none ∧ After X pins σ H s') X.xe s := by
    unfold tryCompare
    refine wpAny_bind (PySem.W.ifBound_K I.kIn J hs hf (wpAny_mono (wpAny_noE (dc pins s σ H a y v dx fs I ha ry hDD)) ?_ (fun _ _ z => z)))
    rintro r s' ⟨rfl, h⟩
    exact wpAny_pure ⟨rfl, h⟩
  refine wpAny_bind (thn one ?_)
  rintro r s1 ⟨rfl, H1, I1, sm⟩
  show wpAny _ _ (tryCompare v (cmpInfo CmpOp.Eq).2.snd (Value.ref a) >>= _) _ _ _
  refine wpAny_bind (O.dec X.A pins s1 σ H1 a v dx fs _ _ (by omega) I1 ry (O.mono _ _ sm hD) (sm _ _ ha) ?_)
  intro s2 I2
  show wpAny _ _ (rule "compare.eq-identity" >>= _) _ _ _
  refine wpAny_bind (wpAny_rule (wpAny_bind (O.notSame pins s2 σ H1 a v dx fs X.A _ _ I2 ry (O.mono _ _ sm hD) (sm _ _ ha) ?_)))
  exact wpAny_pure ⟨.bl false, H1, I2, rfl, q H1 sm⟩
end
end L2.Gd
end

section
set_option Elab.async false
set_option linter.all false
set_option maxRecDepth 100000
set_option maxHeartbeats 2000000
/-! What built-in values say of an instance of an own class: their own == declines. -/
namespace PySem.SeqAt
open AutoSeq1 (wpAny_loadPart')
open MeetsSeq
def NoSub (C : Addr) (T : String) (h : Heap) : Prop := ∀ M : Model, PySem.W.Looks M h (isSubtype (.ref C) (.type T)) false
theorem list_eq_ni (l x C dx : Addr) (items : Array Value) (n : Nat) (dd : Option Addr) (sl : Array (Option Value)) :
    Meets (Builtin.«list.__eq__» ⟨[.ref l, .ref x], []⟩) (fun _ R s =>
      s.heap.get? l = some { cls := .type "list", dict := dd, data := .seq items n, slots := sl } ∧
      s.heap.get? x = some (PySem.W.instObj C dx) ∧ NoSub C "list" s.heap ∧ R (.ok (.ret .notImplemented)) s) :=
  .of_wp fun prog w A R s h => by
    obtain ⟨hp, g, d, tk, os⟩ := s
    obtain ⟨hl, hx, ns, h⟩ := h
    wp_walk using wpAny_loadPart' hl
    refine (ns _).here ?_
    wp_walk
    exact ⟨_, rfl, h⟩
theorem tuple_eq_ni (l x C dx : Addr) (items : Array Value) (n : Nat) (dd : Option Addr) (sl : Array (Option Value)) :
    Meets (Builtin.«tuple.__eq__» ⟨[.ref l, .ref x], []⟩) (fun _ R s =>
      s.heap.get? l = some { cls := .type "tuple", dict := dd, data := .seq items n, slots := sl } ∧
      s.heap.get? x = some (PySem.W.instObj C dx) ∧ NoSub C "tuple" s.heap ∧ R (.ok (.ret .notImplemented)) s) :=
  .of_wp fun prog w A R s h => by
    obtain ⟨hp, g, d, tk, os⟩ := s
    obtain ⟨hl, hx, ns, h⟩ := h
    wp_walk using wpAny_loadPart' hl
    refine (ns _).here ?_
    wp_walk
    exact ⟨_, rfl, h⟩
theorem dict_eq_ni (l x C dx : Addr) (o : Obj) :
    Meets (Builtin.«dict.__eq__» ⟨[.ref l, .ref x], []⟩) (fun _ R s => s.heap.get? l = some o ∧ o.cls = .type "dict" ∧
      s.heap.get? x = some (PySem.W.instObj C dx) ∧ NoSub C "dict" s.heap ∧ R (.ok (.ret .notImplemented)) s) :=
  .of_wp fun prog w A R s h => by
    obtain ⟨hp, g, d, tk, os⟩ := s
    obtain ⟨hl, hc, hx, ns, h⟩ := h
    wp_walk using wpAny_loadPart' hl
    refine (ns _).here ?_
    wp_walk
    exact ⟨_, rfl, h⟩
theorem int_eq_ni (b : Int) (u : Tok) (x C dx : Addr) :
    Meets (Builtin.«int.__eq__» ⟨[.int b u, .ref x], []⟩) (fun _ R s => s.heap.get? x = some (PySem.W.instObj C dx) ∧ R (.ok (.ret .notImplemented)) s) :=
  .of_wp fun prog w A R s h => by
    obtain ⟨hp, g, d, tk, os⟩ := s
    obtain ⟨hx, h⟩ := h
    wp_walk using wpAny_loadPart' hx, wpAny_load hx
    exact ⟨_, rfl, h⟩
theorem str_eq_ni (b : Str) (u : Tok) (x C dx : Addr) :
    Meets (Builtin.«str.__eq__» ⟨[.str b u, .ref x], []⟩) (fun _ R s => s.heap.get? x = some (PySem.W.instObj C dx) ∧ R (.ok (.ret .notImplemented)) s) :=
  .of_wp fun prog w A R s h => by
    obtain ⟨hp, g, d, tk, os⟩ := s
    obtain ⟨hx, h⟩ := h
    wp_walk using wpAny_loadPart' hx, wpAny_load hx
    exact ⟨_, rfl, h⟩
end PySem.SeqAt

namespace L2.Gd
open PySem PySem.Spec PyProof.Rows PySem.SeqAt
section
variable {X : Cx} {C : Addr}
/-- the class at C is of no built-in kind -/
structure NoKin (K : PySem.W.Frag) (C : Addr) : Prop where
  none : PySem.W.subIn K (.type "NoneType") (.ref C) = some false
  int : PySem.W.subIn K (.type "int") (.ref C) = some false
  str : PySem.W.subIn K (.type "str") (.ref C) = some false
  lst : PySem.W.subIn K (.type "list") (.ref C) = some false
  tup : PySem.W.subIn K (.type "tuple") (.ref C) = some false
  dct : PySem.W.subIn K (.type "dict") (.ref C) = some false
  lst' : PySem.W.subIn K (.ref C) (.type "list") = some false
  tup' : PySem.W.subIn K (.ref C) (.type "tuple") = some false
  dct' : PySem.W.subIn K (.ref C) (.type "dict") = some false
theorem noSub_of {pins : List (Addr × Obj)} {σ : St} {H : Hp} {s : Shared} {T : String} (I : Inv X pins σ H s)
    (h : PySem.W.subIn X.K (.ref C) (.type T) = some false) : NoSub C T s.heap := fun _ => PySem.W.looks_subIn I.kIn h

theorem kind_none (nk : NoKin X.K C) : OtherKind X C .non (.type "NoneType") (fun _ _ => True) where
  ne := rfl
  sub := nk.none
  ty := by
    intro pins s σ H v I rv _
    obtain rfl := rv
    exact .now
  dec := by
    intro A pins s σ H x v dx fs Q E hu I rv _ hx k
    obtain rfl := rv
    exact wpAny_tryCompare_declines (T := "NoneType") rfl F.slot_NoneType_eq
      (call_gives F.slot_NoneType_eq rfl F.entry_NoneType_eq (F.args_NoneType_eq_2 _ _) (NoneType___eq___none_ref_0 x) ⟨rfl, k _ I⟩)
  mono := fun _ _ _ h => h
  notSame := by
    intro pins s σ H x v dx fs A Q E I rv _ hx q
    obtain rfl := rv
    exact wpAny_of_eq (rfl : isSame (.ref x) .none = pure false) q
theorem kind_int (i : Int) (nk : NoKin X.K C) : OtherKind X C (.int i) (.type "int") (fun _ _ => True) where
  ne := rfl
  sub := nk.int
  ty := by
    intro pins s σ H v I rv _
    obtain ⟨t, rfl⟩ := rv
    exact .now
  dec := by
    intro A pins s σ H x v dx fs Q E hu I rv _ hx k
    obtain ⟨t, rfl⟩ := rv
    obtain ⟨mA, J, _⟩ := ins_get I.hok hx
    exact wpAny_tryCompare_declines (T := "int") (typeIs_int _ _ _) F.slot_int_eq
      (call_meets F.slot_int_eq (typeIs_int _ _ _) F.entry_int_eq (F.args_int_eq_2 _ _) (int_eq_ni i t x C dx) ⟨J.1, rfl, k _ I⟩)
  mono := fun _ _ _ h => h
  notSame := by
    intro pins s σ H x v dx fs A Q E I rv _ hx q
    obtain ⟨t, rfl⟩ := rv
    exact wpAny_of_eq (rfl : isSame (.ref x) (.int i t) = pure false) q
theorem kind_str (z : Str) (nk : NoKin X.K C) : OtherKind X C (.str z) (.type "str") (fun _ _ => True) where
  ne := rfl
  sub := nk.str
  ty := by
    intro pins s σ H v I rv _
    obtain ⟨t, rfl⟩ := rv
    exact .now
  dec := by
    intro A pins s σ H x v dx fs Q E hu I rv _ hx k
    obtain ⟨t, rfl⟩ := rv
    obtain ⟨mA, J, _⟩ := ins_get I.hok hx
    exact wpAny_tryCompare_declines (T := "str") (typeIs_str _ _ _) F.slot_str_eq
      (call_meets F.slot_str_eq (typeIs_str _ _ _) F.entry_str_eq (F.args_str_eq_2 _ _) (str_eq_ni z t x C dx) ⟨J.1, rfl, k _ I⟩)
  mono := fun _ _ _ h => h
  notSame := by
    intro pins s σ H x v dx fs A Q E I rv _ hx q
    obtain ⟨t, rfl⟩ := rv
    exact wpAny_of_eq (rfl : isSame (.ref x) (.str z t) = pure false) q
theorem kind_list (l : Addr) (nk : NoKin X.K C) : OtherKind X C (.ref l) (.type "list") (fun _ H => ∃ xs, H l = some (.lst xs)) where
  ne := rfl
  sub := nk.lst
  ty := by
    intro pins s σ H v I rv ⟨xs, hl⟩
    obtain rfl := rv
    obtain ⟨_, its, n, _, e⟩ := (show ObjOk X.prog X.w H s.heap l (.lst xs) from I.hok l _ hl)
    exact (PySem.W.Looks.ld (part := none) e).andThen .now
  dec := by
    intro A pins s σ H x v dx fs Q E hu I rv ⟨xs, hl⟩ hx k
    obtain rfl := rv
    obtain ⟨_, its, n, _, e⟩ := (show ObjOk X.prog X.w H s.heap l (.lst xs) from I.hok l _ hl)
    obtain ⟨mA, J, _⟩ := ins_get I.hok hx
    exact wpAny_tryCompare_declines (T := "list") ⟨_, e, rfl⟩ F.slot_list_eq
      (call_meets F.slot_list_eq ⟨_, e, rfl⟩ F.entry_list_eq (F.args_list_eq_2 _ _) (list_eq_ni l x C dx _ _ _ _) ⟨e, J.1, noSub_of I nk.lst', rfl, k _ I⟩)
  mono := fun _ _ sm ⟨xs, h⟩ => ⟨xs, sm _ _ h⟩
  notSame := by
    intro pins s σ H x v dx fs A Q E I rv ⟨xs, hl⟩ hx q
    obtain rfl := rv
    obtain ⟨_, its, n, _, e⟩ := (show ObjOk X.prog X.w H s.heap l (.lst xs) from I.hok l _ hl)
    obtain ⟨mA, J, _⟩ := ins_get I.hok hx
    exact wpAny_isSame_ref_other' (ne_of hx hl (by intro z; cases z)) J.1 e (show Value.type "list" ≠ Value.type "tuple" by decide) q
theorem same_left {M : Model} {A : Around} {E : Value → Shared → Prop} {s : Shared} {x y : Addr} {ox oy : Obj} {R : Bool → Shared → Prop} (ne : x ≠ y)
    (hx : s.heap.get? x = some ox) (hy : s.heap.get? y = some oy) (hnt : ox.cls ≠ .type "tuple") (h : R false s) :
    wpAny M A (isSame (.ref x) (.ref y)) R E s := by
  show wpAny M A (if (x == y) = true then pure true else _) R E s
  rw [if_neg (fun z => ne (beq_iff_eq.mp z))]
  refine wpAny_bind (wpAny_load hx (wpAny_bind (wpAny_load hy ?_)))
  split
  · rename_i _ h1 _ _ _
    exact absurd h1 hnt
  · exact wpAny_pure h
theorem kind_tup (l : Addr) (nk : NoKin X.K C) : OtherKind X C (.ref l) (.type "tuple") (fun _ H => ∃ xs, H l = some (.tup xs)) where
  ne := rfl
  sub := nk.tup
  ty := by
    intro pins s σ H v I rv ⟨xs, hl⟩
    obtain rfl := rv
    obtain ⟨_, its, _, o, e, c, n, hd⟩ := (show ObjOk X.prog X.w H s.heap l (.tup xs) from I.hok l _ hl)
    obtain ⟨cls, dd, data, sl⟩ := o
    simp only at c hd
    subst c hd
    exact (PySem.W.Looks.ld (part := none) e).andThen .now
  dec := by
    intro A pins s σ H x v dx fs Q E hu I rv ⟨xs, hl⟩ hx k
    obtain rfl := rv
    obtain ⟨_, its, _, o, e, c, n, hd⟩ := (show ObjOk X.prog X.w H s.heap l (.tup xs) from I.hok l _ hl)
    obtain ⟨cls, dd, data, sl⟩ := o
    simp only at c hd
    subst c hd
    obtain ⟨mA, J, _⟩ := ins_get I.hok hx
    exact wpAny_tryCompare_declines (T := "tuple") ⟨_, e, rfl⟩ F.slot_tuple_eq
      (call_meets F.slot_tuple_eq ⟨_, e, rfl⟩ F.entry_tuple_eq (F.args_tuple_eq_2 _ _) (tuple_eq_ni l x C dx _ _ _ _) ⟨e, J.1, noSub_of I nk.tup', rfl, k _ I⟩)
  mono := fun _ _ sm ⟨xs, h⟩ => ⟨xs, sm _ _ h⟩
  notSame := by
    intro pins s σ H x v dx fs A Q E I rv ⟨xs, hl⟩ hx q
    obtain rfl := rv
    obtain ⟨_, its, _, o, e, c, n, hd⟩ := (show ObjOk X.prog X.w H s.heap l (.tup xs) from I.hok l _ hl)
    obtain ⟨mA, J, _⟩ := ins_get I.hok hx
    exact same_left (ne_of hx hl (by intro z; cases z)) J.1 e (by intro z; cases z) q
theorem kind_dict (l : Addr) (nk : NoKin X.K C) : OtherKind X C (.ref l) (.type "dict") (fun _ H => ∃ kvs, H l = some (.dK kvs)) where
  ne := rfl
  sub := nk.dct
  ty := by
    intro pins s σ H v I rv ⟨kvs, hl⟩
    obtain rfl := rv
    obtain ⟨_, _, vs, _, o, es, ep, e, c, _⟩ := (show ObjOk X.prog X.w H s.heap l (.dK kvs) from I.hok l _ hl)
    have c1 : o.cls = .type "dict" := c.1
    obtain ⟨cls, dd, data, sl⟩ := o
    simp only at c1
    subst c1
    exact (PySem.W.Looks.ld (part := none) e).andThen .now
  dec := by
    intro A pins s σ H x v dx fs Q E hu I rv ⟨kvs, hl⟩ hx k
    obtain rfl := rv
    obtain ⟨_, _, vs, _, o, es, ep, e, c, _⟩ := (show ObjOk X.prog X.w H s.heap l (.dK kvs) from I.hok l _ hl)
    obtain ⟨mA, J, _⟩ := ins_get I.hok hx
    exact wpAny_tryCompare_declines (T := "dict") ⟨_, e, c.1⟩ F.slot_dict_eq
      (call_meets F.slot_dict_eq ⟨_, e, c.1⟩ F.entry_dict_eq (F.args_dict_eq_2 _ _) (dict_eq_ni l x C dx o) ⟨e, c.1, J.1, noSub_of I nk.dct', rfl, k _ I⟩)
  mono := fun _ _ sm ⟨xs, h⟩ => ⟨xs, sm _ _ h⟩
  notSame := by
    intro pins s σ H x v dx fs A Q E I rv ⟨kvs, hl⟩ hx q
    obtain rfl := rv
    obtain ⟨_, _, vs, _, o, es, ep, e, c, _⟩ := (show ObjOk X.prog X.w H s.heap l (.dK kvs) from I.hok l _ hl)
    obtain ⟨mA, J, _⟩ := ins_get I.hok hx
    exact same_left (ne_of hx hl (by intro z; cases z)) J.1 e (by intro z; cases z) q
end
end L2.Gd
end

section
set_option Elab.async false
set_option linter.all false
set_option maxRecDepth 100000
set_option maxHeartbeats 2000000
/-! == and != of two instances of an own class that has an __eq__ alone. -/
namespace L2.Gd
open PySem PySem.Spec PyProof.Rows
section
variable {X : Cx} {C f N : Addr} {n : Nat} {fd : FuncData} {ps : List Str} {sp : Sp}

/-- the callee runs, somewhere below the body -/
theorem run_at (F : FnOk X.prog X.w X.K X.mg X.base CX0 n f fd ps sp) (hb : Binds X.K fd ps []) {A : Around} (sb : Sub X n A)
    {pins : List (Addr × Obj)} {σ : St} {H : Hp} {s : Shared} {Q : VK} {us : List Value} {vs : List V}
    (I : Inv X pins σ H s) (r : Vals vs us) (h : sp vs H Q E0) {E : Value → Shared → Prop} :
    wpAny (model X.prog X.w) A (call (.ref f) us) (EP X pins σ Q) E s := by
  have e := I.env0
  have e0 : Env0 X.prog X.w X.K X.mg X.base A X.stack s H := ⟨sb.fr.trans e.frames, e.mod, e.bs, e.bsz, e.funs, e.frf, e.hok, e.bare⟩
  have hl : (us ++ []).length = ps.length := by
    rw [List.append_nil, ← r.length]
    exact F.len _ _ _ _ h
  have hb2 := hb s us I.kIn hl
  rw [List.append_nil] at hb2
  refine wpAny_call (codeAny_mono (F.run A X.stack s H ⟨us, []⟩ us vs Q E0 sb.room e0 hb2 r h) ?_)
  intro res s' hq
  cases res with
  | error er => exact (show False from hq).elim
  | ok fl =>
    cases fl with
    | ret u => exact I.after hq
    | next => exact hq.elim
    | brk => exact hq.elim
    | cont => exact hq.elim

theorem binds2 (hb : Binds X.K fd ps []) : Binds X.K fd ps [] := hb

/-- x == y, two instances of the class at C -/
theorem op_eqOwn (hr : Room n X.A) (F : FnOk X.prog X.w X.K X.mg X.base CX0 n f fd ps sp) (hb : Binds X.K fd ps [])
    (hs : PySem.W.findIn X.K (.ref C) "__eq__" = some (some (.ref f))) (hf : PySem.W.isFn X.K (.ref f) = true) :
    OpR X (compareOp .Eq) (fun x y H Q => ∃ (a b dx dy : Addr) (fs gs : List (Str × V)), x = .ref a ∧ y = .ref b ∧
      H a = some (.ins C dx fs) ∧ H b = some (.ins C dy gs) ∧ sp [.ref a, .ref b] H (fun v H' => (∃ k, v = .bl k) ∧ Q v H') E0) := by
  rintro pins s σ H x y u v Q I rx ry ⟨a, b, dx, dy, fs, gs, rfl, rfl, ha, hb', h⟩
  obtain rfl := rx
  obtain rfl := ry
  obtain ⟨mA, J, _⟩ := ins_get I.hok ha
  obtain ⟨mB, J', _⟩ := ins_get I.hok hb'
  obtain ⟨od, J, _⟩ := J.look
  obtain ⟨od', J', _⟩ := J'.look
  obtain ⟨m, fr⟩ := I.fr
  show wpAny _ _ (richCompare .Eq (.ref a) (.ref b)) _ _ _
  refine PySem.W.cmp_K (op := .Eq) (tb := .ref C) hr.units0 fr I.ok.mod.kin J J'.type (by simp [PySem.W.notFirst]) hs hf ?_
  refine thn (run_at (us := [.ref a, .ref b]) (vs := [.ref a, .ref b]) F hb ⟨hr, rfl⟩ I (.cons rfl (.cons rfl .nil)) h) ?_
  rintro r s' ⟨z, H', I', rz, ⟨k, rfl⟩, q⟩
  obtain rfl := rz
  exact ⟨.bl k, H', I', rfl, q⟩

/-- what the text's class must have for != by its own == -/
structure NeC (K : PySem.W.Frag) (C f N : Addr) : Prop where
  cls : ∃ nm q bs sn sub ab col dd k0 k1 k2 k3 k5 newId, K.lookup C = some (excClassObj nm q C N bs [.type "object"] true sn sub ab col dd k0 k1 k2 k3 k5 newId)
  ok : PySem.W.nsOkIn K N = true
  eq : PySem.W.nsIn K N "__eq__" = some (some (.ref f))
  ne : PySem.W.nsIn K N "__ne__" = some none
  fn : ∃ o, K.lookup f = some o ∧ o.cls = .type "function"

theorem ns_some {K : PySem.W.Frag} {h : Heap} {N : Addr} {m : Str → Option Value} {x : Str} {v : Value} (k : K.In h) (G : h.Ns N m)
    (e : PySem.W.nsIn K N x = some (some v)) : m x = some v := by
  obtain ⟨o, es, ep, ho, hd, _, hf⟩ := G
  unfold PySem.W.nsIn at e
  split at e
  · rename_i c d es' n' sl q
    cases ho.symm.trans (k _ _ q)
    cases hd
    split at e
    · rename_i en he
      cases e
      rw [← hf]
      unfold nsFind findBy
      rw [← Array.find?_toList, he]
      rfl
    · split at e
      · cases e
      · cases e
  · cases e
theorem NeC.heap {K : PySem.W.Frag} {h : Heap} (c : NeC K C f N) (k : K.In h) {x : Addr} {o : Obj} (hx : h.get? x = some o) (hc : o.cls = .ref C) :
    h.OwnEqNoNe x C f "object" [.type "object"] := by
  obtain ⟨nm, q, bs, sn, sub, ab, col, dd, k0, k1, k2, k3, k5, newId, hC⟩ := c.cls
  obtain ⟨of, hf, ft⟩ := c.fn
  have ns := Heap.Ns.of_isNs (PySem.W.isNs_of_in k c.ok)
  exact ⟨o, of, nm, q, N, bs, true, sn, sub, ab, col, dd, k0, k1, k2, k3, k5, newId, _, _, hx, hc, k _ _ hC, ns,
    ns_some k ns c.eq, k _ _ hf, ft, PySem.F.cmp_object.mro, PySem.F.cmp_object.eq.lookup, PySem.W.nsMap_none_of_in k c.ok c.ne⟩

/-- x != y -/
theorem op_neOwn (hr : Room (n + 1) X.A) (F : FnOk X.prog X.w X.K X.mg X.base CX0 n f fd ps sp) (hb : Binds X.K fd ps []) (c : NeC X.K C f N) :
    OpR X (compareOp .NotEq) (fun x y H Q => ∃ (a b dx dy : Addr) (fs gs : List (Str × V)), x = .ref a ∧ y = .ref b ∧
      H a = some (.ins C dx fs) ∧ H b = some (.ins C dy gs) ∧
      sp [.ref a, .ref b] H (fun v H' => ∃ k, v = .bl k ∧ Q (.bl (!k)) H') E0) := by
  rintro pins s σ H x y u v Q I rx ry ⟨a, b, dx, dy, fs, gs, rfl, rfl, ha, hb', h⟩
  obtain rfl := rx
  obtain rfl := ry
  obtain ⟨mA, J, _⟩ := ins_get I.hok ha
  obtain ⟨mB, J', _⟩ := ins_get I.hok hb'
  show wpAny _ _ (richCompare .NotEq (.ref a) (.ref b)) _ _ _
  obtain ⟨hp, g, d, t, os⟩ := s
  refine richCompare_ne_ownEq PySem.F.cmp_object (c.heap I.kIn J.1 rfl) J'.1 rfl (by have := hr.units; omega) ?_
  refine thn (run_at (us := [.ref a, .ref b]) (vs := [.ref a, .ref b]) F hb (A := X.A.in1) ⟨hr.in1, rfl⟩ I (.cons rfl (.cons rfl .nil)) h) ?_
  rintro r s' ⟨z, H', I', rz, k, rfl, q⟩
  obtain rfl := rz
  exact ⟨k, rfl, .bl (!k), H', I', rfl, q⟩
end
end L2.Gd
end

section
set_option Elab.async false
set_option linter.all false
set_option maxRecDepth 100000
set_option maxHeartbeats 2000000
namespace L2.Gd
open PySem PySem.Spec PyProof.Rows
section
variable {X : Cx} {k : Nat} {f C : Addr} {fd : FuncData} {ps ks : List Str} {sp : Sp} {x m : Str} {p pos apos : Pos}
  {o : Expr} {kws : List Keyword} {ta tk : TE} {tks : TA} {g : List Value → List Value → List Value} {gV : List V → List V → List V}
/-- a call with keywords alone of a def: it binds by KBn -/
theorem run_kw {pins : List (Addr × Obj)} {σ : St} {H : Hp} {s : Shared} {Q : VK} {us ws : List Value} {vs zs : List V} {n : Nat}
    (F : FnOk X.prog X.w X.K X.mg X.base CX0 k f fd ps sp) (hr : Room k X.A) (hb : KBn X.K fd ps n ks g gV)
    (I : Inv X pins σ H s) (r : Vals vs us) (rz : Vals zs ws) (l1 : vs.length = n) (l2 : zs.length = ks.length)
    (h : sp (gV vs zs) H Q E0) : wpAny (model X.prog X.w) X.A (call (.ref f) us (ks.zip ws)) (EP X pins σ Q) X.xe s := by
  have n1 : us.length = n := r.length.symm.trans l1
  have n2 : ws.length = ks.length := rz.length.symm.trans l2
  refine wpAny_call (codeAny_mono (F.run X.A X.stack s H ⟨us, ks.zip ws⟩ (g us ws) (gV vs zs) Q E0 hr I.env0
    (hb.to s us ws I.kIn n1 n2) (hb.rel r rz) h) ?_)
  intro res s' hq
  cases res with
  | error er => exact (show False from hq).elim
  | ok fl =>
    cases fl with
    | ret u => exact I.after hq
    | next => exact hq.elim
    | brk => exact hq.elim
    | cont => exact hq.elim
/-- o.m(k = v, ..), o an instance of the class at C -/
def tMethK (C : Addr) (m : Str) (n : Nat) (sp : Sp) (gV : List V → List V → List V) (ta : TE) (tk : TA) : TE := fun σ H Q =>
  ta σ H fun x H1 => ∃ a dx fs, x = .ref a ∧ H1 a = some (.ins C dx fs) ∧ fs.lookup m = none ∧
    tk σ H1 fun zs H2 => zs.length = n ∧ sp (gV [x] zs) H2 Q E0
theorem pe_methK0 {pl : Sem Bool} (he : PE X o ta) (c : Cls X.K C) (hm : Meth X.K C m f)
    (F : FnOk X.prog X.w X.K X.mg X.base CX0 k f fd ps sp) (hr : Room k X.A) (hb : KBn X.K fd ps 1 ks g gV) (hkw : PK X kws tks)
    (hall : (backToKw pos (keywordEach kws X.env)).all (·.1.isSome) = true := by rfl)
    (hks : (backToKw pos (keywordEach kws X.env)).filterMap (·.1) = ks := by rfl)
    (hpl : ((backTo pos (starEach [] X.env)).any (·.1) || (backToKw pos (keywordEach kws X.env)).any (·.1.isNone)) = false := by rfl)
    (ht : eval (.Call (.Attribute o m apos) [] kws pos) X.env = (do
      let ov ← eval o X.env
      standAt apos.atName
      let (f, first) ← holding [ov] (getMethod ov m pl)
      callWith pos f first (backTo pos (starEach [] X.env))
        (backToKw pos (keywordEach kws X.env))) := by rfl) :
    PE X (.Call (.Attribute o m apos) [] kws pos) (tMethK C m ks.length sp gV ta tks) := by
  constructor
  intro pins s σ H Q I h
  refine PySem.W.methodCall_KW (pl := pl) (thn (he.run pins s σ H _ I h) ?_) ht
  rintro u s1 ⟨x, H1, I1, rx, a, dx, fs, rfl, ea, l, q⟩
  obtain rfl := rx
  refine getmeth_ok I1 ea c hm l ?_
  refine PySem.W.callWith_KW0 (first := [.ref a]) (h₀ := X.base) I.ok.mod.kin hm.kp hall ?_ hpl
  refine thn (hkw.run pos pins s1 σ H1 _ I1 q) ?_
  rintro ws s2 ⟨zs, H2, I2, rz, l2, q2⟩
  refine ⟨I2.kIn, ?_⟩
  rw [hks]
  have r1 : Vals [V.ref a] [Value.ref a] := .cons rfl .nil
  exact run_kw (us := [Value.ref a]) (vs := [V.ref a]) F hr hb I2 r1 rz rfl l2 q2
end
end L2.Gd
end

section
set_option Elab.async false
set_option linter.all false
set_option maxRecDepth 100000
set_option maxHeartbeats 2000000
namespace L2.K24
open PySem PySem.Spec PyProof.Rows
def top (i : Nat) : Stmt := PySem.Challenge.pw_lonetill_k24_whole_levels_climbs_drops.main.body.getD i (.Pass ⟨0, 0, 0, 0⟩)
abbrev sIsInt : Stmt := top 20
abbrev sIsCount : Stmt := top 21
abbrev sIsList : Stmt := top 22
abbrev sIsDeed : Stmt := top 34
abbrev sCheck : Stmt := top 35
abbrev cHouse (i : Nat) : Stmt := inClass (top 36) i

/-- built-in names that the module leaves alone -/
structure Nm (mg : Str → Option Value) : Prop where
  isi : mg "isinstance" = none
  int : mg "int" = none
  bool : mg "bool" = none
  list : mg "list" = none
  tuple : mg "tuple" = none
  str : mg "str" = none
  len : mg "len" = none
  all : mg "all" = none
  any : mg "any" = none
  enumerate : mg "enumerate" = none
  range : mg "range" = none
  sorted : mg "sorted" = none
  abs : mg "abs" = none
  max : mg "max" = none
  min : mg "min" = none
  repr : mg "repr" = none
  divmod : mg "divmod" = none
  ni : mg "NotImplemented" = none

/-! ### deeds -/
structure Dd where
  p : Int
  c : Int
  g : Int
  w : Str
  deriving DecidableEq
def Dd.vs (x : Dd) : List V := [.int x.p, .int x.c, .int x.g, .str x.w]
def Dd.d (x : Dd) : PyData := .tuple [.int x.p, .int x.c, .int x.g, .str x.w]
structure Dd.Ok (n : Int) (x : Dd) : Prop where
  p0 : 0 ≤ x.p
  pn : x.p < n
  g0 : 0 ≤ x.g
  gn : x.g < n
  w : (x.w = "any" ∧ -1 ≤ x.c ∧ x.c ≤ 1) ∨ (x.w = "empty" ∧ 0 ≤ x.c ∧ x.c ≤ 1)
def DdAt (H : Hp) (v : V) (x : Dd) : Prop := ∃ t, v = .ref t ∧ H t = some (.tup x.vs)

section
variable {P : Program} {w : World} {K : PySem.W.Frag} {mg : Str → Option Value} {base : Heap}

/-- what isinstance(x, T) asks, T a built-in type -/
theorem isi_mk {H : Hp} {v : V} {t T : String} {b : Bool} {Q : VK} (h : TyX K H v (.type t)) (e : kitB t T = some b) (q : Q (.bl b) H) :
    rIsi K [v, .ty T] H Q := ⟨_, _, _, _, b, rfl, .ty _, h, kit_ty e, q⟩
def tIsi (K : PySem.W.Frag) (te : TE) (T : String) : TE := fun σ H Q => te σ H fun v H1 => rIsi K [v, .ty T] H1 Q
theorem blT {p : Prop} [Decidable p] {Q : VK} {H : Hp} (h : p) (k : Q (.bl true) H) : Q (.bl (decide p)) H := by
  rw [decide_eq_true h]
  exact k
theorem blF {p : Prop} [Decidable p] {Q : VK} {H : Hp} (h : ¬ p) (k : Q (.bl false) H) : Q (.bl (decide p)) H := by
  rw [decide_eq_false h]
  exact k
theorem blNT {p : Prop} [Decidable p] {Q : VK} {H : Hp} (h : ¬ p) (k : Q (.bl true) H) : Q (.bl (!decide p)) H := by
  rw [decide_eq_false h]
  exact k
theorem blNF {p : Prop} [Decidable p] {Q : VK} {H : Hp} (h : p) (k : Q (.bl false) H) : Q (.bl (!decide p)) H := by
  rw [decide_eq_true h]
  exact k
section
variable {X : Cx} {e : Expr} {te : TE} {p q pos : Pos}
theorem pe_isInt (n : Nm X.mg) (he : PE X e te) (g1 : Gl X "isinstance" := by rfl) (g2 : Gl X "int" := by rfl)
    (s1 : starEach [e, .Name "int" q] X.env = (false, eval e X.env) :: starEach [.Name "int" q] X.env := by rfl)
    (s2 : starEach [.Name "int" q] X.env = (false, eval (.Name "int" q) X.env) :: starEach [] X.env := by rfl)
    (hpl : (backTo pos (starEach [.Name "int" q] X.env)).any (·.1) = false := by rfl) :
    PE X (.Call (.Name "isinstance" p) [e, .Name "int" q] [] pos) (tIsi X.K te "int") :=
  pe_callB call_isi g1 n.isi (by decide +kernel) (pa_cons he (pa_cons (pe_bltn (v := .ty "int") g2 n.int (by decide +kernel) rfl) pa_nil s2) s1) (he := s1) (hpl := hpl)
theorem pe_isBool (n : Nm X.mg) (he : PE X e te) (g1 : Gl X "isinstance" := by rfl) (g2 : Gl X "bool" := by rfl)
    (s1 : starEach [e, .Name "bool" q] X.env = (false, eval e X.env) :: starEach [.Name "bool" q] X.env := by rfl)
    (s2 : starEach [.Name "bool" q] X.env = (false, eval (.Name "bool" q) X.env) :: starEach [] X.env := by rfl)
    (hpl : (backTo pos (starEach [.Name "bool" q] X.env)).any (·.1) = false := by rfl) :
    PE X (.Call (.Name "isinstance" p) [e, .Name "bool" q] [] pos) (tIsi X.K te "bool") :=
  pe_callB call_isi g1 n.isi (by decide +kernel) (pa_cons he (pa_cons (pe_bltn (v := .ty "bool") g2 n.bool (by decide +kernel) rfl) pa_nil s2) s1) (he := s1) (hpl := hpl)
theorem pe_isTuple (n : Nm X.mg) (he : PE X e te) (g1 : Gl X "isinstance" := by rfl) (g2 : Gl X "tuple" := by rfl)
    (s1 : starEach [e, .Name "tuple" q] X.env = (false, eval e X.env) :: starEach [.Name "tuple" q] X.env := by rfl)
    (s2 : starEach [.Name "tuple" q] X.env = (false, eval (.Name "tuple" q) X.env) :: starEach [] X.env := by rfl)
    (hpl : (backTo pos (starEach [.Name "tuple" q] X.env)).any (·.1) = false := by rfl) :
    PE X (.Call (.Name "isinstance" p) [e, .Name "tuple" q] [] pos) (tIsi X.K te "tuple") :=
  pe_callB call_isi g1 n.isi (by decide +kernel) (pa_cons he (pa_cons (pe_bltn (v := .ty "tuple") g2 n.tuple (by decide +kernel) rfl) pa_nil s2) s1) (he := s1) (hpl := hpl)
theorem pe_isStr (n : Nm X.mg) (he : PE X e te) (g1 : Gl X "isinstance" := by rfl) (g2 : Gl X "str" := by rfl)
    (s1 : starEach [e, .Name "str" q] X.env = (false, eval e X.env) :: starEach [.Name "str" q] X.env := by rfl)
    (s2 : starEach [.Name "str" q] X.env = (false, eval (.Name "str" q) X.env) :: starEach [] X.env := by rfl)
    (hpl : (backTo pos (starEach [.Name "str" q] X.env)).any (·.1) = false := by rfl) :
    PE X (.Call (.Name "isinstance" p) [e, .Name "str" q] [] pos) (tIsi X.K te "str") :=
  pe_callB call_isi g1 n.isi (by decide +kernel) (pa_cons he (pa_cons (pe_bltn (v := .ty "str") g2 n.str (by decide +kernel) rfl) pa_nil s2) s1) (he := s1) (hpl := hpl)
end

theorem yes_ite {σ : L2.St} {H : Hp} {A B : Hp → Prop} (h : A H) : tYes σ H (fun b H3 => if b = true then A H3 else B H3) := by
  show if true = true then A H else B H
  exact iteT h
def spIsInt : Sp := fun vs H Q _ => ∃ i, vs = [.int i] ∧ Q (.bl true) H
theorem scI : FnScope ["value"] ["value"] (defScope sIsInt) := ⟨rfl, rfl, rfl, by decide +kernel, rfl, by decide +kernel, by decide +kernel⟩
theorem ok_isInt {f : Addr} {fd : FuncData} (F : Fun K "is_integer" "is_integer" sIsInt f fd) (n : Nm mg) : FnOk P w K mg base CX0 1 f fd ["value"] spIsInt := by
  refine F.ok scI (fun vs H Q E h => ?_) (fun cdv A outer s H vs Q E hr h => ?_)
  · obtain ⟨i, rfl, _⟩ := h
    rfl
  · obtain ⟨i, rfl, k⟩ := h
    refine ⟨_, pss_one (ps_ret (pe_and (pe_isInt n (pv 0)) (pe_one (pe_not (pe_isBool n (pv 0)))))), ?_⟩
    refine ⟨_, rfl, isi_mk (t := "int") (b := true) (.base (.int _)) (by decide +kernel) ⟨true, rfl, iteT ?_⟩⟩
    exact ⟨_, rfl, isi_mk (t := "int") (b := false) (.base (.int _)) (by decide +kernel) ⟨false, rfl, k⟩⟩

/-- a def called by its name: what a caller needs of it -/
structure Fn (P : Program) (w : World) (K : PySem.W.Frag) (mg : Str → Option Value) (base : Heap) (k : Nat) (x : Str) (ps : List Str) (sp : Sp) : Prop where
  ex : ∃ f fd, mg x = some (.ref f) ∧ PySem.W.keepIn K (.ref f) = true ∧ Binds K fd ps [] ∧ FnOk P w K mg base CX0 k f fd ps sp
theorem pe_fn {X : Cx} {k : Nat} {x : Str} {ps : List Str} {sp : Sp} {e : Expr} {es : List Expr} {t : TA} {p pos : Pos}
    (F : Fn X.prog X.w X.K X.mg X.base k x ps sp) (hr : Room k X.A) (ha : PA X (e :: es) t) (gl : Gl X x := by rfl) (hdb : (x == ("__debug__" : Str)) = false := by decide)
    (he : starEach (e :: es) X.env = (false, eval e X.env) :: starEach es X.env := by rfl)
    (hpl : (backTo pos (starEach es X.env)).any (·.1) = false := by rfl) :
    PE X (.Call (.Name x p) (e :: es) [] pos) (tCall sp [] E0 t) := by
  obtain ⟨f, fd, m, kp, b, G⟩ := F.ex
  exact pe_call G hr gl m kp b .nil pass0 ha hdb he hpl

def spIsCount : Sp := fun vs H Q _ => ∃ i, vs = [.int i] ∧ 0 ≤ i ∧ Q (.bl true) H
theorem scC : FnScope ["value"] ["value"] (defScope sIsCount) := ⟨rfl, rfl, rfl, by decide +kernel, rfl, by decide +kernel, by decide +kernel⟩
theorem ok_isCount {f : Addr} {fd : FuncData} (F : Fun K "is_count" "is_count" sIsCount f fd) (G : Fn P w K mg base 1 "is_integer" ["value"] spIsInt) : FnOk P w K mg base CX0 2 f fd ["value"] spIsCount := by
  refine F.ok scC (fun vs H Q E h => ?_) (fun cdv A outer s H vs Q E hr h => ?_)
  · obtain ⟨i, rfl, _⟩ := h
    rfl
  · obtain ⟨i, rfl, h0, k⟩ := h
    refine ⟨_, pss_one (ps_ret (pe_and (pe_fn G hr (pa_cons (pv 0) pa_nil)) (pe_one (pe_cmpR op_ge (pv 0) pe_int (nomark _))))), ?_⟩
    refine ⟨_, rfl, _, rfl, true, rfl, iteT ?_⟩
    refine ⟨_, rfl, _, _, rfl, rfl, ?_⟩
    exact blT (Q := Q) h0 k

theorem same_upd {H : Hp} {p : Addr} {o : HO} (h : H p = none) : Same H (upd H p o) := fun a u e => by
  rw [upd_ne (ne_of_none e h)]
  exact e
/-- a list or a tuple of these -/
def Seq (K : PySem.W.Frag) (H : Hp) (a : Addr) (xs : List V) : Prop := H a = some (.lst xs) ∨ H a = some (.tup xs)
def spIsList (K : PySem.W.Frag) : Sp := fun vs H Q _ => ∃ a xs, vs = [.ref a] ∧ Seq K H a xs ∧ ∀ H', Same H H' → Q (.bl true) H'
theorem scL : FnScope ["value"] ["value"] (defScope sIsList) := ⟨rfl, rfl, rfl, by decide +kernel, rfl, by decide +kernel, by decide +kernel⟩
theorem ok_isList {f : Addr} {fd : FuncData} (F : Fun K "is_list" "is_list" sIsList f fd) (n : Nm mg) : FnOk P w K mg base CX0 1 f fd ["value"] (spIsList K) := by
  refine F.ok scL (fun vs H Q E h => ?_) (fun cdv A outer s H vs Q E hr h => ?_)
  · obtain ⟨i, _, rfl, _⟩ := h
    rfl
  · obtain ⟨a, xs, rfl, hs, k⟩ := h
    refine ⟨_, pss_one (ps_ret (pe_callB call_isiT (by rfl) n.isi (by decide +kernel) (pa_cons (pv 0) (pa_cons (pe_tup (pa_cons (pe_bltn (v := .ty "list") (by rfl) n.list (by decide +kernel) rfl) (pa_cons (pe_bltn (v := .ty "tuple") (by rfl) n.tuple (by decide +kernel) rfl) pa_nil))) pa_nil)))), ?_⟩
    refine ⟨_, rfl, (by show 2 ≤ sizeLine; decide), fun p hp => ?_⟩
    have cs : Paired ClsV [V.ty "list", V.ty "tuple"] [Value.type "list", Value.type "tuple"] := .cons (.ty _) (.cons (.ty _) .nil)
    rcases hs with hs | hs
    · refine ⟨_, p, _, _, _, true, rfl, upd_same, cs, .base (.lst (by rw [upd_ne (ne_of_none hs hp)]; exact hs)), ?_, k _ (same_upd hp)⟩
      exact kitAny_cons (kit_ty (b := "list") (r := true) (by decide +kernel)) (fun z => nomatch z) (fun _ => rfl)
    · refine ⟨_, p, _, _, _, true, rfl, upd_same, cs, .base (.tup (by rw [upd_ne (ne_of_none hs hp)]; exact hs)), ?_, k _ (same_upd hp)⟩
      exact kitAny_cons (kit_ty (b := "list") (r := false) (by decide +kernel)) (fun _ => kitAny_cons (kit_ty (b := "tuple") (r := true) (by decide +kernel)) (fun z => nomatch z) (fun _ => rfl)) (fun z => nomatch z)

/-! ### is_deed: asked of deeds alone -/
def spIsDeed : Sp := fun vs H Q _ => ∃ (t : Addr) (x : Dd) (n : Int), vs = [.ref t, .int n] ∧ H t = some (.tup x.vs) ∧ x.Ok n ∧ ∀ H', Same H H' → Q (.bl true) H'
theorem scD : FnScope ["value", "places", "place", "change", "goal", "when", "end"] ["value", "places"] (defScope sIsDeed) := ⟨rfl, rfl, rfl, by decide +kernel, rfl, by decide +kernel, by decide +kernel⟩
theorem ok_isDeed {f : Addr} {fd : FuncData} (F : Fun K "is_deed" "is_deed" sIsDeed f fd) (n : Nm mg)
    (GI : Fn P w K mg base 1 "is_integer" ["value"] spIsInt) (GC : Fn P w K mg base 2 "is_count" ["value"] spIsCount) :
    FnOk P w K mg base CX0 3 f fd ["value", "places"] spIsDeed := by
  refine F.ok scD (fun vs H Q E h => ?_) (fun cdv A outer s H vs Q E hr h => ?_)
  · obtain ⟨t, x, m, rfl, _⟩ := h
    rfl
  · obtain ⟨t, x, m, rfl, ht, ok, k⟩ := h
    have nd := scD.nd
    refine ⟨_, pss_cons (ps_if (pw_or (pt_not (pt_val (pe_isTuple n (pv 0))))
          (pw_or1 (pt_cmpR op_ne (pe_callB call_len_seq (by rfl) n.len PySem.boot_len (pa_cons (pv 0) pa_nil)) pe_int (nomark _)))).pt pss_never pss_nil)
      (pss_cons (ps_asg (pv 0) (pg_tup rfl (pgs_cons (pg_name (i := 2) nd rfl (.inl rfl)) (pgs_cons (pg_name (i := 3) nd rfl (.inl rfl)) (pgs_cons (pg_name (i := 4) nd rfl (.inl rfl)) (pgs_cons (pg_name (i := 5) nd rfl (.inl rfl)) pgs_nil))))))
      (pss_cons (ps_if (pt_not (pt_val (pe_callB (cr_all rfl) (by rfl) n.all (by decide +kernel) (pa_cons
          (pe_lc (own := [("end", 6)]) (g := gName 6) (tt := tYes) rfl nd (pi_tup (pe_tup (pa_cons (pv 2) (pa_cons (pv 4) pa_nil)))) (blkOk_by (N := ["value", "places", "place", "change", "goal", "when", "end"]) (sc := defScope sIsDeed) (by decide +kernel))
            (fun _ _ _ _ _ => pg_name (i := 6) nd rfl (.inl rfl)) (fun _ _ _ _ _ => pts_nil)
            (fun _ _ _ _ _ => pe_and (pe_fn GC hr (pa_cons (pv 6) pa_nil)) (pe_one (pe_cmpR op_lt (pv 6) (pv 1) (nomark _))))) pa_nil)))) pss_never pss_nil)
      (pss_cons (ps_if (pw_or (pt_not (pt_val (pe_fn GI (hr.mono (by decide)) (pa_cons (pv 3) pa_nil)))) (pw_or1 (pt_not (pt_val (pe_isStr n (pv 5)))))).pt pss_never pss_nil)
      (pss_one (ps_ret (pe_or (pe_and (pe_cmpR op_eq (pv 5) pe_str (nomark _)) (pe_one (pe_chain op_le op_le (pe_un un_neg pe_int) (pv 3) pe_int)))
        (pe_one (pe_and (pe_cmpR op_eq (pv 5) pe_str (nomark _)) (pe_one (pe_chain op_le op_le pe_int (pv 3) pe_int))))))))) ), ?_⟩
    -- the first test: a tuple, of four
    refine ⟨_, rfl, isi_mk (t := "tuple") (b := true) (.base (.tup ht)) (by decide +kernel) ⟨true, rfl, iteF ?_⟩⟩
    refine ⟨_, rfl, t, x.vs, rfl, .inr (.inl (.inl ht)), rfl, false, rfl, iteF ?_⟩
    refine ⟨_, rfl, t, x.vs, rfl, .inl (.inl ht), rfl, _, _, rfl, _, _, rfl, _, _, rfl, _, _, rfl, rfl, ?_⟩
    -- all([is_count(end) and end < places for end in (place, goal)])
    refine ⟨_, rfl, _, rfl, (by show 2 ≤ sizeLine; decide), fun q hq => ⟨q, rfl, ⟨_, .inl (.inl upd_same)⟩, fun D hD => ?_⟩⟩
    have s1 := same_upd (o := .tup [V.int x.p, V.int x.g]) hq
    have nqD : q ≠ D := ne_of_none upd_same hD
    refine lc_tup (xs := [V.int x.p, V.int x.g]) (fun i H' => H' D = some (.lst (List.replicate i (.bl true))) ∧ ∀ b o, b ≠ D → upd H q (.tup [V.int x.p, V.int x.g]) b = some o → H' b = some o) ⟨upd_same, fun b o hb e => by rw [upd_ne hb]; exact e⟩ (fun i H' _ hI => .inl (.inl (hI.2 _ _ nqD upd_same))) ?_ ?_
    · intro i y H' hi hI
      have hy : ∃ z, y = V.int z ∧ 0 ≤ z ∧ z < m := by
        match i, hi with
        | 0, hi => cases hi; exact ⟨_, rfl, ok.p0, ok.pn⟩
        | 1, hi => cases hi; exact ⟨_, rfl, ok.g0, ok.gn⟩
      obtain ⟨z, rfl, z0, zn⟩ := hy
      refine ⟨rfl, yes_ite ?_⟩
      refine ⟨_, rfl, _, rfl, z0, true, rfl, iteT ?_⟩
      refine ⟨_, rfl, _, rfl, _, _, rfl, rfl, ?_⟩
      have hl : i < 2 := (List.getElem?_eq_some_iff.mp hi).1
      refine ⟨_, hI.1, (by rw [List.length_replicate]; exact small1000 (by omega)), ?_, fun b o hb e => by rw [upd_ne hb]; exact hI.2 b o hb e⟩
      rw [upd_same, List.replicate_succ']
      show some (HO.lst (List.replicate i (V.bl true) ++ [V.bl (decide (z < m))])) = _
      rw [decide_eq_true zn]
    · intro H' ⟨hD', hK'⟩
      have s2 : Same H H' := fun b o e => hK' b o (ne_of_none (s1 b o e) hD) (s1 b o e)
      have ht' : H' t = some (.tup x.vs) := s2 _ _ ht
      refine ⟨D, [true, true], rfl, .inl (.inl hD'), true, rfl, ?_⟩
      refine iteF ?_
      refine ⟨_, rfl, _, rfl, true, rfl, ?_⟩
      refine iteF ?_
      refine ⟨_, rfl, isi_mk (t := "str") (b := true) (.base (.str _)) (by decide +kernel) ⟨true, rfl, ?_⟩⟩
      refine iteF ?_
      have fin := k H' s2
      rcases ok.w with ⟨e, l, u⟩ | ⟨e, l, u⟩
      · refine ⟨_, rfl, rfl, true, congrArg V.bl (decide_eq_true (by rw [e])), ?_⟩
        refine iteT ?_
        refine ⟨1, rfl, _, rfl, _, _, rfl, rfl, true, congrArg V.bl (decide_eq_true l), ?_⟩
        refine iteT ?_
        refine ⟨_, _, rfl, rfl, true, congrArg V.bl (decide_eq_true u), ?_⟩
        exact iteT fin
      · have ne : ¬ V.str x.w = V.str "any" := by
          rw [e]
          decide +kernel
        refine ⟨_, rfl, rfl, false, congrArg V.bl (decide_eq_false ne), ?_⟩
        refine iteF ?_
        refine ⟨false, rfl, ?_⟩
        refine iteF ?_
        refine ⟨_, rfl, rfl, true, congrArg V.bl (decide_eq_true (by rw [e])), ?_⟩
        refine iteT ?_
        refine ⟨_, rfl, _, _, rfl, rfl, true, congrArg V.bl (decide_eq_true l), ?_⟩
        refine iteT ?_
        exact ⟨_, _, rfl, rfl, blT (Q := Q) u fin⟩
end
end L2.K24
end

section
set_option Elab.async false
set_option linter.all false
set_option maxRecDepth 100000
set_option maxHeartbeats 2000000
/-! enumerate of a tuple -/
namespace PyProof.Rows
open PySem
open Sem (wp)
open AutoSeq1 (wpAny_loadPart')
section
variable {prog : Program} {w : World} {A : Around} {E : Value → Shared → Prop} {s : Shared} {I T e : Addr} {i : Nat} {xs : Array Value} {x old : Value}
/-- the tuple's iterator, asked from within a builtin -/
theorem nextOf_tup {Q : Value → Shared → Prop} (it : IsTupIter s.heap I T i) (ht : IsTup s.heap T xs) (hx : xs[i]? = some x)
    (k : ∀ h', IsTupIter h' I T (i + 1) → Heap.SameBut I s.heap h' → Q x { s with heap := h' }) :
    wpAny (model prog w) A (Builtin.SmallTypes.nextOf (.ref I)) Q E s := by
  obtain ⟨o, oi, oc, od⟩ := id it
  obtain ⟨p, op, _, m, pd⟩ := ht
  unfold Builtin.SmallTypes.nextOf
  refine wpAny_bind (wpAny_callSpecial?_slot (name := Str.ofString "__next__") it.typeIs slot_tupleiter_next (wpAny_call_entry slot_tupleiter_next it.typeIs entry_tupleiter_next
    (?a : wpAny _ _ _ _ _ _) (args_tupleiter_next _)))
  show wpAny _ _ (field (.ref I) 0 >>= _) _ _ s
  refine wpAny_bind (wpAny_field oi od (x := .ref T) rfl ?_)
  show wpAny _ _ (if (Value.ref T == Value.none) = true then _ else _) _ _ s
  rw [if_neg (show ¬ ((Value.ref T == Value.none) = true) from Bool.false_ne_true)]
  show wpAny _ _ (field (.ref I) 1 >>= _) _ _ s
  refine wpAny_bind (wpAny_field oi od (x := .int i 0) rfl ?_)
  show wpAny _ _ (seqItems? (.ref T) >>= _) _ _ s
  refine wpAny_bind (wpAny_seqItems op pd ?_)
  simp only [hx, Int.toNat_natCast]
  refine wpAny_bind (wpAny_setField oi od (by simp) (wpAny_pure ⟨x, rfl, wpAny_pure (k _ ⟨_, Heap.get?_update_self _ oi (Obj.isFreed_of_fields (Obj.data_mapFields od _)), (Obj.cls_mapFields ..).trans oc, ?_⟩ (Heap.SameBut.update ..))⟩))
  rw [Obj.data_mapFields od]
  simp [rawInt]
theorem nextOf_tup_end {Q : Value → Shared → Prop} (hh : A.handled = none) (it : IsTupIter s.heap I T i) (ht : IsTup s.heap T xs) (hx : xs[i]? = none)
    (k : ∀ h' c, Heap.ExtBut I s.heap h' → (∃ o, h'.get? c = some o ∧ o.cls = .type "StopIteration") → E (.ref c) { s with heap := h' }) :
    wpAny (model prog w) A (Builtin.SmallTypes.nextOf (.ref I)) Q E s := by
  obtain ⟨o, oi, oc, od⟩ := id it
  obtain ⟨p, op, _, m, pd⟩ := ht
  unfold Builtin.SmallTypes.nextOf
  refine wpAny_bind (wpAny_callSpecial?_slot (name := Str.ofString "__next__") it.typeIs slot_tupleiter_next (wpAny_call_entry slot_tupleiter_next it.typeIs entry_tupleiter_next
    (?a : wpAny _ _ _ _ _ _) (args_tupleiter_next _)))
  show wpAny _ _ (field (.ref I) 0 >>= _) _ _ s
  refine wpAny_bind (wpAny_field oi od (x := .ref T) rfl ?_)
  show wpAny _ _ (if (Value.ref T == Value.none) = true then _ else _) _ _ s
  rw [if_neg (show ¬ ((Value.ref T == Value.none) = true) from Bool.false_ne_true)]
  show wpAny _ _ (field (.ref I) 1 >>= _) _ _ s
  refine wpAny_bind (wpAny_field oi od (x := .int i 0) rfl ?_)
  show wpAny _ _ (seqItems? (.ref T) >>= _) _ _ s
  refine wpAny_bind (wpAny_seqItems op pd ?_)
  simp only [hx, Int.toNat_natCast]
  refine wpAny_bind (wpAny_rule (wpAny_bind (wpAny_setField oi od (by simp) ?_)))
  show wpAny _ _ (newExc (.type "StopIteration") ([] : List Value) >>= _) _ _ _
  refine wpAny_bind ?_
  simp only [newTuple, newExc]
  refine wpAny_bind (wpAny_newObj_type ?_ (by size_fits))
  refine wpAny_bind (m := firstArgMember _ _) (wpAny_of_eq (a := Value.none) rfl ?_)
  refine wpAny_newObj_type ?_ (by size_fits)
  simp only [raiseNew]
  refine wpAny_bind (wpAny_handled ?_)
  rw [show A.in1.handled = none from hh]
  exact wpAny_bind (wpAny_pure (wpAny_throw (k _ _ (((Heap.SameBut.update ..).extBut.push _).push _) ⟨_, Heap.get?_push_size _ rfl, rfl⟩)))
/-- enumerate.__next__ over a tuple's iterator: a pair -/
theorem enumT_item {Q : Value → Shared → Prop} (he : IsEnum s.heap e I i old) (it : IsTupIter s.heap I T i) (ht : IsTup s.heap T xs) (hx : xs[i]? = some x) (ne : e ≠ I)
    (k : ∀ h', IsEnumOut h' e I ((i : Int) + 1) x s.heap.objs.size → IsTupIter h' I T (i + 1) →
      h'.get? s.heap.objs.size = some { cls := .type "tuple", data := .seq #[.int i s.toks, x] } → h'.objs.size = s.heap.objs.size + 1 →
      (∀ b o, b ≠ e → b ≠ I → s.heap.get? b = some o → h'.get? b = some o) → Q (.ref s.heap.objs.size) { s with heap := h', toks := s.toks + 1 }) :
    wpAny (model prog w) A (Builtin.«enumerate.__next__» ⟨[.ref e], []⟩) (fun r s' => ∃ v, r = .done (.ret v) ∧ Q v s') E s := by
  obtain ⟨hp, gs, dr, tk, os⟩ := s
  show wpAny _ _ (field (.ref e) 2 >>= _) _ _ (⟨hp, gs, dr, tk, os⟩ : Shared)
  refine wpAny_bind (wpAny_field he rfl (x := .ref I) rfl (wpAny_bind (nextOf_tup it ht hx ?_)))
  intro a1 ia1 (sa1 : Heap.SameBut I hp a1)
  have e1 : IsEnum a1 e I i old := (sa1.2 e ne).trans he
  show wpAny _ _ (field (.ref e) 3 >>= _) _ _ ⟨a1, gs, dr, tk, os⟩
  refine wpAny_bind (wpAny_field e1 rfl (x := rawInt i) rfl ?_)
  show wpAny _ _ (field (.ref e) 4 >>= _) _ _ ⟨a1, gs, dr, tk, os⟩
  refine wpAny_bind (wpAny_field e1 rfl (x := .none) rfl ?_)
  show wpAny _ _ (mkInt i >>= _) _ _ ⟨a1, gs, dr, tk, os⟩
  refine wpAny_bind (wpAny_mkInt ?_)
  show wpAny _ _ (setField (.ref e) 3 (rawInt ((i : Int) + 1)) >>= _) _ _ ⟨a1, gs, dr, tk + 1, os⟩
  refine wpAny_bind (wpAny_setField_rec e1 (by simp) ?_)
  intro a2 (e2 : IsEnum a2 e I ((i : Int) + 1) old) (sa2 : Heap.SameBut e a1 a2)
  show wpAny _ _ (setField (.ref e) 4 .none >>= _) _ _ ⟨a2, gs, dr, tk + 1, os⟩
  refine wpAny_bind (wpAny_setField_rec e2 (by simp) ?_)
  intro a3 (e3 : IsEnum a3 e I ((i : Int) + 1) old) (sa3 : Heap.SameBut e a2 a3)
  show wpAny _ _ (newTuple [.int i tk, x] >>= _) _ _ ⟨a3, gs, dr, tk + 1, os⟩
  refine wpAny_bind (wpAny_newTuple ?_)
  have z3 : a3.objs.size = hp.objs.size := by rw [sa3.1, sa2.1, sa1.1]
  have le : e < hp.objs.size := Heap.lt_size he
  have nz : hp.objs.size ≠ e := Nat.ne_of_gt le
  rw [z3]
  generalize hq : a3.push { cls := .type "tuple", data := .seq #[.int i tk, x] } = a4
  have e4 : IsEnum a4 e I ((i : Int) + 1) old := by
    rw [← hq]
    exact Heap.get?_push_of_some _ e3
  have t4 : a4.get? hp.objs.size = some { cls := .type "tuple", data := .seq #[.int i tk, x] } := by
    rw [← hq, ← z3]
    exact Heap.get?_push_size _ rfl
  have z4 : a4.objs.size = hp.objs.size + 1 := by rw [← hq, Heap.size_push, z3]
  have k4 : ∀ b o, b ≠ e → b ≠ I → hp.get? b = some o → a4.get? b = some o := by
    intro b o h1 h2 h3
    rw [← hq]
    exact Heap.get?_push_of_some _ (sa3.extBut b o h1 (sa2.extBut b o h1 (sa1.extBut b o h2 h3)))
  have i4 : IsTupIter a4 I T (i + 1) := by
    rw [← hq]
    obtain ⟨o, ho, r⟩ := (ia1.extBut sa2.extBut (Ne.symm ne)).extBut sa3.extBut (Ne.symm ne)
    exact ⟨o, Heap.get?_push_of_some _ ho, r⟩
  show wpAny _ _ (Builtin.SmallTypes.ownedTupleIsFree (.ref e) >>= _) _ _ ⟨a4, gs, dr, tk + 1, os⟩
  refine wpAny_bind ?_
  unfold Builtin.SmallTypes.ownedTupleIsFree
  refine wpAny_bind (wpAny_field e4 rfl (x := .none) rfl (wpAny_pure ?_))
  simp only [if_true]
  refine wpAny_bind (wpAny_rule (wpAny_bind (wpAny_field e4 rfl (x := old) rfl ?_)))
  refine wpAny_bind (wpAny_setField_rec e4 (by simp) ?_)
  intro a5 (e5 : IsEnum a5 e I ((i : Int) + 1) x) (sa5 : Heap.SameBut e a4 a5)
  show wpAny _ _ (Builtin.SmallTypes.ownedTupleHandOut (.ref e) (.ref hp.objs.size) >>= _) _ _ ⟨a5, gs, dr, tk + 1, os⟩
  refine wpAny_bind ?_
  unfold Builtin.SmallTypes.ownedTupleHandOut
  refine wpAny_bind (wpAny_setField_rec e5 (by simp) ?_)
  intro a6 (e6 : IsEnumOut a6 e I ((i : Int) + 1) x hp.objs.size) (sa6 : Heap.SameBut e a5 a6)
  refine wpAny_setField_rec e6 (by simp) ?_
  intro a7 (e7 : IsEnumOut a7 e I ((i : Int) + 1) x hp.objs.size) (sa7 : Heap.SameBut e a6 a7)
  refine wpAny_bind (wpAny_letGo (wpAny_pure ⟨_, rfl, k a7 e7 ?_ ?_ ?_ ?_⟩))
  · exact ((i4.extBut sa5.extBut (Ne.symm ne)).extBut sa6.extBut (Ne.symm ne)).extBut sa7.extBut (Ne.symm ne)
  · exact sa7.extBut _ _ nz (sa6.extBut _ _ nz (sa5.extBut _ _ nz t4))
  · rw [sa7.1, sa6.1, sa5.1, z4]
  · exact fun b o h1 h2 h3 => sa7.extBut b o h1 (sa6.extBut b o h1 (sa5.extBut b o h1 (k4 b o h1 h2 h3)))
theorem pyNext_enumT {Q : Option Value → Shared → Prop} (he : IsEnum s.heap e I i old) (it : IsTupIter s.heap I T i) (ht : IsTup s.heap T xs) (hx : xs[i]? = some x) (ne : e ≠ I)
    (k : ∀ h', IsEnumOut h' e I ((i : Int) + 1) x s.heap.objs.size → IsTupIter h' I T (i + 1) →
      h'.get? s.heap.objs.size = some { cls := .type "tuple", data := .seq #[.int i s.toks, x] } → h'.objs.size = s.heap.objs.size + 1 →
      (∀ b o, b ≠ e → b ≠ I → s.heap.get? b = some o → h'.get? b = some o) → Q (some (.ref s.heap.objs.size)) { s with heap := h', toks := s.toks + 1 }) :
    wpAny (model prog w) A (pyNext (.ref e)) Q E s := by
  have ty : s.TypeIs (.ref e) "enumerate" := ⟨_, he, rfl⟩
  unfold pyNext
  refine wpAny_bind (wpAny_attempt (wpAny_callSpecial?_slot (name := Str.ofString "__next__") ty F.slot_enumerate_next ?_))
  refine wpAny_call_entry F.slot_enumerate_next ty F.entry_enumerate_next ?_ (F.args_enumerate_next_1 _)
  exact enumT_item he it ht hx ne fun h' q1 q2 q3 q4 q5 => wpAny_pure (k h' q1 q2 q3 q4 q5)
theorem pyNext_enumT_end {Q : Option Value → Shared → Prop} (hh : A.handled = none) (he : IsEnum s.heap e I i old) (it : IsTupIter s.heap I T i) (ht : IsTup s.heap T xs) (hx : xs[i]? = none)
    (k : ∀ h', Heap.ExtBut I s.heap h' → Q none { s with heap := h' }) : wpAny (model prog w) A (pyNext (.ref e)) Q E s := by
  have ty : s.TypeIs (.ref e) "enumerate" := ⟨_, he, rfl⟩
  unfold pyNext
  refine wpAny_bind (wpAny_attempt (wpAny_callSpecial?_slot (name := Str.ofString "__next__") ty F.slot_enumerate_next ?_))
  refine wpAny_call_entry F.slot_enumerate_next ty F.entry_enumerate_next ?_ (F.args_enumerate_next_1 _)
  show wpAny _ _ (field (.ref e) 2 >>= _) _ _ s
  refine wpAny_bind (wpAny_field he rfl (x := .ref I) rfl (wpAny_bind (nextOf_tup_end hh it ht hx ?_)))
  rintro h' c q ⟨o, ho, hc⟩
  exact wpAny_bind (wpAny_isInstance (T := "StopIteration") (b := true) ⟨o, ho, hc⟩ isSubtype_stop (wpAny_pure (k _ q)))
/-- enumerate(t) -/
theorem call_enumT {Q : Value → Shared → Prop} (ht : IsTup s.heap T xs)
    (k : ∀ h', IsEnum h' (s.heap.objs.size + 1) s.heap.objs.size 0 .none → IsTupIter h' s.heap.objs.size T 0 →
      (∀ b o, s.heap.get? b = some o → h'.get? b = some o) → Q (.ref (s.heap.objs.size + 1)) { s with heap := h' }) :
    wpAny (model prog w) A (call (.type "enumerate") [.ref T]) Q E s := by
  obtain ⟨o, ho, hc, n, hd⟩ := id ht
  let mid := s.heap.push { cls := .type "tuple_iterator", data := .fields #[.ref T, .int 0 0] }
  let fin := mid.push { cls := .type "enumerate", data := .fields #[.none, .bool false, .ref s.heap.objs.size, rawInt 0, .none, .none] }
  have meets : Meets (Builtin.«enumerate.__new__» ⟨[.type "enumerate", .ref T], []⟩) (fun _ R s' => (∃ o, s'.heap.get? T = some o ∧ o.cls = .type "tuple" ∧ ∃ n, o.data = .seq xs n) ∧
      R (.ok (.ret (.ref (s'.heap.push { cls := .type "tuple_iterator", data := .fields #[.ref T, .int 0 0] }).objs.size)))
        { s' with heap := (s'.heap.push { cls := .type "tuple_iterator", data := .fields #[.ref T, .int 0 0] }).push { cls := .type "enumerate", data := .fields #[.none, .bool false, .ref s'.heap.objs.size, rawInt 0, .none, .none] } }) :=
    .of_wp fun prog w A R s' h => by
      obtain ⟨hp, g, d, tk, os⟩ := s'
      obtain ⟨hT, h⟩ := h
      obtain ⟨o', ho', _⟩ := id hT
      have sub := sub_enumerate
      have tu : IsTup (Shared.heap ⟨hp, g, d, tk, os⟩) T xs := hT
      wp_walk using wpAny_loadPart' ho'
      refine wpAny_stack_any fun st => wpAny_pure ?_
      split
      · rename_i c _ _ _ _ _
        cases (c == Value.type "enumerate") <;> (wp_walk using wpAny_loadPart' ho', iter_tuple tu; exact ⟨_, rfl, h⟩)
      · wp_walk using wpAny_loadPart' ho', iter_tuple tu
        exact ⟨_, rfl, h⟩
  have z : mid.objs.size = s.heap.objs.size + 1 := Heap.size_push ..
  have he : IsEnum fin (s.heap.objs.size + 1) s.heap.objs.size 0 .none := by
    have q := Heap.get?_push_size mid (o := { cls := .type "enumerate", data := .fields #[.none, .bool false, .ref s.heap.objs.size, rawInt 0, .none, .none] }) rfl
    rw [z] at q
    exact q
  refine callType_new F.called_enumerate (by decide) (F.typeCall_enumerate_1 _) (F.newCall_enumerate_1 _) (fun obj => F.args_object_init_2 obj _) F.entry_enumerate_new meets ⟨ht, ?_⟩
  show _ ∧ _
  rw [show (s.heap.push { cls := .type "tuple_iterator", data := .fields #[.ref T, .int 0 0] }).objs.size = s.heap.objs.size + 1 from z]
  exact ⟨⟨_, he, rfl⟩, k fin he ⟨_, Heap.get?_push_of_some _ (Heap.get?_push_size _ rfl), rfl, rfl⟩ fun b o q => Heap.get?_push_of_some _ (Heap.get?_push_of_some _ q)⟩
end
end PyProof.Rows

namespace L2.Gd
open PySem PySem.Spec PyProof.Rows
/-- the tuple at a: each item in a new pair -/
def IteT (K : PySem.W.Frag) (a : Addr) : It where
  go := fun i H => ∃ (xs : List V) (x : V), SqT K H a xs ∧ xs[i]? = some x
  yld := fun i H v H' => ∃ T x, v = .ref T ∧ H T = none ∧ H' = upd H T (.tup [.int (i : Nat), x]) ∧ ∀ xs, SqT K H a xs → xs[i]? = some x
  stop := fun i H => ∃ xs : List V, SqT K H a xs ∧ xs.length ≤ i
theorem turn_enumT {P : Program} {w : World} {K : PySem.W.Frag} {elts : List Expr} {kk : Nat} {tpos : Pos} (a e I : Addr) :
    Turn P w K (.Tuple elts kk tpos) (IteT K a) [e, I] e (fun i h => (∃ old, IsEnum h e I ((i : Nat) : Int) old) ∧ IsTupIter h I a i ∧ e ≠ I) where
  mem := List.mem_cons_self
  obj := by
    rintro i h ⟨⟨old, he⟩, ⟨o, ho, hc, hd⟩, _⟩ b hb
    rcases List.mem_cons.mp hb with rfl | hb
    · exact ⟨_, he, fun v q => nomatch q⟩
    · obtain rfl := List.mem_singleton.mp hb
      exact ⟨o, ho, fun v q => by rw [hd] at q; exact nomatch q⟩
  keep := by
    rintro i h h' ⟨⟨old, he⟩, ⟨o, ho, r⟩, ne⟩ k
    exact ⟨⟨old, k e (by simp) _ he⟩, ⟨o, k I (by simp) _ ho, r⟩, ne⟩
  item := by
    rintro X hP hw hK hc i pins s σ H E J hf ⟨⟨old, he⟩, it, ne⟩ ⟨xs, x, hq, hx⟩
    subst hP hw hK
    obtain ⟨its, rv, tu, _⟩ := J.tuple hq
    obtain ⟨u, hu, ru⟩ := rv.get hx
    have le : e < s.heap.objs.size := Heap.lt_size he
    have li : I < s.heap.objs.size := let ⟨_, q, _⟩ := it; Heap.lt_size q
    refine pyNext_enumT he it tu (x := u) (by simpa using hu) ne ?_
    intro h1 out it1 tup1 z1 k1
    refine ⟨_, rfl, wpAny_letOwnedTupleGo_enum (s := { s with heap := h1, toks := s.toks + 1 }) out ?_⟩
    intro h2 he2 sb
    have tup2 : h2.get? s.heap.objs.size = some { cls := .type "tuple", data := .seq #[.int i s.toks, u] } := (sb.2 _ (Nat.ne_of_gt le)).trans tup1
    have new : ObjOk X.prog X.w (upd H s.heap.objs.size (.tup [.int (i : Nat), x])) h2 s.heap.objs.size (.tup [.int (i : Nat), x]) :=
      ⟨by show 2 ≤ sizeLine; decide, [.int i s.toks, u], .cons ⟨_, rfl⟩ (.cons ru .nil), ⟨_, tup2, rfl, _, rfl⟩⟩
    have J1 : Inv X pins σ (upd H s.heap.objs.size (.tup [.int (i : Nat), x])) { s with heap := h2, toks := s.toks + 1 } := by
      refine J.turnedNew (ch := [e, I]) (fun b o hb q => ?_) hf (Nat.le_refl _) new
      have b1 : b ≠ e := fun z => hb (by simp [z])
      have b2 : b ≠ I := fun z => hb (by simp [z])
      exact (sb.2 b b1).trans (k1 b o b1 b2 q)
    refine ⟨.ref s.heap.objs.size, _, J1, rfl, ⟨_, x, rfl, J.hok.fresh (Nat.le_refl _), rfl, fun ys hy => by rw [J.tuple_inj hy hq]; exact hx⟩, ⟨⟨u, ?_⟩, ?_, ne⟩, ?_⟩
    · rw [show ((i + 1 : Nat) : Int) = (i : Int) + 1 by omega]
      exact he2
    · obtain ⟨o, ho, r⟩ := it1
      exact ⟨o, (sb.2 I (Ne.symm ne)).trans ho, r⟩
    · intro b hb
      have lb : b < s.heap.objs.size := by
        rcases List.mem_cons.mp hb with rfl | q
        · exact le
        · obtain rfl := List.mem_singleton.mp q
          exact li
      rw [upd_ne (Nat.ne_of_lt lb)]
      exact (hf b hb).1
  done := by
    rintro X hP hw hK hc i pins s σ H E J hf ⟨⟨old, he⟩, it, ne⟩ ⟨xs, hq, hx⟩
    subst hP hw hK
    obtain ⟨its, rv, tu, _⟩ := J.tuple hq
    obtain ⟨f0, f1, f2, f3, f4, f5⟩ := hf I (by simp)
    have hl := rv.length
    refine pyNext_enumT_end (J.ok.hd hc) he it tu (by simp; omega) ?_
    intro h1 eb
    exact ⟨rfl, J.turned (t' := s.toks) (fun b o hb q => eb b o hb q) f0 f1 f3 f4 f5⟩
  self := by
    rintro A i s Q E ⟨⟨_, he⟩, _⟩ h
    exact wpAny_pyIter_enum he h
/-- enumerate of a list or of a tuple -/
def iEnumA (K : PySem.W.Frag) (ta : TA) : TI := fun σ H R => ta σ H fun vs H1 => ∃ a xs, vs = [.ref a] ∧
  ((SqL K H1 a xs ∧ R (Ite K a) H1) ∨ (SqT K H1 a xs ∧ R (IteT K a) H1))
theorem pi_enumA {X : Cx} {e : Expr} {ta : TA} {p pos tpos : Pos} {elts : List Expr} {kk : Nat} (hg : Gl X "enumerate") (hm : X.mg "enumerate" = none) (ha : PA X [e] ta)
    (hs : starEach [e] X.env = [(false, eval e X.env)] := by rfl) :
    PI X (.Tuple elts kk tpos) (.Call (.Name "enumerate" p) [e] [] pos) (iEnumA X.K ta) := by
  constructor
  intro pins s σ H R J h
  refine Call_ (ld_blt J hg hm boot_enumerate (PyProof.Rows.callWith_type1 (thn (ha.run pos pins s σ H _ J h) ?_) hs rfl))
  rintro us s1 ⟨vs, H1, J1, r1, a, xs, rfl, q⟩
  cases r1 with
  | cons r rr =>
    cases rr
    cases r
    have fp : ∀ b ∈ [s1.heap.objs.size + 1, s1.heap.objs.size], FpOk X pins H1 b := by
      intro b hb
      have le : s1.heap.objs.size ≤ b := by
        rcases List.mem_cons.mp hb with rfl | q
        · omega
        · obtain rfl := List.mem_singleton.mp q
          exact Nat.le_refl _
      exact J1.fpOk le (J1.hok.fresh le)
    rcases q with ⟨hq, q⟩ | ⟨hq, q⟩
    · obtain ⟨its, rv, pl, _⟩ := J1.list hq
      refine call_enumerate_list pl.isList ?_
      intro h' he it z k
      exact wpAny_pyIter_enum he ⟨_, _, _, _, H1, rfl, J1.kept (t' := s1.toks) k, turn_enum a (s1.heap.objs.size + 1) s1.heap.objs.size,
        ⟨⟨.none, he⟩, it, Nat.succ_ne_self _⟩, fp, q⟩
    · obtain ⟨its, rv, tu, _⟩ := J1.tuple hq
      refine call_enumT tu ?_
      intro h' he it k
      exact wpAny_pyIter_enum he ⟨_, _, _, _, H1, rfl, J1.kept (t' := s1.toks) k, turn_enumT a (s1.heap.objs.size + 1) s1.heap.objs.size,
        ⟨⟨.none, he⟩, it, Nat.succ_ne_self _⟩, fp, q⟩
end L2.Gd
end

section
set_option Elab.async false
set_option linter.all false
set_option maxRecDepth 100000
set_option maxHeartbeats 2000000
namespace L2.K24
open PySem PySem.Spec PyProof.Rows L2.Gd

/-! ### deeds as data -/
theorem DdAt.dp {K : PySem.W.Frag} {H : Hp} {v : V} {x : Dd} (h : DdAt H v x) : Dp K H v x.d := by
  obtain ⟨t, rfl, ht⟩ := h
  exact .tup (.inl (.inl ht)) (.cons (.int _) (.cons (.int _) (.cons (.int _) (.cons (.str _) .nil))))
abbrev DdAll (H : Hp) : List V → List Dd → Prop := Paired (DdAt H)
theorem DdAll.dps {K : PySem.W.Frag} {H : Hp} : ∀ {vs : List V} {ds : List Dd}, DdAll H vs ds → DpAll K H vs (ds.map Dd.d)
  | _, _, .nil => .nil
  | _, _, .cons h t => .cons (DdAt.dp h) (DdAll.dps t)
def Dd.Wd (x : Dd) : Prop := x.w = "any" ∨ x.w = "empty"
theorem Dd.Ok.wd {n : Int} {x : Dd} (h : x.Ok n) : x.Wd := h.w.elim (fun q => .inl q.1) (fun q => .inr q.1)
theorem Dd.lay {x : Dd} (h : x.Wd) : x.d.canLay0 = true := by
  have e : PyData.strOk x.w = true := by
    rcases h with e | e <;> (rw [e]; decide +kernel)
  simp [Dd.d, PyData.canLay0, PyData.canLayAll0, e]
theorem Dd.dep (x : Dd) : x.d.depth = 1 := by simp [Dd.d, PyData.depth, PyData.depthAll]
theorem lays : ∀ {ds : List Dd}, (∀ x ∈ ds, x.Wd) → PyData.canLayAll0 (ds.map Dd.d) = true
  | [], _ => by simp [PyData.canLayAll0]
  | x :: r, h => by simp [PyData.canLayAll0, Dd.lay (h x List.mem_cons_self), lays (ds := r) fun y hy => h y (List.mem_cons_of_mem _ hy)]
theorem deps : ∀ ds : List Dd, PyData.depthAll (ds.map Dd.d) ≤ 1
  | [] => by simp [PyData.depthAll]
  | x :: r => by
    have h1 := deps r
    have h2 := x.dep
    simp only [List.map_cons, PyData.depthAll]
    omega
theorem Dd.shaped {x : Dd} (hx : x.Wd) : SeqAt.shaped x.d = true := by
  have h := x.dep
  show (x.d.canLay0 && decide (x.d.depth ≤ 64)) = true
  rw [Dd.lay hx, decide_eq_true (by omega)]
  rfl
theorem shapedL {ds : List Dd} (hd : ∀ x ∈ ds, x.Wd) : SeqAt.shaped (.list (ds.map Dd.d)) = true := by
  have h := deps ds
  have h2 : PyData.depth (.list (ds.map Dd.d)) ≤ 64 := by
    simp only [PyData.depth]
    omega
  show (PyData.canLay0 (.list (ds.map Dd.d)) && decide (PyData.depth (.list (ds.map Dd.d)) ≤ 64)) = true
  rw [Bool.and_eq_true]
  exact ⟨by simp only [PyData.canLay0]; exact lays hd, decide_eq_true h2⟩
theorem shapedT {ds : List Dd} (hd : ∀ x ∈ ds, x.Wd) : SeqAt.shaped (.tuple (ds.map Dd.d)) = true := by
  have h := deps ds
  have h2 : PyData.depth (.tuple (ds.map Dd.d)) ≤ 64 := by
    simp only [PyData.depth]
    omega
  show (PyData.canLay0 (.tuple (ds.map Dd.d)) && decide (PyData.depth (.tuple (ds.map Dd.d)) ≤ 64)) = true
  rw [Bool.and_eq_true]
  exact ⟨by simp only [PyData.canLay0]; exact lays hd, decide_eq_true h2⟩
theorem Dd.eqv (x y : Dd) : PyData.eqv x.d y.d = decide (x = y) := by
  obtain ⟨p, c, g, w⟩ := x
  obtain ⟨p', c', g', w'⟩ := y
  have e : PyData.eqv (Dd.d ⟨p, c, g, w⟩) (Dd.d ⟨p', c', g', w'⟩) = ((p == p') && ((c == c') && ((g == g') && ((w == w') && true)))) := by
    simp only [Dd.d, PyData.eqv, PyData.eqvAll]
  rw [e, Bool.eq_iff_iff]
  simp
theorem eqvs : ∀ xs ys : List Dd, PyData.eqvAll (xs.map Dd.d) (ys.map Dd.d) = decide (xs = ys)
  | [], [] => by simp [PyData.eqvAll]
  | [], y :: ys => by simp [PyData.eqvAll]
  | x :: xs, [] => by simp [PyData.eqvAll]
  | x :: xs, y :: ys => by
    simp only [List.map_cons, PyData.eqvAll, x.eqv y, eqvs xs ys]
    rw [Bool.eq_iff_iff]
    simp
theorem any_in (x : Dd) (ds : List Dd) : (ds.map Dd.d).any (fun z => PyData.eqv z x.d) = decide (x ∈ ds) := by
  rw [List.any_map, Bool.eq_iff_iff, List.any_eq_true, decide_eq_true_eq]
  constructor
  · rintro ⟨y, hy, e⟩
    have e2 : PyData.eqv y.d x.d = true := e
    rw [y.eqv x, decide_eq_true_eq] at e2
    exact e2 ▸ hy
  · intro h
    refine ⟨x, h, ?_⟩
    show PyData.eqv x.d x.d = true
    rw [x.eqv x]
    simp
theorem DdAt.same {H H' : Hp} {v : V} {x : Dd} (s : Same H H') (h : DdAt H v x) : DdAt H' v x := let ⟨t, e, q⟩ := h; ⟨t, e, s _ _ q⟩
theorem DdAll.same {H H' : Hp} {vs : List V} {ds : List Dd} (s : Same H H') (h : DdAll H vs ds) : DdAll H' vs ds := Paired.mapP h fun _ _ q => q.same s

theorem cutV_take (xs : List V) {i : Nat} (h : i ≤ xs.length) : cutV xs none (some (i : Int)) = xs.take i := by
  have e0 : HT.sIx xs.length 0 none = 0 := by simp [HT.sIx]
  have e1 : HT.sIx xs.length xs.length (some (i : Int)) = i := by
    simp only [HT.sIx]
    split <;> omega
  unfold cutV
  rw [e0, e1, List.drop_zero, Nat.sub_zero]
theorem Paired.at {α β : Type} {R : α → β → Prop} : ∀ {xs : List α} {ys : List β} {i : Nat} {x : α}, Paired R xs ys → xs[i]? = some x → ∃ y, ys[i]? = some y ∧ R x y
  | _, _, _, _, .nil, e => by simp at e
  | _, _, 0, _, .cons r _, e => by simp at e; subst e; exact ⟨_, rfl, r⟩
  | _, _, i + 1, x, .cons _ t, e => by
    obtain ⟨u, h1, h2⟩ := Paired.at (i := i) (x := x) t (by simpa using e)
    exact ⟨u, by simpa using h1, h2⟩
theorem Paired.takeP {α β : Type} {R : α → β → Prop} : ∀ {xs : List α} {ys : List β} (n : Nat), Paired R xs ys → Paired R (xs.take n) (ys.take n)
  | _, _, 0, _ => .nil
  | _, _, _ + 1, .nil => .nil
  | _, _, n + 1, .cons r t => .cons r (Paired.takeP n t)
theorem not_ahead {α : Type} {l : List α} {i : Nat} {x : α} (nd : l.Nodup) (h : l[i]? = some x) : x ∉ l.take i := by
  intro hm
  obtain ⟨j, hj⟩ := List.mem_iff_getElem?.mp hm
  obtain ⟨lt, e⟩ := List.getElem?_eq_some_iff.mp hj
  rw [List.length_take] at lt
  have e2 : l[j]? = some x := by
    rw [List.getElem?_take_of_lt (by omega)] at hj
    exact hj
  obtain ⟨l1, q1⟩ := List.getElem?_eq_some_iff.mp h
  obtain ⟨l2, q2⟩ := List.getElem?_eq_some_iff.mp e2
  exact (List.pairwise_iff_getElem.mp nd) j i l2 l1 (by omega) (q2.trans q1.symm)
theorem hu65 {k : Nat} {A : Around} (hr : Room k A) : A.units + 65 < cLine := by
  have := hr.un
  omega
/-- a for by an invariant, whatever is walked -/
theorem loop_of {J : It} {n : Nat} {g : TG} {tb : TS} {D : Ends} {σ : L2.St} {H : Hp} (Pv : Nat → L2.St → Hp → Prop) (h0 : Pv 0 σ H)
    (hd : ∀ σ H, Pv n σ H → J.stop n H ∧ D.nx σ H)
    (hs : ∀ i σ H, i < n → Pv i σ H → J.go i H ∧ ∀ x H', J.yld i H x H' → g x σ H' fun σ2 H2 => tb { D with nx := Pv (i + 1), ct := Pv (i + 1), bk := D.nx } σ2 H2) :
    ∃ W : Nat → Nat → L2.St → Hp → Prop, (∃ m, W 0 m σ H) ∧ ∀ i m σ H, W i m σ H → (J.stop i H ∧ D.nx σ H) ∨
      (J.go i H ∧ ∃ N : L2.St → Hp → Prop, (∀ σ' H', N σ' H' → ∃ m', m' < m ∧ W (i + 1) m' σ' H') ∧
        ∀ x H', J.yld i H x H' → g x σ H' fun σ2 H2 => tb { D with nx := N, ct := N, bk := D.nx } σ2 H2) := by
  refine ⟨fun i m σ H => m = n - i ∧ i ≤ n ∧ Pv i σ H, ⟨n, by simp, Nat.zero_le _, h0⟩, ?_⟩
  rintro i m σ H ⟨rfl, hi, hp⟩
  by_cases e : i < n
  · obtain ⟨go, k⟩ := hs i σ H e hp
    exact .inr ⟨go, Pv (i + 1), fun σ' H' q => ⟨n - (i + 1), by omega, rfl, e, q⟩, k⟩
  · obtain rfl : i = n := by omega
    exact .inl (hd σ H hp)
/-- x in s, s a list or a tuple -/
theorem op_inDT {X : Cx} (hu : X.A.units + 65 < cLine) : OpR X (compareOp .In) (fun x y H Q => ∃ d ds, Dp X.K H x d ∧ Dp X.K H y (.tuple ds) ∧ SeqAt.shaped d = true ∧ SeqAt.shaped (.tuple ds) = true ∧ Q (.bl (ds.any fun z => PyData.eqv z d)) H) := by
  rintro pins s σ H x y v u Q I rx ry ⟨d, ds, hd, he, sd, se, q⟩
  obtain ⟨as, r1⟩ := Dp.reads I d x v hd rx
  obtain ⟨bs, r2⟩ := Dp.reads I (.tuple ds) y u he ry
  refine SeqAt.in_tuple_reads r2 r1 (SeqAt.canLay_of_shaped se) (SeqAt.canLay_of_shaped sd) ?_ ⟨.bl _, H, I, rfl, q⟩
  exact room_in_shaped sd hu

section
variable {P : Program} {w : World} {K : PySem.W.Frag} {mg : Str → Option Value} {base : Heap}
theorem Seq.len {H : Hp} {a : Addr} {xs : List V} (h : Seq K H a xs) : SqL K H a xs ∨ SqT K H a xs := h.elim (fun q => .inl (.inl (.inl q))) (fun q => .inr (.inl (.inl q)))
theorem Seq.same {H H' : Hp} {a : Addr} {xs : List V} (s : Same H H') (h : Seq K H a xs) : Seq K H' a xs := h.elim (fun q => .inl (s _ _ q)) (fun q => .inr (s _ _ q))
def spCheck (K : PySem.W.Frag) : Sp := fun vs H Q _ => ∃ (m : Int) (a : Addr) (xs : List V) (ds : List Dd), vs = [.int m, .ref a] ∧ Seq K H a xs ∧ DdAll H xs ds ∧
  (∀ d ∈ ds, d.Ok m) ∧ ds.Nodup ∧ ds.length ≤ 60 ∧ ∀ H', Same H H' → Q .non H'
theorem scCk : FnScope ["places", "deeds", "position", "deed"] ["places", "deeds"] (defScope sCheck) := ⟨rfl, rfl, rfl, by decide +kernel, rfl, by decide +kernel, by decide +kernel⟩
theorem ok_check {f : Addr} {fd : FuncData} (F : Fun K "check_deeds" "check_deeds" sCheck f fd) (n : Nm mg)
    (GL : Fn P w K mg base 1 "is_list" ["value"] (spIsList K)) (GD : Fn P w K mg base 3 "is_deed" ["value", "places"] spIsDeed) {tk : Tok} (mm : mg "MOST_DEEDS" = some (.int 60 tk)) :
    FnOk P w K mg base CX0 4 f fd ["places", "deeds"] (spCheck K) := by
  refine F.ok scCk (fun vs H Q E h => ?_) (fun cdv A outer s H vs Q E hr h => ?_)
  · obtain ⟨m, a, xs, ds, rfl, _⟩ := h
    rfl
  · obtain ⟨m, a, xs, ds, rfl, hs, hd, ok, nd, hl, k⟩ := h
    have N := scCk.nd
    have lx : xs.length = ds.length := Paired.length hd
    refine ⟨_, pss_cons (ps_if (pt_not (pt_val (pe_fn GL (hr.mono (by decide)) (pa_cons (pv 1) pa_nil)))) pss_never pss_nil)
      (pss_cons (ps_for PassesOwn.never rfl (pi_enumA (by rfl) n.enumerate (pa_cons (pv 1) pa_nil)) (pg_tup rfl (pgs_cons (pg_name (i := 2) N rfl (.inl rfl)) (pgs_cons (pg_name (i := 3) N rfl (.inl rfl)) pgs_nil)))
        (pss_one (ps_if (pw_or (pt_not (pt_val (pe_fn GD hr (pa_cons (pv 3) (pa_cons (pv 0) pa_nil)))))
          (pw_or1 (pt_cmpR (OpR.or (op_inD (hu65 hr)) (op_inDT (hu65 hr))) (pv 3) (pe_slice (SlR.or sl_list sl_tupA) (pv 1) po_none (po_some (pv 2))) (by rfl)))).pt pss_never pss_nil)))
      (pss_one (ps_if (pt_cmpR op_gt (pe_callB call_len_seq (by rfl) n.len PySem.boot_len (pa_cons (pv 1) pa_nil)) (pe_glob (v := .int 60) (by rfl) mm ⟨_, rfl⟩) (nomark _)) pss_never pss_nil))), ?_⟩
    refine ⟨_, rfl, a, xs, rfl, hs, fun H1 s1 => ⟨true, rfl, ?_⟩⟩
    refine iteF ?_
    have hs1 := hs.same s1
    -- the loop: nothing but new things
    let Pv : Nat → L2.St → Hp → Prop := fun i σ H2 => ∃ v2 v3 : Option V, σ = [some (.int m), some (.ref a), v2, v3] ∧ Same H1 H2
    have body : ∀ (D : Ends) (i : Nat) (T : Addr) (y : V) (H2 : Hp) (v2 v3 : Option V), D.nx = Pv (i + 1) → Same H1 H2 → H2 T = none → xs[i]? = some y →
        (gTup K 2 (gCons (gName 2) (gCons (gName 3) gNil))) (.ref T) [some (.int m), some (.ref a), v2, v3] (upd H2 T (.tup [.int (i : Nat), y])) fun σ3 H3 => (tIfS
          (tOr (tNot (tB (tCall spIsDeed [] E0 (tCons (tVar 3) (tCons (tVar 0) tNil)))))
            (tTest (tOp (fun x y H Q => rInD K x y H Q ∨ ∃ d ds, Dp K H x d ∧ Dp K H y (.tuple ds) ∧ SeqAt.shaped d = true ∧ SeqAt.shaped (.tuple ds) = true ∧ Q (.bl (ds.any fun z => PyData.eqv z d)) H) (tVar 3)
              (tSl (fun x lo hi H Q => rSlL K x lo hi H Q ∨ rSlA K x lo hi H Q) (tVar 1) tNoPart (tPart (tVar 2)))))) tNever tNext) D σ3 H3 := by
      intro D i T y H2 v2 v3 hD s2 hT hy
      have ii : i < xs.length := (List.getElem?_eq_some_iff.mp hy).1
      have s3 : Same H1 (upd H2 T (.tup [.int (i : Nat), y])) := s2.trans (same_upd hT)
      obtain ⟨d, hdi, hdy⟩ := Paired.at hd hy
      have okd := ok d (List.mem_of_getElem? hdi)
      obtain ⟨t, rfl, ht⟩ := hdy
      refine ⟨T, _, rfl, .inl (.inl upd_same), rfl, _, _, rfl, _, _, rfl, rfl, ?_⟩
      refine ⟨_, rfl, _, rfl, t, d, m, rfl, s3 _ _ (s1 _ _ ht), okd, fun H4 s4 => ⟨true, rfl, ?_⟩⟩
      refine iteF ?_
      have sa : Same H H4 := s1.trans (s3.trans s4)
      refine ⟨_, rfl, _, rfl, _, rfl, i, rfl, ?_⟩
      have no : decide (d ∈ ds.take i) = false := decide_eq_false (not_ahead nd hdi)
      have dd : Dp K H4 (.ref t) d.d := DdAt.dp ⟨t, rfl, sa _ _ ht⟩
      have wd : ∀ x ∈ ds.take i, x.Wd := fun x hx => (ok x (List.mem_of_mem_take hx)).wd
      have dl : ∀ {H5 : Hp}, Same H4 H5 → DpAll K H5 (xs.take i) ((ds.take i).map Dd.d) := fun s5 => DdAll.dps (DdAll.same (sa.trans s5) (Paired.takeP i hd))
      rcases hs.same sa with h4 | h4
      · refine .inl ⟨a, xs, rfl, .inl (.inl h4), fun p hp => ?_⟩
        rw [cutV_take xs (Nat.le_of_lt ii)]
        have s5 : Same H4 (upd H4 p (.lst (xs.take i))) := same_upd hp
        refine .inl ⟨_, _, DdAt.dp ⟨t, rfl, s5 _ _ (sa _ _ ht)⟩, .lst (.inl (.inl upd_same)) (dl s5), Dd.shaped okd.wd, shapedL wd, false, ?_, ?_⟩
        · rw [any_in, no]
        · refine iteF ?_
          show D.nx _ _
          rw [hD]
          exact ⟨_, _, rfl, s3.trans (s4.trans s5)⟩
      · refine .inr ⟨a, xs, rfl, .inl (.inl h4), fun q => ?_, fun _ p hp => ?_⟩
        · exfalso
          have e1 : HT.sIx xs.length xs.length (some (i : Int)) = i := by
            simp only [HT.sIx]
            split <;> omega
          omega
        · rw [cutV_take xs (Nat.le_of_lt ii)]
          have s5 : Same H4 (upd H4 p (.tup (xs.take i))) := same_upd hp
          refine .inr ⟨_, _, DdAt.dp ⟨t, rfl, s5 _ _ (sa _ _ ht)⟩, .tup (.inl (.inl upd_same)) (dl s5), Dd.shaped okd.wd, shapedT wd, false, ?_, ?_⟩
          · rw [any_in, no]
          · refine iteF ?_
            show D.nx _ _
            rw [hD]
            exact ⟨_, _, rfl, s3.trans (s4.trans s5)⟩
    refine ⟨_, rfl, a, xs, rfl, ?_⟩
    have after : ∀ σ H2, Pv xs.length σ H2 → tIfS (tTest (tOp (rI0 fun i j => .bl (decide (j < i))) (tCB (fun xs H Q => ∃ p ys, xs = [.ref p] ∧ (SqL K H p ys ∨ SqT K H p ys) ∧ Q (.int ys.length) H) (tCons (tVar 1) tNil)) (tC (.int 60)))) tNever tNext { nx := fun _ H' => Q .non H', rt := Q } σ H2 := by
      rintro σ H2 ⟨v2, v3, rfl, s2⟩
      refine ⟨_, rfl, a, xs, rfl, (hs.same (s1.trans s2)).len, _, _, rfl, rfl, false, congrArg V.bl (decide_eq_false (by omega)), ?_⟩
      exact iteF (k _ (s1.trans s2))
    rcases hs1 with h1 | h1
    · refine .inl ⟨.inl (.inl h1), loop_of (n := xs.length) Pv ⟨none, none, rfl, fun _ _ q => q⟩ (fun σ H2 hp => ?_) ?_⟩
      · obtain ⟨v2, v3, e, s2⟩ := id hp
        exact ⟨⟨xs, .inl (.inl (s2 _ _ h1)), Nat.le_refl _⟩, after σ H2 hp⟩
      · rintro i σ H2 hi ⟨v2, v3, rfl, s2⟩
        refine ⟨⟨xs, _, .inl (.inl (s2 _ _ h1)), List.getElem?_eq_getElem hi⟩, ?_⟩
        rintro x H' ⟨T, y, rfl, hT, rfl, hy⟩
        exact body _ i T y H2 v2 v3 rfl s2 hT (hy xs (.inl (.inl (s2 _ _ h1))))
    · refine .inr ⟨.inl (.inl h1), loop_of (n := xs.length) Pv ⟨none, none, rfl, fun _ _ q => q⟩ (fun σ H2 hp => ?_) ?_⟩
      · obtain ⟨v2, v3, e, s2⟩ := id hp
        exact ⟨⟨xs, .inl (.inl (s2 _ _ h1)), Nat.le_refl _⟩, after σ H2 hp⟩
      · rintro i σ H2 hi ⟨v2, v3, rfl, s2⟩
        refine ⟨⟨xs, _, .inl (.inl (s2 _ _ h1)), List.getElem?_eq_getElem hi⟩, ?_⟩
        rintro x H' ⟨T, y, rfl, hT, rfl, hy⟩
        exact body _ i T y H2 v2 v3 rfl s2 hT (hy xs (.inl (.inl (s2 _ _ h1))))
end
end L2.K24
end

section
set_option Elab.async false
set_option linter.all false
set_option maxRecDepth 100000
set_option maxHeartbeats 2000000
namespace L2.K24
open PySem PySem.Spec PyProof.Rows L2.Gd

/-! ### a house: its attributes, its list -/
theorem kpd : ¬ (("_places" : Str) = "_deeds") := by decide +kernel
def flds (m : Int) (l : Addr) : List (Str × V) := putF "_deeds" (.ref l) (putF "_places" (.int m) [])
theorem flds_eq (m : Int) (l : Addr) : flds m l = ([("_places", V.int m), ("_deeds", V.ref l)] : List (Str × V)) := by
  show (if ("_places" : Str) = "_deeds" then [(("_places" : Str), V.ref l)] else (("_places" : Str), V.int m) :: putF "_deeds" (V.ref l) []) = ([("_places", V.int m), ("_deeds", V.ref l)] : List (Str × V))
  rw [if_neg kpd]
  all_goals rfl
theorem flds_p (m : Int) (l : Addr) : (flds m l).lookup ("_places" : Str) = some (.int m) := by
  unfold flds
  rw [lookup_putF, if_neg kpd, lookup_putF, if_pos rfl]
theorem flds_d (m : Int) (l : Addr) : (flds m l).lookup ("_deeds" : Str) = some (.ref l) := by
  unfold flds
  rw [lookup_putF, if_pos rfl]
theorem flds_no (m : Int) (l : Addr) {x : Str} (h1 : ¬ x = "_deeds") (h2 : ¬ x = "_places") : (flds m l).lookup x = none := by
  unfold flds
  rw [lookup_putF, if_neg h1, lookup_putF, if_neg h2]
  all_goals rfl
/-- a house at h with m places, its own list of the deeds ds at l -/
structure HouseL (C : Addr) (H : Hp) (h l : Addr) (m : Int) (xs : List V) (ds : List Dd) : Prop where
  ob : ∃ dx, H h = some (.ins C dx (flds m l))
  ls : H l = some (.lst xs)
  dd : DdAll H xs ds
structure WF (m : Int) (ds : List Dd) : Prop where
  m1 : 1 ≤ m
  m16 : m ≤ 16
  ok : ∀ d ∈ ds, d.Ok m
  nd : ds.Nodup
  len : ds.length ≤ 60
theorem WF.wd {m : Int} {ds : List Dd} (w : WF m ds) : ∀ d ∈ ds, d.Wd := fun d hd => (w.ok d hd).wd
theorem HouseL.same {C : Addr} {H H' : Hp} {h l : Addr} {m : Int} {xs : List V} {ds : List Dd} (s : Same H H') (x : HouseL C H h l m xs ds) : HouseL C H' h l m xs ds :=
  ⟨let ⟨dx, e⟩ := x.ob; ⟨dx, s _ _ e⟩, s _ _ x.ls, x.dd.same s⟩
theorem HouseL.lenE {C : Addr} {H : Hp} {h l : Addr} {m : Int} {xs : List V} {ds : List Dd} (x : HouseL C H h l m xs ds) : xs.length = ds.length := Paired.length x.dd

/-- what is known of the class -/
structure ClsT (K : PySem.W.Frag) (mg : Str → Option Value) (C : Addr) : Prop where
  isc : C8.InsC K C
  nP : NoAttr K C "_places"
  nD : NoAttr K C "_deeds"
  mgC : mg "House" = some (.ref C)
section
variable {P : Program} {w : World} {K : PySem.W.Frag} {mg : Str → Option Value} {base : Heap} {C : Addr}

/-! ### __init__ -/
def spInit (K : PySem.W.Frag) (C : Addr) : Sp := fun vs H Q _ => ∃ (x dx a : Addr) (m : Int) (xs : List V) (ds : List Dd), vs = [.ref x, .int m, .ref a] ∧ H x = some (.ins C dx []) ∧
  Seq K H a xs ∧ DdAll H xs ds ∧ WF m ds ∧
  ∀ (l : Addr) (H' : Hp), H l = none → H' x = some (.ins C dx (flds m l)) → H' l = some (.lst xs) → (∀ b o, b ≠ x → H b = some o → H' b = some o) → Q .non H'
theorem scIn : FnScope ["self", "places", "deeds"] ["self", "places", "deeds"] (defScope (cHouse 0)) := ⟨rfl, rfl, rfl, by decide +kernel, rfl, by decide +kernel, by decide +kernel⟩
theorem ok_init {f : Addr} {fd : FuncData} (F : Fun K "__init__" "House.__init__" (cHouse 0) f fd) (n : Nm mg) (T : ClsT K mg C)
    (GI : Fn P w K mg base 1 "is_integer" ["value"] spIsInt) (GC : Fn P w K mg base 4 "check_deeds" ["places", "deeds"] (spCheck K))
    {tk : Tok} (mm : mg "MOST_PLACES" = some (.int 16 tk)) : FnOk P w K mg base CX0 5 f fd ["self", "places", "deeds"] (spInit K C) := by
  refine F.ok scIn (fun vs H Q E h => ?_) (fun cdv A outer s H vs Q E hr h => ?_)
  · obtain ⟨x, dx, a, m, xs, ds, rfl, _⟩ := h
    rfl
  · obtain ⟨x, dx, a, m, xs, ds, rfl, hx, hs, hd, wf, k⟩ := h
    refine ⟨_, pss_cons (ps_if (pw_or (pt_not (pt_val (pe_fn GI (hr.mono (by decide)) (pa_cons (pv 1) pa_nil))))
          (pw_or1 (pt_not (pt_chain op_le op_le pe_int (pv 1) (pe_glob (v := .int 16) (by rfl) mm ⟨_, rfl⟩))))).pt pss_never pss_nil)
      (pss_cons (ps_expr (pe_fn GC hr (pa_cons (pv 1) (pa_cons (pv 2) pa_nil))))
      (pss_cons (ps_fld (pv 0) (pv 1) rfl)
      (pss_one (ps_fld (pv 0) (pe_callTy call_list_of (by rfl) n.list (by decide +kernel) (pa_cons (pv 2) pa_nil)) rfl)))), ?_⟩
    refine ⟨_, rfl, _, rfl, true, rfl, ?_⟩
    refine iteF ?_
    refine ⟨_, rfl, _, _, rfl, rfl, true, congrArg V.bl (decide_eq_true wf.m1), ?_⟩
    refine iteT ?_
    refine ⟨_, _, rfl, rfl, true, congrArg V.bl (decide_eq_true wf.m16), ?_⟩
    refine iteF ?_
    refine ⟨_, rfl, _, rfl, m, a, xs, ds, rfl, hs, hd, wf.ok, wf.nd, wf.len, fun H1 s1 => ?_⟩
    refine ⟨_, rfl, _, rfl, x, C, dx, [], rfl, s1 _ _ hx, T.isc.cl, T.nP, (by show 0 < 1000; decide), ?_⟩
    have nxa : ∀ {b : Addr} {ys : List V}, Seq K H b ys → b ≠ x := fun {b ys} q z => by
      subst z
      rcases q with q | q <;> (rw [hx] at q; exact nomatch q)
    have hs1 : Seq K (upd H1 x (.ins C dx (putF "_places" (.int m) []))) a xs := by
      rcases hs with q | q
      · exact .inl (by rw [upd_ne (nxa (.inl q))]; exact s1 _ _ q)
      · exact .inr (by rw [upd_ne (nxa (.inr q))]; exact s1 _ _ q)
    refine ⟨_, rfl, a, xs, rfl, hs1.len, fun l hl => ?_⟩
    have nl : x ≠ l := ne_of_none upd_same hl
    have hl0 : H l = none := by
      rw [upd_ne nl.symm] at hl
      exact s1.free hl
    refine ⟨_, rfl, x, C, dx, _, rfl, (by rw [upd_ne nl]; exact upd_same), T.isc.cl, T.nD, (by show 1 < 1000; decide), ?_⟩
    refine k l _ hl0 upd_same ?_ ?_
    · rw [upd_ne nl.symm, upd_same]
    · intro b o hb e
      rw [upd_ne hb, upd_ne (ne_of_none e hl0), upd_ne hb]
      exact s1 _ _ e
/-- C(..), a house: what the maker's promise wants -/
theorem init_read {H : Hp} {x dx a : Addr} {m : Int} {xs : List V} {ds : List Dd} {Q : VK} {E : XK} (nx : H x = none) (ndx : H dx = none) (ne : dx ≠ x)
    (hs : Seq K H a xs) (hd : DdAll H xs ds) (wf : WF m ds)
    (k : ∀ (l : Addr) (H' : Hp), H l = none → Same H H' → HouseL C H' x l m xs ds → Q (.ref x) H') :
    spInit K C [.ref x, .int m, .ref a] (upd (upd H dx (.own x)) x (.ins C dx [])) (fun v H2 => v = .non ∧ Q (.ref x) H2) E := by
  have s0 : Same H (upd (upd H dx (.own x)) x (.ins C dx [])) := fun b o e => by
    rw [upd_ne (ne_of_none e nx), upd_ne (ne_of_none e ndx)]
    exact e
  refine ⟨x, dx, a, m, xs, ds, rfl, upd_same, hs.same s0, hd.same s0, wf, fun l H' nl hx hl kp => ⟨rfl, ?_⟩⟩
  have s1 : Same H H' := fun b o e => kp b o (ne_of_none e nx) (s0 b o e)
  exact k l H' (s0.free nl) s1 ⟨⟨dx, hx⟩, hl, hd.same s1⟩
structure MkH (P : Program) (w : World) (K : PySem.W.Frag) (mg : Str → Option Value) (base : Heap) (C : Addr) : Prop where
  ex : ∃ f fd, Mk K C f ∧ Binds K fd ["self", "places", "deeds"] [] ∧ FnOk P w K mg base CX0 5 f fd ["self", "places", "deeds"] (spInit K C)
theorem pe_house {X : Cx} {e : Expr} {es : List Expr} {t : TA} {p pos : Pos} (M : MkH X.prog X.w X.K X.mg X.base C) (T : ClsT X.K X.mg C) (hr : Room 6 X.A) (ha : PA X (e :: es) t)
    (hg : Gl X "House" := by rfl) (he : starEach (e :: es) X.env = (false, eval e X.env) :: starEach es X.env := by rfl)
    (hpl : (backTo pos (starEach es X.env)).any (·.1) = false := by rfl) :
    PE X (.Call (.Name "House" p) (e :: es) [] pos) (tMake C (spInit X.K C) [] E0 t) := by
  obtain ⟨f, fd, mk, b, F⟩ := M.ex
  exact pe_make mk F hr hg T.mgC b .nil pass0 ha (by decide) he hpl

/-! ### places, deeds, len, is_plain -/
def spPlaces (C : Addr) : Sp := fun vs H Q _ => ∃ (h dx l : Addr) (m : Int), vs = [.ref h] ∧ H h = some (.ins C dx (flds m l)) ∧ Q (.int m) H
theorem scPl : FnScope ["self"] ["self"] (defScope (cHouse 1)) := ⟨rfl, rfl, rfl, by decide +kernel, rfl, by decide +kernel, by decide +kernel⟩
theorem ok_places {f : Addr} {fd : FuncData} (F : Fun K "places" "House.places" (cHouse 1) f fd) (T : ClsT K mg C) : FnOk P w K mg base CX0 1 f fd ["self"] (spPlaces C) := by
  refine F.ok scPl (fun vs H Q E h => ?_) (fun cdv A outer s H vs Q E hr h => ?_)
  · obtain ⟨h, dx, l, m, rfl, _⟩ := h
    rfl
  · obtain ⟨h, dx, l, m, rfl, hh, k⟩ := h
    refine ⟨_, pss_one (ps_ret (pe_fld (pv 0) rfl)), ?_⟩
    exact ⟨_, rfl, h, C, dx, _, _, rfl, hh, T.isc.cl, T.nP, flds_p _ _, k⟩
def spDeeds (C : Addr) : Sp := fun vs H Q _ => ∃ (h l : Addr) (m : Int) (xs : List V) (ds : List Dd), vs = [.ref h] ∧ HouseL C H h l m xs ds ∧ ∀ p, H p = none → Q (.ref p) (upd H p (.lst xs))
theorem scDe : FnScope ["self"] ["self"] (defScope (cHouse 3)) := ⟨rfl, rfl, rfl, by decide +kernel, rfl, by decide +kernel, by decide +kernel⟩
theorem ok_deeds {f : Addr} {fd : FuncData} (F : Fun K "deeds" "House.deeds" (cHouse 3) f fd) (n : Nm mg) (T : ClsT K mg C) : FnOk P w K mg base CX0 1 f fd ["self"] (spDeeds C) := by
  refine F.ok scDe (fun vs H Q E h => ?_) (fun cdv A outer s H vs Q E hr h => ?_)
  · obtain ⟨h, l, m, xs, ds, rfl, _⟩ := h
    rfl
  · obtain ⟨h, l, m, xs, ds, rfl, hh, k⟩ := h
    obtain ⟨dx, ob⟩ := hh.ob
    refine ⟨_, pss_one (ps_ret (pe_callTy call_list_of (by rfl) n.list (by decide +kernel) (pa_cons (pe_fld (pv 0) rfl) pa_nil))), ?_⟩
    exact ⟨_, rfl, h, C, dx, _, _, rfl, ob, T.isc.cl, T.nD, flds_d _ _, l, xs, rfl, .inl (.inl (.inl hh.ls)), k⟩
def spLen (C : Addr) : Sp := fun vs H Q _ => ∃ (h l : Addr) (m : Int) (xs : List V) (ds : List Dd), vs = [.ref h] ∧ HouseL C H h l m xs ds ∧ Q (.int ds.length) H
theorem scLe : FnScope ["self"] ["self"] (defScope (cHouse 4)) := ⟨rfl, rfl, rfl, by decide +kernel, rfl, by decide +kernel, by decide +kernel⟩
theorem ok_len {f : Addr} {fd : FuncData} (F : Fun K "__len__" "House.__len__" (cHouse 4) f fd) (n : Nm mg) (T : ClsT K mg C) : FnOk P w K mg base CX0 1 f fd ["self"] (spLen C) := by
  refine F.ok scLe (fun vs H Q E h => ?_) (fun cdv A outer s H vs Q E hr h => ?_)
  · obtain ⟨h, l, m, xs, ds, rfl, _⟩ := h
    rfl
  · obtain ⟨h, l, m, xs, ds, rfl, hh, k⟩ := h
    obtain ⟨dx, ob⟩ := hh.ob
    refine ⟨_, pss_one (ps_ret (pe_callB call_len_seq (by rfl) n.len PySem.boot_len (pa_cons (pe_fld (pv 0) rfl) pa_nil))), ?_⟩
    refine ⟨_, rfl, h, C, dx, _, _, rfl, ob, T.isc.cl, T.nD, flds_d _ _, l, xs, rfl, .inl (.inl (.inl hh.ls)), ?_⟩
    have e : ((xs.length : Nat) : Int) = (ds.length : Int) := by rw [hh.lenE]
    show Q (.int (xs.length : Int)) H
    rw [e]
    exact k
end
end L2.K24
end

section
set_option Elab.async false
set_option linter.all false
set_option maxRecDepth 100000
set_option maxHeartbeats 2000000
/-! [f(x) for x in xs if p(x)], xs a list or a tuple: what is made of each element -/
namespace L2.Gd
open PySem PySem.Spec PyProof.Rows
/-- all that stood, but for the list that is being made -/
def ButD (D : Addr) (H H' : Hp) : Prop := ∀ b o, b ≠ D → H b = some o → H' b = some o
theorem ButD.new {D : Addr} {H H' : Hp} (h : H D = none) (b : ButD D H H') : Same H H' := fun a o e => b a o (ne_of_none e h) e
theorem ButD.put {D : Addr} {H H' : Hp} {o : HO} (b : ButD D H H') : ButD D H (L2.upd H' D o) := fun a u ne e => by
  rw [upd_ne ne]
  exact b a u ne e
theorem ButD.more {D : Addr} {H H' H2 : Hp} (b : ButD D H H') (s : Same H' H2) : ButD D H H2 := fun a u ne e => s _ _ (b a u ne e)
theorem ButD.start {D : Addr} {H : Hp} {o : HO} : ButD D H (L2.upd H D o) := fun a u ne e => by
  rw [upd_ne ne]
  exact e
theorem filt_take {α β : Type} (f : α → Option β) {l : List α} {i : Nat} {x : α} (h : l[i]? = some x) : (l.take (i + 1)).filterMap f = (l.take i).filterMap f ++ (f x).toList := by
  rw [List.take_succ, h, List.filterMap_append]
  congr 1
theorem pair_at {α β : Type} {R : α → β → Prop} : ∀ {xs : List α} {ys : List β} {i : Nat} {x : α}, Paired R xs ys → xs[i]? = some x → ∃ y, ys[i]? = some y ∧ R x y
  | _, _, _, _, .nil, e => by simp at e
  | _, _, 0, _, .cons r _, e => by simp at e; subst e; exact ⟨_, rfl, r⟩
  | _, _, i + 1, x, .cons _ t, e => by
    obtain ⟨u, h1, h2⟩ := pair_at (i := i) (x := x) t (by simpa using e)
    exact ⟨u, by simpa using h1, h2⟩
section
variable {α β : Type} {K : PySem.W.Frag} {a : Addr} {xs : List V} {es : List α} {g : TG} {tt : TT} {te : TE} {vs : List Nat} {σ : L2.St} {H1 : Hp} {D : Addr} {Qd : Hp → Prop}
/-- what is promised of one turn -/
def StepOk (F : Hp → V → α → Prop) (G : Hp → V → β → Prop) (f : α → Option β) (g : TG) (tt : TT) (te : TE) (vs : List Nat) (σ : L2.St) (H1 : Hp) (D : Addr) (es : List α) : Prop :=
  ∀ (x : V) (e : α) (H : Hp) (A : V → Hp → Prop) (B : Hp → Prop), e ∈ es → F H1 x e → ButD D H1 H → (∃ zs, H D = some (.lst zs)) →
    (∀ b y H4, f e = some b → Same H H4 → G H4 y b → A y H4) → (∀ H3, f e = none → Same H H3 → B H3) →
    g x (wipe σ vs) H fun σ2 H2 => wipe σ2 vs = wipe σ vs ∧ tt σ2 H2 fun b H3 => if b = true then te σ2 H3 A else B H3
def Stab (G : Hp → V → β → Prop) (D : Addr) : Prop := ∀ (H H' : Hp) (y : V) (b : β), ButD D H H' → (∃ zs, H D = some (.lst zs)) → G H y b → G H' y b
def LcInv (G : Hp → V → β → Prop) (f : α → Option β) (H1 : Hp) (D : Addr) (es : List α) (i : Nat) (H : Hp) : Prop :=
  ∃ ys, H D = some (.lst ys) ∧ ys.length ≤ i ∧ Paired (G H) ys ((es.take i).filterMap f) ∧ ButD D H1 H
variable {F : Hp → V → α → Prop} {G : Hp → V → β → Prop} {f : α → Option β}
theorem lc_turn (st : Stab G D) (h1000 : xs.length ≤ 1000) (pa : Paired (F H1) xs es) (step : StepOk F G f g tt te vs σ H1 D es) {i : Nat} {x : V} {H : Hp} (hx : xs[i]? = some x) (h : LcInv G f H1 D es i H) :
    g x (wipe σ vs) H fun σ2 H2 => wipe σ2 vs = wipe σ vs ∧ tt σ2 H2 fun b H3 =>
      if b = true then te σ2 H3 fun y H4 => ∃ acc, H4 D = some (.lst acc) ∧ acc.length < sizeLine ∧ LcInv G f H1 D es (i + 1) (L2.upd H4 D (.lst (acc ++ [y]))) else LcInv G f H1 D es (i + 1) H3 := by
  obtain ⟨ys, h1, h2, h3, h4⟩ := h
  obtain ⟨e, he, hF⟩ := pair_at pa hx
  have hi : i < xs.length := (List.getElem?_eq_some_iff.mp hx).1
  refine step x e H _ _ (List.mem_of_getElem? he) hF h4 ⟨ys, h1⟩ (fun b y H4 hf s hg => ?_) (fun H3 hf s => ?_)
  · refine ⟨ys, s _ _ h1, by rw [sizeLine_eq]; omega, ys ++ [y], upd_same, by simp; omega, ?_, (h4.more s).put⟩
    rw [filt_take f he, hf]
    have bt : ButD D H4 (L2.upd H4 D (.lst (ys ++ [y]))) := ButD.start
    have hd : ∃ zs, H4 D = some (.lst zs) := ⟨ys, s _ _ h1⟩
    have o1 : Paired (G (L2.upd H4 D (.lst (ys ++ [y])))) ys ((es.take i).filterMap f) := Paired.mapP h3 fun u v q => st _ _ _ _ (show ButD D H _ from fun c o ne z => bt c o ne (s _ _ z)) ⟨ys, h1⟩ q
    exact PySem.Paired.snoc o1 (st _ _ _ _ bt hd hg)
  · refine ⟨ys, s _ _ h1, by omega, ?_, h4.more s⟩
    rw [filt_take f he, hf]
    simp only [Option.toList, List.append_nil]
    exact Paired.mapP h3 fun u v q => st _ _ _ _ (fun c o _ z => s _ _ z) ⟨ys, h1⟩ q
theorem lc_mapL (st : Stab G D) (hl : H1 a = some (.lst xs)) (hD : H1 D = none) (h1000 : xs.length ≤ 1000) (pa : Paired (F H1) xs es) (step : StepOk F G f g tt te vs σ H1 D es)
    (fin : ∀ ys H, H D = some (.lst ys) → Paired (G H) ys (es.filterMap f) → ButD D H1 H → Qd H) :
    ∃ W : Nat → Nat → Hp → Prop, (∃ m, W 0 m (L2.upd H1 D (.lst []))) ∧ ∀ i m H, W i m H →
      ((Itl K a).stop i H ∧ Qd H) ∨ ((Itl K a).go i H ∧ ∃ Nx : Hp → Prop, (∀ H', Nx H' → ∃ m', m' < m ∧ W (i + 1) m' H') ∧ ∀ x H', (Itl K a).yld i H x H' → g x (wipe σ vs) H' fun σ2 H2 => wipe σ2 vs = wipe σ vs ∧ tt σ2 H2 fun b H3 =>
        if b = true then te σ2 H3 fun y H4 => ∃ acc, H4 D = some (.lst acc) ∧ acc.length < sizeLine ∧ Nx (L2.upd H4 D (.lst (acc ++ [y]))) else Nx H3) := by
  refine lc_list (xs := xs) (LcInv G f H1 D es) ⟨[], upd_same, Nat.le_refl _, .nil, .start⟩ (fun i H _ ⟨ys, _, _, _, h4⟩ => .inl (.inl (h4.new hD _ _ hl))) (fun i x H hx h => lc_turn st h1000 pa step hx h) ?_
  rintro H ⟨ys, h1, _, h3, h4⟩
  rw [PySem.Paired.length pa, List.take_length] at h3
  exact fin ys H h1 h3 h4
theorem lc_mapT (st : Stab G D) (hl : H1 a = some (.tup xs)) (hD : H1 D = none) (h1000 : xs.length ≤ 1000) (pa : Paired (F H1) xs es) (step : StepOk F G f g tt te vs σ H1 D es)
    (fin : ∀ ys H, H D = some (.lst ys) → Paired (G H) ys (es.filterMap f) → ButD D H1 H → Qd H) :
    ∃ W : Nat → Nat → Hp → Prop, (∃ m, W 0 m (L2.upd H1 D (.lst []))) ∧ ∀ i m H, W i m H →
      ((Itt K a).stop i H ∧ Qd H) ∨ ((Itt K a).go i H ∧ ∃ Nx : Hp → Prop, (∀ H', Nx H' → ∃ m', m' < m ∧ W (i + 1) m' H') ∧ ∀ x H', (Itt K a).yld i H x H' → g x (wipe σ vs) H' fun σ2 H2 => wipe σ2 vs = wipe σ vs ∧ tt σ2 H2 fun b H3 =>
        if b = true then te σ2 H3 fun y H4 => ∃ acc, H4 D = some (.lst acc) ∧ acc.length < sizeLine ∧ Nx (L2.upd H4 D (.lst (acc ++ [y]))) else Nx H3) := by
  refine lc_tup (xs := xs) (LcInv G f H1 D es) ⟨[], upd_same, Nat.le_refl _, .nil, .start⟩ (fun i H _ ⟨ys, _, _, _, h4⟩ => .inl (.inl (h4.new hD _ _ hl))) (fun i x H hx h => lc_turn st h1000 pa step hx h) ?_
  rintro H ⟨ys, h1, _, h3, h4⟩
  rw [PySem.Paired.length pa, List.take_length] at h3
  exact fin ys H h1 h3 h4
end
end L2.Gd
end

section
set_option Elab.async false
set_option linter.all false
set_option maxRecDepth 100000
set_option maxHeartbeats 2000000
/-! [f(i) for i in range(..)] -/
namespace L2.Gd
open PySem PySem.Spec PyProof.Rows
def rgI (lo : Int) (n : Nat) : List Int := (List.range n).map fun i : Nat => lo + (i : Int)
theorem rgI_len (lo : Int) (n : Nat) : (rgI lo n).length = n := by unfold rgI; rw [List.length_map, List.length_range]
theorem paired_int : ∀ ns : List Int, Paired (fun v e => v = V.int e) (ns.map V.int) ns
  | [] => .nil
  | n :: r => .cons rfl (paired_int r)
section
variable {β : Type} {lo : Int} {n : Nat} {g : TG} {tt : TT} {te : TE} {vs : List Nat} {σ : L2.St} {H1 : Hp} {D : Addr} {Qd : Hp → Prop} {G : Hp → V → β → Prop} {f : Int → Option β}
theorem lc_mapR (st : Stab G D) (h1000 : n ≤ 1000) (step : StepOk (fun _ v e => v = V.int e) G f g tt te vs σ H1 D (rgI lo n))
    (fin : ∀ ys H, H D = some (.lst ys) → Paired (G H) ys ((rgI lo n).filterMap f) → ButD D H1 H → Qd H) :
    ∃ W : Nat → Nat → Hp → Prop, (∃ m, W 0 m (L2.upd H1 D (.lst []))) ∧ ∀ i m H, W i m H →
      ((Itr lo n).stop i H ∧ Qd H) ∨ ((Itr lo n).go i H ∧ ∃ Nx : Hp → Prop, (∀ H', Nx H' → ∃ m', m' < m ∧ W (i + 1) m' H') ∧ ∀ x H', (Itr lo n).yld i H x H' → g x (wipe σ vs) H' fun σ2 H2 => wipe σ2 vs = wipe σ vs ∧ tt σ2 H2 fun b H3 =>
        if b = true then te σ2 H3 fun y H4 => ∃ acc, H4 D = some (.lst acc) ∧ acc.length < sizeLine ∧ Nx (L2.upd H4 D (.lst (acc ++ [y]))) else Nx H3) := by
  have pa := paired_int (rgI lo n)
  have len : ((rgI lo n).map V.int).length = n := by rw [List.length_map, rgI_len]
  refine lc_range (LcInv G f H1 D (rgI lo n)) ⟨[], upd_same, Nat.le_refl _, .nil, .start⟩ (fun i H hi h => ?_) ?_
  · refine lc_turn (xs := (rgI lo n).map V.int) (F := fun _ v e => v = V.int e) st (by rw [len]; exact h1000) pa step (i := i) (x := .int (lo + i)) ?_ h
    unfold rgI
    rw [List.getElem?_map, List.getElem?_map, List.getElem?_range hi]
    rfl
  · rintro H ⟨ys, h1, _, h3, h4⟩
    rw [List.take_of_length_le (Nat.le_of_eq (rgI_len lo n))] at h3
    exact fin ys H h1 h3 h4
end
end L2.Gd
end

section
set_option Elab.async false
set_option linter.all false
set_option maxRecDepth 100000
set_option maxHeartbeats 2000000
/-! len of an instance of an own class that has a __len__. -/
namespace L2.Gd
open PySem PySem.Spec PyProof.Rows
section
variable {X : Cx} {C f N : Addr} {n : Nat} {fd : FuncData} {ps : List Str} {sp : Sp}
theorem call_lenOwn (hr : Room (n + 1) X.A) (F : FnOk X.prog X.w X.K X.mg X.base CX0 n f fd ps sp) (hb : Binds X.K fd ps [])
    (hs : PySem.W.findIn X.K (.ref C) "__len__" = some (some (.ref f))) (hf : PySem.W.isFn X.K (.ref f) = true) :
    CallR X (.builtin "len") (fun xs H Q => ∃ (a dx : Addr) (fs : List (Str × V)), xs = [.ref a] ∧ H a = some (.ins C dx fs) ∧
      sp [.ref a] H (fun v H' => (∃ k : Nat, v = .int k ∧ k < 1000000) ∧ Q v H') E0) := by
  rintro pins s σ H xs us Q I r ⟨a, dx, fs, rfl, ha, h⟩
  rw [Vals.ref1 r]
  obtain ⟨mA, J, _⟩ := ins_get I.hok ha
  obtain ⟨od, J, _⟩ := J.look
  obtain ⟨m, fr⟩ := I.fr
  refine PySem.W.len_K fr I.ok.mod.kin J hs hf ?_
  refine thn (run_at (us := [.ref a]) (vs := [.ref a]) F hb (A := X.A.in1) ⟨hr.in1, rfl⟩ I (.cons rfl .nil) h) ?_
  rintro r s' ⟨z, H', I', rz, ⟨k, rfl, hk⟩, q⟩
  obtain ⟨tk, rfl⟩ := rz
  exact ⟨⟨by omega, by omega⟩, .int k, H', I'.tok _, ⟨_, rfl⟩, q⟩
end
end L2.Gd
end

section
set_option Elab.async false
set_option linter.all false
set_option maxRecDepth 100000
set_option maxHeartbeats 2000000
/-! repr of data of any kind -/
namespace L2.Gd
open PySem PySem.Spec PyProof.Rows
section
variable {X : Cx}
theorem call_reprAny (hg : X.A.guards = some []) (hu : X.A.units + 64 < cLine) :
    CallR X (.builtin "repr") (fun xs H Q => ∃ x d, xs = [x] ∧ Dp X.K H x d ∧ Showy d ∧ Q (.str d.shown) H) := by
  rintro pins s σ H xs us Q I r ⟨x, d, rfl, hd, sh, q⟩
  obtain ⟨u, rfl, ru⟩ := vals1 r
  cases hd with
  | non =>
    obtain rfl := ru
    exact PySem.P.repr_of_none ⟨.str _, H, I.tok _, ⟨_, rfl⟩, q⟩
  | bl b =>
    obtain rfl := ru
    refine PySem.P.repr_of_bool ⟨.str _, H, I.tok _, ⟨_, rfl⟩, ?_⟩
    cases b <;> exact q
  | int i =>
    obtain ⟨t, rfl⟩ := ru
    have hz : i.natAbs.log2 < 1920 := by
      have := sh.1
      simpa only [PyData.showable, decide_eq_true_eq] using this
    exact PySem.P.repr_of_int hz ⟨.str _, H, I.tok _, ⟨_, rfl⟩, q⟩
  | str z =>
    obtain ⟨t, rfl⟩ := ru
    have hz := sh.2.2.2
    exact PySem.P.repr_of_str ⟨.str _, H, I.tok _, ⟨_, rfl⟩, q⟩ (by simpa only [PyData.shown] using hz)
  | lst h t => exact call_reprD hg hu pins s σ H _ _ Q I (.cons ru .nil) ⟨_, _, rfl, .lst h t, sh, q⟩
  | tup h t => exact call_reprD hg hu pins s σ H _ _ Q I (.cons ru .nil) ⟨_, _, rfl, .tup h t, sh, q⟩
end
end L2.Gd
namespace L2.Gd
open PySem PySem.Spec PyProof.Rows
/-- a dict of ints by ints -/
def dI (ps : List (Int × Int)) : List (Key × V) := ps.map fun p => (.inl p.1, .int p.2)
def dP (ps : List (Int × Int)) : PyData := .dict (ps.map fun p => (.int p.1, .int p.2))
theorem reads_ints {h : Heap} {P : Program} {w : World} : ∀ (ps : List (Int × Int)) (es : List DictEntry) (vs : List (Key × Value)), KV (dI ps) vs → Pairs (mixKind P w) es vs →
    ReadsAll h (es.map (·.key)) (ps.map fun p => PyData.int p.1) [] ∧ ReadsAll h (es.map (·.val)) (ps.map fun p => PyData.int p.2) []
  | [], es, vs, kv, pr => by
    cases kv
    cases pr
    exact ⟨.nil, .nil⟩
  | p :: ps, es, vs, kv, pr => by
    cases kv with
    | cons k1 k2 =>
      cases pr with
      | cons e1 e2 e3 =>
        obtain ⟨ke, kr⟩ := k1
        obtain ⟨a, b⟩ := reads_ints (h := h) ps _ _ k2 e3
        obtain ⟨t, ev⟩ := kr
        have e1' : keyIs _ _ = true := e1
        rw [← ke] at e1'
        rcases keyIs_shape e1' with ⟨i, u, h1, h2⟩ | ⟨x, u, h1, h2⟩
        · cases h1
          refine ⟨?_, ?_⟩
          · rw [List.map_cons, List.map_cons, h2]
            exact ReadsAll.cons (as := []) (bs := []) (.int _ _) a
          · rw [List.map_cons, List.map_cons, e2, ev]
            exact ReadsAll.cons (as := []) (bs := []) (.int _ _) b
        · exact nomatch h1
section
variable {X : Cx}
/-- repr of such -/
theorem call_reprDI (hg : X.A.guards = some []) (hu : X.A.units + 64 < cLine) :
    CallR X (.builtin "repr") (fun xs H Q => ∃ a ps, xs = [.ref a] ∧ H a = some (.dK (dI ps)) ∧ (dP ps).showable = true ∧ (dP ps).depth ≤ 20 ∧ (dP ps).shown.length ≤ sizeLine ∧ Q (.str (dP ps).shown) H) := by
  rintro pins s σ H xs us Q I r ⟨a, ps, rfl, ha, h1, h2, h3, q⟩
  rw [Vals.ref1 r]
  obtain ⟨hz, ns, vs, kv, o, es, ep, ho, ex, hd, _, prs, _⟩ := (show ObjOk X.prog X.w H s.heap a (.dK (dI ps)) from I.hok a _ ha)
  obtain ⟨r1, r2⟩ := reads_ints (h := s.heap) ps _ _ kv prs
  have rd : Reads s.heap (.ref a) (dP ps) (a :: [] ++ []) := .dict ho ex.1 hd (by rw [List.map_map]; exact r1) (by rw [List.map_map]; exact r2)
  refine repr_of_reads' rd h1 (fun _ hm => ?_) hg (by omega) (fun _ _ q => q) ?_ h3
  · have e : sysModules = a := by simpa using hm
    rw [e] at ns
    simp at ns
  · intro h' u tk k
    exact ⟨.str _, H, I.kept k, ⟨_, rfl⟩, q⟩
end
end L2.Gd
end

section
set_option Elab.async false
set_option linter.all false
set_option maxRecDepth 100000
set_option maxHeartbeats 2000000
/-! a comprehension by an invariant, whatever is walked -/
namespace L2.Gd
open PySem PySem.Spec PyProof.Rows
theorem lc_gen {J : It} {n : Nat} {g : TG} {tt : TT} {te : TE} {vs : List Nat} {σ : L2.St} {H1 : Hp} {D : Addr} {Qd : Hp → Prop} (Iv : Nat → Hp → Prop) (h0 : Iv 0 (L2.upd H1 D (.lst []))) (hd : ∀ H, Iv n H → J.stop n H ∧ Qd H)
    (hs : ∀ i H, i < n → Iv i H → J.go i H ∧ ∀ x H', J.yld i H x H' → g x (wipe σ vs) H' fun σ2 H2 => wipe σ2 vs = wipe σ vs ∧ tt σ2 H2 fun b H3 =>
      if b = true then te σ2 H3 fun y H4 => ∃ acc, H4 D = some (.lst acc) ∧ acc.length < sizeLine ∧ Iv (i + 1) (L2.upd H4 D (.lst (acc ++ [y]))) else Iv (i + 1) H3) :
    ∃ W : Nat → Nat → Hp → Prop, (∃ m, W 0 m (L2.upd H1 D (.lst []))) ∧ ∀ i m H, W i m H →
      (J.stop i H ∧ Qd H) ∨ (J.go i H ∧ ∃ Nx : Hp → Prop, (∀ H', Nx H' → ∃ m', m' < m ∧ W (i + 1) m' H') ∧ ∀ x H', J.yld i H x H' → g x (wipe σ vs) H' fun σ2 H2 => wipe σ2 vs = wipe σ vs ∧ tt σ2 H2 fun b H3 =>
        if b = true then te σ2 H3 fun y H4 => ∃ acc, H4 D = some (.lst acc) ∧ acc.length < sizeLine ∧ Nx (L2.upd H4 D (.lst (acc ++ [y]))) else Nx H3) := by
  refine ⟨fun i m H => m = n - i ∧ i ≤ n ∧ Iv i H, ⟨n, by simp, Nat.zero_le _, h0⟩, ?_⟩
  rintro i m H ⟨rfl, hi, hp⟩
  by_cases e : i < n
  · obtain ⟨go, k⟩ := hs i H e hp
    exact .inr ⟨go, Iv (i + 1), fun H' q => ⟨n - (i + 1), by omega, rfl, e, q⟩, k⟩
  · obtain rfl : i = n := by omega
    exact .inl (hd H hp)
/-! ### [f(i) for i in range(..)], long ones -/
section
variable {β : Type} {lo : Int} {n : Nat} {g : TG} {tt : TT} {te : TE} {vs : List Nat} {σ : L2.St} {H1 : Hp} {D : Addr} {Qd : Hp → Prop} {G : Hp → V → β → Prop} {f : Int → Option β}
theorem lc_mapRL (st : Stab G D) (hn : n ≤ 1000000) (step : StepOk (fun _ v e => v = V.int e) G f g tt te vs σ H1 D (rgI lo n))
    (fin : ∀ ys H, H D = some (.lst ys) → Paired (G H) ys ((rgI lo n).filterMap f) → ButD D H1 H → Qd H) :
    ∃ W : Nat → Nat → Hp → Prop, (∃ m, W 0 m (L2.upd H1 D (.lst []))) ∧ ∀ i m H, W i m H →
      ((Itr lo n).stop i H ∧ Qd H) ∨ ((Itr lo n).go i H ∧ ∃ Nx : Hp → Prop, (∀ H', Nx H' → ∃ m', m' < m ∧ W (i + 1) m' H') ∧ ∀ x H', (Itr lo n).yld i H x H' → g x (wipe σ vs) H' fun σ2 H2 => wipe σ2 vs = wipe σ vs ∧ tt σ2 H2 fun b H3 =>
        if b = true then te σ2 H3 fun y H4 => ∃ acc, H4 D = some (.lst acc) ∧ acc.length < sizeLine ∧ Nx (L2.upd H4 D (.lst (acc ++ [y]))) else Nx H3) := by
  refine lc_range (LcInv G f H1 D (rgI lo n)) ⟨[], upd_same, Nat.le_refl _, .nil, .start⟩ (fun i H hi h => ?_) ?_
  · obtain ⟨ys, h1, h2, h3, h4⟩ := h
    have he : (rgI lo n)[i]? = some (lo + (i : Int)) := by
      unfold rgI
      rw [List.getElem?_map, List.getElem?_range hi]
      rfl
    refine step (.int (lo + i)) (lo + i) H _ _ (List.mem_of_getElem? he) rfl h4 ⟨ys, h1⟩ (fun b y H4 hf s hg => ?_) (fun H3 hf s => ?_)
    · refine ⟨ys, s _ _ h1, by rw [sizeLine_eq]; omega, ys ++ [y], upd_same, by simp; omega, ?_, (h4.more s).put⟩
      rw [filt_take f he, hf]
      have bt : ButD D H4 (L2.upd H4 D (.lst (ys ++ [y]))) := ButD.start
      have hd : ∃ zs, H4 D = some (.lst zs) := ⟨ys, s _ _ h1⟩
      have o1 : Paired (G (L2.upd H4 D (.lst (ys ++ [y])))) ys (((rgI lo n).take i).filterMap f) := Paired.mapP h3 fun u v q => st _ _ _ _ (show ButD D H _ from fun c o ne z => bt c o ne (s _ _ z)) ⟨ys, h1⟩ q
      exact PySem.Paired.snoc o1 (st _ _ _ _ bt hd hg)
    · refine ⟨ys, s _ _ h1, by omega, ?_, h4.more s⟩
      rw [filt_take f he, hf]
      simp only [Option.toList, List.append_nil]
      exact Paired.mapP h3 fun u v q => st _ _ _ _ (fun c o _ z => s _ _ z) ⟨ys, h1⟩ q
  · rintro H ⟨ys, h1, _, h3, h4⟩
    rw [List.take_of_length_le (Nat.le_of_eq (rgI_len lo n))] at h3
    exact fin ys H h1 h3 h4
end
end L2.Gd
end

section
set_option Elab.async false
set_option linter.all false
set_option maxRecDepth 100000
set_option maxHeartbeats 2000000
/-! s[::-1] of a text; enumerate of a text -/
namespace L2.Gd
open PySem PySem.Spec PyProof.Rows
open Builtin Builtin.Str
def revS (z : Str) : Str := ⟨z.cps.toList.reverse.toArray⟩
theorem revS_ix (n : Nat) : strSliceIndices none none (-1) n = (List.range n).reverse := by
  have e : strSliceIndices none none (-1) n = sliceRange ((n : Int) - 1) (-1) (-1) := rfl
  rw [e, PySem.W.krv_sliceRange, PySem.W.krv_range]
theorem revS_cut (z : Str) : (⟨((strSliceIndices none none (-1) z.length).filterMap (z.cps[·]?)).toArray⟩ : Str) = revS z := by
  rw [revS_ix]
  unfold revS
  rw [List.filterMap_reverse]
  have : (List.range z.length).filterMap (z.cps[·]?) = z.cps.toList := PySem.W.krv_all z.cps
  rw [this]
def tRevS (te : TE) : TE := fun σ H Q => te σ H fun x H1 => ∃ z, x = .str z ∧ z.length ≤ sizeLine ∧ Q (.str (revS z)) H1
theorem pe_revS {X : Cx} {e : Expr} {te : TE} {k : Nat} {p1 p2 p3 pos : Pos} (he : PE X e te) : PE X (.Subscript e (.Slice none none (some (.UnaryOp .USub (.Constant (.int 1) k p1) p2)) p3) pos) (tRevS te) := by
  refine ⟨fun pins s σ H Q I h => ?_⟩
  refine Subscript_ (thn (he.run pins s σ H _ I h) fun v s1 ⟨x, H1, I1, r1, q1⟩ => ?_)
  obtain ⟨z, ex, hz, q⟩ := q1
  subst ex
  obtain ⟨t, rfl⟩ := r1
  have hst : PO X (some (.UnaryOp .USub (.Constant (.int 1) k p1) p2)) (tPart (tUn (rU fun i => .int (-i)) (tC (.int 1)))) := po_some (pe_un un_neg pe_int)
  refine wpAny_Slice (thn (po_none.run pins s1 σ H1 (fun o H2 => o = none ∧ H2 = H1) I1 ⟨rfl, rfl⟩) fun vl s2 ⟨l, H2, I2, pl, el, e2⟩ => ?_)
  subst el e2
  refine thn (po_none.run pins s2 σ H2 (fun o H3 => o = none ∧ H3 = H2) I2 ⟨rfl, rfl⟩) fun vu s3 ⟨u, H3, I3, pu, eu, e3⟩ => ?_
  subst eu e3
  refine thn (hst.run pins s3 σ H3 (fun o H4 => o = some (-1) ∧ H4 = H3) I3 ⟨1, rfl, -1, rfl, rfl, rfl⟩) fun vs s4 ⟨o, H4, I4, ps, eo, e4⟩ => ?_
  subst eo e4
  have I5 : Inv X pins σ H4 { s4 with heap := s4.heap.push { cls := .type "slice", data := .fields #[vl, vu, vs] } } := I4.kept (t' := s4.toks) fun b ob q => Heap.get?_push_of_some _ q
  obtain ⟨l', rfl, el⟩ := IsPart.raw pl
  obtain ⟨u', rfl, eu⟩ := IsPart.raw pu
  obtain ⟨st', rfl, es⟩ := IsPart.raw ps
  show wpAny (model X.prog X.w) X.A (subscriptTail e (.Slice none none (some (.UnaryOp .USub (.Constant (.int 1) k p1) p2)) p3) (.str z t) (.ref s4.heap.objs.size)) (EP X pins σ Q) X.xe { s4 with heap := s4.heap.push { cls := .type "slice", data := .fields #[partValue l', partValue u', partValue st'] } }
  refine tail_any (ops := [.ref s4.heap.objs.size, .str z t]) (typeIs_str _ _ _) (F.slot_str_getitem.lookup) ?_ (by with_unfolding_all rfl)
  refine wpAny_getItem_str_slice (l := l') (u := u') (st := st') ⟨_, Heap.get?_push_size _ rfl, rfl, rfl⟩ (by rw [es]; rfl) ?_
  have e1 : slicePicked z l' u' st' = strSliceIndices none none (-1) z.length := by
    unfold slicePicked
    rw [el, eu, es]
    rfl
  have hl : (revS z).length ≤ sizeLine := by
    show (z.cps.toList.reverse.toArray).size ≤ sizeLine
    rw [List.size_toArray, List.length_reverse, Array.length_toList]
    exact hz
  unfold sliceMade
  rw [e1, es, revS_cut]
  show Made.post (if ((-1 : Int) == 1 && _) = true then _ else _) _ _
  rw [if_neg (fun h => absurd (Bool.and_eq_true_iff.mp h).1 (by decide))]
  exact ⟨hl, .str _, _, I5.tok _, ⟨_, rfl⟩, q⟩
/-! ### enumerate of a text -/
def IteS (x : Str) : It where
  go := fun i _ => i < x.cps.size
  yld := fun i H v H' => ∃ T c, v = .ref T ∧ H T = none ∧ H' = upd H T (.tup [.int (i : Nat), .str ⟨#[c]⟩]) ∧ x.cps[i]? = some c
  stop := fun i _ => x.cps.size ≤ i
theorem drawsS {prog : Program} {w : World} {A : Around} (hh : A.handled = none) (I : Addr) (x : Str) (t : Tok) :
    Draws prog w A I [I] x.cps.size (fun i v => ∃ c u, x.cps[i]? = some c ∧ v = .str ⟨#[c]⟩ u) (fun i h => h.IsStrIter I (strIterType x) x t i) := by
  unfold strIterType
  by_cases h : x.cps.all (· < 128) = true
  · rw [if_pos h]
    exact Draws.strAscii hh I x t
  · rw [if_neg h]
    exact Draws.strWide hh I x t
theorem turn_enumS {P : Program} {w : World} {K : PySem.W.Frag} {elts : List Expr} {kk : Nat} {tpos : Pos} (x : Str) (t : Tok) (e I : Addr) :
    Turn P w K (.Tuple elts kk tpos) (IteS x) [e, I] e (fun i h => (∃ old, IsEnum h e I ((i : Nat) : Int) old) ∧ h.IsStrIter I (strIterType x) x t i ∧ i ≤ x.cps.size ∧ e ≠ I) where
  mem := List.mem_cons_self
  obj := by
    rintro i h ⟨⟨old, he⟩, ⟨o, ho, hc, hd⟩, _⟩ b hb
    rcases List.mem_cons.mp hb with rfl | hb
    · exact ⟨_, he, fun v q => nomatch q⟩
    · obtain rfl := List.mem_singleton.mp hb
      exact ⟨o, ho, fun v q => by rw [hd] at q; exact nomatch q⟩
  keep := by
    rintro i h h' ⟨⟨old, he⟩, ⟨o, ho, r⟩, le, ne⟩ k
    exact ⟨⟨old, k e (by simp) _ he⟩, ⟨o, k I (by simp) _ ho, r⟩, le, ne⟩
  item := by
    rintro X hP hw hK hc i pins s σ H E J hf ⟨⟨old, he⟩, it, lei, ne⟩ lt
    subst hP hw hK
    have lt : i < x.cps.size := lt
    have le : e < s.heap.objs.size := Heap.lt_size he
    have li : I < s.heap.objs.size := let ⟨_, q, _⟩ := it; Heap.lt_size q
    refine wpAny_pyNext_enum_itemD (drawsS (A := X.A.in1) (J.ok.hd hc) I x t) he it lt ne (by simpa using ne) ?_
    intro u h1 tk ⟨c, ut, hcx, hu⟩ out it1 tup1 z1 k1
    subst hu
    refine ⟨_, rfl, wpAny_letOwnedTupleGo_enum (s := { s with heap := h1, toks := tk + 1 }) out ?_⟩
    intro h2 he2 sb
    have tup2 : h2.get? s.heap.objs.size = some { cls := .type "tuple", data := .seq #[.int i tk, .str ⟨#[c]⟩ ut] } := (sb.2 _ (Nat.ne_of_gt le)).trans tup1
    have new : ObjOk X.prog X.w (upd H s.heap.objs.size (.tup [.int (i : Nat), .str ⟨#[c]⟩])) h2 s.heap.objs.size (.tup [.int (i : Nat), .str ⟨#[c]⟩]) :=
      ⟨by show 2 ≤ sizeLine; decide, [.int i tk, .str ⟨#[c]⟩ ut], .cons ⟨_, rfl⟩ (.cons ⟨_, rfl⟩ .nil), ⟨_, tup2, rfl, _, rfl⟩⟩
    have J1 : Inv X pins σ (upd H s.heap.objs.size (.tup [.int (i : Nat), .str ⟨#[c]⟩])) { s with heap := h2, toks := tk + 1 } := by
      refine J.turnedNew (ch := [e, I]) (fun b o hb q => ?_) hf (Nat.le_refl _) new
      have b1 : b ≠ e := fun z => hb (by simp [z])
      have b2 : b ≠ I := fun z => hb (by simp [z])
      exact (sb.2 b b1).trans (k1 b o b1 b2 q)
    refine ⟨.ref s.heap.objs.size, _, J1, rfl, ⟨_, c, rfl, J.hok.fresh (Nat.le_refl _), rfl, hcx⟩, ⟨⟨.str ⟨#[c]⟩ ut, ?_⟩, ?_, lt, ne⟩, ?_⟩
    · rw [show ((i + 1 : Nat) : Int) = (i : Int) + 1 by omega]
      exact he2
    · obtain ⟨o, ho, r⟩ := it1
      exact ⟨o, (sb.2 I (Ne.symm ne)).trans ho, r⟩
    · intro b hb
      have lb : b < s.heap.objs.size := by
        rcases List.mem_cons.mp hb with rfl | q
        · exact le
        · obtain rfl := List.mem_singleton.mp q
          exact li
      rw [upd_ne (Nat.ne_of_lt lb)]
      exact (hf b hb).1
  done := by
    rintro X hP hw hK hc i pins s σ H E J hf ⟨⟨old, he⟩, it, lei, ne⟩ hx
    subst hP hw hK
    have hx : x.cps.size ≤ i := hx
    obtain rfl : i = x.cps.size := by omega
    obtain ⟨f0, f1, f2, f3, f4, f5⟩ := hf I (by simp)
    refine wpAny_pyNext_enum_endD (drawsS (A := X.A.in1) (J.ok.hd hc) I x t) he it ?_
    intro h1 eb
    exact ⟨rfl, J.turned (t' := s.toks) (fun b o hb q => eb b o hb q) f0 f1 f3 f4 f5⟩
  self := by
    rintro A i s Q E ⟨⟨_, he⟩, _⟩ h
    exact wpAny_pyIter_enum he h
def iEnumS (ta : TA) : TI := fun σ H R => ta σ H fun vs H1 => ∃ x, vs = [.str x] ∧ R (IteS x) H1
theorem pi_enumS {X : Cx} {e : Expr} {ta : TA} {p pos tpos : Pos} {elts : List Expr} {kk : Nat} (hg : Gl X "enumerate") (hm : X.mg "enumerate" = none) (ha : PA X [e] ta)
    (hs : starEach [e] X.env = [(false, eval e X.env)] := by rfl) :
    PI X (.Tuple elts kk tpos) (.Call (.Name "enumerate" p) [e] [] pos) (iEnumS ta) := by
  constructor
  intro pins s σ H R J h
  refine Call_ (ld_blt J hg hm boot_enumerate (PyProof.Rows.callWith_type1 (thn (ha.run pos pins s σ H _ J h) ?_) hs rfl))
  rintro us s1 ⟨vs, H1, J1, r1, x, rfl, q⟩
  cases r1 with
  | cons r rr =>
    cases rr
    obtain ⟨t, rfl⟩ := r
    have fp : ∀ b ∈ [s1.heap.objs.size + 1, s1.heap.objs.size], FpOk X pins H1 b := by
      intro b hb
      have le : s1.heap.objs.size ≤ b := by
        rcases List.mem_cons.mp hb with rfl | q
        · omega
        · obtain rfl := List.mem_singleton.mp q
          exact Nat.le_refl _
      exact J1.fpOk le (J1.hok.fresh le)
    refine call_enumerate_str ?_
    intro h' he it z k
    exact wpAny_pyIter_enum he ⟨_, _, _, _, H1, rfl, J1.kept (t' := s1.toks) k, turn_enumS x t (s1.heap.objs.size + 1) s1.heap.objs.size,
      ⟨⟨.none, he⟩, it, Nat.zero_le _, Nat.succ_ne_self _⟩, fp, q⟩
end L2.Gd
end

section
set_option Elab.async false
set_option linter.all false
set_option maxRecDepth 100000
set_option maxHeartbeats 2000000
/-! f"{n:b}" of a number that is not below 0 -/
namespace PyProof.Rows
open PySem Builtin Float
def bitL (n : Nat) : List Nat := (Nat.toDigits 2 n).map Char.toNat
def bitT (n : Nat) : Str := ⟨(bitL n).toArray⟩
def specB : FormatSpec := { align := 62, type := some 98 }
theorem parse_b : parseFormatSpec ("b" : Str).cps.toList "int" 62 = .ok specB := by kernel_rfl
theorem bitT_length (n : Nat) : (bitT n).length = (Nat.toDigits 2 n).length := by
  show (bitL n).toArray.size = _
  unfold bitL
  rw [List.size_toArray, List.length_map]
section
variable {prog : Program} {w : World} {A : Around} {E : Value → Shared → Prop} {s : Shared}
theorem mkStr_to {x y : Str} {Q : Value → Shared → Prop} (e : x = y) (hy : y.length ≤ sizeLine) (h : Q (.str y s.toks) { s with toks := s.toks + 1 }) : wpAny (model prog w) A (mkStr x) Q E s := by
  subst e
  exact wpAny_mkStr h hy
set_option maxRecDepth 100000 in
theorem formatField_bin {n : Nat} {t : Tok} {Q : Value → Shared → Prop} (hl : (Nat.toDigits 2 n).length ≤ sizeLine)
    (h : Q (.str (bitT n) (s.toks + 1)) { s with toks := s.toks + 1 + 1 }) :
    wpAny (model prog w) A (formatField (.int (n : Int) t) ("b" : Str)) Q E s := by
  have hne : (("b" : Str).length == 0) = false := by decide +kernel
  have hasc : ((("b" : Str).cps.toList.drop 1).any (· ≥ 128) || (("b" : Str).cps.getD 0 0 ≥ 128 && !([60, 62, 61, 94] : List Nat).contains (("b" : Str).cps.getD 1 0))) = false := by decide +kernel
  have hlen : (bitT n).length ≤ sizeLine := by rw [bitT_length]; exact hl
  show wpAny _ _ (holding [.int (n : Int) t] (pyFormat (.int (n : Int) t) ("b" : Str))) Q E s
  refine wpAny_holding ?_
  unfold pyFormat
  refine wpAny_bind (wpAny_mkStr ?_ (by rw [sizeLine_eq]; decide +kernel))
  refine wpAny_bind (m := callSpecial? (.int (n : Int) t) (Str.ofString "__format__") [.str ("b" : Str) s.toks]) (wpAny_callSpecial?_slot (name := Str.ofString "__format__") (typeIs_int _ (n : Int) t) slot_int_format ?_)
  refine wpAny_call (codeAny_call_builtin slot_int_format.plain entry_int_format (slot_int_format.check _ _ _ _ _ _ _ _ (typeIs_int _ (n : Int) t) (args_int_format _ _) ?_))
  unfold Builtin.«int.__format__»
  simp only [selfAndOne, noKeywords, Int.intOfSelf, asInt?, asStr?, List.isEmpty_nil, if_true, pure_bind, bind_pure, bind_assoc, hne, hasc, Bool.false_eq_true, if_false,
    show (Value.str ("b" : Str) s.toks == Value.none) = false from rfl]
  refine wpAny_bind (wpAny_typeNameOf (T := "str") (typeIs_str _ _ _) (by decide) fun _ => ?_)
  refine wpAny_bind (wpAny_typeNameOfCut_int ?_)
  simp only [parse_b]
  show wpAny _ _ (if _ then _ else _) _ _ _
  rw [if_pos (by decide +kernel)]
  show wpAny _ _ (retStr _) _ _ _
  unfold retStr
  refine wpAny_bind (mkStr_to (y := bitT n) ?_ hlen (wpAny_pure ?_))
  · have nn : decide ((n : Int) < 0) = false := decide_eq_false (by omega)
    have ab : ((n : Int)).natAbs = n := Int.natAbs_natCast n
    rw [nn, ab]
    have al : specB.alt = false := rfl
    have ty : specB.type = some 98 := rfl
    simp only [al, ty, Bool.false_eq_true, if_false, Option.getD_some, show ((98 : Nat) == 88) = false by decide, show ((2 : Nat) == 10) = false by decide]
    conv => lhs; whnf
    have hne2 : (List.map Char.toNat (Nat.toDigits 2 n)).isEmpty = false := by
      rw [List.isEmpty_map]
      cases hd : Nat.toDigits 2 n with
      | nil => exact absurd hd (by
          have := Nat.length_toDigits_pos (b := 2) (n := n)
          intro z
          rw [z] at this
          exact absurd this (by decide))
      | cons a r => rfl
    have w0 : specB.width = none := rfl
    have g0 : specB.grouping = none := rfl
    have s0 : specB.sign = none := rfl
    have fa : (specB.fill == 48 && specB.align == 61) = false := by decide
    simp only [w0, g0, s0, fa, hne2, Bool.false_eq_true, if_false, List.length_nil, Int.toNat_zero, Nat.zero_sub, List.replicate_zero, List.nil_append, List.append_nil]
    have pz : ∀ m : Nat, ((-1 : Int) - (((0 : Nat) : Int) + ((0 : Nat) : Int) + ((0 : Nat) : Int)) - (m : Int)).toNat = 0 := fun m => by omega
    rw [pz]
    rfl
  · dsimp only
    exact wpAny_bind (wpAny_isInstance (typeIs_str _ _ _) isSubtype_str_str (wpAny_pure h))
end
end PyProof.Rows
namespace PyProof.Rows
open PySem
def revL (n : Nat) : List Nat := (bitL n).reverse
def bitC (b : Bool) : Nat := if b then 49 else 48
theorem revL_small {n : Nat} (h : n < 2) : revL n = [bitC (n.testBit 0)] := by
  unfold revL bitL
  rw [Nat.toDigits_of_lt_base h]
  have : n = 0 ∨ n = 1 := by omega
  rcases this with rfl | rfl <;> rfl
theorem revL_step {n : Nat} (h : 2 ≤ n) : revL n = bitC (n.testBit 0) :: revL (n / 2) := by
  unfold revL bitL
  rw [Nat.toDigits_of_base_le (by decide) h, List.map_append, List.reverse_append]
  show [(n % 2).digitChar.toNat].reverse ++ _ = _
  have e : (n % 2).digitChar.toNat = bitC (n.testBit 0) := by
    rw [Nat.testBit_zero]
    have : n % 2 = 0 ∨ n % 2 = 1 := by omega
    rcases this with z | z <;> rw [z] <;> rfl
  rw [e]
  rfl
theorem revL_at : ∀ (n k : Nat), (∀ c, (revL n)[k]? = some c → c = bitC (n.testBit k)) ∧ ((revL n).length ≤ k → n.testBit k = false) := by
  intro n
  induction n using Nat.strongRecOn with
  | _ n ih =>
    intro k
    by_cases h : n < 2
    · rw [revL_small h]
      cases k with
      | zero => exact ⟨fun c e => (Option.some.inj e).symm, fun z => absurd z (by simp)⟩
      | succ k =>
        refine ⟨fun c e => (nomatch e), fun _ => ?_⟩
        rw [Nat.testBit_succ, show n / 2 = 0 by omega]
        exact Nat.zero_testBit k
    · rw [revL_step (by omega)]
      cases k with
      | zero => exact ⟨fun c e => (Option.some.inj e).symm, fun z => absurd z (by simp)⟩
      | succ k =>
        obtain ⟨h1, h2⟩ := ih (n / 2) (by omega) k
        rw [Nat.testBit_succ]
        refine ⟨fun c e => h1 c e, fun z => h2 ?_⟩
        rw [List.length_cons] at z
        omega
theorem revL_length (n : Nat) : (revL n).length = (bitT n).length := by
  unfold revL
  rw [List.length_reverse]
  rfl
/-- the positions of the ones, rising -/
def onesL (n : Nat) : List Nat := (List.range (revL n).length).filter n.testBit
theorem mem_onesL {n k : Nat} : k ∈ onesL n ↔ n.testBit k = true := by
  unfold onesL
  rw [List.mem_filter, List.mem_range]
  refine ⟨fun h => h.2, fun h => ⟨Nat.lt_of_not_le fun z => ?_, h⟩⟩
  rw [(revL_at n k).2 z] at h
  exact nomatch h
theorem revL_len_le {n m : Nat} (h : n < 2 ^ m) (hm : 0 < m) : (revL n).length ≤ m := by
  unfold revL bitL
  rw [List.length_reverse, List.length_map]
  exact (Nat.length_toDigits_le_iff (by decide) hm).mpr h
/-- the same below any bound of the number -/
theorem onesL_range {n m : Nat} (h : n < 2 ^ m) : onesL n = (List.range m).filter n.testBit := by
  have key : ∀ j, (List.range ((revL n).length + j)).filter n.testBit = onesL n := by
    intro j
    induction j with
    | zero => rfl
    | succ j ih =>
      rw [← Nat.add_assoc, List.range_succ, List.filter_append, ih]
      have z := (revL_at n ((revL n).length + j)).2 (Nat.le_add_right _ _)
      simp [z]
  by_cases hm : 0 < m
  · have := revL_len_le h hm
    rw [← key (m - (revL n).length), show (revL n).length + (m - (revL n).length) = m by omega]
  · obtain rfl : m = 0 := by omega
    obtain rfl : n = 0 := by simpa using h
    decide
end PyProof.Rows
namespace L2
open PySem PySem.Spec PyProof.Rows
section
variable {X : Cx}
/-- {x:b} of a number that is not below 0 -/
def tFmtB (te : TE) : TE := fun σ H Q => te σ H fun x H1 => ∃ n : Nat, x = .int n ∧ (revL n).length ≤ sizeLine ∧ Q (.str (bitT n)) H1
theorem pe_fmtB {e : Expr} {te : TE} {k : Nat} {p1 p2 pos : Pos} (he : PE X e te) : PE X (.FormattedValue e (-1) (some (.JoinedStr [.Constant (.str "b") k p1] p2)) pos) (tFmtB te) := by
  refine ⟨fun pins s σ H Q I h => ?_⟩
  refine wpAny_FormattedValue_spec (thn (he.run pins s σ H _ I h) fun v s1 hv => ?_)
  obtain ⟨x, H1, I1, r1, n, rfl, hz, q⟩ := hv
  obtain ⟨t, rfl⟩ := r1
  refine wpAny_JoinedStr_one (wpAny_Constant_str ?_)
  refine ⟨_, _, rfl, ?_⟩
  exact formatField_bin (by rw [← bitT_length, ← revL_length]; exact hz) ⟨.str (bitT n), H1, (I1.tok _).tok _, ⟨_, rfl⟩, q⟩
end
end L2
end

section
set_option Elab.async false
set_option linter.all false
set_option maxRecDepth 100000
set_option maxHeartbeats 4000000
namespace L2.K24
open PySem PySem.Spec PyProof.Rows L2.Gd
section
variable {P : Program} {w : World} {K : PySem.W.Frag} {mg : Str → Option Value} {base : Heap} {C : Addr}
theorem small_le {n k : Nat} (h : n ≤ k) (hk : k ≤ 1000 := by decide) : n ≤ sizeLine := by
  rw [sizeLine_eq]
  omega
theorem Paired.app {α β : Type} {R : α → β → Prop} : ∀ {xs xs' : List α} {ys ys' : List β}, Paired R xs ys → Paired R xs' ys' → Paired R (xs ++ xs') (ys ++ ys')
  | _, _, _, _, .nil, h => h
  | _, _, _, _, .cons r t, h => .cons r (Paired.app t h)
theorem cutV_drop (xs : List V) {i : Nat} (h : i ≤ xs.length) : cutV xs (some (i : Int)) none = xs.drop i := by
  have e0 : HT.sIx xs.length 0 (some (i : Int)) = i := by
    simp only [HT.sIx]
    split <;> omega
  have e1 : HT.sIx xs.length xs.length none = xs.length := by simp [HT.sIx]
  unfold cutV
  rw [e0, e1]
  exact List.take_of_length_le (by rw [List.length_drop]; omega)
theorem Paired.dropP {α β : Type} {R : α → β → Prop} : ∀ {xs : List α} {ys : List β} (n : Nat), Paired R xs ys → Paired R (xs.drop n) (ys.drop n)
  | _, _, 0, h => h
  | _, _, _ + 1, .nil => .nil
  | _, _, n + 1, .cons r t => Paired.dropP n t
theorem stabD (D : Addr) : Stab DdAt D := fun H H' y d b ⟨zs, hD⟩ ⟨t, e, ht⟩ => ⟨t, e, b _ _ (fun z => by subst z; rw [hD] at ht; exact nomatch ht) ht⟩
theorem stabF (D : Addr) {H1 H : Hp} {t : Addr} {xs ys : List V} (b : ButD D H1 H) (hD : H D = some (.lst ys)) (h : H1 t = some (.tup xs)) (hD1 : H1 D = none) : H t = some (.tup xs) := b.new hD1 _ _ h
def keepD (p : Dd → Bool) (d : Dd) : Option Dd := if p d = true then some d else none
theorem keepD_filter (p : Dd → Bool) (ds : List Dd) : ds.filterMap (keepD p) = ds.filter p := by
  induction ds with
  | nil => rfl
  | cons d r ih =>
    by_cases h : p d = true
    · rw [List.filterMap_cons_some (show keepD p d = some d from if_pos h), List.filter_cons_of_pos h, ih]
    · rw [List.filterMap_cons_none (show keepD p d = none from if_neg h), List.filter_cons_of_neg h, ih]
theorem mapD (f : Dd → Dd) (ds : List Dd) : ds.filterMap (fun d => some (f d)) = ds.map f := by rw [List.filterMap_eq_map']

structure PrH (P : Program) (w : World) (K : PySem.W.Frag) (mg : Str → Option Value) (base : Heap) (C : Addr) (x : Str) (sp : Sp) : Prop where
  ex : ∃ p g fd, PropOf K C x p g ∧ Binds K fd ["self"] [] ∧ FnOk P w K mg base CX0 1 g fd ["self"] sp
theorem pe_prH {X : Cx} {x : Str} {sp : Sp} {e : Expr} {te : TE} {pos : Pos} (G : PrH X.prog X.w X.K X.mg X.base C x sp) (T : ClsT X.K X.mg C) (hr : Room 2 X.A) (he : PE X e te)
    (hab : attributeBase e x X.env (eval e X.env) = eval e X.env := by rfl) : PE X (.Attribute e x pos) (tProp C sp [] E0 te) := by
  obtain ⟨p, g, fd, hp, b, F⟩ := G.ex
  exact pe_prop he T.isc.cl hp F hr b .nil pass0 hab
theorem mapE {α β : Type} (f : α → β) (ds : List α) : ds.filterMap (fun d => some (f d)) = ds.map f := by rw [List.filterMap_eq_map']
theorem bls_of : ∀ {zs : List V} {bs : List Bool}, Paired (fun v b => v = V.bl b) zs bs → zs = bs.map V.bl
  | _, _, .nil => rfl
  | _, _, .cons h t => by rw [h, bls_of t]; rfl
/-! ### the pot -/
abbrev sPot : Stmt := top 38
abbrev sDraw : Stmt := top 39
def PotAt (H : Hp) (p : Addr) : Prop := ∃ a b : Int, H p = some (.lst [.int a, .int b]) ∧ 0 ≤ a ∧ 0 ≤ b ∧ b < 2147483587
def spPot (K : PySem.W.Frag) : Sp := fun vs H Q _ => ∃ (s : Addr) (k : Nat) (ns : List Int), vs = [.ref s, .int k] ∧ SqL K H s (ns.map V.int) ∧ (ns.length ≤ 100000) ∧
  ∀ p H', H p = none → Same H H' → PotAt H' p → Q (.ref p) H'
theorem scPot : FnScope ["_law_script", "_law_k", "_law_cell"] ["_law_script", "_law_k"] (defScope sPot) := ⟨rfl, rfl, rfl, by decide +kernel, rfl, by decide +kernel, by decide +kernel⟩
def tailPot : TE := tLst (tCons (tCB (fun xs H Q => ∃ i j, xs = [V.int i, V.int j] ∧ Q (.int (if j > i then j else i)) H) (tCons (tC (.int 0)) (tCons (tOp (rI0 fun i j => .int (i - j)) (tVar 2) (tOp (rI CPow fun i j => .int (i ^ j.toNat)) (tC (.int 10)) (tC (.int 18)))) tNil)))
  (tCons (tOp (rI0 fun i j => .int (i + j)) (tOp (rI (fun _ j => 0 < j) fun i j => .int (i % j)) (tCB (fun xs H Q => (∃ i, xs = [V.int i] ∧ Q (.int i) H) ∨ ∃ k, xs = [V.bl k] ∧ Q (.int (if k then 1 else 0)) H) (tCons
    (tOp (rI0 fun i j => .int (i + j)) (tOp (rI0 fun i j => .int (i + j)) (tOp (rI CMul fun i j => .int (i * j)) (tOp (rI (fun _ j => 0 < j) fun i j => .int (i % j)) (tCB (fun xs H Q => (∃ i, xs = [V.int i] ∧ Q (.int i) H) ∨ ∃ k, xs = [V.bl k] ∧ Q (.int (if k then 1 else 0)) H) (tCons (tVar 2) tNil)) (tC (.int 2147483549))) (tC (.int 48271)))
      (tOp (rI CMul fun i j => .int (i * j)) (tC (.int 1009)) (tVar 1))) (tC (.int 43))) tNil)) (tC (.int 2147483563))) (tC (.int 1))) tNil))
theorem ok_pot {f : Addr} {fd : FuncData} (F : Fun K "_law_pot" "_law_pot" sPot f fd) (n : Nm mg) : FnOk P w K mg base CX0 1 f fd ["_law_script", "_law_k"] (spPot K) := by
  refine F.ok scPot (fun vs H Q E h => ?_) (fun cdv A outer s H vs Q E hr h => ?_)
  · obtain ⟨s, k, ns, rfl, _⟩ := h
    rfl
  · obtain ⟨s, k, ns, rfl, hs, hz, q⟩ := h
    have N := scPot.nd
    refine ⟨_, pss_cons (ps_set (i := 2) N rfl (.inl rfl) (pe_op op_add (pe_op op_mul pe_int (pv 1)) pe_int))
      (pss_cons (ps_if (pt_cmpR op_lt (pv 1) (pe_callB call_len_seq (by rfl) n.len PySem.boot_len (pa_cons (pv 0) pa_nil)) (nomark _))
        (pss_one (ps_set (i := 2) N rfl (.inl rfl) (pe_callB call_abs (by rfl) n.abs (by decide +kernel) (pa_cons (pe_ix ix_list (pv 0) (pv 1) (fun _ _ => rfl)) pa_nil)))) pss_nil)
      (pss_one (ps_ret (pe_lst (pa_cons (pe_callB (call_max2 rfl) (by rfl) n.max (by decide +kernel) (pa_cons pe_int (pa_cons (pe_op op_sub (pv 2) (pe_op op_pow pe_int pe_int)) pa_nil)))
        (pa_cons (pe_op op_add (pe_op op_mod (pe_callTy call_int1 (by rfl) n.int (by decide +kernel) (pa_cons (pe_op op_add (pe_op op_add (pe_op op_mul (pe_op op_mod (pe_callTy call_int1 (by rfl) n.int (by decide +kernel) (pa_cons (pv 2) pa_nil)) pe_int) pe_int) (pe_op op_mul pe_int (pv 1))) pe_int) pa_nil)) pe_int) pe_int) pa_nil)))))), ?_⟩
    refine ⟨_, rfl, _, _, rfl, rfl, .inl (by decide), _, _, rfl, rfl, ?_⟩
    have tail : ∀ c : Int, tailPot [some (.ref s), some (.int k), some (.int c)] H Q := by
      intro c
      refine ⟨_, rfl, _, _, rfl, rfl, ⟨by decide, by decide, by decide⟩, _, _, rfl, rfl, _, _, rfl, ?_⟩
      refine ⟨_, rfl, .inl ⟨_, rfl, _, _, rfl, rfl, (by show (0 : Int) < 2147483549; decide), _, _, rfl, rfl, .inr (by decide), _, rfl, _, _, rfl, rfl, .inl (by decide), _, _, rfl, rfl, _, _, rfl, rfl, .inl ⟨_, rfl, ?_⟩⟩⟩
      refine ⟨_, _, rfl, rfl, (by show (0 : Int) < 2147483563; decide), _, _, rfl, rfl, (by show 2 ≤ sizeLine; decide), fun p hp => ?_⟩
      refine q p _ hp (same_upd hp) ⟨_, _, upd_same, ?_, ?_, ?_⟩
      · split <;> omega
      · omega
      · omega
    by_cases hk : k < ns.length
    all_goals
      refine ⟨_, rfl, _, rfl, s, _, rfl, .inl hs, _, _, rfl, rfl, decide ((k : Int) < (ns.map V.int).length), rfl, ?_⟩
      rw [List.length_map]
    · rw [decide_eq_true (by omega)]
      refine iteT ?_
      refine ⟨_, rfl, _, rfl, s, _, _, _, rfl, rfl, hs, atI_nat (by rw [List.getElem?_map, List.getElem?_eq_getElem hk]; rfl), _, rfl, ?_⟩
      exact tail _
    · rw [decide_eq_false (by omega)]
      refine iteF ?_
      exact tail _

/-! ### a digit of the pot -/
theorem PotAt.same {H H' : Hp} {p : Addr} (s : Same H H') (h : PotAt H p) : PotAt H' p := let ⟨a, b, e, r⟩ := h; ⟨a, b, s _ _ e, r⟩
def spDraw : Sp := fun vs H Q _ => ∃ (p : Addr) (n : Int), vs = [.ref p, .int n] ∧ PotAt H p ∧ 1 ≤ n ∧ n < 1000000 ∧ ∀ d H', 0 ≤ d → d < n → PotAt H' p → ButD p H H' → Q (.int d) H'
theorem scDr : FnScope ["_law_pot_here", "_law_many", "_law_digit"] ["_law_pot_here", "_law_many"] (defScope sDraw) := ⟨rfl, rfl, rfl, by decide +kernel, rfl, by decide +kernel, by decide +kernel⟩
theorem ok_draw {f : Addr} {fd : FuncData} (F : Fun K "_law_draw" "_law_draw" sDraw f fd) (n : Nm mg) : FnOk P w K mg base CX0 1 f fd ["_law_pot_here", "_law_many"] spDraw := by
  refine F.ok scDr (fun vs H Q E h => ?_) (fun cdv A outer s H vs Q E hr h => ?_)
  · obtain ⟨p, m, rfl, _⟩ := h
    rfl
  · obtain ⟨p, m, rfl, ⟨a, b, hp, a0, b0, bu⟩, m1, mu, q⟩ := h
    have N := scDr.nd
    refine ⟨_, pss_cons (ps_if (pt_cmpR op_gt (pe_ix ix_list (pv 0) pe_int (fun _ _ => rfl)) pe_int (nomark _))
        (pss_cons (ps_asg (pe_callB call_divmod (by rfl) n.divmod (by decide +kernel) (pa_cons (pe_ix ix_list (pv 0) pe_int (fun _ _ => rfl)) (pa_cons (pv 1) pa_nil)))
            (pg_tup rfl (pgs_cons (pg_sub (pv 0) pe_int set_list) (pgs_cons (pg_name (i := 2) N rfl (.inl rfl)) pgs_nil))))
          (pss_one (ps_ret (pv 2)))) pss_nil)
      (pss_cons (ps_asg (pe_op op_mod (pe_callTy call_int1 (by rfl) n.int (by decide +kernel) (pa_cons (pe_op op_add (pe_op op_mul (pe_ix ix_list (pv 0) pe_int (fun _ _ => rfl)) pe_int) pe_int) pa_nil)) pe_int) (pg_sub (pv 0) pe_int set_list))
      (pss_one (ps_ret (pe_op op_mod (pe_callTy call_int1 (by rfl) n.int (by decide +kernel) (pa_cons (pe_op op_fdiv (pe_op op_mod (pe_callTy call_int1 (by rfl) n.int (by decide +kernel) (pa_cons
        (pe_op op_mul (pe_ix ix_list (pv 0) pe_int (fun _ _ => rfl)) (pe_ix ix_list (pv 0) pe_int (fun _ _ => rfl))) pa_nil)) pe_int) pe_int) pa_nil)) (pv 1))))), ?_⟩
    refine ⟨_, rfl, p, _, _, _, rfl, rfl, .inl (.inl hp), rfl, _, _, rfl, rfl, decide (a > 0), rfl, ?_⟩
    by_cases ha : a > 0
    · rw [decide_eq_true ha]
      refine iteT ?_
      refine ⟨_, rfl, p, _, _, _, rfl, rfl, .inl (.inl hp), rfl, _, rfl, _, _, rfl, ⟨by omega, by omega⟩, fun t ht => ?_⟩
      have hpt : upd H t (.tup [.int (a / m), .int (a % m)]) p = some (.lst [.int a, .int b]) := same_upd ht _ _ hp
      refine ⟨t, _, rfl, .inl (.inl upd_same), rfl, ?_⟩
      refine ⟨_, _, rfl, _, rfl, p, _, _, 0, rfl, rfl, hpt, rfl, _, _, rfl, rfl, ?_⟩
      refine ⟨_, rfl, q _ _ (Int.emod_nonneg _ (by omega)) (Int.emod_lt_of_pos _ (by omega)) ⟨_, _, upd_same, Int.ediv_nonneg a0 (by omega), b0, bu⟩ ?_⟩
      intro c o ne e
      rw [upd_ne ne]
      exact same_upd ht _ _ e
    · rw [decide_eq_false ha]
      refine iteF ?_
      refine ⟨_, rfl, p, _, _, _, rfl, rfl, .inl (.inl hp), rfl, _, _, rfl, rfl, .inr (by decide), _, _, rfl, rfl, .inl ⟨_, rfl, _, _, rfl, rfl, (by show (0 : Int) < 2147483587; decide), ?_⟩⟩
      refine ⟨_, rfl, p, _, _, 1, rfl, rfl, hp, rfl, ?_⟩
      have c0 : 0 ≤ (b * 39373 + 43) % 2147483587 := by omega
      have cu : (b * 39373 + 43) % 2147483587 < 2147483587 := by omega
      have hc : upd H p (.lst ([V.int a, V.int b].set 1 ((fun i j => V.int (i % j)) (b * 39373 + 43) 2147483587))) p = some (.lst [.int a, .int ((b * 39373 + 43) % 2147483587)]) := upd_same
      refine ⟨_, rfl, p, _, _, _, rfl, rfl, .inl (.inl hc), rfl, _, rfl, p, _, _, _, rfl, rfl, .inl (.inl hc), rfl, _, _, rfl, rfl, .inl ⟨by omega, by omega⟩, ?_⟩
      refine .inl ⟨_, rfl, _, _, rfl, rfl, (by show (0 : Int) < 2147483563; decide), _, _, rfl, rfl, ⟨by decide, by decide⟩, .inl ⟨_, rfl, _, rfl, _, _, rfl, rfl, (by show (0 : Int) < m; omega), ?_⟩⟩
      refine q _ _ (Int.emod_nonneg _ (by omega)) (Int.emod_lt_of_pos _ (by omega)) ⟨_, _, hc, a0, c0, cu⟩ ?_
      intro k o ne e
      rw [upd_ne ne]
      exact e
theorem ButD.refl {D : Addr} {H : Hp} : ButD D H H := fun _ _ _ e => e
theorem ButD.trans {D : Addr} {H1 H2 H3 : Hp} (a : ButD D H1 H2) (b : ButD D H2 H3) : ButD D H1 H3 := fun c o ne e => b c o ne (a c o ne e)
theorem Same.but {D : Addr} {H1 H2 : Hp} (a : Same H1 H2) : ButD D H1 H2 := fun c o _ e => a c o e
/-- tuples stay, the pot is a list -/
theorem pot_ne {H : Hp} {p t : Addr} {xs : List V} (hp : PotAt H p) (ht : H t = some (.tup xs)) : t ≠ p := by
  rintro rfl
  obtain ⟨a, b, e, _⟩ := hp
  rw [ht] at e
  exact nomatch e
theorem DdAll.pot {H H' : Hp} {p : Addr} {vs : List V} {ds : List Dd} (hp : PotAt H p) (b : ButD p H H') (h : DdAll H vs ds) : DdAll H' vs ds :=
  Paired.mapP h fun _ _ ⟨t, e, q⟩ => ⟨t, e, b _ _ (pot_ne hp q) q⟩

/-! ### deeds of the pot -/
abbrev sDeeds : Stmt := top 41
def spDeedsL : Sp := fun vs H Q _ => ∃ (p : Addr) (m : Int) (k : Nat), vs = [.ref p, .int m, .int k, .bl true] ∧ PotAt H p ∧ 1 ≤ m ∧ m ≤ 100 ∧ k ≤ 60 ∧
  ∀ l xs ds H', H l = none → H' l = some (.lst xs) → PotAt H' p → ButD p H H' → DdAll H' xs ds → (∀ d ∈ ds, d.Ok m) → ds.Nodup → ds.length ≤ k → (1 ≤ k → ds ≠ []) → Q (.ref l) H'
def NDe : List Str := ["_law_pot_here", "_law_places", "_law_many", "_law_has_empty", "_law_found", "_law_turn", "_law_place", "_law_goal", "_law_deed"]
theorem scDs : FnScope NDe ["_law_pot_here", "_law_places", "_law_many", "_law_has_empty"] (defScope sDeeds) := ⟨rfl, rfl, rfl, by decide +kernel, rfl, by decide +kernel, by decide +kernel⟩
theorem ok_deedsL {f : Addr} {fd : FuncData} (F : Fun K "_law_deeds" "_law_deeds" sDeeds f fd) (n : Nm mg) (GD : Fn P w K mg base 1 "_law_draw" ["_law_pot_here", "_law_many"] spDraw) :
    FnOk P w K mg base CX0 2 f fd ["_law_pot_here", "_law_places", "_law_many", "_law_has_empty"] spDeedsL := by
  refine F.ok scDs (fun vs H Q E h => ?_) (fun cdv A outer s H vs Q E hr h => ?_)
  · obtain ⟨p, m, k, rfl, _⟩ := h
    rfl
  · obtain ⟨p, m, k, rfl, hp, m1, mu, ku, q⟩ := h
    have N := scDs.nd
    refine ⟨_, pss_cons (ps_set (i := 4) N rfl (.inl rfl) (pe_lst pa_nil))
      (pss_cons (ps_for PassesOwn.never rfl (pi_range1 (by rfl) n.range (pa_cons (pv 2) pa_nil)) (pg_name (i := 5) N rfl (.inl rfl))
        (pss_cons (ps_par (i := 6) (j := 7) rfl N rfl rfl (by decide) rfl rfl (pa_cons (pe_fn GD hr (pa_cons (pv 0) (pa_cons (pv 1) pa_nil))) (pa_cons (pe_fn GD hr (pa_cons (pv 0) (pa_cons (pv 1) pa_nil))) pa_nil)) (by rfl))
        (pss_cons (ps_set (i := 8) N rfl (.inl rfl) (pe_tup (pa_cons (pv 6) (pa_cons (pe_op op_sub (pe_fn GD hr (pa_cons (pv 0) (pa_cons pe_int pa_nil))) pe_int) (pa_cons (pv 7) (pa_cons pe_str pa_nil))))))
        (pss_cons (ps_if (pw_and (pt_val (pv 3)) (pw_and1 (pt_cmpR op_eq (pe_fn GD hr (pa_cons (pv 0) (pa_cons pe_int pa_nil))) pe_int (nomark _)))).pt
          (pss_one (ps_set (i := 8) N rfl (.inl rfl) (pe_tup (pa_cons (pv 6) (pa_cons (pe_fn GD hr (pa_cons (pv 0) (pa_cons pe_int pa_nil))) (pa_cons (pv 7) (pa_cons pe_str pa_nil))))))) pss_nil)
        (pss_one (ps_if (pt_cmpR (op_notInD (hu65 hr)) (pv 8) (pv 4) (by rfl))
          (pss_one (ps_expr (pe_bm PySem.F.plainAttrs_list PySem.F.slot_list_append PySem.F.type_list_append mt_append (pv 4) (pa_cons (pv 8) pa_nil)))) pss_nil))))))
      (pss_one (ps_ret (pv 4)))), ?_⟩
    refine ⟨(by show 0 ≤ sizeLine; decide), fun l hl => ?_⟩
    have nlp : l ≠ p := by
      rintro rfl
      obtain ⟨a, b, e, _⟩ := hp
      rw [hl] at e
      exact nomatch e
    refine ⟨_, rfl, k, rfl, by omega, by omega, for_range (lo := 0) (n := (k : Int).toNat) (fun i σ H2 => ∃ (a5 a6 a7 a8 : Option V) (xs : List V) (ds : List Dd),
      σ = [some (.ref p), some (.int m), some (.int k), some (.bl true), some (.ref l), a5, a6, a7, a8] ∧ PotAt H2 p ∧ ButD p H H2 ∧ H2 l = some (.lst xs) ∧ DdAll H2 xs ds ∧ (∀ d ∈ ds, d.Ok m) ∧ ds.Nodup ∧ ds.length ≤ i ∧ (1 ≤ i → ds ≠ []))
      ⟨none, none, none, none, [], [], rfl, hp.same (same_upd hl), Same.but (same_upd hl), upd_same, .nil, (by simp), List.nodup_nil, Nat.le_refl _, (fun h => absurd h (by decide))⟩ ?_ ?_⟩
    · rintro i σ H2 hi ⟨a5, a6, a7, a8, xs, ds, rfl, hp2, b2, hl2, dd, ok, nd, len, nn⟩
      refine ⟨_, rfl, _, rfl, p, m, rfl, hp2, m1, by omega, fun pl H3 pl0 pln hp3 b3 => ?_⟩
      refine ⟨_, rfl, _, rfl, p, m, rfl, hp3, m1, by omega, fun gl H4 gl0 gln hp4 b4 => ⟨_, _, rfl, ?_⟩⟩
      refine ⟨_, rfl, _, rfl, p, 3, rfl, hp4, by decide, by decide, fun ch H5 c0 cn hp5 b5 => ⟨_, _, rfl, rfl, _, rfl, (by show 4 ≤ sizeLine; decide), fun t1 ht1 => ?_⟩⟩
      have s5 := same_upd (o := .tup [.int pl, .int (ch - 1), .int gl, .str "any"]) ht1
      have hp6 := hp5.same s5
      refine ⟨_, rfl, true, rfl, iteT ?_⟩
      refine ⟨_, rfl, p, 4, rfl, hp6, by decide, by decide, fun z H7 z0 zn hp7 b7 => ?_⟩
      have b27 : ButD p H2 H7 := ButD.trans b3 (ButD.trans b4 (ButD.trans b5 (ButD.trans (Same.but s5) b7)))
      have ht7 : H7 t1 = some (.tup [.int pl, .int (ch - 1), .int gl, .str "any"]) := b7 _ _ (pot_ne hp6 upd_same) upd_same
      refine ⟨rfl, decide (V.int z = V.int 0), rfl, ?_⟩
      have e1 : Dd.vs ⟨pl, ch - 1, gl, "any"⟩ = [.int pl, .int (ch - 1), .int gl, .str "any"] := rfl
      by_cases hz : z = 0
      · subst hz
        rw [decide_eq_true rfl]
        refine iteT ?_
        refine ⟨_, rfl, _, rfl, p, 2, rfl, hp7, by decide, by decide, fun c2 H9 c20 c2n hp9 b9 => ⟨_, rfl, (by show 4 ≤ sizeLine; decide), fun t2 ht2 => ?_⟩⟩
        have s9 := same_upd (o := .tup [.int pl, .int c2, .int gl, .str "empty"]) ht2
        have e2 : Dd.vs ⟨pl, c2, gl, "empty"⟩ = [.int pl, .int c2, .int gl, .str "empty"] := rfl
        have okd : Dd.Ok m ⟨pl, c2, gl, "empty"⟩ := ⟨pl0, pln, gl0, gln, .inr ⟨rfl, c20, by show c2 ≤ 1; omega⟩⟩
        have hpn := hp9.same s9
        have bn : ButD p H2 _ := ButD.trans b27 (ButD.trans b9 (Same.but s9))
        have htn : (upd H9 t2 (.tup [.int pl, .int c2, .int gl, .str "empty"])) t2 = some (.tup (Dd.vs ⟨pl, c2, gl, "empty"⟩)) := upd_same
        generalize upd H9 t2 (.tup [.int pl, .int c2, .int gl, .str "empty"]) = Hn at hpn bn htn ⊢
        clear e1 e2
        generalize (⟨pl, c2, gl, "empty"⟩ : Dd) = dn at okd htn ⊢
        have hln := bn _ _ nlp hl2
        have ddn := DdAll.pot hp2 bn dd
        refine ⟨_, rfl, _, rfl, dn.d, ds.map Dd.d, DdAt.dp ⟨_, rfl, htn⟩, .lst (.inl (.inl hln)) ddn.dps, Dd.shaped okd.wd, shapedL (fun x hx => (ok x hx).wd), _, rfl, ?_⟩
        rw [any_in]
        by_cases hin : dn ∈ ds
        · rw [decide_eq_true hin]
          refine iteF ?_
          exact ⟨_, _, _, _, xs, ds, rfl, hpn, ButD.trans b2 bn, hln, ddn, ok, nd, Nat.le_succ_of_le len, fun _ z => by rw [z] at hin; exact absurd hin (by simp)⟩
        · rw [decide_eq_false hin]
          refine iteT ?_
          have xl := Paired.length ddn
          refine ⟨_, rfl, .inl ⟨rfl, _, .inl (.inl hln)⟩, _, rfl, l, _, _, rfl, rfl, hln, by rw [sizeLine_eq]; omega, ?_⟩
          refine ⟨_, _, _, _, xs ++ [.ref t2], ds ++ [dn], rfl, ?_, ?_, upd_same, ?_, ?_, ?_, by simp; omega, fun _ => by simp⟩
          · obtain ⟨a, b, e, r⟩ := hpn
            exact ⟨a, b, by rw [upd_ne nlp.symm]; exact e, r⟩
          · intro c o ne e
            rw [upd_ne (ne_of_none e hl)]
            exact bn _ _ ne (b2 _ _ ne e)
          · have st : ∀ {y d}, DdAt Hn y d → DdAt (upd Hn l (.lst (xs ++ [.ref t2]))) y d := fun {y d} ⟨t, e, q⟩ => ⟨t, e, by
              rw [upd_ne (fun z => by subst z; rw [hln] at q; exact nomatch q)]
              exact q⟩
            exact PySem.Paired.snoc (Paired.mapP ddn fun _ _ q => st q) (st ⟨_, rfl, htn⟩)
          · intro d hd
            rcases List.mem_append.mp hd with hd | hd
            · exact ok d hd
            · rw [List.mem_singleton.mp hd]
              exact okd
          · rw [List.nodup_append]
            exact ⟨nd, by simp, fun a ha b hb => by rw [List.mem_singleton.mp hb]; exact fun z => hin (z ▸ ha)⟩
      · have okd : Dd.Ok m ⟨pl, ch - 1, gl, "any"⟩ := ⟨pl0, pln, gl0, gln, .inl ⟨rfl, by show -1 ≤ ch - 1; omega, by show ch - 1 ≤ 1; omega⟩⟩
        rw [decide_eq_false (by simpa using hz)]
        refine iteF ?_
        have htn : H7 t1 = some (.tup (Dd.vs ⟨pl, ch - 1, gl, "any"⟩)) := ht7
        have hpn := hp7
        have bn := b27
        generalize H7 = Hn at hpn bn htn ⊢
        clear e1
        generalize (⟨pl, ch - 1, gl, "any"⟩ : Dd) = dn at okd htn ⊢
        have hln := bn _ _ nlp hl2
        have ddn := DdAll.pot hp2 bn dd
        refine ⟨_, rfl, _, rfl, dn.d, ds.map Dd.d, DdAt.dp ⟨_, rfl, htn⟩, .lst (.inl (.inl hln)) ddn.dps, Dd.shaped okd.wd, shapedL (fun x hx => (ok x hx).wd), _, rfl, ?_⟩
        rw [any_in]
        by_cases hin : dn ∈ ds
        · rw [decide_eq_true hin]
          refine iteF ?_
          exact ⟨_, _, _, _, xs, ds, rfl, hpn, ButD.trans b2 bn, hln, ddn, ok, nd, Nat.le_succ_of_le len, fun _ z => by rw [z] at hin; exact absurd hin (by simp)⟩
        · rw [decide_eq_false hin]
          refine iteT ?_
          have xl := Paired.length ddn
          refine ⟨_, rfl, .inl ⟨rfl, _, .inl (.inl hln)⟩, _, rfl, l, _, _, rfl, rfl, hln, by rw [sizeLine_eq]; omega, ?_⟩
          refine ⟨_, _, _, _, xs ++ [.ref t1], ds ++ [dn], rfl, ?_, ?_, upd_same, ?_, ?_, ?_, by simp; omega, fun _ => by simp⟩
          · obtain ⟨a, b, e, r⟩ := hpn
            exact ⟨a, b, by rw [upd_ne nlp.symm]; exact e, r⟩
          · intro c o ne e
            rw [upd_ne (ne_of_none e hl)]
            exact bn _ _ ne (b2 _ _ ne e)
          · have st : ∀ {y d}, DdAt Hn y d → DdAt (upd Hn l (.lst (xs ++ [.ref t1]))) y d := fun {y d} ⟨t, e, q⟩ => ⟨t, e, by
              rw [upd_ne (fun z => by subst z; rw [hln] at q; exact nomatch q)]
              exact q⟩
            exact PySem.Paired.snoc (Paired.mapP ddn fun _ _ q => st q) (st ⟨_, rfl, htn⟩)
          · intro d hd
            rcases List.mem_append.mp hd with hd | hd
            · exact ok d hd
            · rw [List.mem_singleton.mp hd]
              exact okd
          · rw [List.nodup_append]
            exact ⟨nd, by simp, fun a ha b hb => by rw [List.mem_singleton.mp hb]; exact fun z => hin (z ▸ ha)⟩
    · rintro σ H2 ⟨a5, a6, a7, a8, xs, ds, rfl, hp2, b2, hl2, dd, ok, nd, len, nn⟩
      have hlk : ds.length ≤ k := by omega
      exact ⟨_, rfl, q l xs ds H2 hl hl2 hp2 b2 dd ok nd hlk (fun h => nn (by omega))⟩

theorem take_map {α β : Type} (f : α → β) {l : List α} {i : Nat} {x : α} (h : l[i]? = some x) : (l.take (i + 1)).map f = (l.take i).map f ++ [f x] := by
  rw [List.take_succ, h, List.map_append]
  rfl
/-- all that stood, but for the list that is being made -/
def But (D : Addr) (H H' : Hp) : Prop := ∀ b o, b ≠ D → H b = some o → H' b = some o
theorem But.new {D : Addr} {H H' : Hp} (h : H D = none) (b : But D H H') : Same H H' := fun a o e => b a o (ne_of_none e h) e
theorem But.upd {D : Addr} {H H' : Hp} {o : HO} (b : But D H H') : But D H (upd H' D o) := fun a u ne e => by
  rw [upd_ne ne]
  exact b a u ne e
theorem But.more {D p : Addr} {H H' : Hp} {o : HO} (b : But D H H') (hp : H' p = none) : But D H (L2.upd H' p o) := fun a u ne e => by
  rw [upd_ne (ne_of_none (b a u ne e) hp)]
  exact b a u ne e
theorem But.start {D : Addr} {H : Hp} {o : HO} : But D H (L2.upd H D o) := fun a u ne e => by
  rw [upd_ne ne]
  exact e
theorem DdAll.but {D : Addr} {H H' : Hp} (hD : ∀ t ys, H t = some (.tup ys) → t ≠ D) (b : But D H H') {vs : List V} {ds : List Dd} (h : DdAll H vs ds) : DdAll H' vs ds :=
  Paired.mapP h fun v x ⟨t, e, q⟩ => ⟨t, e, b _ _ (hD _ _ q) q⟩

def isAny (d : Dd) : Bool := decide (d.w = "any")
def spPlain (C : Addr) : Sp := fun vs H Q _ => ∃ (h l : Addr) (m : Int) (xs : List V) (ds : List Dd), vs = [.ref h] ∧ HouseL C H h l m xs ds ∧ ds.length ≤ 60 ∧ ∀ H', Same H H' → Q (.bl (ds.all isAny)) H'
theorem scIp : FnScope ["self", "_", "when"] ["self"] (defScope (cHouse 2)) := ⟨rfl, rfl, rfl, by decide +kernel, rfl, by decide +kernel, by decide +kernel⟩
theorem ok_isPlain {f : Addr} {fd : FuncData} (F : Fun K "is_plain" "House.is_plain" (cHouse 2) f fd) (n : Nm mg) (T : ClsT K mg C) : FnOk P w K mg base CX0 1 f fd ["self"] (spPlain C) := by
  refine F.ok scIp (fun vs H Q E h => ?_) (fun cdv A outer s H vs Q E hr h => ?_)
  · obtain ⟨h, l, m, xs, ds, rfl, _⟩ := h
    rfl
  · obtain ⟨h, l, m, xs, ds, rfl, hh, le, k⟩ := h
    obtain ⟨dx, ob⟩ := hh.ob
    have N := scIp.nd
    refine ⟨_, pss_one (ps_ret (pe_callB (cr_all rfl) (by rfl) n.all (by decide +kernel) (pa_cons
      (pe_lc (own := [("_", 1), ("when", 2)]) (g := gTup K 4 (gCons (gName 1) (gCons (gName 1) (gCons (gName 1) (gCons (gName 2) gNil))))) (tt := tYes) rfl N (pi_list (pe_fld (pv 0) rfl)) (blkOk_by (N := ["self", "_", "when"]) (sc := defScope (cHouse 2)) (by decide +kernel))
        (fun _ _ _ _ _ => pg_tup rfl (pgs_cons (pg_name (i := 1) N rfl (.inl rfl)) (pgs_cons (pg_name (i := 1) N rfl (.inl rfl)) (pgs_cons (pg_name (i := 1) N rfl (.inl rfl)) (pgs_cons (pg_name (i := 2) N rfl (.inl rfl)) pgs_nil)))))
        (fun _ _ _ _ _ => pts_nil) (fun _ _ _ _ _ => pe_cmpR op_eq (pv 2) pe_str (nomark _))) pa_nil))), ?_⟩
    refine ⟨_, rfl, h, C, dx, _, _, rfl, ob, T.isc.cl, T.nD, flds_d _ _, l, rfl, ⟨xs, .inl (.inl hh.ls)⟩, fun D hD => ?_⟩
    refine lc_list (xs := xs) (fun i H' => H' D = some (.lst ((ds.take i).map fun d => V.bl (isAny d))) ∧ But D H H') ⟨upd_same, But.start⟩
      (fun i H' _ hI => .inl (.inl (hI.2.new hD _ _ hh.ls))) ?_ ?_
    · intro i x H' hx ⟨h1, h2⟩
      obtain ⟨d, hdi, t, rfl, ht⟩ := Paired.at hh.dd hx
      refine ⟨t, _, rfl, .inl (.inl (h2.new hD _ _ ht)), rfl, _, _, rfl, _, _, rfl, _, _, rfl, _, _, rfl, rfl, rfl, yes_ite ?_⟩
      refine ⟨_, rfl, rfl, _, h1, ?_, ?_, h2.upd⟩
      · rw [List.length_map]
        exact small1000 (by rw [List.length_take]; omega)
      · rw [upd_same, take_map _ hdi]
        have e : decide (V.str d.w = V.str "any") = isAny d := by
          unfold isAny
          rw [Bool.eq_iff_iff]
          simp
        show some (HO.lst (_ ++ [V.bl (decide (V.str d.w = V.str "any"))])) = _
        rw [e]
    · intro H' ⟨h1, h2⟩
      rw [hh.lenE, List.take_length] at h1
      refine ⟨D, ds.map isAny, rfl, .inl (.inl (by rw [h1, List.map_map]; rfl)), ?_⟩
      have e : (ds.map isAny).all id = ds.all isAny := by
        rw [List.all_map]
        rfl
      rw [e]
      exact k H' (h2.new hD)

def Made (C : Addr) (H : Hp) (Q : VK) (m : Int) (ds : List Dd) : Prop := ∀ (h l : Addr) (xs : List V) (H' : Hp), H h = none → H l = none → Same H H' → HouseL C H' h l m xs ds → Q (.ref h) H'
theorem Made.same {H H' : Hp} {Q : VK} {m : Int} {ds : List Dd} (s : Same H H') (k : Made C H Q m ds) : Made C H' Q m ds := fun h l xs H2 n1 n2 s2 hh => k h l xs H2 (s.free n1) (s.free n2) (s.trans s2) hh
theorem make_end {H : Hp} {a : Addr} {m : Int} {xs : List V} {ds : List Dd} {Q : VK} {E : XK} (hs : Seq K H a xs) (hd : DdAll H xs ds) (wf : WF m ds) (k : Made C H Q m ds) :
    ∀ x dx, H x = none → H dx = none → dx ≠ x → spInit K C (.ref x :: ([.int m, .ref a] ++ [])) (upd (upd H dx (.own x)) x (.ins C dx [])) (fun v H2 => v = .non ∧ Q (.ref x) H2) E :=
  fun x dx nx ndx ne => init_read nx ndx ne hs hd wf fun l H' nl s hh => k x l xs H' nx nl s hh

theorem make_any {K : PySem.W.Frag} {C : Addr} {R : Addr → VK} {H : Hp} {a : Addr} {m : Int} {xs : List V} {ds : List Dd} {E : XK} (hs : Seq K H a xs) (hd : DdAll H xs ds) (wf : WF m ds)
    (k : ∀ (x l : Addr) (H' : Hp), H x = none → H l = none → Same H H' → HouseL C H' x l m xs ds → R x .non H') :
    ∀ x dx, H x = none → H dx = none → dx ≠ x → spInit K C (.ref x :: ([.int m, .ref a] ++ [])) (upd (upd H dx (.own x)) x (.ins C dx [])) (R x) E := by
  intro x dx nx ndx ne
  have s0 : Same H (upd (upd H dx (.own x)) x (.ins C dx [])) := fun b o e => by
    rw [upd_ne (ne_of_none e nx), upd_ne (ne_of_none e ndx)]
    exact e
  refine ⟨x, dx, a, m, xs, ds, rfl, upd_same, hs.same s0, hd.same s0, wf, fun l H' nl hx hl kp => ?_⟩
  have s1 : Same H H' := fun b o e => kp b o (ne_of_none e nx) (s0 b o e)
  exact k x l H' nx (s0.free nl) s1 ⟨⟨dx, hx⟩, hl, hd.same s1⟩
/-! ### plain -/
def spPln (C : Addr) : Sp := fun vs H Q _ => ∃ (h l : Addr) (m : Int) (xs : List V) (ds : List Dd), vs = [.ref h] ∧ HouseL C H h l m xs ds ∧ WF m ds ∧ Made C H Q m (ds.filter isAny)
theorem WF.filter {m : Int} {ds : List Dd} (w : WF m ds) (p : Dd → Bool) : WF m (ds.filter p) :=
  ⟨w.m1, w.m16, fun d hd => w.ok d (List.mem_filter.mp hd).1, w.nd.filter _, Nat.le_trans (List.length_filter_le _ _) w.len⟩
theorem scPn : FnScope ["self", "deed"] ["self"] (defScope (cHouse 11)) := ⟨rfl, rfl, rfl, by decide +kernel, rfl, by decide +kernel, by decide +kernel⟩
theorem anyE (d : Dd) : decide (V.str d.w = V.str "any") = isAny d := by
  unfold isAny
  rw [Bool.eq_iff_iff]
  simp
theorem ok_plain {f : Addr} {fd : FuncData} (F : Fun K "plain" "House.plain" (cHouse 11) f fd) (T : ClsT K mg C) (M : MkH P w K mg base C) : FnOk P w K mg base CX0 7 f fd ["self"] (spPln C) := by
  refine F.ok scPn (fun vs H Q E h => ?_) (fun cdv A outer s H vs Q E hr h => ?_)
  · obtain ⟨h, l, m, xs, ds, rfl, _⟩ := h
    rfl
  · obtain ⟨h, l, m, xs, ds, rfl, hh, wf, k⟩ := h
    obtain ⟨dx, ob⟩ := hh.ob
    have N := scPn.nd
    refine ⟨_, pss_one (ps_ret (pe_house M T hr (pa_cons (pe_fld (pv 0) rfl) (pa_cons
      (pe_lc (own := [("deed", 1)]) (g := gName 1) rfl N (pi_list (pe_fld (pv 0) rfl)) (blkOk_by (N := ["self", "deed"]) (sc := defScope (cHouse 11)) (by decide +kernel))
        (fun _ _ _ _ _ => pg_name (i := 1) N rfl (.inl rfl))
        (fun _ _ _ _ _ => pts_one (pt_cmpR op_eq (pe_ix (r := rIxT K) ix_tup (pv 1) pe_int (fun _ _ => rfl)) pe_str (nomark _))) (fun _ _ _ _ _ => pv 1)) pa_nil)))), ?_⟩
    refine ⟨_, rfl, h, C, dx, _, _, rfl, ob, T.isc.cl, T.nP, flds_p _ _, ?_⟩
    refine ⟨_, rfl, h, C, dx, _, _, rfl, ob, T.isc.cl, T.nD, flds_d _ _, l, rfl, ⟨xs, .inl (.inl hh.ls)⟩, fun D hD => ?_⟩
    refine lc_mapL (es := ds) (F := DdAt) (G := DdAt) (f := keepD isAny) (stabD D) hh.ls hD (Nat.le_trans (Nat.le_of_eq hh.lenE) (Nat.le_trans wf.len (by decide))) hh.dd ?_ ?_
    · rintro x e H2 A B he ⟨t, rfl, ht⟩ b ⟨zs, hz⟩ hA hB
      have ht2 := b.new hD _ _ ht
      refine ⟨rfl, _, rfl, _, _, _, _, rfl, rfl, .inl (.inl ht2), rfl, rfl, isAny e, congrArg V.bl (anyE e), ?_⟩
      cases q : isAny e with
      | true => exact iteT ⟨_, rfl, hA e _ H2 (if_pos q) (fun _ _ z => z) ⟨t, rfl, ht2⟩⟩
      | false => exact iteF (hB H2 (if_neg (by rw [q]; decide)) fun _ _ z => z)
    · intro ys H2 h1 h2 h3
      rw [keepD_filter] at h2
      exact make_end (K := K) (.inl h1) h2 (wf.filter _) (k.same (h3.new hD))

def turnD (d : Dd) : Dd := ⟨d.g, 0 - d.c, d.p, d.w⟩
def spTrn (C : Addr) : Sp := fun vs H Q _ => ∃ (h l : Addr) (m : Int) (xs : List V) (ds : List Dd), vs = [.ref h] ∧ HouseL C H h l m xs ds ∧ ds.length ≤ 60 ∧ ds.all isAny = true ∧ WF m (ds.map turnD) ∧ Made C H Q m (ds.map turnD)
theorem scTn : FnScope ["self", "place", "change", "goal", "when"] ["self"] (defScope (cHouse 12)) := ⟨rfl, rfl, rfl, by decide +kernel, rfl, by decide +kernel, by decide +kernel⟩
theorem ok_turned {f : Addr} {fd : FuncData} (F : Fun K "turned" "House.turned" (cHouse 12) f fd) (T : ClsT K mg C) (M : MkH P w K mg base C) (G : PrH P w K mg base C "is_plain" (spPlain C)) :
    FnOk P w K mg base CX0 7 f fd ["self"] (spTrn C) := by
  refine F.ok scTn (fun vs H Q E h => ?_) (fun cdv A outer s H vs Q E hr h => ?_)
  · obtain ⟨h, l, m, xs, ds, rfl, _⟩ := h
    rfl
  · obtain ⟨h, l, m, xs, ds, rfl, hh, h60, ha, wf, k⟩ := h
    obtain ⟨dx, ob⟩ := hh.ob
    have N := scTn.nd
    refine ⟨_, pss_cons (ps_if (pt_not (pt_val (pe_prH G T (hr.mono (by decide)) (pv 0)))) pss_never pss_nil)
      (pss_one (ps_ret (pe_house M T hr (pa_cons (pe_fld (pv 0) rfl) (pa_cons
      (pe_lc (own := [("place", 1), ("change", 2), ("goal", 3), ("when", 4)]) (g := gTup K 4 (gCons (gName 1) (gCons (gName 2) (gCons (gName 3) (gCons (gName 4) gNil))))) (tt := tYes) rfl N (pi_list (pe_fld (pv 0) rfl)) (blkOk_by (N := ["self", "place", "change", "goal", "when"]) (sc := defScope (cHouse 12)) (by decide +kernel))
        (fun _ _ _ _ _ => pg_tup rfl (pgs_cons (pg_name (i := 1) N rfl (.inl rfl)) (pgs_cons (pg_name (i := 2) N rfl (.inl rfl)) (pgs_cons (pg_name (i := 3) N rfl (.inl rfl)) (pgs_cons (pg_name (i := 4) N rfl (.inl rfl)) pgs_nil)))))
        (fun _ _ _ _ _ => pts_nil) (fun _ _ _ _ _ => pe_tup (pa_cons (pv 3) (pa_cons (pe_op op_sub pe_int (pv 2)) (pa_cons (pv 1) (pa_cons (pv 4) pa_nil)))))) pa_nil))))), ?_⟩
    refine ⟨_, rfl, h, dx, _, rfl, ob, h, l, m, xs, ds, rfl, hh, h60, fun H1 s1 => ⟨true, congrArg V.bl ha, ?_⟩⟩
    refine iteF ?_
    have hh1 := hh.same s1
    refine ⟨_, rfl, h, C, dx, _, _, rfl, s1 _ _ ob, T.isc.cl, T.nP, flds_p _ _, ?_⟩
    refine ⟨_, rfl, h, C, dx, _, _, rfl, s1 _ _ ob, T.isc.cl, T.nD, flds_d _ _, l, rfl, ⟨xs, .inl (.inl hh1.ls)⟩, fun D hD => ?_⟩
    refine lc_mapL (es := ds) (F := DdAt) (G := DdAt) (f := fun d => some (turnD d)) (stabD D) hh1.ls hD (Nat.le_trans (Nat.le_of_eq hh.lenE) (Nat.le_trans h60 (by decide))) hh1.dd ?_ ?_
    · rintro x e H2 A B he ⟨t, rfl, ht⟩ b ⟨zs, hz⟩ hA hB
      have ht2 := b.new hD _ _ ht
      refine ⟨t, _, rfl, .inl (.inl ht2), rfl, _, _, rfl, _, _, rfl, _, _, rfl, _, _, rfl, rfl, rfl, yes_ite ?_⟩
      refine ⟨_, rfl, _, rfl, _, _, rfl, rfl, _, rfl, _, rfl, (by show 4 ≤ sizeLine; decide), fun p hp => ?_⟩
      exact hA (turnD e) _ _ rfl (same_upd hp) ⟨p, rfl, upd_same⟩
    · intro ys H2 h1 h2 h3
      rw [mapD] at h2
      exact make_end (K := K) (.inl h1) h2 wf (k.same (s1.trans (h3.new hD)))
theorem seqV {Good : L2.St → Hp → Prop} {t u : TS} {D : Ends} {σ : L2.St} {H : Hp} (h : ∀ nx : L2.St → Hp → Prop, (∀ σ2 H2, Good σ2 H2 → nx σ2 H2) → t { D with nx := nx } σ H)
    (hk : ∀ σ2 H2, Good σ2 H2 → u D σ2 H2) : tSeq t u D σ H := h (u D) hk
theorem via {Good : V → Hp → Prop} {t : TE} {σ : L2.St} {H : Hp} {Q : VK} (h : ∀ Q' : VK, (∀ v H2, Good v H2 → Q' v H2) → t σ H Q') (hk : ∀ v H2, Good v H2 → Q v H2) : t σ H Q := h Q hk
end
end L2.K24
end

section
/-! Levels: the mathematics. Relations over the places below n, told by masks. -/
set_option linter.all false
namespace L2.Lv
abbrev Rl := Nat → Nat → Prop
/-- masks tell a relation -/
structure Rep (n : Nat) (l : List Nat) (r : Rl) : Prop where
  len : l.length = n
  bit : ∀ a b, (l.getD a 0).testBit b = true ↔ r a b
def Sub (r s : Rl) : Prop := ∀ a b, r a b → s a b
def In (n : Nat) (r : Rl) : Prop := ∀ a b, r a b → a < n ∧ b < n
theorem Rep.ext {n : Nat} {l l' : List Nat} {r s : Rl} (h : Rep n l r) (h' : Rep n l' s) : l = l' ↔ ∀ a b, r a b ↔ s a b := by
  constructor
  · rintro rfl a b
    rw [← h.bit, ← h'.bit]
  · intro e
    refine List.ext_getElem (by rw [h.len, h'.len]) fun i h1 h2 => Nat.eq_of_testBit_eq fun j => ?_
    have x := h.bit i j
    have y := h'.bit i j
    rw [List.getD_eq_getElem?_getD, List.getElem?_eq_getElem h1] at x
    rw [List.getD_eq_getElem?_getD, List.getElem?_eq_getElem h2] at y
    have x : l[i].testBit j = true ↔ r i j := x
    have y : l'[i].testBit j = true ↔ s i j := y
    rw [Bool.eq_iff_iff, x, y]
    exact e i j
theorem Rep.iff {n : Nat} {l : List Nat} {r s : Rl} (h : Rep n l r) (e : ∀ a b, r a b ↔ s a b) : Rep n l s := ⟨h.len, fun a b => (h.bit a b).trans (e a b)⟩
theorem Rep.fst {n : Nat} {l : List Nat} {r : Rl} (h : Rep n l r) {a b : Nat} (x : r a b) : a < n := by
  rw [← h.bit] at x
  rw [← h.len]
  refine Nat.lt_of_not_le fun z => ?_
  rw [List.getD_eq_getElem?_getD, List.getElem?_eq_none z] at x
  simp at x
/-! ### closures -/
inductive Star (r : Rl) : Rl
  | refl (a : Nat) : Star r a a
  | step {a b c : Nat} : r a b → Star r b c → Star r a c
theorem Star.one {r : Rl} {a b : Nat} (h : r a b) : Star r a b := .step h (.refl b)
theorem Star.trans {r : Rl} {a b c : Nat} (h : Star r a b) (k : Star r b c) : Star r a c := by
  induction h with
  | refl a => exact k
  | step x _ ih => exact .step x (ih k)
theorem Star.mono {r s : Rl} (h : Sub r s) {a b : Nat} (k : Star r a b) : Star s a b := by
  induction k with
  | refl a => exact .refl a
  | step x _ ih => exact .step (h _ _ x) ih
theorem Star.flat {r s : Rl} (h : ∀ a b, r a b → Star s a b) {a b : Nat} (k : Star r a b) : Star s a b := by
  induction k with
  | refl a => exact .refl a
  | step x _ ih => exact (h _ _ x).trans ih
/-- the closure over the places below n -/
def Cl (n : Nat) (r : Rl) : Rl := fun a b => a < n ∧ b < n ∧ Star r a b
theorem Cl.mono {n : Nat} {r s : Rl} (h : Sub r s) : Sub (Cl n r) (Cl n s) := fun _ _ ⟨x, y, z⟩ => ⟨x, y, z.mono h⟩
theorem Cl.inn {n : Nat} {r : Rl} : In n (Cl n r) := fun _ _ h => ⟨h.1, h.2.1⟩
theorem Cl.trans {n : Nat} {r : Rl} {a b c : Nat} (h : Cl n r a b) (k : Cl n r b c) : Cl n r a c := ⟨h.1, k.2.1, h.2.2.trans k.2.2⟩
theorem Cl.refl {n : Nat} {r : Rl} {a : Nat} (h : a < n) : Cl n r a a := ⟨h, h, .refl a⟩
theorem Cl.sub {n : Nat} {r : Rl} (i : In n r) : Sub r (Cl n r) := fun a b h => ⟨(i a b h).1, (i a b h).2, .one h⟩
/-- the way by the middle places, one more at a time -/
def Wa (r : Rl) (n : Nat) : Nat → Rl
  | 0 => fun a b => r a b ∨ (a = b ∧ a < n)
  | m + 1 => fun a b => Wa r n m a b ∨ (Wa r n m a m ∧ Wa r n m m b)
theorem Wa.thru {r : Rl} {n : Nat} : ∀ (m k a b : Nat), k < m → Wa r n m a k → Wa r n m k b → Wa r n m a b
  | 0, _, _, _, h, _, _ => absurd h (Nat.not_lt_zero _)
  | m + 1, k, a, b, h, x, y => by
    by_cases e : k = m
    · subst e
      have x' : Wa r n k a k := x.elim id fun z => z.1
      have y' : Wa r n k k b := y.elim id fun z => z.2
      exact .inr ⟨x', y'⟩
    · have h' : k < m := by omega
      rcases x with x | ⟨x1, x2⟩ <;> rcases y with y | ⟨y1, y2⟩
      · exact .inl (Wa.thru m k a b h' x y)
      · exact .inr ⟨Wa.thru m k a m h' x y1, y2⟩
      · exact .inr ⟨x1, Wa.thru m k m b h' x2 y⟩
      · exact .inr ⟨x1, y2⟩
theorem Wa.up {r : Rl} {n : Nat} : ∀ (m a b : Nat), Wa r n 0 a b → Wa r n m a b
  | 0, _, _, h => h
  | m + 1, a, b, h => .inl (Wa.up m a b h)
theorem Wa.star {r : Rl} {n : Nat} (i : In n r) : ∀ (m a b : Nat), m ≤ n → Wa r n m a b → Cl n r a b
  | 0, a, b, _, h => h.elim (fun h => Cl.sub i a b h) (fun z => by obtain ⟨e, q⟩ := z; subst e; exact Cl.refl q)
  | m + 1, a, b, hm, h => h.elim (Wa.star i m a b (by omega)) fun ⟨x, y⟩ => (Wa.star i m a m (by omega) x).trans (Wa.star i m m b (by omega) y)
theorem star_wa {r : Rl} {n : Nat} (i : In n r) {a b : Nat} (h : Star r a b) : a < n → Wa r n n a b := by
  induction h with
  | refl a => exact fun ha => Wa.up n a a (.inr ⟨rfl, ha⟩)
  | @step a b c x _ ih => exact fun _ => Wa.thru n b a c (i _ _ x).2 (Wa.up n a b (.inl x)) (ih (i _ _ x).2)
theorem wa_cl {r : Rl} {n : Nat} (i : In n r) (a b : Nat) : Wa r n n a b ↔ Cl n r a b := by
  refine ⟨Wa.star i n a b (Nat.le_refl n), fun z => star_wa i z.2.2 z.1⟩
/-! ### one behind another, both, turned -/
def Cp (r s : Rl) : Rl := fun a b => ∃ x, r a x ∧ s x b
def Or2 (r s : Rl) : Rl := fun a b => r a b ∨ s a b
def Tr (r : Rl) : Rl := fun a b => r b a
theorem In.cp {n : Nat} {r s : Rl} (h : In n r) (k : In n s) : In n (Cp r s) := fun _ _ ⟨_, x, y⟩ => ⟨(h _ _ x).1, (k _ _ y).2⟩
theorem In.or {n : Nat} {r s : Rl} (h : In n r) (k : In n s) : In n (Or2 r s) := fun a b z => z.elim (h a b) (k a b)
theorem Cp.mono {r r' s s' : Rl} (h : Sub r r') (k : Sub s s') : Sub (Cp r s) (Cp r' s') := fun _ _ ⟨x, y, z⟩ => ⟨x, h _ _ y, k _ _ z⟩
theorem Or2.mono {r r' s s' : Rl} (h : Sub r r') (k : Sub s s') : Sub (Or2 r s) (Or2 r' s') := fun a b z => z.imp (h a b) (k a b)
section
variable (n : Nat) (U F D : Rl)
/-- gain 0, never below, at most so much above -/
def Hk : Nat → Rl
  | 0 => Cl n F
  | k + 1 => Cl n (Or2 (Hk k) (Cp (Cp U (Hk k)) D))
/-- gain 0, never below -/
def Gr : Rl := fun a b => ∃ k, Hk n U F D k a b
/-- gain 0 at the number k, never below 0 -/
def Ov : Rl := Or2 F (Cp (Cp U (Gr n U F D)) D)
def Le : Nat → Rl
  | 0 => Gr n U F D
  | k + 1 => Cl n (Or2 (Ov n U F D) (Cp (Cp D (Le k)) U))
end
section
variable {n : Nat} {U F D : Rl}
theorem hk_in : ∀ k, In n (Hk n U F D k)
  | 0 => Cl.inn
  | _ + 1 => Cl.inn
theorem hk_succ (k : Nat) : Sub (Hk n U F D k) (Hk n U F D (k + 1)) := fun a b h => ⟨(hk_in k a b h).1, (hk_in k a b h).2, .one (.inl h)⟩
theorem hk_le {j k : Nat} (h : j ≤ k) : Sub (Hk n U F D j) (Hk n U F D k) := by
  induction h with
  | refl => exact fun _ _ z => z
  | step _ ih => exact fun a b z => hk_succ _ a b (ih a b z)
theorem hk_trans : ∀ (k : Nat) {a b c : Nat}, Hk n U F D k a b → Hk n U F D k b c → Hk n U F D k a c
  | 0, _, _, _, h, i => Cl.trans h i
  | _ + 1, _, _, _, h, i => Cl.trans h i
theorem hk_refl : ∀ (k : Nat) {a : Nat}, a < n → Hk n U F D k a a
  | 0, _, h => Cl.refl h
  | _ + 1, _, h => Cl.refl h
theorem gr_in : In n (Gr n U F D) := fun a b ⟨k, h⟩ => hk_in k a b h
theorem gr_refl {a : Nat} (h : a < n) : Gr n U F D a a := ⟨0, hk_refl 0 h⟩
theorem gr_trans {a b c : Nat} (h : Gr n U F D a b) (i : Gr n U F D b c) : Gr n U F D a c := by
  obtain ⟨j, h⟩ := h
  obtain ⟨k, i⟩ := i
  exact ⟨j + k, hk_trans _ (hk_le (Nat.le_add_right j k) _ _ h) (hk_le (Nat.le_add_left k j) _ _ i)⟩
theorem gr_flat (i : In n F) : Sub F (Gr n U F D) := fun a b h => ⟨0, Cl.sub i a b h⟩
theorem gr_ugd (iu : In n U) (id : In n D) : Sub (Cp (Cp U (Gr n U F D)) D) (Gr n U F D) := fun a b ⟨y, ⟨x, h1, ⟨k, h2⟩⟩, h3⟩ =>
  ⟨k + 1, (iu _ _ h1).1, (id _ _ h3).2, .one (.inr ⟨y, ⟨x, h1, h2⟩, h3⟩)⟩
/-- where two neighbours are alike, all is told -/
theorem hk_stop {k : Nat} (h : Sub (Hk n U F D (k + 1)) (Hk n U F D k)) : Sub (Gr n U F D) (Hk n U F D k) := by
  have key : ∀ j, Sub (Hk n U F D (k + j)) (Hk n U F D k) := by
    intro j
    induction j with
    | zero => exact fun _ _ z => z
    | succ j ih => exact fun a b z => h a b (Cl.mono (Or2.mono ih (Cp.mono (Cp.mono (fun _ _ z => z) ih) fun _ _ z => z)) a b z)
  exact fun a b ⟨j, z⟩ => key j a b (hk_le (Nat.le_add_left j k) a b z)
theorem gr_eq {k : Nat} (h : ∀ a b, Hk n U F D (k + 1) a b ↔ Hk n U F D k a b) (a b : Nat) : Gr n U F D a b ↔ Hk n U F D k a b :=
  ⟨hk_stop (fun a b => (h a b).mp) a b, fun z => ⟨k, z⟩⟩
/-! ### levels -/
theorem le_in : ∀ k, In n (Le n U F D k)
  | 0 => gr_in
  | _ + 1 => Cl.inn
theorem le_refl : ∀ (k : Nat) {a : Nat}, a < n → Le n U F D k a a
  | 0, _, h => gr_refl h
  | _ + 1, _, h => Cl.refl h
theorem le_trans : ∀ (k : Nat) {a b c : Nat}, Le n U F D k a b → Le n U F D k b c → Le n U F D k a c
  | 0, _, _, _, h, i => gr_trans h i
  | _ + 1, _, _, _, h, i => Cl.trans h i
theorem ov_gr (iu : In n U) (i : In n F) (id : In n D) : Sub (Ov n U F D) (Gr n U F D) := fun a b h => h.elim (gr_flat i a b) (gr_ugd iu id a b)
/-- all that never falls below is had by steps of Ov -/
theorem gr_ov (i : In n F) : ∀ (k : Nat) {a b : Nat}, Hk n U F D k a b → Star (Ov n U F D) a b
  | 0, _, _, h => h.2.2.mono fun _ _ z => .inl z
  | k + 1, _, _, h => h.2.2.flat fun a b z => z.elim (gr_ov i k) fun ⟨y, ⟨x, h1, h2⟩, h3⟩ => .one (.inr ⟨y, ⟨x, h1, ⟨k, h2⟩⟩, h3⟩)
theorem ov_le (iu : In n U) (i : In n F) (id : In n D) : ∀ k, Sub (Ov n U F D) (Le n U F D k)
  | 0 => ov_gr iu i id
  | k + 1 => fun a b h => by
    have z := gr_in a b (ov_gr iu i id a b h)
    exact ⟨z.1, z.2, .one (.inl h)⟩
theorem le_succ (i : In n F) : ∀ k, Sub (Le n U F D k) (Le n U F D (k + 1))
  | 0 => fun a b h => by
    have z := gr_in a b h
    obtain ⟨k, h⟩ := h
    exact ⟨z.1, z.2, (gr_ov i k h).mono fun _ _ z => .inl z⟩
  | k + 1 => Cl.mono (Or2.mono (fun _ _ z => z) (Cp.mono (Cp.mono (fun _ _ z => z) (le_succ i k)) fun _ _ z => z))
theorem le_mono (i : In n F) {j k : Nat} (h : j ≤ k) : Sub (Le n U F D j) (Le n U F D k) := by
  induction h with
  | refl => exact fun _ _ z => z
  | step _ ih => exact fun a b z => le_succ i _ a b (ih a b z)
theorem le_stop {k : Nat} (h : ∀ a b, Le n U F D (k + 1) a b ↔ Le n U F D k a b) : ∀ (j a b : Nat), Le n U F D (k + j) a b ↔ Le n U F D k a b
  | 0, _, _ => Iff.rfl
  | j + 1, a, b => by
    have ih := le_stop h j
    rw [← h a b]
    exact ⟨Cl.mono (Or2.mono (fun _ _ z => z) (Cp.mono (Cp.mono (fun _ _ z => z) fun a b => (ih a b).mp) fun _ _ z => z)) a b,
      Cl.mono (Or2.mono (fun _ _ z => z) (Cp.mono (Cp.mono (fun _ _ z => z) fun a b => (ih a b).mpr) fun _ _ z => z)) a b⟩
theorem le_dlu (iu : In n U) (id : In n D) (k : Nat) : Sub (Cp (Cp D (Le n U F D k)) U) (Le n U F D (k + 1)) := fun a b h => by
  obtain ⟨y, ⟨x, h1, h2⟩, h3⟩ := id2 h
  exact ⟨(id _ _ h1).1, (iu _ _ h3).2, .one (.inr h)⟩
where id2 {p : Prop} (h : p) : p := h
/-! ### stand by stand -/
/-- one deed, all numbers from 0 to the cap -/
inductive St1 (cap : Nat) (U F D : Rl) : Nat × Nat → Nat × Nat → Prop
  | up {a b i : Nat} : U a b → i + 1 ≤ cap → St1 cap U F D (a, i) (b, i + 1)
  | flat {a b i : Nat} : F a b → i ≤ cap → St1 cap U F D (a, i) (b, i)
  | down {a b i : Nat} : D a b → i + 1 ≤ cap → St1 cap U F D (a, i + 1) (b, i)
inductive Re (cap : Nat) (U F D : Rl) (s : Nat × Nat) : Nat × Nat → Prop
  | start : Re cap U F D s s
  | next {t u : Nat × Nat} : Re cap U F D s t → St1 cap U F D t u → Re cap U F D s u
theorem Re.trans {cap : Nat} {s t u : Nat × Nat} (h : Re cap U F D s t) (k : Re cap U F D t u) : Re cap U F D s u := by
  induction k with
  | start => exact h
  | next _ x ih => exact .next ih x
theorem Re.one {cap : Nat} {s t : Nat × Nat} (h : St1 cap U F D s t) : Re cap U F D s t := .next .start h
theorem re_mono {cap cap' : Nat} (h : cap ≤ cap') {s t : Nat × Nat} (k : Re cap U F D s t) : Re cap' U F D s t := by
  induction k with
  | start => exact .start
  | next _ x ih =>
    refine .next ih ?_
    cases x with
    | up x y => exact .up x (by omega)
    | flat x y => exact .flat x (by omega)
    | down x y => exact .down x (by omega)
/-- what is told of heights is walked -/
theorem re_star {r : Rl} {cap i : Nat} (h : ∀ a b, r a b → Re cap U F D (a, i) (b, i)) {a b : Nat} (k : Star r a b) : Re cap U F D (a, i) (b, i) := by
  induction k with
  | refl a => exact .start
  | step x _ ih => exact (h _ _ x).trans ih
theorem re_hk : ∀ (k i : Nat) {a b : Nat}, Hk n U F D k a b → Re (i + k) U F D (a, i) (b, i)
  | 0, i, _, _, h => re_star (fun a b z => Re.one (.flat z (by omega))) h.2.2
  | k + 1, i, _, _, h => re_star (fun a b z => z.elim (fun z => re_mono (by omega) (re_hk k i z)) fun ⟨y, ⟨x, h1, h2⟩, h3⟩ => by
      have m := re_hk k (i + 1) h2
      rw [show i + 1 + k = i + (k + 1) by omega] at m
      exact ((Re.one (.up h1 (by omega))).trans m).trans (Re.one (.down h3 (by omega)))) h.2.2
/-- levels are walked, with the height that the ground wants -/
theorem re_le (iu : In n U) (i : In n F) (id : In n D) {M : Nat} (hM : Sub (Gr n U F D) (Hk n U F D M)) : ∀ (k : Nat) {a b : Nat}, Le n U F D k a b → Re (k + M) U F D (a, k) (b, k)
  | 0, _, _, h => re_hk M 0 (hM _ _ h)
  | k + 1, _, _, h => re_star (fun a b z => z.elim (fun z => re_hk M (k + 1) (hM _ _ (ov_gr iu i id a b z))) fun ⟨y, ⟨x, h1, h2⟩, h3⟩ => by
      have m := re_mono (show k + M ≤ k + 1 + M by omega) (re_le iu i id hM k h2)
      exact ((Re.one (.down h1 (by omega))).trans m).trans (Re.one (.up h3 (by omega)))) h.2.2
/-- what is walked is told: below the start .. -/
def Dn (n : Nat) (U F D : Rl) (k a : Nat) : Nat → Nat → Prop
  | 0 => fun c => Le n U F D k a c
  | d + 1 => fun c => ∃ x y, Dn n U F D k a d x ∧ D x y ∧ Le n U F D (k - (d + 1)) y c
/-- .. and above -/
def Up (n : Nat) (U F D : Rl) (k a : Nat) : Nat → Nat → Prop
  | 0 => fun c => Le n U F D k a c
  | d + 1 => fun c => ∃ x y, Up n U F D k a d x ∧ U x y ∧ Gr n U F D y c
theorem dn_le {k a : Nat} : ∀ (d : Nat) {c e : Nat}, Dn n U F D k a d c → Le n U F D (k - d) c e → Dn n U F D k a d e
  | 0, _, _, h, i => le_trans k h i
  | _ + 1, _, _, ⟨x, y, h1, h2, h3⟩, i => ⟨x, y, h1, h2, le_trans _ h3 i⟩
theorem up_gr (iu : In n U) (i : In n F) (id : In n D) {k a : Nat} : ∀ (d : Nat) {c e : Nat}, Up n U F D k a d c → (F c e ∨ Cp (Cp U (Gr n U F D)) D c e) → Up n U F D k a d e
  | 0, _, _, h, z => le_trans k h (ov_le iu i id k _ _ z)
  | _ + 1, _, _, ⟨x, y, h1, h2, h3⟩, z => ⟨x, y, h1, h2, gr_trans h3 (ov_gr iu i id _ _ z)⟩
theorem re_told (iu : In n U) (i : In n F) (id : In n D) {cap k a : Nat} (ha : a < n) {t : Nat × Nat} (h : Re cap U F D (a, k) t) :
    (∃ d, d ≤ k ∧ t.2 = k - d ∧ Dn n U F D k a d t.1) ∨ (∃ d, t.2 = k + d ∧ Up n U F D k a d t.1) := by
  induction h with
  | start => exact .inl ⟨0, Nat.zero_le k, rfl, le_refl k ha⟩
  | @next t u _ x ih =>
    cases x with
    | @flat c e j f _ =>
      rcases ih with ⟨d, hd, e1, h⟩ | ⟨d, e1, h⟩
      · exact .inl ⟨d, hd, e1, dn_le d h (ov_le iu i id _ _ _ (.inl f))⟩
      · exact .inr ⟨d, e1, up_gr iu i id d h (.inl f)⟩
    | @up c e j f _ =>
      rcases ih with ⟨d, hd, e1, h⟩ | ⟨d, e1, h⟩
      · have e1 : j = k - d := e1
        cases d with
        | zero => exact .inr ⟨1, by show j + 1 = k + 1; omega, c, e, h, f, gr_refl (iu _ _ f).2⟩
        | succ d =>
          obtain ⟨x, y, h1, h2, h3⟩ := h
          refine .inl ⟨d, by omega, by show j + 1 = k - d; omega, dn_le d h1 ?_⟩
          have := le_dlu iu id (k - (d + 1)) x e ⟨c, ⟨y, h2, h3⟩, f⟩
          rw [show k - (d + 1) + 1 = k - d by omega] at this
          exact this
      · have e1 : j = k + d := e1
        exact .inr ⟨d + 1, by show j + 1 = k + (d + 1); omega, c, e, h, f, gr_refl (iu _ _ f).2⟩
    | @down c e j f _ =>
      rcases ih with ⟨d, hd, e1, h⟩ | ⟨d, e1, h⟩
      · have e1 : j + 1 = k - d := e1
        exact .inl ⟨d + 1, by omega, by show j = k - (d + 1); omega, c, e, h, f, le_refl _ (id _ _ f).2⟩
      · have e1 : j + 1 = k + d := e1
        cases d with
        | zero => exact .inl ⟨1, by omega, by show j = k - 1; omega, c, e, h, f, le_refl _ (id _ _ f).2⟩
        | succ d =>
          obtain ⟨x, y, h1, h2, h3⟩ := h
          exact .inr ⟨d, by show j = k + d; omega, up_gr iu i id d h1 (.inr ⟨c, ⟨y, h2, h3⟩, f⟩)⟩
theorem re_level (iu : In n U) (i : In n F) (id : In n D) {cap k a b : Nat} (ha : a < n) (h : Re cap U F D (a, k) (b, k)) : Le n U F D k a b := by
  rcases re_told iu i id ha h with ⟨d, hd, e1, h⟩ | ⟨d, e1, h⟩
  · have e1 : k = k - d := e1
    by_cases z : d = 0
    · subst z
      exact h
    · have : k = 0 := by omega
      omega
  · have e1 : k = k + d := e1
    obtain rfl : d = 0 := by omega
    exact h
end
end L2.Lv
end

section
set_option Elab.async false
set_option linter.all false
set_option maxRecDepth 100000
set_option maxHeartbeats 4000000
namespace L2.K24
open PySem PySem.Spec PyProof.Rows L2.Gd
def iN (l : List Nat) : List V := l.map fun n : Nat => V.int (n : Int)
theorem iN_len (l : List Nat) : (iN l).length = l.length := List.length_map _
theorem iN_at {l : List Nat} {i : Nat} (h : i < l.length) : (iN l)[i]? = some (.int (l.getD i 0 : Nat)) := by
  unfold iN
  rw [List.getElem?_map, List.getElem?_eq_getElem h, List.getD_eq_getElem?_getD, List.getElem?_eq_getElem h]
  rfl
theorem iN_app (a b : List Nat) : iN (a ++ b) = iN a ++ iN b := List.map_append
theorem gn {i : Nat} {v : V} {σ : L2.St} {H : Hp} {Q : L2.St → Hp → Prop} (h : Q (σ.set i (some v)) H) : gName i v σ H Q := h
theorem Same.refl {H : Hp} : Same H H := fun _ _ e => e
section
variable {P : Program} {w : World} {K : PySem.W.Frag} {mg : Str → Option Value} {base : Heap} {C : Addr}
/-! ### ones -/
def spOnes : Sp := fun vs H Q _ => ∃ n : Nat, vs = [.int n] ∧ n < 2 ^ 1000000 ∧ ∀ p H', H p = none → Same H H' → H' p = some (.lst (iN (onesL n))) → Q (.ref p) H'
def NOn : List Str := ["bits", "k", "sign"]
theorem scOn : FnScope NOn ["bits"] (defScope (top 2)) := ⟨rfl, rfl, rfl, by decide +kernel, rfl, by decide +kernel, by decide +kernel⟩
theorem bitT_cps (n : Nat) : (revS (bitT n)).cps = (revL n).toArray := by
  show ((bitL n).toArray.toList.reverse).toArray = _
  rfl
theorem rev_at {n i c : Nat} (h : (revS (bitT n)).cps[i]? = some c) : c = bitC (n.testBit i) := by
  rw [bitT_cps, List.getElem?_toArray] at h
  exact (revL_at n i).1 c h
theorem bitC_one (b : Bool) : decide (V.str ⟨#[bitC b]⟩ = V.str ("1" : Str)) = b := by
  cases b
  · exact decide_eq_false (fun z => by
      have := congrArg (fun v => match v with | V.str s => s.cps.toList | _ => []) z
      exact absurd this (by decide +kernel))
  · exact decide_eq_true (by decide +kernel)
theorem ok_ones {f : Addr} {fd : FuncData} (F : Fun K "ones" "ones" (top 2) f fd) (n : Nm mg) : FnOk P w K mg base CX0 1 f fd ["bits"] spOnes := by
  refine F.ok scOn (fun vs H Q E h => ?_) (fun cdv A outer s H vs Q E hr h => ?_)
  · obtain ⟨m, rfl, _⟩ := h
    rfl
  · obtain ⟨m, rfl, hm, q⟩ := h
    have N := scOn.nd
    have len : (revL m).length ≤ 1000000 := revL_len_le hm (by decide)
    have sz : (bitT m).length ≤ sizeLine := by
      rw [← revL_length, sizeLine_eq]
      omega
    refine ⟨_, pss_one (ps_ret (pe_lc (own := [("k", 1), ("sign", 2)]) (g := gTup K 2 (gCons (gName 1) (gCons (gName 2) gNil))) rfl N (pi_enumS (by rfl) n.enumerate (pa_cons (pe_revS (pe_joined1 (pe_fmtB (pv 0)))) pa_nil))
        (blkOk_by (N := NOn) (sc := defScope (top 2)) (by decide +kernel))
        (fun _ _ _ _ _ => pg_tup rfl (pgs_cons (pg_name (i := 1) N rfl (.inl rfl)) (pgs_cons (pg_name (i := 2) N rfl (.inl rfl)) pgs_nil)))
        (fun _ _ _ _ _ => pts_one (pt_cmpR op_eq (pv 2) pe_str (nomark _))) (fun _ _ _ _ _ => pv 1))), ?_⟩
    refine ⟨_, rfl, m, rfl, (by rw [sizeLine_eq]; omega), bitT m, rfl, sz, revS (bitT m), rfl, fun D hD => ?_⟩
    have cz : (revS (bitT m)).cps.size = (revL m).length := by rw [bitT_cps, List.size_toArray]
    refine lc_gen (n := (revL m).length) (fun i H3 => ButD D H H3 ∧ H3 D = some (.lst (iN ((List.range i).filter m.testBit)))) ⟨.start, upd_same⟩ ?_ ?_
    · rintro H3 ⟨b3, h3⟩
      exact ⟨(by show (revS (bitT m)).cps.size ≤ _; omega), q D H3 hD (b3.new hD) h3⟩
    · rintro i H3 hi ⟨b3, h3⟩
      refine ⟨(by show i < (revS (bitT m)).cps.size; omega), ?_⟩
      rintro x H' ⟨T, c, rfl, hT, rfl, hc⟩
      have s4 : Same H3 (upd H3 T (.tup [.int (i : Nat), .str ⟨#[c]⟩])) := same_upd hT
      obtain rfl := rev_at hc
      refine ⟨T, _, rfl, .inl (.inl upd_same), rfl, _, _, rfl, _, _, rfl, rfl, rfl, _, rfl, rfl, _, congrArg V.bl (bitC_one (m.testBit i)), ?_⟩
      have b4 : ButD D H (upd H3 T (.tup [.int (i : Nat), .str ⟨#[bitC (m.testBit i)]⟩])) := b3.more s4
      have rs : (List.range (i + 1)).filter m.testBit = (List.range i).filter m.testBit ++ (if m.testBit i = true then [i] else []) := by
        rw [List.range_succ, List.filter_append]
        congr 1
        cases hb : m.testBit i <;> simp [hb]
      cases hb : m.testBit i with
      | true =>
        rw [hb, if_pos rfl] at rs
        rw [hb] at s4 b4
        refine iteT ⟨_, rfl, _, s4 _ _ h3, ?_, b4.put, ?_⟩
        · rw [iN_len, sizeLine_eq]
          have := List.length_filter_le m.testBit (List.range i)
          rw [List.length_range] at this
          omega
        · rw [upd_same, rs, iN_app]
          rfl
      | false =>
        rw [hb, if_neg (by decide), List.append_nil] at rs
        rw [hb] at s4 b4
        exact iteF ⟨b4, by rw [rs]; exact s4 _ _ h3⟩
end
end L2.K24
end

section
set_option Elab.async false
set_option linter.all false
set_option maxRecDepth 100000
set_option maxHeartbeats 4000000
namespace L2.K24
open PySem PySem.Spec PyProof.Rows L2.Gd L2.Lv
theorem or_nat (a b : Nat) : Builtin.bitOr (a : Int) (b : Int) = ((a ||| b : Nat) : Int) := by
  rw [Bits.bitOr_pp (Int.natCast_nonneg a) (Int.natCast_nonneg b), Int.toNat_natCast, Int.toNat_natCast]
theorem and_nat (a b : Nat) : Builtin.bitAnd (a : Int) (b : Int) = ((a &&& b : Nat) : Int) := by
  rw [PyProof.Rows.bitAnd_pp (Int.natCast_nonneg a) (Int.natCast_nonneg b), Int.toNat_natCast, Int.toNat_natCast]
theorem zeros_flat (m : Nat) : (List.replicate ((m : Int)).toNat [V.int 0]).flatten = iN (List.replicate m 0) := by
  rw [Int.toNat_natCast]
  induction m with
  | zero => rfl
  | succ m ih =>
    rw [List.replicate_succ, List.flatten_cons, ih]
    rfl
theorem shl_nat (g : Nat) : (1 : Int) * 2 ^ ((g : Int)).toNat = ((2 ^ g : Nat) : Int) := by
  rw [Int.toNat_natCast, Int.one_mul]
  simp
theorem shr_nat (m g : Nat) : (m : Int) / 2 ^ ((g : Int)).toNat = ((m / 2 ^ g : Nat) : Int) := by
  rw [Int.toNat_natCast]
  simp
/-- a mask with one more -/
def more (m g : Nat) : Nat := m ||| 2 ^ g
theorem more_bit (m g b : Nat) : (more m g).testBit b = true ↔ m.testBit b = true ∨ b = g := by
  unfold more
  rw [Nat.testBit_or, Nat.testBit_two_pow, Bool.or_eq_true, decide_eq_true_eq]
  exact ⟨fun h => h.imp id Eq.symm, fun h => h.imp id Eq.symm⟩
theorem getD_set {l : List Nat} {i j v : Nat} (h : i < l.length) : (l.set i v).getD j 0 = if j = i then v else l.getD j 0 := by
  rw [List.getD_eq_getElem?_getD, List.getD_eq_getElem?_getD, List.getElem?_set]
  by_cases e : i = j
  · subst e
    rw [if_pos rfl, if_pos rfl, if_pos h]
    rfl
  · rw [if_neg e, if_neg (fun z => e z.symm)]
theorem iN_set (l : List Nat) (i v : Nat) : (iN l).set i (.int (v : Nat)) = iN (l.set i v) := by
  unfold iN
  rw [List.map_set]
theorem rep_zero (n : Nat) : Rep n (List.replicate n 0) (fun _ _ => False) := by
  refine ⟨List.length_replicate, fun a b => ⟨fun h => ?_, False.elim⟩⟩
  have : (List.replicate n 0).getD a 0 = 0 := by
    rw [List.getD_eq_getElem?_getD, List.getElem?_replicate]
    split <;> rfl
  rw [this] at h
  simp at h
theorem rep_set {n : Nat} {l : List Nat} {r : Rl} (h : Rep n l r) {p g : Nat} (hp : p < n) : Rep n (l.set p (more (l.getD p 0) g)) (fun a b => r a b ∨ (a = p ∧ b = g)) := by
  refine ⟨by rw [List.length_set, h.len], fun a b => ?_⟩
  rw [getD_set (by rw [h.len]; exact hp)]
  by_cases e : a = p
  · subst e
    rw [if_pos rfl, more_bit, h.bit]
    exact ⟨fun z => z.imp id fun z => ⟨rfl, z⟩, fun z => z.imp id fun z => z.2⟩
  · rw [if_neg e, h.bit]
    exact ⟨.inl, fun z => z.elim id fun z => absurd z.1 e⟩
/-- pairs as tuples -/
def PrAt (H : Hp) (v : V) (p : Nat × Nat) : Prop := ∃ t, v = .ref t ∧ H t = some (.tup [.int (p.1 : Nat), .int (p.2 : Nat)])
def PrAll (H : Hp) (vs : List V) (ps : List (Nat × Nat)) : Prop := Paired (PrAt H) vs ps
theorem PrAll.same {H H' : Hp} {vs : List V} {ps : List (Nat × Nat)} (s : Same H H') (h : PrAll H vs ps) : PrAll H' vs ps := Paired.mapP h fun _ _ ⟨t, e, q⟩ => ⟨t, e, s _ _ q⟩
theorem PrAll.but {D : Addr} {H H' : Hp} {vs : List V} {ps : List (Nat × Nat)} (b : ButD D H H') (hD : ∃ zs, H D = some (.lst zs)) (h : PrAll H vs ps) : PrAll H' vs ps := Paired.mapP h fun _ _ ⟨t, e, q⟩ => ⟨t, e, b _ _ (fun z => by
  subst z
  obtain ⟨zs, hz⟩ := hD
  rw [q] at hz
  exact nomatch hz) q⟩
section
variable {P : Program} {w : World} {K : PySem.W.Frag} {mg : Str → Option Value} {base : Heap} {C : Addr}
/-! ### relation_of -/
def spRel : Sp := fun vs H Q _ => ∃ (n : Nat) (a : Addr) (xs : List V) (ps : List (Nat × Nat)), vs = [.int n, .ref a] ∧ n ≤ 100 ∧ H a = some (.lst xs) ∧ PrAll H xs ps ∧ (∀ p ∈ ps, p.1 < n ∧ p.2 < n) ∧
  ∀ p H' l, H p = none → Same H H' → H' p = some (.lst (iN l)) → Rep n l (fun a b => (a, b) ∈ ps) → Q (.ref p) H'
def NRe : List Str := ["many", "pairs", "out", "place", "goal"]
theorem scRel : FnScope NRe ["many", "pairs"] (defScope (top 4)) := ⟨rfl, rfl, rfl, by decide +kernel, rfl, by decide +kernel, by decide +kernel⟩
theorem ok_rel {f : Addr} {fd : FuncData} (F : Fun K "relation_of" "relation_of" (top 4) f fd) (n : Nm mg) : FnOk P w K mg base CX0 1 f fd ["many", "pairs"] spRel := by
  refine F.ok scRel (fun vs H Q E h => ?_) (fun cdv A outer s H vs Q E hr h => ?_)
  · obtain ⟨m, a, xs, ps, rfl, _⟩ := h
    rfl
  · obtain ⟨m, a, xs, ps, rfl, m100, ha, pa, lt, q⟩ := h
    have N := scRel.nd
    refine ⟨_, pss_cons (ps_set (i := 2) N rfl (.inl rfl) (pe_op op_rep (pe_lst (pa_cons pe_int pa_nil)) (pv 0)))
      (pss_cons (ps_for PassesOwn.never rfl (pi_list (pv 1)) (pg_tup rfl (pgs_cons (pg_name (i := 3) N rfl (.inl rfl)) (pgs_cons (pg_name (i := 4) N rfl (.inl rfl)) pgs_nil)))
        (pss_one (ps_asg (pe_op op_or (pe_ix ix_list (pv 2) (pv 3) (fun _ _ => rfl)) (pe_op op_shl pe_int (pv 4))) (pg_sub (pv 2) (pv 3) set_list))))
      (pss_one (ps_ret (pv 2)))), ?_⟩
    refine ⟨(by show 1 ≤ sizeLine; decide), fun z hz => ?_⟩
    have s0 := same_upd (o := .lst [V.int 0]) hz
    refine ⟨_, rfl, z, m, _, rfl, rfl, upd_same, by omega, by omega, (by rw [sizeLine_eq]; show 1 * ((m : Int)).toNat ≤ _; omega), fun o ho => ?_⟩
    have s1 := same_upd (o := .lst (List.replicate ((m : Int)).toNat [V.int 0]).flatten) ho
    have ez := zeros_flat m
    show gName _ _ _ _ _
    rw [ez] at s1 ⊢
    have s01 := s0.trans s1
    have hno : H o = none := s0.free ho
    refine ⟨_, rfl, a, rfl, ⟨_, .inl (.inl (s01 _ _ ha))⟩, ?_⟩
    refine loop_of (n := xs.length) (fun i σ H2 => ∃ (v3 v4 : Option V) (l : List Nat), σ = [some (.int m), some (.ref a), some (.ref o), v3, v4] ∧ H2 o = some (.lst (iN l)) ∧ ButD o H H2 ∧ Rep m l (fun a b => (a, b) ∈ ps.take i))
      ⟨none, none, _, rfl, upd_same, Same.but s01, (rep_zero m).iff (by simp)⟩ ?_ ?_
    · rintro σ H2 ⟨v3, v4, l, rfl, hl, b2, rp⟩
      refine ⟨⟨_, .inl (.inl (b2.new hno _ _ ha)), Nat.le_refl _⟩, ?_⟩
      rw [show xs.length = ps.length from Paired.length pa, List.take_length] at rp
      exact ⟨_, rfl, q o H2 l hno (b2.new hno) hl rp⟩
    · rintro i σ H2 hi ⟨v3, v4, l, rfl, hl, b2, rp⟩
      have s2 := b2.new hno
      refine ⟨⟨_, _, .inl (.inl (s2 _ _ ha)), List.getElem?_eq_getElem hi⟩, ?_⟩
      rintro v H3 ⟨rfl, hy⟩
      have hvi := hy _ (.inl (.inl (s2 _ _ ha)))
      obtain ⟨⟨p, g⟩, hp, t, rfl, ht⟩ := Paired.at pa hvi
      obtain ⟨pm, gm⟩ := lt _ (List.mem_of_getElem? hp)
      have pm : p < m := pm
      have gm : g < m := gm
      have pl : p < l.length := by rw [rp.len]; exact pm
      refine ⟨t, _, rfl, .inl (.inl (s2 _ _ ht)), rfl, _, _, rfl, _, _, rfl, rfl, ?_⟩
      refine ⟨_, rfl, _, rfl, o, iN l, _, _, rfl, rfl, .inl (.inl hl), atI_nat (iN_at pl), _, rfl, _, _, rfl, rfl, ⟨by omega, by omega, by decide⟩, _, _, rfl, rfl, ?_⟩
      have hix : ixN (iN l).length (p : Int) = some p := by
        unfold ixN
        rw [iN_len]
        rw [if_pos (by omega), if_pos (by omega), Int.toNat_natCast]
      refine ⟨_, rfl, _, rfl, o, _, _, p, rfl, rfl, hl, hix, ?_⟩
      have ev : V.int (Builtin.bitOr ((l.getD p 0 : Nat) : Int) ((1 : Int) * 2 ^ ((g : Int)).toNat)) = V.int ((more (l.getD p 0) g : Nat) : Int) := by
        rw [shl_nat, or_nat]
        rfl
      refine ⟨_, _, l.set p (more (l.getD p 0) g), rfl, ?_, b2.put, ?_⟩
      · rw [upd_same]
        show some (HO.lst ((iN l).set p (V.int (Builtin.bitOr _ _)))) = _
        rw [ev, iN_set]
      · refine (rep_set rp pm).iff fun x y => ?_
        rw [List.take_succ, hp]
        simp
end
end L2.K24
end

section
set_option Elab.async false
set_option linter.all false
set_option maxRecDepth 100000
set_option maxHeartbeats 4000000
namespace L2.K24
open PySem PySem.Spec PyProof.Rows L2.Gd L2.Lv
/-- the second clause's loop, by an invariant -/
theorem lc_in {J : It} {n : Nat} {g : TG} {tt : TT} {te : TE} {vs : List Nat} {σ : L2.St} {H0 : Hp} {D : Addr} {Nx : Hp → Prop} (Iv : Nat → Hp → Prop) (h0 : Iv 0 H0) (hd : ∀ H, Iv n H → J.stop n H ∧ Nx H)
    (hs : ∀ i H, i < n → Iv i H → J.go i H ∧ ∀ x H', J.yld i H x H' → g x (wipe σ vs) H' fun σ2 H2 => wipe σ2 vs = wipe σ vs ∧ tt σ2 H2 fun b H3 =>
      if b = true then te σ2 H3 fun y H4 => ∃ acc, H4 D = some (.lst acc) ∧ acc.length < sizeLine ∧ Iv (i + 1) (L2.upd H4 D (.lst (acc ++ [y]))) else Iv (i + 1) H3) :
    ∃ W : Nat → Nat → Hp → Prop, (∃ m, W 0 m H0) ∧ ∀ i m H, W i m H →
      (J.stop i H ∧ Nx H) ∨ (J.go i H ∧ ∃ Nx1 : Hp → Prop, (∀ H', Nx1 H' → ∃ m', m' < m ∧ W (i + 1) m' H') ∧ ∀ x H', J.yld i H x H' → g x (wipe σ vs) H' fun σ2 H2 => wipe σ2 vs = wipe σ vs ∧ tt σ2 H2 fun b H3 =>
        if b = true then te σ2 H3 fun y H4 => ∃ acc, H4 D = some (.lst acc) ∧ acc.length < sizeLine ∧ Nx1 (L2.upd H4 D (.lst (acc ++ [y]))) else Nx1 H3) := by
  refine ⟨fun i m H => m = n - i ∧ i ≤ n ∧ Iv i H, ⟨n, by simp, Nat.zero_le _, h0⟩, ?_⟩
  rintro i m H ⟨rfl, hi, hp⟩
  by_cases e : i < n
  · obtain ⟨go, k⟩ := hs i H e hp
    exact .inr ⟨go, Iv (i + 1), fun H' q => ⟨n - (i + 1), by omega, rfl, e, q⟩, k⟩
  · obtain rfl : i = n := by omega
    exact .inl (hd H hp)
theorem lc_out {J : It} {n : Nat} {g : TG} {tt : TT} {vs : List Nat} {σ : L2.St} {H1 : Hp} {D : Addr} {Qd : Hp → Prop} {B : (Hp → Prop) → L2.St → Hp → Prop} (Iv : Nat → Hp → Prop) (h0 : Iv 0 (L2.upd H1 D (.lst []))) (hd : ∀ H, Iv n H → J.stop n H ∧ Qd H)
    (hs : ∀ i H, i < n → Iv i H → J.go i H ∧ ∀ x H', J.yld i H x H' → g x (wipe σ vs) H' fun σ2 H2 => wipe σ2 vs = wipe σ vs ∧ tt σ2 H2 fun b H3 => if b = true then B (Iv (i + 1)) σ2 H3 else Iv (i + 1) H3) :
    ∃ W : Nat → Nat → Hp → Prop, (∃ m, W 0 m (L2.upd H1 D (.lst []))) ∧ ∀ i m H, W i m H →
      (J.stop i H ∧ Qd H) ∨ (J.go i H ∧ ∃ Nx : Hp → Prop, (∀ H', Nx H' → ∃ m', m' < m ∧ W (i + 1) m' H') ∧ ∀ x H', J.yld i H x H' → g x (wipe σ vs) H' fun σ2 H2 => wipe σ2 vs = wipe σ vs ∧ tt σ2 H2 fun b H3 =>
        if b = true then B Nx σ2 H3 else Nx H3) := by
  refine ⟨fun i m H => m = n - i ∧ i ≤ n ∧ Iv i H, ⟨n, by simp, Nat.zero_le _, h0⟩, ?_⟩
  rintro i m H ⟨rfl, hi, hp⟩
  by_cases e : i < n
  · obtain ⟨go, k⟩ := hs i H e hp
    exact .inr ⟨go, Iv (i + 1), fun H' q => ⟨n - (i + 1), by omega, rfl, e, q⟩, k⟩
  · obtain rfl : i = n := by omega
    exact .inl (hd H hp)
/-! ### masks, pure -/
theorem lt_pow {x n : Nat} (h : ∀ b, x.testBit b = true → b < n) : x < 2 ^ n :=
  Nat.lt_pow_two_of_testBit x fun i hi => by
    cases e : x.testBit i with
    | false => rfl
    | true => exact absurd (h i e) (by omega)
theorem Rep.inn {n : Nat} {l : List Nat} {r : Rl} (h : Rep n l r) (i : In n r) {m : Nat} (hm : m ∈ l) : ∀ k, m.testBit k = true → k < n := by
  intro k hk
  obtain ⟨a, ha, e⟩ := List.getElem_of_mem hm
  have : (l.getD a 0).testBit k = true := by
    rw [List.getD_eq_getElem?_getD, List.getElem?_eq_getElem ha]
    show l[a].testBit k = true
    rw [e]
    exact hk
  exact (i a k ((h.bit a k).mp this)).2
theorem ones_len {m n : Nat} (h : ∀ k, m.testBit k = true → k < n) : (onesL m).length ≤ n := by
  rw [onesL_range (lt_pow h)]
  exact Nat.le_trans (List.length_filter_le _ _) (Nat.le_of_eq List.length_range)
def rowP (l : List Nat) (a : Nat) : List (Nat × Nat) := (onesL (l.getD a 0)).map fun b => (a, b)
theorem take_row (i : Nat) (z : List Nat) {j : Nat} (hj : j < z.length) : (z.map fun b => (i, b)).take (j + 1) = (z.map fun b => (i, b)).take j ++ [(i, z.getD j 0)] := by
  rw [List.take_succ, List.getElem?_map, List.getElem?_eq_getElem hj, List.getD_eq_getElem?_getD, List.getElem?_eq_getElem hj]
  rfl
def prsL (l : List Nat) : List (Nat × Nat) := (List.range l.length).flatMap (rowP l)
theorem mem_prsL {n : Nat} {l : List Nat} {r : Rl} (h : Rep n l r) {a b : Nat} : (a, b) ∈ prsL l ↔ r a b := by
  unfold prsL rowP
  rw [List.mem_flatMap]
  constructor
  · rintro ⟨c, _, h2⟩
    obtain ⟨d, hd, e⟩ := List.mem_map.mp h2
    obtain ⟨rfl, rfl⟩ := Prod.mk.inj e
    exact (h.bit _ _).mp (mem_onesL.mp hd)
  · intro z
    exact ⟨a, by rw [List.mem_range, h.len]; exact h.fst z, List.mem_map.mpr ⟨b, mem_onesL.mpr ((h.bit _ _).mpr z), rfl⟩⟩
section
variable {P : Program} {w : World} {K : PySem.W.Frag} {mg : Str → Option Value} {base : Heap} {C : Addr}
/-! ### pairs_of -/
def spPrs : Sp := fun vs H Q _ => ∃ (a : Addr) (l : List Nat), vs = [.ref a] ∧ H a = some (.lst (iN l)) ∧ l.length ≤ 100 ∧ (∀ m ∈ l, ∀ k, m.testBit k = true → k < 100) ∧
  ∀ p H' xs, H p = none → Same H H' → H' p = some (.lst xs) → PrAll H' xs (prsL l) → Q (.ref p) H'
def NPr : List Str := ["relation", "place", "mask", "goal"]
theorem scPrs : FnScope NPr ["relation"] (defScope (top 5)) := ⟨rfl, rfl, rfl, by decide +kernel, rfl, by decide +kernel, by decide +kernel⟩
theorem flat_len (l : List Nat) (h : ∀ m ∈ l, ∀ k, m.testBit k = true → k < 100) (n : Nat) : ((List.range n).flatMap (rowP l)).length ≤ n * 100 := by
  induction n with
  | zero => exact Nat.le_refl _
  | succ n ih =>
    rw [List.range_succ, List.flatMap_append, List.length_append]
    have : ([n].flatMap (rowP l)).length ≤ 100 := by
      rw [List.flatMap_cons, List.flatMap_nil, List.append_nil]
      unfold rowP
      rw [List.length_map]
      by_cases hn : n < l.length
      · rw [List.getD_eq_getElem?_getD, List.getElem?_eq_getElem hn]
        exact ones_len (h _ (List.getElem_mem hn))
      · rw [List.getD_eq_getElem?_getD, List.getElem?_eq_none (by omega)]
        exact ones_len (fun k hk => by simp at hk)
    omega
theorem ok_prs {f : Addr} {fd : FuncData} (F : Fun K "pairs_of" "pairs_of" (top 5) f fd) (n : Nm mg) (GO : Fn P w K mg base 1 "ones" ["bits"] spOnes) : FnOk P w K mg base CX0 2 f fd ["relation"] spPrs := by
  refine F.ok scPrs (fun vs H Q E h => ?_) (fun cdv A outer s H vs Q E hr h => ?_)
  · obtain ⟨a, l, rfl, _⟩ := h
    rfl
  · obtain ⟨a, l, rfl, ha, l100, bd, q⟩ := h
    have N := scPrs.nd
    refine ⟨_, pss_one (ps_ret (pe_lc2 (own := [("place", 1), ("mask", 2), ("goal", 3)]) (vs1 := [3]) (wi1 := iList K (tCall spOnes [] E0 (tCons (tVar 2) tNil))) (g := gTup K 2 (gCons (gName 1) (gCons (gName 2) gNil))) (g1 := gName 3) (tt := tYes) (tt1 := tYes) rfl N (pi_enumA (by rfl) n.enumerate (pa_cons (pv 0) pa_nil))
        (blkOk_by (N := NPr) (sc := defScope (top 5)) (by decide +kernel)) (by decide)
        (fun _ _ _ _ _ => pg_tup rfl (pgs_cons (pg_name (i := 1) N rfl (.inl rfl)) (pgs_cons (pg_name (i := 2) N rfl (.inl rfl)) pgs_nil)))
        (fun _ _ _ _ _ => pts_nil) (fun _ _ _ _ _ => pi_list (pe_fn GO hr (pa_cons (pv 2) pa_nil))) (fun _ _ _ _ _ => pg_name (i := 3) N rfl (.inl rfl)) (fun _ _ _ _ _ => pts_nil)
        (fun _ _ _ _ _ => pe_tup (pa_cons (pv 1) (pa_cons (pv 3) pa_nil))))), ?_⟩
    refine ⟨_, rfl, a, iN l, rfl, .inl ⟨.inl (.inl ha), fun D hD => ?_⟩⟩
    refine lc_out (n := l.length) (fun i H3 => ButD D H H3 ∧ ∃ xs, H3 D = some (.lst xs) ∧ PrAll H3 xs ((List.range i).flatMap (rowP l))) ⟨.start, [], upd_same, .nil⟩ ?_ ?_
    · rintro H3 ⟨b3, xs, h3, p3⟩
      have s3 := b3.new hD
      exact ⟨⟨_, .inl (.inl (s3 _ _ ha)), by rw [iN_len]; exact Nat.le_refl _⟩, q D H3 xs hD s3 h3 p3⟩
    · rintro i H3 hi ⟨b3, xs, h3, p3⟩
      have s3 := b3.new hD
      have hi2 : i < (iN l).length := by rw [iN_len]; exact hi
      refine ⟨⟨_, _, .inl (.inl (s3 _ _ ha)), List.getElem?_eq_getElem hi2⟩, ?_⟩
      rintro x H' ⟨T, y, rfl, hT, rfl, hy⟩
      have hyi := hy _ (.inl (.inl (s3 _ _ ha)))
      rw [iN_at hi] at hyi
      obtain rfl := Option.some.inj hyi
      have s4 : Same H3 (upd H3 T (.tup [.int (i : Nat), .int (l.getD i 0 : Nat)])) := same_upd hT
      have mem : l.getD i 0 ∈ l := by
        rw [List.getD_eq_getElem?_getD, List.getElem?_eq_getElem hi]
        exact List.getElem_mem hi
      have mb := bd _ mem
      refine ⟨T, _, rfl, .inl (.inl upd_same), rfl, _, _, rfl, _, _, rfl, rfl, rfl, yes_ite ?_⟩
      refine ⟨_, rfl, l.getD i 0, rfl, Nat.lt_of_lt_of_le (lt_pow mb) (Nat.pow_le_pow_right (by decide) (by decide)), fun o H5 no s5 ho => ?_⟩
      have s35 := s4.trans s5
      refine ⟨o, rfl, ⟨_, .inl (.inl ho)⟩, ?_⟩
      have b5 : ButD D H H5 := b3.more s35
      have oD : o ≠ D := fun z => by
        subst z
        rw [s4 _ _ h3] at no
        exact nomatch no
      refine lc_in (n := (onesL (l.getD i 0)).length) (fun j H6 => ButD D H5 H6 ∧ ∃ ys, H6 D = some (.lst ys) ∧ PrAll H6 ys ((List.range i).flatMap (rowP l) ++ (rowP l i).take j)) ⟨fun _ _ _ e => e, xs, s35 _ _ h3, by rw [List.take_zero, List.append_nil]; exact p3.same s35⟩ ?_ ?_
      · rintro H6 ⟨b6, ys, h6, p6⟩
        refine ⟨⟨_, .inl (.inl (b6 _ _ oD ho)), by rw [iN_len]; exact Nat.le_refl _⟩, ⟨fun c u ne e => b6 c u ne (b5 c u ne e), ys, h6, ?_⟩⟩
        have e1 : (rowP l i).take (onesL (l.getD i 0)).length = rowP l i := List.take_of_length_le (by unfold rowP; rw [List.length_map]; exact Nat.le_refl _)
        rw [e1] at p6
        rw [List.range_succ, List.flatMap_append, List.flatMap_cons, List.flatMap_nil, List.append_nil]
        exact p6
      · rintro j H6 hj ⟨b6, ys, h6, p6⟩
        have hj2 : j < (iN (onesL (l.getD i 0))).length := by rw [iN_len]; exact hj
        refine ⟨⟨_, _, .inl (.inl (b6 _ _ oD ho)), List.getElem?_eq_getElem hj2⟩, ?_⟩
        rintro x H7 ⟨rfl, hx⟩
        have hxj := hx _ (.inl (.inl (b6 _ _ oD ho)))
        rw [iN_at hj] at hxj
        obtain rfl := Option.some.inj hxj
        refine ⟨rfl, yes_ite ?_⟩
        refine ⟨_, rfl, _, rfl, (by show 2 ≤ sizeLine; decide), fun u hu => ?_⟩
        have s7 := same_upd (o := .tup [V.int (i : Nat), V.int ((onesL (l.getD i 0)).getD j 0 : Nat)]) hu
        have yl := Paired.length p6
        refine ⟨ys, s7 _ _ h6, ?_, (b6.more s7).put, _, upd_same, ?_⟩
        · rw [yl, List.length_append, sizeLine_eq]
          have f1 := flat_len l bd i
          have f2 : ((rowP l i).take j).length ≤ j := List.length_take_le _ _
          have f3 := ones_len mb
          omega
        · have e2 : (rowP l i).take (j + 1) = (rowP l i).take j ++ [(i, (onesL (l.getD i 0)).getD j 0)] := take_row i _ hj
          rw [e2, ← List.append_assoc]
          have bt : ButD D (upd H7 u (.tup [V.int (i : Nat), V.int ((onesL (l.getD i 0)).getD j 0 : Nat)])) (L2.upd (upd H7 u (.tup [V.int (i : Nat), V.int ((onesL (l.getD i 0)).getD j 0 : Nat)])) D (.lst (ys ++ [V.ref u]))) := ButD.start
          have dl : ∃ zs, upd H7 u (.tup [V.int (i : Nat), V.int ((onesL (l.getD i 0)).getD j 0 : Nat)]) D = some (.lst zs) := ⟨ys, s7 _ _ h6⟩
          refine PySem.Paired.snoc ((p6.same s7).but bt dl) ⟨u, rfl, bt _ _ (fun z => ?_) upd_same⟩
          subst z
          rw [hu] at h6
          exact nomatch h6
end
end L2.K24
end

section
set_option Elab.async false
set_option linter.all false
set_option maxRecDepth 100000
set_option maxHeartbeats 4000000
namespace L2.K24
open PySem PySem.Spec PyProof.Rows L2.Gd L2.Lv
theorem p100 {x : Nat} (h : x < 2 ^ 100) : x < 2 ^ 1000000 := Nat.lt_of_lt_of_le h (Nat.pow_le_pow_right (by decide) (by decide))
theorem lt100 {n m : Nat} (hn : n ≤ 100) (h : ∀ k, m.testBit k = true → k < n) : ∀ k, m.testBit k = true → k < 100 := fun k hk => Nat.lt_of_lt_of_le (h k hk) hn
section
variable {P : Program} {w : World} {K : PySem.W.Frag} {mg : Str → Option Value} {base : Heap} {C : Addr}
/-! ### image -/
def spImg : Sp := fun vs H Q _ => ∃ (a : Addr) (l : List Nat) (m n : Nat) (r : Rl), vs = [.ref a, .int m] ∧ H a = some (.lst (iN l)) ∧ Rep n l r ∧ n ≤ 100 ∧ (∀ k, m.testBit k = true → k < n) ∧
  ∀ (x : Nat) H', Same H H' → (∀ b, x.testBit b = true ↔ ∃ k, m.testBit k = true ∧ r k b) → Q (.int x) H'
def NIm : List Str := ["relation", "mask", "out", "place"]
theorem scImg : FnScope NIm ["relation", "mask"] (defScope (top 6)) := ⟨rfl, rfl, rfl, by decide +kernel, rfl, by decide +kernel, by decide +kernel⟩
theorem ok_img {f : Addr} {fd : FuncData} (F : Fun K "image" "image" (top 6) f fd) (n : Nm mg) (GO : Fn P w K mg base 1 "ones" ["bits"] spOnes) : FnOk P w K mg base CX0 2 f fd ["relation", "mask"] spImg := by
  refine F.ok scImg (fun vs H Q E h => ?_) (fun cdv A outer s H vs Q E hr h => ?_)
  · obtain ⟨a, l, m, k, r, rfl, _⟩ := h
    rfl
  · obtain ⟨a, l, m, k, r, rfl, ha, rp, k100, mb, q⟩ := h
    have N := scImg.nd
    refine ⟨_, pss_cons (ps_set (i := 2) N rfl (.inl rfl) pe_int)
      (pss_cons (ps_for PassesOwn.never rfl (pi_list (pe_fn GO hr (pa_cons (pv 1) pa_nil))) (pg_name (i := 3) N rfl (.inl rfl))
        (pss_one (ps_set (i := 2) N rfl (.inl rfl) (pe_op op_or (pv 2) (pe_ix ix_list (pv 0) (pv 3) (fun _ _ => rfl))))))
      (pss_one (ps_ret (pv 2)))), ?_⟩
    refine ⟨_, rfl, m, rfl, p100 (lt_pow (lt100 k100 mb)), fun o H1 no s1 ho => ?_⟩
    refine ⟨o, rfl, ⟨_, .inl (.inl ho)⟩, ?_⟩
    refine loop_of (n := (onesL m).length) (fun i σ H2 => ∃ (v3 : Option V) (x : Nat), σ = [some (.ref a), some (.int m), some (.int x), v3] ∧ Same H1 H2 ∧ ∀ b, x.testBit b = true ↔ ∃ k ∈ (onesL m).take i, r k b)
      ⟨none, 0, rfl, Same.refl, fun b => by simp⟩ ?_ ?_
    · rintro σ H2 ⟨v3, x, rfl, s2, hx⟩
      refine ⟨⟨_, .inl (.inl (s2 _ _ ho)), by rw [iN_len]; exact Nat.le_refl _⟩, ?_⟩
      rw [List.take_length] at hx
      exact ⟨_, rfl, q x H2 (s1.trans s2) fun b => by rw [hx]; exact ⟨fun ⟨k, h1, h2⟩ => ⟨k, mem_onesL.mp h1, h2⟩, fun ⟨k, h1, h2⟩ => ⟨k, mem_onesL.mpr h1, h2⟩⟩⟩
    · rintro i σ H2 hi ⟨v3, x, rfl, s2, hx⟩
      have hi2 : i < (iN (onesL m)).length := by rw [iN_len]; exact hi
      refine ⟨⟨_, _, .inl (.inl (s2 _ _ ho)), List.getElem?_eq_getElem hi2⟩, ?_⟩
      rintro v H3 ⟨rfl, hy⟩
      have hvi := hy _ (.inl (.inl (s2 _ _ ho)))
      rw [iN_at hi] at hvi
      obtain rfl := Option.some.inj hvi
      have hg : (onesL m).getD i 0 = (onesL m)[i] := by rw [List.getD_eq_getElem?_getD, List.getElem?_eq_getElem hi]; rfl
      have hp : (onesL m).getD i 0 < l.length := by
        rw [rp.len, hg]
        exact mb _ (mem_onesL.mp (List.getElem_mem hi))
      refine gn ?_
      refine ⟨_, rfl, _, rfl, _, rfl, a, iN l, _, _, rfl, rfl, .inl (.inl ((s1.trans s2) _ _ ha)), atI_nat (iN_at hp), _, _, rfl, rfl, ?_⟩
      refine ⟨some (.int ((onesL m).getD i 0 : Nat)), x ||| l.getD ((onesL m).getD i 0) 0, ?_, s2, fun b => ?_⟩
      · show [some (V.ref a), some (V.int m), some (V.int (Builtin.bitOr (x : Int) ((l.getD ((onesL m).getD i 0) 0 : Nat) : Int))), some (V.int ((onesL m).getD i 0 : Nat))] = _
        rw [or_nat]
      · rw [Nat.testBit_or, Bool.or_eq_true, hx, rp.bit, List.take_succ, List.getElem?_eq_getElem hi, hg]
        constructor
        · rintro (⟨k, h1, h2⟩ | h)
          · exact ⟨k, List.mem_append_left _ h1, h2⟩
          · exact ⟨_, List.mem_append_right _ (by simp), h⟩
        · rintro ⟨k, h1, h2⟩
          rcases List.mem_append.mp h1 with h1 | h1
          · exact .inl ⟨k, h1, h2⟩
          · have : k = (onesL m)[i] := by simpa using h1
            subst this
            exact .inr h2
/-! ### followed -/
def spFol : Sp := fun vs H Q _ => ∃ (a c : Addr) (l z : List Nat) (n : Nat) (r s : Rl), vs = [.ref a, .ref c] ∧ H a = some (.lst (iN l)) ∧ H c = some (.lst (iN z)) ∧ Rep n l r ∧ Rep n z s ∧ n ≤ 100 ∧ In n r ∧
  ∀ p H' y, H p = none → Same H H' → H' p = some (.lst (iN y)) → Rep n y (Cp r s) → Q (.ref p) H'
def NFo : List Str := ["one", "two", "mask"]
theorem scFol : FnScope NFo ["one", "two"] (defScope (top 7)) := ⟨rfl, rfl, rfl, by decide +kernel, rfl, by decide +kernel, by decide +kernel⟩
/-- masks of the first rows -/
structure RepT (n i : Nat) (l : List Nat) (r : Rl) : Prop where
  len : l.length = i
  bit : ∀ a b, (l.getD a 0).testBit b = true ↔ (a < i ∧ r a b)
theorem RepT.nil {n : Nat} {r : Rl} : RepT n 0 [] r := ⟨rfl, fun a b => by simp⟩
theorem RepT.snoc {n i : Nat} {l : List Nat} {r : Rl} (h : RepT n i l r) {x : Nat} (hx : ∀ b, x.testBit b = true ↔ r i b) : RepT n (i + 1) (l ++ [x]) r := by
  refine ⟨by rw [List.length_append, h.len]; rfl, fun a b => ?_⟩
  rw [List.getD_eq_getElem?_getD, List.getElem?_append, h.len]
  by_cases e : a < i
  · rw [if_pos e, ← List.getD_eq_getElem?_getD, h.bit]
    exact ⟨fun z => ⟨by omega, z.2⟩, fun z => ⟨e, z.2⟩⟩
  · rw [if_neg e]
    by_cases e2 : a = i
    · subst e2
      rw [Nat.sub_self]
      show x.testBit b = true ↔ _
      rw [hx]
      exact ⟨fun z => ⟨by omega, z⟩, fun z => z.2⟩
    · have : ([x] : List Nat)[a - i]? = none := by
        rw [List.getElem?_eq_none]
        simp
        omega
      rw [this]
      simp
      omega
theorem RepT.whole {n : Nat} {l : List Nat} {r : Rl} (h : RepT n n l r) (i : ∀ a b, r a b → a < n) : Rep n l r := ⟨h.len, fun a b => (h.bit a b).trans ⟨fun z => z.2, fun z => ⟨i a b z, z⟩⟩⟩
theorem ok_fol {f : Addr} {fd : FuncData} (F : Fun K "followed" "followed" (top 7) f fd) (n : Nm mg) (GI : Fn P w K mg base 2 "image" ["relation", "mask"] spImg) : FnOk P w K mg base CX0 3 f fd ["one", "two"] spFol := by
  refine F.ok scFol (fun vs H Q E h => ?_) (fun cdv A outer s H vs Q E hr h => ?_)
  · obtain ⟨a, c, l, z, k, r, t, rfl, _⟩ := h
    rfl
  · obtain ⟨a, c, l, z, k, r, t, rfl, ha, hc, rp, rz, k100, ir, q⟩ := h
    have N := scFol.nd
    refine ⟨_, pss_one (ps_ret (pe_lc (own := [("mask", 2)]) (g := gName 2) (tt := tYes) rfl N (pi_list (pv 0)) (blkOk_by (N := NFo) (sc := defScope (top 7)) (by decide +kernel)) (fun _ _ _ _ _ => pg_name (i := 2) N rfl (.inl rfl))
      (fun _ _ _ _ _ => pts_nil) (fun _ _ _ _ _ => pe_fn GI hr (pa_cons (pv 1) (pa_cons (pv 2) pa_nil))))), ?_⟩
    refine ⟨_, rfl, a, rfl, ⟨_, .inl (.inl ha)⟩, fun D hD => ?_⟩
    refine lc_gen (n := l.length) (fun i H3 => ButD D H H3 ∧ ∃ y, H3 D = some (.lst (iN y)) ∧ RepT k i y (Cp r t)) ⟨.start, [], upd_same, .nil⟩ ?_ ?_
    · rintro H3 ⟨b3, y, h3, ry⟩
      have s3 := b3.new hD
      rw [rp.len] at ry
      exact ⟨⟨_, .inl (.inl (s3 _ _ ha)), by rw [iN_len]; exact Nat.le_refl _⟩, q D H3 y hD s3 h3 (ry.whole fun a b ⟨x, h1, _⟩ => rp.fst h1)⟩
    · rintro i H3 hi ⟨b3, y, h3, ry⟩
      have s3 := b3.new hD
      have hi2 : i < (iN l).length := by rw [iN_len]; exact hi
      refine ⟨⟨_, _, .inl (.inl (s3 _ _ ha)), List.getElem?_eq_getElem hi2⟩, ?_⟩
      rintro x H4 ⟨rfl, hy⟩
      have hvi := hy _ (.inl (.inl (s3 _ _ ha)))
      rw [iN_at hi] at hvi
      obtain rfl := Option.some.inj hvi
      refine ⟨rfl, yes_ite ?_⟩
      refine ⟨_, rfl, _, rfl, c, z, l.getD i 0, k, t, rfl, s3 _ _ hc, rz, k100, ?_, fun x H5 s5 hx => ?_⟩
      · intro j hj
        exact (ir i j ((rp.bit i j).mp hj)).2
      · refine ⟨_, s5 _ _ h3, by rw [iN_len, ry.len, sizeLine_eq]; have := rp.len; omega, (b3.more s5).put, y ++ [x], by rw [upd_same, iN_app]; rfl, ry.snoc fun b => ?_⟩
        rw [hx]
        exact ⟨fun ⟨j, h1, h2⟩ => ⟨j, (rp.bit i j).mp h1, h2⟩, fun ⟨j, h1, h2⟩ => ⟨j, (rp.bit i j).mpr h1, h2⟩⟩
/-! ### joined -/
def spJoi : Sp := fun vs H Q _ => ∃ (a c : Addr) (l z : List Nat) (n : Nat) (r s : Rl), vs = [.ref a, .ref c] ∧ H a = some (.lst (iN l)) ∧ H c = some (.lst (iN z)) ∧ Rep n l r ∧ Rep n z s ∧ n ≤ 100 ∧
  ∀ p H' y, H p = none → Same H H' → H' p = some (.lst (iN y)) → Rep n y (Or2 r s) → Q (.ref p) H'
def NJo : List Str := ["one", "two", "place"]
theorem scJoi : FnScope NJo ["one", "two"] (defScope (top 8)) := ⟨rfl, rfl, rfl, by decide +kernel, rfl, by decide +kernel, by decide +kernel⟩
theorem ok_joi {f : Addr} {fd : FuncData} (F : Fun K "joined" "joined" (top 8) f fd) (n : Nm mg) : FnOk P w K mg base CX0 1 f fd ["one", "two"] spJoi := by
  refine F.ok scJoi (fun vs H Q E h => ?_) (fun cdv A outer s H vs Q E hr h => ?_)
  · obtain ⟨a, c, l, z, k, r, t, rfl, _⟩ := h
    rfl
  · obtain ⟨a, c, l, z, k, r, t, rfl, ha, hc, rp, rz, k100, q⟩ := h
    have N := scJoi.nd
    refine ⟨_, pss_one (ps_ret (pe_lc (own := [("place", 2)]) (g := gName 2) (tt := tYes) rfl N (pi_range1 (by rfl) n.range (pa_cons (pe_callB call_len_seq (by rfl) n.len PySem.boot_len (pa_cons (pv 0) pa_nil)) pa_nil)) (blkOk_by (N := NJo) (sc := defScope (top 8)) (by decide +kernel)) (fun _ _ _ _ _ => pg_name (i := 2) N rfl (.inl rfl))
      (fun _ _ _ _ _ => pts_nil) (fun _ _ _ _ _ => pe_op op_or (pe_ix (r := rIxL K) ix_list (pv 0) (pv 2) (fun _ _ => rfl)) (pe_ix (r := rIxL K) ix_list (pv 1) (pv 2) (fun _ _ => rfl))))), ?_⟩
    have ll : (iN l).length = k := by rw [iN_len, rp.len]
    refine ⟨_, rfl, a, _, rfl, .inl (.inl (.inl ha)), _, rfl, by rw [ll]; omega, by rw [ll]; omega, fun D hD => ?_⟩
    rw [ll]
    refine lc_range (lo := 0) (n := ((k : Int)).toNat) (fun i H3 => ButD D H H3 ∧ ∃ y, H3 D = some (.lst (iN y)) ∧ RepT k i y (Or2 r t)) ⟨.start, [], upd_same, .nil⟩ ?_ ?_
    · rintro i H3 hi ⟨b3, y, h3, ry⟩
      have s3 := b3.new hD
      have hik : i < k := by omega
      refine ⟨rfl, yes_ite ?_⟩
      have e0 : (0 : Int) + (i : Int) = (i : Int) := Int.zero_add _
      refine ⟨_, rfl, _, rfl, a, iN l, (0 : Int) + (i : Int), _, rfl, rfl, .inl (.inl (s3 _ _ ha)), by rw [e0]; exact atI_nat (iN_at (by rw [rp.len]; exact hik)), _, rfl, _, rfl, c, iN z, (0 : Int) + (i : Int), _, rfl, rfl, .inl (.inl (s3 _ _ hc)), by rw [e0]; exact atI_nat (iN_at (by rw [rz.len]; exact hik)), _, _, rfl, rfl, ?_⟩
      refine ⟨_, h3, by rw [iN_len, ry.len, sizeLine_eq]; omega, b3.put, y ++ [l.getD i 0 ||| z.getD i 0], ?_, ry.snoc fun b => ?_⟩
      · rw [upd_same, iN_app]
        show some (HO.lst (iN y ++ [V.int (Builtin.bitOr ((l.getD i 0 : Nat) : Int) ((z.getD i 0 : Nat) : Int))])) = _
        rw [or_nat]
        rfl
      · rw [Nat.testBit_or, Bool.or_eq_true, rp.bit, rz.bit]
        rfl
    · rintro H3 ⟨b3, y, h3, ry⟩
      rw [Int.toNat_natCast] at ry
      exact q D H3 y hD (b3.new hD) h3 (ry.whole fun a b h => h.elim (fun h => rp.fst h) fun h => rz.fst h)
end
end L2.K24
end

section
set_option Elab.async false
set_option linter.all false
set_option maxRecDepth 100000
set_option maxHeartbeats 4000000
namespace L2.K24
open PySem PySem.Spec PyProof.Rows L2.Gd L2.Lv
theorem bit_test (m i : Nat) : decide (V.int (Builtin.bitAnd ((m : Int) / 2 ^ ((i : Int)).toNat) 1) = V.int 1) = m.testBit i := by
  rw [shr_nat, show (1 : Int) = ((1 : Nat) : Int) from rfl, and_nat, Nat.and_one_is_mod, Nat.testBit_eq_decide_div_mod_eq]
  have e : ∀ k : Nat, (V.int ((k : Nat) : Int) = V.int ((1 : Nat) : Int)) = (k = 1) := fun k => by
    simp
    omega
  simp only [e]
theorem Wa.repl {r : Rl} {n i : Nat} {y z : List Nat} (hy : Rep n y (Wa r n i)) (hz : ∀ a b, (z.getD a 0).testBit b = true ↔ ((y.getD a 0).testBit b = true ∨ ((y.getD a 0).testBit i = true ∧ (y.getD i 0).testBit b = true))) (hl : z.length = n) : Rep n z (Wa r n (i + 1)) := by
  refine ⟨hl, fun a b => ?_⟩
  rw [hz, hy.bit, hy.bit, hy.bit]
  exact Iff.rfl
theorem wa_in {r : Rl} {n : Nat} (i : In n r) (m : Nat) (h : m ≤ n) : In n (Wa r n m) := fun a b z => Cl.inn a b (Wa.star i m a b h z)
/-! ### lists of ints as data -/
theorem ints_eqv : ∀ ns ms : List Int, PyData.eqvAll (ns.map PyData.int) (ms.map PyData.int) = decide (ns = ms)
  | [], [] => by simp [PyData.eqvAll]
  | [], _ :: _ => by simp [PyData.eqvAll]
  | _ :: _, [] => by simp [PyData.eqvAll]
  | x :: r, y :: t => by
    rw [List.map_cons, List.map_cons, PyData.eqvAll, ints_eqv r t]
    simp [PyData.eqv]
    rfl
theorem ints_lay : ∀ ns : List Int, PyData.canLayAll0 (ns.map PyData.int) = true
  | [] => by simp [PyData.canLayAll0]
  | x :: r => by simp [PyData.canLayAll0, PyData.canLay0, ints_lay r]
theorem ints_dep : ∀ ns : List Int, PyData.depthAll (ns.map PyData.int) = 0
  | [] => by simp [PyData.depthAll]
  | x :: r => by simp [PyData.depthAll, PyData.depth, ints_dep r]
theorem ints_shaped (ns : List Int) : SeqAt.shaped (.list (ns.map PyData.int)) = true := by
  show (PyData.canLay0 (.list (ns.map PyData.int)) && decide (PyData.depth (.list (ns.map PyData.int)) ≤ 64)) = true
  rw [Bool.and_eq_true]
  refine ⟨by simp only [PyData.canLay0]; exact ints_lay ns, decide_eq_true ?_⟩
  simp only [PyData.depth, ints_dep]
  decide
def intsD (l : List Nat) : PyData := .list ((l.map fun n : Nat => (n : Int)).map PyData.int)
theorem iN_ints (l : List Nat) : iN l = (l.map fun n : Nat => (n : Int)).map V.int := by
  unfold iN
  rw [List.map_map]
  rfl
theorem eqv_ints (l z : List Nat) : PyData.eqv (intsD l) (intsD z) = decide (l = z) := by
  unfold intsD
  rw [PyData.eqv, ints_eqv, Bool.eq_iff_iff, decide_eq_true_eq, decide_eq_true_eq]
  exact ⟨fun h => (List.map_inj_right fun a b h => Int.ofNat.inj h).mp h, fun h => by rw [h]⟩
section
variable {P : Program} {w : World} {K : PySem.W.Frag} {mg : Str → Option Value} {base : Heap} {C : Addr}
theorem dps_ints {H : Hp} : ∀ ns : List Int, DpAll K H (ns.map V.int) (ns.map PyData.int)
  | [] => .nil
  | n :: r => .cons (.int n) (dps_ints r)
theorem dp_ints {H : Hp} {a : Addr} {l : List Nat} (h : H a = some (.lst (iN l))) : Dp K H (.ref a) (intsD l) := by
  rw [iN_ints] at h
  exact .lst (.inl (.inl h)) (dps_ints _)
/-! ### closed -/
def spCl : Sp := fun vs H Q _ => ∃ (a : Addr) (l : List Nat) (n : Nat) (r : Rl), vs = [.ref a] ∧ H a = some (.lst (iN l)) ∧ Rep n l r ∧ n ≤ 100 ∧ In n r ∧
  ∀ p H' y, H p = none → Same H H' → H' p = some (.lst (iN y)) → Rep n y (Cl n r) → Q (.ref p) H'
def NCl : List Str := ["relation", "out", "middle", "more", "place", "mask"]
theorem scCl : FnScope NCl ["relation"] (defScope (top 9)) := ⟨rfl, rfl, rfl, by decide +kernel, rfl, by decide +kernel, by decide +kernel⟩
theorem rep_self {n i : Nat} {y l : List Nat} {r : Rl} (h : RepT n i y (fun a b => r a b ∨ (a = b ∧ a < n))) (hl : Rep n l r) : RepT n (i + 1) (y ++ [more (l.getD i 0) i]) (fun a b => r a b ∨ (a = b ∧ a < n)) ∨ ¬ i < n := by
  by_cases hi : i < n
  · refine .inl (h.snoc fun b => ?_)
    rw [more_bit, hl.bit]
    exact ⟨fun z => z.imp id fun z => ⟨z.symm, hi⟩, fun z => z.imp id fun z => z.1.symm⟩
  · exact .inr hi
theorem ok_cl {f : Addr} {fd : FuncData} (F : Fun K "closed" "closed" (top 9) f fd) (n : Nm mg) : FnOk P w K mg base CX0 1 f fd ["relation"] spCl := by
  refine F.ok scCl (fun vs H Q E h => ?_) (fun cdv A outer s H vs Q E hr h => ?_)
  · obtain ⟨a, l, k, r, rfl, _⟩ := h
    rfl
  · obtain ⟨a, l, k, r, rfl, ha, rp, k100, ir, q⟩ := h
    have N := scCl.nd
    refine ⟨_, pss_cons (ps_setLc (i := 1) (own := [("place", 4), ("mask", 5)]) (g := gTup K 2 (gCons (gName 4) (gCons (gName 5) gNil))) (tt := tYes) (by rfl) N rfl rfl (sw_true rfl rfl rfl (by decide +kernel)) (pi_enumA (by rfl) n.enumerate (pa_cons (pv 0) pa_nil)) (blkOk_by (N := NCl) (sc := defScope (top 9)) (by decide +kernel))
        (fun _ _ _ _ _ => pg_tup rfl (pgs_cons (pg_name (i := 4) N rfl (.inl rfl)) (pgs_cons (pg_name (i := 5) N rfl (.inl rfl)) pgs_nil)))
        (fun _ _ _ _ _ => pts_nil) (fun _ _ _ _ _ => pe_op op_or (pv 5) (pe_op op_shl pe_int (pv 4))))
      (pss_cons (ps_for PassesOwn.never rfl (pi_range1 (by rfl) n.range (pa_cons (pe_callB call_len_seq (by rfl) n.len PySem.boot_len (pa_cons (pv 1) pa_nil)) pa_nil)) (pg_name (i := 2) N rfl (.inr rfl))
        (pss_cons (ps_set (i := 3) N rfl (.inr rfl) (pe_ix ix_list (pv 1) (pv 2) (fun _ _ => rfl)))
        (pss_one (ps_setLc (i := 1) (own := [("mask", 5)]) (g := gName 5) (tt := tYes) (by rfl) N rfl rfl (sw_true rfl rfl rfl (by decide +kernel)) (pi_list (pv 1)) (blkOk_by (N := NCl) (sc := defScope (top 9)) (by decide +kernel))
          (fun _ _ _ _ _ => pg_name (i := 5) N rfl (.inl rfl)) (fun _ _ _ _ _ => pts_nil)
          (fun _ _ _ _ _ => pe_ifExp (pt_cmpR op_eq (pe_op op_and (pe_op op_shr (pv 5) (pv 2)) pe_int) pe_int (nomark _)) (pe_op op_or (pv 5) (pv 3)) (pv 5))))))
      (pss_one (ps_ret (pv 1)))), ?_⟩
    refine seqV (Good := fun σ2 H2 => ∃ (o : Addr) (y : List Nat), H o = none ∧ Same H H2 ∧ H2 o = some (.lst (iN y)) ∧ Rep k y (Wa r k 0) ∧ σ2 = [some (.ref a), some (.ref o), none, none, none, none]) ?_ ?_
    · intro nx hnx
      refine ⟨_, rfl, a, iN l, rfl, .inl ⟨.inl (.inl ha), fun D hD => ?_⟩⟩
      refine lc_gen (n := l.length) (fun i H3 => ButD D H H3 ∧ ∃ y, H3 D = some (.lst (iN y)) ∧ RepT k i y (fun a b => r a b ∨ (a = b ∧ a < k))) ⟨.start, [], upd_same, .nil⟩ ?_ ?_
      · rintro H3 ⟨b3, y, h3, ry⟩
        have s3 := b3.new hD
        rw [rp.len] at ry
        exact ⟨⟨_, .inl (.inl (s3 _ _ ha)), by rw [iN_len]; exact Nat.le_refl _⟩, hnx _ _ ⟨D, y, hD, s3, h3, ry.whole fun a b h => h.elim (fun h => rp.fst h) fun h => h.2, rfl⟩⟩
      · rintro i H3 hi ⟨b3, y, h3, ry⟩
        have s3 := b3.new hD
        have hi2 : i < (iN l).length := by rw [iN_len]; exact hi
        have hik : i < k := by rw [← rp.len]; exact hi
        refine ⟨⟨_, _, .inl (.inl (s3 _ _ ha)), List.getElem?_eq_getElem hi2⟩, ?_⟩
        rintro x H' ⟨T, v, rfl, hT, rfl, hy⟩
        have hyi := hy _ (.inl (.inl (s3 _ _ ha)))
        rw [iN_at hi] at hyi
        obtain rfl := Option.some.inj hyi
        have s4 : Same H3 (upd H3 T (.tup [.int (i : Nat), .int (l.getD i 0 : Nat)])) := same_upd hT
        refine ⟨T, _, rfl, .inl (.inl upd_same), rfl, _, _, rfl, _, _, rfl, rfl, rfl, yes_ite ?_⟩
        refine ⟨_, rfl, _, rfl, _, _, rfl, rfl, ⟨by omega, by omega, by decide⟩, _, _, rfl, rfl, ?_⟩
        refine ⟨_, s4 _ _ h3, by rw [iN_len, ry.len, sizeLine_eq]; omega, (b3.more s4).put, y ++ [more (l.getD i 0) i], ?_, (rep_self ry rp).resolve_right (fun z => z hik)⟩
        rw [upd_same, iN_app]
        show some (HO.lst (iN y ++ [V.int (Builtin.bitOr ((l.getD i 0 : Nat) : Int) ((1 : Int) * 2 ^ ((i : Int)).toNat))])) = _
        rw [shl_nat, or_nat]
        rfl
    rintro _ H1 ⟨o1, y1, no1, s1, ho1, ry1, rfl⟩
    have ll : (iN y1).length = k := by rw [iN_len, ry1.len]
    refine ⟨_, rfl, o1, _, rfl, .inl (.inl (.inl ho1)), ?_⟩
    rw [ll]
    refine ⟨_, rfl, by omega, by omega, for_range (lo := 0) (n := ((k : Int)).toNat) (fun i σ H2 => ∃ (o : Addr) (y : List Nat) (v2 v3 : Option V), H o = none ∧ Same H H2 ∧ H2 o = some (.lst (iN y)) ∧ Rep k y (Wa r k i) ∧ σ = [some (.ref a), some (.ref o), v2, v3, none, none])
      ⟨o1, y1, none, none, no1, s1, ho1, ry1, rfl⟩ ?_ ?_⟩
    · rintro i σ H2 hi ⟨o, y, v2, v3, no, s2, ho, ry, rfl⟩
      have hik : i < k := by omega
      have e0 : (0 : Int) + (i : Int) = (i : Int) := Int.zero_add _
      refine gn ?_
      rw [e0]
      have hyl : i < y.length := by rw [ry.len]; exact hik
      refine ⟨_, rfl, _, rfl, o, iN y, _, _, rfl, rfl, .inl (.inl ho), atI_nat (iN_at hyl), ?_⟩
      refine ⟨_, rfl, o, rfl, ⟨_, .inl (.inl ho)⟩, fun D hD => ?_⟩
      refine lc_gen (n := y.length) (fun j H3 => ButD D H2 H3 ∧ ∃ z, H3 D = some (.lst (iN z)) ∧ RepT k j z (Wa r k (i + 1))) ⟨.start, [], upd_same, .nil⟩ ?_ ?_
      · rintro H3 ⟨b3, z, h3, rz⟩
        have s3 := b3.new hD
        rw [ry.len] at rz
        refine ⟨⟨_, .inl (.inl (s3 _ _ ho)), by rw [iN_len]; exact Nat.le_refl _⟩, ⟨D, z, _, _, s2.free hD, s2.trans s3, h3, rz.whole fun a b h => ?_, rfl⟩⟩
        exact ((wa_in ir (i + 1) (by omega) a b h)).1
      · rintro j H3 hj ⟨b3, z, h3, rz⟩
        have s3 := b3.new hD
        have hj2 : j < (iN y).length := by rw [iN_len]; exact hj
        refine ⟨⟨_, _, .inl (.inl (s3 _ _ ho)), List.getElem?_eq_getElem hj2⟩, ?_⟩
        rintro x H4 ⟨rfl, hx⟩
        have hxj := hx _ (.inl (.inl (s3 _ _ ho)))
        rw [iN_at hj] at hxj
        obtain rfl := Option.some.inj hxj
        refine ⟨rfl, yes_ite ?_⟩
        refine ⟨_, rfl, _, rfl, _, _, rfl, rfl, (by omega), _, _, rfl, rfl, rfl, _, congrArg V.bl (bit_test (y.getD j 0) i), ?_⟩
        have hb := ry.bit j i
        have wn : ∀ b, (Wa r k (i + 1)) j b ↔ (Wa r k i j b ∨ (Wa r k i j i ∧ Wa r k i i b)) := fun b => Iff.rfl
        cases ht : (y.getD j 0).testBit i with
        | true =>
          refine iteT ⟨_, rfl, _, rfl, _, _, rfl, rfl, ?_⟩
          refine ⟨_, h3, by rw [iN_len, rz.len, sizeLine_eq]; have := ry.len; omega, b3.put, z ++ [y.getD j 0 ||| y.getD i 0], ?_, rz.snoc fun b => ?_⟩
          · rw [upd_same, iN_app]
            show some (HO.lst (iN z ++ [V.int (Builtin.bitOr ((y.getD j 0 : Nat) : Int) ((y.getD i 0 : Nat) : Int))])) = _
            rw [or_nat]
            rfl
          · rw [Nat.testBit_or, Bool.or_eq_true, ry.bit, ry.bit, wn]
            exact ⟨fun q => q.imp id fun q => ⟨hb.mp ht, q⟩, fun q => q.imp id fun q => q.2⟩
        | false =>
          refine iteF ⟨_, rfl, _, h3, by rw [iN_len, rz.len, sizeLine_eq]; have := ry.len; omega, b3.put, z ++ [y.getD j 0], ?_, rz.snoc fun b => ?_⟩
          · rw [upd_same, iN_app]
            rfl
          · rw [ry.bit, wn]
            refine ⟨.inl, fun q => q.elim id fun q => ?_⟩
            rw [hb.mpr q.1] at ht
            exact nomatch ht
    · rintro σ H2 ⟨o, y, v2, v3, no, s2, ho, ry, rfl⟩
      rw [Int.toNat_natCast] at ry
      exact ⟨_, rfl, q o H2 y no s2 ho (ry.iff (wa_cl ir))⟩
end
end L2.K24
end

section
set_option linter.all false
namespace L2.Lv
/-! Counting: a chain of relations that grows strictly is short. -/
def sq (n : Nat) : List (Nat × Nat) := (List.range n).flatMap fun a => (List.range n).map fun b => (a, b)
theorem sq_len (n : Nat) : (sq n).length = n * n := by
  unfold sq
  have : ∀ k, ((List.range k).flatMap fun a => (List.range n).map fun b => (a, b)).length = k * n := by
    intro k
    induction k with
    | zero => simp
    | succ k ih => rw [List.range_succ, List.flatMap_append, List.length_append, ih]; simp [Nat.succ_mul]
  exact this n
theorem mem_sq {n a b : Nat} : (a, b) ∈ sq n ↔ a < n ∧ b < n := by
  unfold sq
  simp only [List.mem_flatMap, List.mem_map, List.mem_range, Prod.mk.injEq]
  constructor
  · rintro ⟨x, hx, y, hy, rfl, rfl⟩
    exact ⟨hx, hy⟩
  · rintro ⟨h1, h2⟩
    exact ⟨a, h1, b, h2, rfl, rfl⟩
def has (l : List Nat) (p : Nat × Nat) : Bool := (l.getD p.1 0).testBit p.2
def cnt (n : Nat) (l : List Nat) : Nat := (sq n).countP (has l)
theorem cnt_le (n : Nat) (l : List Nat) : cnt n l ≤ n * n := by
  rw [← sq_len n]
  exact List.countP_le_length
theorem countP_lt {α : Type} {p q : α → Bool} {x : α} : ∀ {l : List α}, (∀ a ∈ l, p a = true → q a = true) → x ∈ l → p x = false → q x = true → l.countP p < l.countP q
  | [], _, h, _, _ => nomatch h
  | y :: r, i, h, px, qx => by
    have mono : r.countP p ≤ r.countP q := List.countP_mono_left fun a ha => i a (List.mem_cons_of_mem _ ha)
    rcases List.mem_cons.mp h with rfl | h
    · rw [List.countP_cons_of_neg (by rw [px]; decide), List.countP_cons_of_pos qx]
      omega
    · have ih := countP_lt (fun a ha => i a (List.mem_cons_of_mem _ ha)) h px qx
      by_cases py : p y = true
      · rw [List.countP_cons_of_pos py, List.countP_cons_of_pos (i y List.mem_cons_self py)]
        omega
      · rw [List.countP_cons_of_neg py]
        have := List.countP_le_length (p := q) (l := r)
        by_cases qy : q y = true
        · rw [List.countP_cons_of_pos qy]
          omega
        · rw [List.countP_cons_of_neg qy]
          exact ih
theorem cnt_lt {n : Nat} {l z : List Nat} {r s : Rl} (hl : Rep n l r) (hz : Rep n z s) (i : In n s) (h : Sub r s) (ne : l ≠ z) : cnt n l < cnt n z := by
  have : ∃ a b, s a b ∧ ¬ r a b := Classical.byContradiction fun c => ne ((hl.ext hz).mpr fun a b => ⟨h a b, fun x => Classical.byContradiction fun y => c ⟨a, b, x, y⟩⟩)
  obtain ⟨a, b, x, y⟩ := this
  refine countP_lt (x := (a, b)) (fun p _ hp => (hz.bit _ _).mpr (h _ _ ((hl.bit _ _).mp hp))) (mem_sq.mpr (i a b x)) ?_ ((hz.bit _ _).mpr x)
  cases e : has l (a, b) with
  | false => rfl
  | true => exact absurd ((hl.bit _ _).mp e) y
end L2.Lv
namespace L2.Lv
/-! every relation has masks -/
def bitsOf (l : List Nat) : Nat := l.foldr (fun b x => x ||| 2 ^ b) 0
theorem bitsOf_bit (b : Nat) : ∀ l : List Nat, (bitsOf l).testBit b = true ↔ b ∈ l
  | [] => by simp [bitsOf]
  | c :: r => by
    show (bitsOf r ||| 2 ^ c).testBit b = true ↔ _
    rw [Nat.testBit_or, Nat.testBit_two_pow, Bool.or_eq_true, decide_eq_true_eq, bitsOf_bit b r, List.mem_cons]
    exact ⟨fun h => h.elim .inr fun e => .inl e.symm, fun h => h.elim (fun e => .inr e.symm) .inl⟩
open Classical in
noncomputable def repOf (n : Nat) (r : Rl) : List Nat := (List.range n).map fun a => bitsOf ((List.range n).filter fun b => decide (r a b))
open Classical in
theorem repOf_ok {n : Nat} {r : Rl} (i : In n r) : Rep n (repOf n r) r := by
  refine ⟨by simp [repOf], fun a b => ?_⟩
  unfold repOf
  rw [List.getD_eq_getElem?_getD, List.getElem?_map]
  by_cases h : a < n
  · rw [List.getElem?_range h]
    show (bitsOf _).testBit b = true ↔ _
    rw [bitsOf_bit, List.mem_filter, List.mem_range, decide_eq_true_eq]
    exact ⟨fun z => z.2, fun z => ⟨(i a b z).2, z⟩⟩
  · rw [List.getElem?_eq_none (by rw [List.length_range]; omega)]
    exact ⟨fun z => by simp at z, fun z => absurd (i a b z).1 h⟩
theorem least_of {p : Nat → Prop} : ∀ (m : Nat), p m → ∃ k, k ≤ m ∧ p k ∧ ∀ j, j < k → ¬ p j := by
  intro m
  induction m using Nat.strongRecOn with
  | _ m ih =>
    intro h
    by_cases c : ∃ j, j < m ∧ p j
    · obtain ⟨j, hj, pj⟩ := c
      obtain ⟨k, h1, h2, h3⟩ := ih j hj pj
      exact ⟨k, by omega, h2, h3⟩
    · exact ⟨m, Nat.le_refl m, h, fun j hj pj => c ⟨j, hj, pj⟩⟩
def Stops (f : Nat → Rl) (k : Nat) : Prop := ∀ a b, f (k + 1) a b ↔ f k a b
theorem chain {n : Nat} {f : Nat → Rl} (i : ∀ k, In n (f k)) (h : ∀ k, Sub (f k) (f (k + 1))) : ∃ m, m ≤ n * n ∧ Stops f m ∧ ∀ j, j < m → ¬ Stops f j := by
  have key : ∀ k, (∃ m, m < k ∧ Stops f m) ∨ k ≤ cnt n (repOf n (f k)) := by
    intro k
    induction k with
    | zero => exact .inr (Nat.zero_le _)
    | succ k ih =>
      rcases ih with ⟨m, h1, h2⟩ | ih
      · exact .inl ⟨m, by omega, h2⟩
      · by_cases c : Stops f k
        · exact .inl ⟨k, by omega, c⟩
        · refine .inr ?_
          have := cnt_lt (repOf_ok (i k)) (repOf_ok (i (k + 1))) (i (k + 1)) (h k) (fun e => c fun a b => (((repOf_ok (i k)).ext (repOf_ok (i (k + 1)))).mp e a b).symm)
          omega
  have : ∃ m, m < n * n + 1 ∧ Stops f m := (key (n * n + 1)).resolve_right fun z => by
    have := cnt_le n (repOf n (f (n * n + 1)))
    omega
  obtain ⟨m, h1, h2⟩ := this
  obtain ⟨k, k1, k2, k3⟩ := least_of m h2
  exact ⟨k, by omega, k2, k3⟩
section
variable {n : Nat} {U F D : Rl}
theorem ov_in (iu : In n U) (i : In n F) (id : In n D) : In n (Ov n U F D) := i.or ((iu.cp gr_in).cp id)
theorem gr_bound : ∃ M, M ≤ n * n ∧ Sub (Gr n U F D) (Hk n U F D M) := by
  obtain ⟨m, h1, h2, _⟩ := chain (f := Hk n U F D) hk_in hk_succ
  exact ⟨m, h1, hk_stop fun a b => (h2 a b).mp⟩
/-- the levels, by walking under the roof -/
theorem level_walk (iu : In n U) (i : In n F) (id : In n D) {k cap a b : Nat} (hc : k + n * n ≤ cap) (ha : a < n) : Le n U F D k a b ↔ Re cap U F D (a, k) (b, k) := by
  obtain ⟨M, h1, h2⟩ := gr_bound (n := n) (U := U) (F := F) (D := D)
  exact ⟨fun h => re_mono (by omega) (re_le iu i id h2 k h), fun h => re_level iu i id ha h⟩
theorem le_chain (i : In n F) : ∃ m, m ≤ n * n ∧ Stops (Le n U F D) m ∧ ∀ j, j < m → ¬ Stops (Le n U F D) j := chain le_in (le_succ i)
/-! turned -/
theorem star_tr {r s : Rl} (h : ∀ a b, r a b → s b a) {a b : Nat} (k : Star r a b) : Star s b a := by
  induction k with
  | refl a => exact .refl a
  | step x _ ih => exact ih.trans (.one (h _ _ x))
theorem cl_tr {r s : Rl} (h : ∀ a b, r a b → s b a) {a b : Nat} (k : Cl n r a b) : Cl n s b a := ⟨k.2.1, k.1, star_tr h k.2.2⟩
theorem cp_tr {r s r' s' : Rl} (h : ∀ a b, r a b → r' b a) (i : ∀ a b, s a b → s' b a) {a b : Nat} (k : Cp r s a b) : Cp s' r' b a := let ⟨x, p, q⟩ := k; ⟨x, i _ _ q, h _ _ p⟩
theorem cp3_tr {r s t r' s' t' : Rl} (h : ∀ a b, r a b → r' b a) (i : ∀ a b, s a b → s' b a) (j : ∀ a b, t a b → t' b a) {a b : Nat} (k : Cp (Cp r s) t a b) : Cp (Cp t' s') r' b a :=
  let ⟨y, ⟨x, p, q⟩, z⟩ := k; ⟨x, ⟨y, j _ _ z, i _ _ q⟩, h _ _ p⟩
theorem hk_tr : ∀ (k : Nat) {a b : Nat}, Hk n U F D k a b → Hk n (Tr D) (Tr F) (Tr U) k b a
  | 0, _, _, h => cl_tr (fun _ _ z => z) h
  | k + 1, _, _, h => cl_tr (fun a b z => z.imp (fun z => hk_tr k z) fun z => cp3_tr (fun _ _ z => z) (fun a b z => hk_tr k z) (fun _ _ z => z) z) h
theorem gr_tr {a b : Nat} (h : Gr n U F D a b) : Gr n (Tr D) (Tr F) (Tr U) b a := let ⟨k, h⟩ := h; ⟨k, hk_tr k h⟩
theorem ov_tr {a b : Nat} (h : Ov n U F D a b) : Ov n (Tr D) (Tr F) (Tr U) b a := h.imp id fun z => cp3_tr (fun _ _ z => z) (fun a b z => gr_tr z) (fun _ _ z => z) z
theorem le_tr : ∀ (k : Nat) {a b : Nat}, Le n U F D k a b → Le n (Tr D) (Tr F) (Tr U) k b a
  | 0, _, _, h => gr_tr h
  | k + 1, _, _, h => cl_tr (fun a b z => z.imp (fun z => ov_tr z) fun z => cp3_tr (fun _ _ z => z) (fun a b z => le_tr k z) (fun _ _ z => z) z) h
theorem le_tr_iff (k a b : Nat) : Le n (Tr D) (Tr F) (Tr U) k b a ↔ Le n U F D k a b := ⟨fun h => le_tr k h, fun h => le_tr k h⟩
theorem gr_tr_iff (a b : Nat) : Gr n (Tr D) (Tr F) (Tr U) b a ↔ Gr n U F D a b := ⟨fun h => gr_tr h, fun h => gr_tr h⟩
end
end L2.Lv
end

section
set_option Elab.async false
set_option linter.all false
set_option maxRecDepth 100000
set_option maxHeartbeats 4000000
namespace L2.K24
open PySem PySem.Spec PyProof.Rows L2.Gd L2.Lv
section
variable {P : Program} {w : World} {K : PySem.W.Frag} {mg : Str → Option Value} {base : Heap} {C : Addr}
/-- what the relations' functions are -/
structure RelK (P : Program) (w : World) (K : PySem.W.Frag) (mg : Str → Option Value) (base : Heap) : Prop where
  cl : Fn P w K mg base 1 "closed" ["relation"] spCl
  jo : Fn P w K mg base 1 "joined" ["one", "two"] spJoi
  fo : Fn P w K mg base 3 "followed" ["one", "two"] spFol
/-- the three relations -/
structure Udf (n : Nat) (U F D : Rl) (H : Hp) (u f d : Addr) (lu lf ld : List Nat) : Prop where
  u : H u = some (.lst (iN lu))
  f : H f = some (.lst (iN lf))
  d : H d = some (.lst (iN ld))
  ru : Rep n lu U
  rf : Rep n lf F
  rd : Rep n ld D
  iu : In n U
  if_ : In n F
  id : In n D
  n100 : n ≤ 100
theorem Udf.same {n : Nat} {U F D : Rl} {H H' : Hp} {u f d : Addr} {lu lf ld : List Nat} (h : Udf n U F D H u f d lu lf ld) (s : Same H H') : Udf n U F D H' u f d lu lf ld :=
  ⟨s _ _ h.u, s _ _ h.f, s _ _ h.d, h.ru, h.rf, h.rd, h.iu, h.if_, h.id, h.n100⟩
def spGro : Sp := fun vs H Q _ => ∃ (u f d : Addr) (lu lf ld : List Nat) (n : Nat) (U F D : Rl), vs = [.ref u, .ref f, .ref d] ∧ Udf n U F D H u f d lu lf ld ∧
  ∀ p H' y, H p = none → Same H H' → H' p = some (.lst (iN y)) → Rep n y (Gr n U F D) → Q (.ref p) H'
def NGr : List Str := ["ups", "flats", "downs", "ground", "more"]
theorem scGro : FnScope NGr ["ups", "flats", "downs"] (defScope (top 12)) := ⟨rfl, rfl, rfl, by decide +kernel, rfl, by decide +kernel, by decide +kernel⟩
theorem ok_gro {f : Addr} {fd : FuncData} (Fu : Fun K "ground_of" "ground_of" (top 12) f fd) (k : RelK P w K mg base) : FnOk P w K mg base CX0 4 f fd ["ups", "flats", "downs"] spGro := by
  refine Fu.ok scGro (fun vs H Q E h => ?_) (fun cdv A outer s H vs Q E hr h => ?_)
  · obtain ⟨u, f, d, lu, lf, ld, n, U, F, D, rfl, _⟩ := h
    rfl
  · obtain ⟨u, f, d, lu, lf, ld, n, U, F, D, rfl, g, q⟩ := h
    have N := scGro.nd
    have r1 := hr.mono (k := 3) (j := 1) (by decide)
    refine ⟨_, pss_cons (ps_set (i := 3) N rfl (.inl rfl) (pe_fn k.cl r1 (pa_cons (pv 1) pa_nil)))
      (pss_one (ps_while PassesOwn.never (pt_val pe_bl)
        (pss_cons (ps_set (i := 4) N rfl (.inl rfl) (pe_fn k.cl r1 (pa_cons (pe_fn k.jo r1 (pa_cons (pv 3) (pa_cons (pe_fn k.fo hr (pa_cons (pe_fn k.fo hr (pa_cons (pv 0) (pa_cons (pv 3) pa_nil))) (pa_cons (pv 2) pa_nil))) pa_nil))) pa_nil)))
        (pss_cons (ps_if (pt_cmpR (op_eqD hr.units) (pv 4) (pv 3) (nomark _)) (pss_one (ps_ret (pv 3))) pss_nil)
        (pss_one (ps_set (i := 3) N rfl (.inl rfl) (pv 4))))))), ?_⟩
    refine ⟨_, rfl, f, lf, n, F, rfl, g.f, g.rf, g.n100, g.if_, fun g0 H1 y0 ng s1 hg rg => ?_⟩
    refine ⟨fun m σ H2 => ∃ (p : Addr) (y : List Nat) (j : Nat) (v4 : Option V), m = n * n - j ∧ σ = [some (.ref u), some (.ref f), some (.ref d), some (.ref p), v4] ∧ H p = none ∧ Same H H2 ∧ H2 p = some (.lst (iN y)) ∧ Rep n y (Hk n U F D j) ∧ j ≤ Lv.cnt n y,
      ⟨n * n - 0, g0, _, 0, none, rfl, rfl, ng, s1, hg, rg, Nat.zero_le _⟩, ?_⟩
    rintro m σ H2 ⟨p, y, j, v4, rfl, rfl, np, s2, hp, rp, jc⟩
    have g2 := g.same s2
    refine ⟨true, rfl, iteT ?_⟩
    refine ⟨_, fun σ' H' h => h, ?_⟩
    -- more
    refine seqV (Good := fun σ3 H3 => ∃ (o : Addr) (z : List Nat), H2 o = none ∧ Same H2 H3 ∧ H3 o = some (.lst (iN z)) ∧ Rep n z (Hk n U F D (j + 1)) ∧ σ3 = [some (.ref u), some (.ref f), some (.ref d), some (.ref p), some (.ref o)]) ?_ ?_
    · intro nx hnx
      refine ⟨_, rfl, _, rfl, _, rfl, u, p, lu, y, n, U, Hk n U F D j, rfl, g2.u, hp, g2.ru, rp, g.n100, g.iu, fun a1 H3 _ _ s3 h3 r3 => ?_⟩
      refine ⟨_, rfl, a1, d, _, ld, n, _, D, rfl, h3, (g2.same s3).d, r3, g.rd, g.n100, g.iu.cp (hk_in j), fun a2 H4 _ _ s4 h4 r4 => ?_⟩
      refine ⟨p, a2, y, _, n, _, _, rfl, s4 _ _ (s3 _ _ hp), h4, rp, r4, g.n100, fun a3 H5 _ _ s5 h5 r5 => ?_⟩
      refine ⟨a3, _, n, _, rfl, h5, r5, g.n100, (hk_in j).or ((g.iu.cp (hk_in j)).cp g.id), fun a4 H6 _ n6 s6 h6 r6 => ?_⟩
      have s26 := s3.trans (s4.trans (s5.trans s6))
      exact hnx _ _ ⟨a4, _, (s3.trans (s4.trans s5)).free n6, s26, h6, r6, rfl⟩
    rintro _ H3 ⟨o, z, no, s3, ho, rz, rfl⟩
    have hp3 := s3 _ _ hp
    refine seqV (Good := fun σ4 H4 => y ≠ z ∧ H4 = H3 ∧ σ4 = [some (.ref u), some (.ref f), some (.ref d), some (.ref p), some (.ref o)]) ?_ ?_
    · intro nx hnx
      refine ⟨_, rfl, _, rfl, _, _, dp_ints ho, dp_ints hp3, ints_shaped _, ints_shaped _, _, congrArg V.bl (eqv_ints z y), ?_⟩
      by_cases e : z = y
      · rw [decide_eq_true e]
        refine iteT ⟨_, rfl, q p H3 y np (s2.trans s3) hp3 (rp.iff fun a b => ?_)⟩
        subst e
        exact (gr_eq ((rz.ext rp).mp rfl) a b).symm
      · rw [decide_eq_false e]
        exact iteF (hnx _ _ ⟨fun z => e z.symm, rfl, rfl⟩)
    rintro _ _ ⟨ne, rfl, rfl⟩
    have cl := cnt_lt rp rz (hk_in (j + 1)) (hk_succ j) ne
    have cz := cnt_le n z
    exact ⟨_, rfl, n * n - (j + 1), by omega, o, z, j + 1, some (.ref o), rfl, rfl, s2.free no, s2.trans s3, ho, rz, by omega⟩
end
end L2.K24
end

section
set_option Elab.async false
set_option linter.all false
set_option maxRecDepth 100000
set_option maxHeartbeats 4000000
namespace L2.K24
open PySem PySem.Spec PyProof.Rows L2.Gd L2.Lv
/-- lists of masks, apart from the list that holds them -/
def MsAt (p : Addr) (H : Hp) (v : V) (y : List Nat) : Prop := ∃ a, v = .ref a ∧ a ≠ p ∧ H a = some (.lst (iN y))
def MsAll (p : Addr) (H : Hp) (vs : List V) (ys : List (List Nat)) : Prop := Paired (MsAt p H) vs ys
theorem MsAll.but {p : Addr} {H H' : Hp} {vs : List V} {ys : List (List Nat)} (b : ButD p H H') (h : MsAll p H vs ys) : MsAll p H' vs ys := Paired.mapP h fun _ _ ⟨a, e, ne, q⟩ => ⟨a, e, ne, b _ _ ne q⟩
section
variable {P : Program} {w : World} {K : PySem.W.Frag} {mg : Str → Option Value} {base : Heap} {C : Addr}
/-- the levels' masks, up to the first one that is like the next one -/
structure LeOk (n : Nat) (U F D : Rl) (ys : List (List Nat)) (m : Nat) : Prop where
  len : ys.length = m + 1
  rep : ∀ k y, ys[k]? = some y → Rep n y (Le n U F D k)
  stop : Stops (Le n U F D) m
  go : ∀ j, j < m → ¬ Stops (Le n U F D) j
def spGra : Sp := fun vs H Q _ => ∃ (u f d : Addr) (lu lf ld : List Nat) (n : Nat) (U F D : Rl), vs = [.ref u, .ref f, .ref d] ∧ Udf n U F D H u f d lu lf ld ∧
  ∀ p H' xs ys m, H p = none → Same H H' → H' p = some (.lst xs) → MsAll p H' xs ys → LeOk n U F D ys m → m ≤ n * n → Q (.ref p) H'
def NGa : List Str := ["ups", "flats", "downs", "ground", "over", "out", "more"]
theorem scGra : FnScope NGa ["ups", "flats", "downs"] (defScope (top 13)) := ⟨rfl, rfl, rfl, by decide +kernel, rfl, by decide +kernel, by decide +kernel⟩
theorem ok_gra {f : Addr} {fd : FuncData} (Fu : Fun K "grades_of" "grades_of" (top 13) f fd) (k : RelK P w K mg base) (GG : Fn P w K mg base 4 "ground_of" ["ups", "flats", "downs"] spGro) : FnOk P w K mg base CX0 5 f fd ["ups", "flats", "downs"] spGra := by
  refine Fu.ok scGra (fun vs H Q E h => ?_) (fun cdv A outer s H vs Q E hr h => ?_)
  · obtain ⟨u, f, d, lu, lf, ld, n, U, F, D, rfl, _⟩ := h
    rfl
  · obtain ⟨u, f, d, lu, lf, ld, n, U, F, D, rfl, g, q⟩ := h
    have N := scGra.nd
    have r1 := hr.mono (k := 4) (j := 1) (by decide)
    have r3 := hr.mono (k := 4) (j := 3) (by decide)
    refine ⟨_, pss_cons (ps_set (i := 3) N rfl (.inl rfl) (pe_fn GG hr (pa_cons (pv 0) (pa_cons (pv 1) (pa_cons (pv 2) pa_nil)))))
      (pss_cons (ps_set (i := 4) N rfl (.inl rfl) (pe_fn k.jo r1 (pa_cons (pv 1) (pa_cons (pe_fn k.fo r3 (pa_cons (pe_fn k.fo r3 (pa_cons (pv 0) (pa_cons (pv 3) pa_nil))) (pa_cons (pv 2) pa_nil))) pa_nil))))
      (pss_cons (ps_set (i := 5) N rfl (.inl rfl) (pe_lst (pa_cons (pv 3) pa_nil)))
      (pss_one (ps_while PassesOwn.never (pt_val pe_bl)
        (pss_cons (ps_set (i := 6) N rfl (.inl rfl) (pe_fn k.cl r1 (pa_cons (pe_fn k.jo r1 (pa_cons (pv 4) (pa_cons (pe_fn k.fo r3 (pa_cons (pe_fn k.fo r3 (pa_cons (pv 2) (pa_cons (pe_ix ix_list (pv 5) (pe_un un_neg pe_int) (fun _ _ => rfl)) pa_nil))) (pa_cons (pv 0) pa_nil))) pa_nil))) pa_nil)))
        (pss_cons (ps_if (pt_cmpR (op_eqD hr.units) (pv 6) (pe_ix ix_list (pv 5) (pe_un un_neg pe_int) (fun _ _ => rfl)) (nomark _)) (pss_one (ps_ret (pv 5))) pss_nil)
        (pss_one (ps_expr (pe_bm PySem.F.plainAttrs_list PySem.F.slot_list_append PySem.F.type_list_append mt_append (pv 5) (pa_cons (pv 6) pa_nil)))))))))), ?_⟩
    refine ⟨_, rfl, _, rfl, _, rfl, u, f, d, lu, lf, ld, n, U, F, D, rfl, g, fun g0 H1 y0 ng s1 hg rg => ?_⟩
    have g1 := g.same s1
    refine ⟨_, rfl, _, rfl, _, rfl, u, g0, lu, y0, n, U, _, rfl, g1.u, hg, g1.ru, rg, g.n100, g.iu, fun a1 H2 z1 n2 s2 h2 r2 => ?_⟩
    refine ⟨_, rfl, a1, d, z1, ld, n, _, D, rfl, h2, (g1.same s2).d, r2, g.rd, g.n100, g.iu.cp gr_in, fun a2 H3 z2 n3 s3 h3 r3' => ?_⟩
    refine ⟨f, a2, lf, z2, n, _, _, rfl, ((g1.same s2).same s3).f, h3, g.rf, r3', g.n100, fun ov H4 z3 n4 s4 h4 r4 => ?_⟩
    have s14 := s2.trans (s3.trans s4)
    have hg4 := s14 _ _ hg
    have ovr : Rep n z3 (Ov n U F D) := r4
    refine ⟨_, rfl, (by show 1 ≤ sizeLine; decide), fun p hp => ?_⟩
    have s5 := same_upd (o := .lst [V.ref g0]) hp
    have s05 := s1.trans (s14.trans s5)
    have np : H p = none := (s1.trans s14).free hp
    have ne0 : g0 ≠ p := ne_of_none hg4 hp
    have neo : ov ≠ p := ne_of_none h4 hp
    refine ⟨fun m σ H2 => ∃ (a : Addr) (y : List Nat) (j : Nat) (vs0 : List V) (ys0 : List (List Nat)) (v6 : Option V), m = n * n - j ∧ σ = [some (.ref u), some (.ref f), some (.ref d), some (.ref g0), some (.ref ov), some (.ref p), v6] ∧ ButD p H H2 ∧ H2 ov = some (.lst (iN z3)) ∧
        H2 p = some (.lst (vs0 ++ [.ref a])) ∧ MsAll p H2 vs0 ys0 ∧ a ≠ p ∧ H2 a = some (.lst (iN y)) ∧ ys0.length = j ∧ (∀ k z, ys0[k]? = some z → Rep n z (Le n U F D k)) ∧ Rep n y (Le n U F D j) ∧ (∀ i, i < j → ¬ Stops (Le n U F D) i) ∧ j ≤ Lv.cnt n y,
      ⟨n * n - 0, g0, y0, 0, [], [], none, rfl, rfl, Same.but s05, s5 _ _ h4, upd_same, .nil, ne0, s5 _ _ hg4, rfl, fun k z e => (nomatch e), rg, fun i h => absurd h (Nat.not_lt_zero _), Nat.zero_le _⟩, ?_⟩
    rintro m σ H5 ⟨a, y, j, vs0, ys0, v6, rfl, rfl, b5, hov, hp5, ms, na, ha, yl, ry0, ry, go, jc⟩
    have s05 := b5.new np
    have g5 := g.same s05
    refine ⟨true, rfl, iteT ?_⟩
    refine ⟨_, fun σ' H' h => h, ?_⟩
    -- more
    refine seqV (Good := fun σ3 H6 => ∃ (o : Addr) (z : List Nat), H5 o = none ∧ Same H5 H6 ∧ H6 o = some (.lst (iN z)) ∧ Rep n z (Le n U F D (j + 1)) ∧ σ3 = [some (.ref u), some (.ref f), some (.ref d), some (.ref g0), some (.ref ov), some (.ref p), some (.ref o)]) ?_ ?_
    · intro nx hnx
      refine ⟨_, rfl, _, rfl, _, rfl, 1, rfl, p, _, _, _, rfl, rfl, .inl (.inl hp5), atI_last _ _, d, a, ld, y, n, D, _, rfl, g5.d, ha, g.rd, ry, g.n100, g.id, fun a1 H6 z1 _ s6 h6 r6 => ?_⟩
      refine ⟨_, rfl, a1, u, z1, lu, n, _, U, rfl, h6, (g5.same s6).u, r6, g.ru, g.n100, g.id.cp (le_in j), fun a2 H7 z2 _ s7 h7 r7 => ?_⟩
      refine ⟨ov, a2, z3, z2, n, _, _, rfl, s7 _ _ (s6 _ _ hov), h7, ovr, r7, g.n100, fun a3 H8 z4 _ s8 h8 r8 => ?_⟩
      refine ⟨a3, z4, n, _, rfl, h8, r8, g.n100, (ov_in g.iu g.if_ g.id).or ((g.id.cp (le_in j)).cp g.iu), fun a4 H9 z5 n9 s9 h9 r9 => ?_⟩
      exact hnx _ _ ⟨a4, z5, (s6.trans (s7.trans s8)).free n9, s6.trans (s7.trans (s8.trans s9)), h9, r9, rfl⟩
    rintro _ H6 ⟨o, z, no, s6, ho, rz, rfl⟩
    have hp6 := s6 _ _ hp5
    have ha6 := s6 _ _ ha
    have b6 : ButD p H H6 := b5.more s6
    have ms6 := ms.but (Same.but s6)
    refine seqV (Good := fun σ4 H7 => y ≠ z ∧ H6 = H7 ∧ σ4 = [some (.ref u), some (.ref f), some (.ref d), some (.ref g0), some (.ref ov), some (.ref p), some (.ref o)]) ?_ ?_
    · intro nx hnx
      refine ⟨_, rfl, _, rfl, 1, rfl, p, _, _, _, rfl, rfl, .inl (.inl hp6), atI_last _ _, ?_⟩
      refine ⟨_, _, dp_ints ho, dp_ints ha6, ints_shaped _, ints_shaped _, _, congrArg V.bl (eqv_ints z y), ?_⟩
      by_cases e : z = y
      · rw [decide_eq_true e]
        refine iteT ⟨_, rfl, q p H6 _ (ys0 ++ [y]) j np (b6.new np) hp6 (PySem.Paired.snoc ms6 ⟨a, rfl, na, ha6⟩) ⟨by rw [List.length_append, yl]; rfl, fun k' z' e' => ?_, ?_, go⟩ (Nat.le_trans jc (cnt_le n y))⟩
        · rw [List.getElem?_append] at e'
          split at e'
          · exact ry0 k' z' e'
          · rename_i c
            have : k' = j := by
              have := (List.getElem?_eq_some_iff.mp e').1
              simp at this
              omega
            subst this
            rw [yl, Nat.sub_self] at e'
            obtain rfl := Option.some.inj e'
            exact ry
        · subst e
          exact (rz.ext ry).mp rfl
      · rw [decide_eq_false e]
        exact iteF (hnx _ _ ⟨fun z => e z.symm, rfl, rfl⟩)
    rintro _ _ ⟨ne, rfl, rfl⟩
    have cl := cnt_lt ry rz (le_in (j + 1)) (le_succ g.if_ j) ne
    have cz := cnt_le n z
    refine ⟨_, rfl, .inl ⟨rfl, _, .inl (.inl hp6)⟩, _, rfl, p, _, _, rfl, rfl, hp6, ?_, ?_⟩
    · have := Paired.length ms
      rw [List.length_append, sizeLine_eq]
      have n100 := g.n100
      have : n * n ≤ 100 * 100 := Nat.mul_le_mul n100 n100
      have c0 := cnt_le n y
      show vs0.length + 1 < _
      omega
    · have nop : o ≠ p := fun e => by
        subst e
        rw [hp5] at no
        exact nomatch no
      have bp : ButD p H6 (upd H6 p (.lst ((vs0 ++ [V.ref a]) ++ [V.ref o]))) := ButD.start
      refine ⟨n * n - (j + 1), by omega, o, z, j + 1, vs0 ++ [.ref a], ys0 ++ [y], some (.ref o), rfl, rfl, b6.put, bp _ _ (fun z => neo z) (s6 _ _ hov), upd_same, MsAll.but bp (PySem.Paired.snoc ms6 ⟨a, rfl, na, ha6⟩), nop, bp _ _ nop ho, by rw [List.length_append, yl]; rfl, fun k' z' e' => ?_, rz, fun i hi => ?_, by omega⟩
      · rw [List.getElem?_append] at e'
        split at e'
        · exact ry0 k' z' e'
        · have : k' = j := by
            have := (List.getElem?_eq_some_iff.mp e').1
            simp at this
            omega
          subst this
          rw [yl, Nat.sub_self] at e'
          obtain rfl := Option.some.inj e'
          exact ry
      · by_cases e : i = j
        · subst e
          exact fun st => ne ((ry.ext rz).mpr fun a b => (st a b).symm)
        · exact go i (by omega)
end
end L2.K24
end

section
set_option Elab.async false
set_option linter.all false
set_option maxRecDepth 100000
set_option maxHeartbeats 4000000
namespace L2.K24
open PySem PySem.Spec PyProof.Rows L2.Gd L2.Lv
/-- a method -/
structure MeH (P : Program) (w : World) (K : PySem.W.Frag) (mg : Str → Option Value) (base : Heap) (C : Addr) (x : Str) (k : Nat) (ps : List Str) (sp : Sp) : Prop where
  ex : ∃ f fd, Meth K C x f ∧ Binds K fd ps [] ∧ FnOk P w K mg base CX0 k f fd ps sp
section
variable {X : Cx} {C : Addr} {x : Str} {k : Nat} {ps : List Str} {sp : Sp} {o : Expr} {ta : TE} {apos pos : Pos}
theorem pe_mH0 {pl : Sem Bool} (M : MeH X.prog X.w X.K X.mg X.base C x k ps sp) (T : ClsT X.K X.mg C) (hr : Room k X.A) (he : PE X o ta)
    (ht : eval (.Call (.Attribute o x apos) [] [] pos) X.env = (do
      let ov ← eval o X.env
      standAt apos.atName
      let (f, first) ← holding [ov] (getMethod ov x pl)
      callWith pos f first (backTo pos (starEach [] X.env)) (backToKw pos (keywordEach [] X.env))) := by rfl) :
    PE X (.Call (.Attribute o x apos) [] [] pos) (tMeth C x sp [] E0 ta tNil) := by
  obtain ⟨f, fd, hm, b, F⟩ := M.ex
  exact pe_meth0 he T.isc.cl hm F hr b .nil pass0 ht
end
section
variable {X : Cx} {C : Addr} {x : Str} {k : Nat} {ps : List Str} {sp : Sp} {o e : Expr} {es : List Expr} {ta : TE} {t : TA} {apos pos : Pos}
theorem pe_mH {pl : Sem Bool} (M : MeH X.prog X.w X.K X.mg X.base C x k ps sp) (T : ClsT X.K X.mg C) (hr : Room k X.A) (he : PE X o ta) (ha : PA X (e :: es) t)
    (hst : starEach (e :: es) X.env = (false, eval e X.env) :: starEach es X.env := by rfl) (hpl : (backTo pos (starEach es X.env)).any (·.1) = false := by rfl)
    (ht : eval (.Call (.Attribute o x apos) (e :: es) [] pos) X.env = (do
      let ov ← eval o X.env
      standAt apos.atName
      let (f, first) ← holding [ov] (getMethod ov x pl)
      callWith pos f first (backTo pos (starEach (e :: es) X.env)) (backToKw pos (keywordEach [] X.env))) := by rfl) :
    PE X (.Call (.Attribute o x apos) (e :: es) [] pos) (tMeth C x sp [] E0 ta t) := by
  obtain ⟨f, fd, hm, b, F⟩ := M.ex
  exact pe_meth he T.isc.cl hm F hr b .nil pass0 ha hst hpl ht
end
section
variable {P : Program} {w : World} {K : PySem.W.Frag} {mg : Str → Option Value} {base : Heap} {C : Addr}
/-- the deeds of one change that may be done at any number -/
def Dl (ds : List Dd) (c : Int) : Rl := fun a b => ∃ d ∈ ds, d.p = (a : Int) ∧ d.g = (b : Int) ∧ d.c = c ∧ d.w = "any"
def isC (c : Int) (d : Dd) : Bool := decide (d.c = c) && isAny d
def prD (c : Int) (d : Dd) : Option (Nat × Nat) := if isC c d = true then some (d.p.toNat, d.g.toNat) else none
theorem isAny_w (d : Dd) : isAny d = true ↔ d.w = "any" := decide_eq_true_iff
theorem Dl.inn {n : Nat} {ds : List Dd} (ok : ∀ d ∈ ds, d.Ok n) (c : Int) : In n (Dl ds c) := fun a b ⟨d, hd, e1, e2, _⟩ => by
  have o := ok d hd
  have := o.pn
  have := o.gn
  omega
theorem mem_pr {n : Int} {ds : List Dd} (ok : ∀ d ∈ ds, d.Ok n) (c : Int) (a b : Nat) : (a, b) ∈ ds.filterMap (prD c) ↔ Dl ds c a b := by
  rw [List.mem_filterMap]
  constructor
  · rintro ⟨d, hd, e⟩
    unfold prD at e
    split at e
    · rename_i q
      have o := ok d hd
      have := o.p0
      have := o.g0
      obtain ⟨q1, q2⟩ := Bool.and_eq_true_iff.mp q
      obtain ⟨e1, e2⟩ := Prod.mk.inj (Option.some.inj e)
      exact ⟨d, hd, by omega, by omega, of_decide_eq_true q1, (isAny_w d).mp q2⟩
    · exact nomatch e
  · rintro ⟨d, hd, e1, e2, e3, e4⟩
    refine ⟨d, hd, ?_⟩
    unfold prD
    rw [if_pos (show isC c d = true by unfold isC; rw [decide_eq_true e3, (isAny_w d).mpr e4]; rfl), e1, e2]
    rfl
def spDR (C : Addr) : Sp := fun vs H Q _ => ∃ (h l : Addr) (n : Nat) (c : Int) (xs : List V) (ds : List Dd), vs = [.ref h, .int c, .str "any"] ∧ HouseL C H h l n xs ds ∧ WF n ds ∧
  ∀ p H' y, H p = none → Same H H' → H' p = some (.lst (iN y)) → Rep n y (Dl ds c) → Q (.ref p) H'
def NDR : List Str := ["house", "change", "when", "deed"]
theorem scDR : FnScope NDR ["house", "change", "when"] (defScope (top 11)) := ⟨rfl, rfl, rfl, by decide +kernel, rfl, by decide +kernel, by decide +kernel⟩
theorem stabP (D : Addr) : Stab PrAt D := fun H H' y d b ⟨zs, hD⟩ ⟨t, e, ht⟩ => ⟨t, e, b _ _ (fun z => by subst z; rw [hD] at ht; exact nomatch ht) ht⟩
theorem ok_dr {f : Addr} {fd : FuncData} (F : Fun K "deed_relation" "deed_relation" (top 11) f fd) (T : ClsT K mg C) (PL : PrH P w K mg base C "places" (spPlaces C)) (DE : MeH P w K mg base C "deeds" 1 ["self"] (spDeeds C)) (GR : Fn P w K mg base 1 "relation_of" ["many", "pairs"] spRel) :
    FnOk P w K mg base CX0 3 f fd ["house", "change", "when"] (spDR C) := by
  refine F.ok scDR (fun vs H Q E h => ?_) (fun cdv A outer s H vs Q E hr h => ?_)
  · obtain ⟨h, l, n, c, xs, ds, rfl, _⟩ := h
    rfl
  · obtain ⟨h, l, n, c, xs, ds, rfl, hh, wf, q⟩ := h
    have N := scDR.nd
    have r1 := hr.mono (k := 2) (j := 1) (by decide)
    obtain ⟨dx, ob⟩ := hh.ob
    refine ⟨_, pss_one (ps_ret (pe_fn GR r1 (pa_cons (pe_prH PL T hr (pv 0)) (pa_cons
      (pe_lc (own := [("deed", 3)]) (g := gName 3) rfl N (pi_list (pe_mH0 DE T r1 (pv 0))) (blkOk_by (N := NDR) (sc := defScope (top 11)) (by decide +kernel)) (fun _ _ _ _ _ => pg_name (i := 3) N rfl (.inl rfl))
        (fun _ _ _ _ _ => pts_one (PW.pt (pw_and (pt_cmpR op_eq (pe_ix (r := rIxT K) ix_tup (pv 3) pe_int (fun _ _ => rfl)) (pv 1) (nomark _)) (pw_and1 (pt_cmpR op_eq (pe_ix (r := rIxT K) ix_tup (pv 3) pe_int (fun _ _ => rfl)) (pv 2) (nomark _))))))
        (fun _ _ _ _ _ => pe_tup (pa_cons (pe_ix (r := rIxT K) ix_tup (pv 3) pe_int (fun _ _ => rfl)) (pa_cons (pe_ix (r := rIxT K) ix_tup (pv 3) pe_int (fun _ _ => rfl)) pa_nil)))) pa_nil)))), ?_⟩
    refine ⟨_, rfl, h, dx, _, rfl, ob, h, dx, l, n, rfl, ob, ?_⟩
    refine ⟨_, rfl, h, dx, _, rfl, ob, flds_no _ _ (by decide +kernel) (by decide +kernel), h, l, n, xs, ds, rfl, hh, fun o ho => ?_⟩
    have s1 := same_upd (o := .lst xs) ho
    have hh1 := hh.same s1
    refine ⟨o, rfl, ⟨xs, .inl (.inl upd_same)⟩, fun D hD => ?_⟩
    refine lc_mapL (es := ds) (F := DdAt) (G := PrAt) (f := prD c) (stabP D) upd_same hD (Nat.le_trans (Nat.le_of_eq hh.lenE) (Nat.le_trans wf.len (by decide))) hh1.dd ?_ ?_
    · rintro x e H2 A B he ⟨t, rfl, ht⟩ b ⟨zs, hz⟩ hA hB
      have ht2 := b.new hD _ _ ht
      have ok := wf.ok e he
      obtain ⟨pp, hp⟩ : ∃ k : Nat, e.p = k := ⟨e.p.toNat, by have := ok.p0; omega⟩
      obtain ⟨gg, hg⟩ : ∃ k : Nat, e.g = k := ⟨e.g.toNat, by have := ok.g0; omega⟩
      refine ⟨rfl, ?_⟩
      have ec : decide (V.int e.c = V.int c) = decide (e.c = c) := by simp
      refine ⟨_, rfl, t, _, _, _, rfl, rfl, .inl (.inl ht2), rfl, _, rfl, rfl, decide (e.c = c), congrArg V.bl ec, ?_⟩
      by_cases h1 : e.c = c
      · rw [decide_eq_true h1]
        refine iteT ⟨_, rfl, t, _, _, _, rfl, rfl, .inl (.inl ht2), rfl, _, rfl, rfl, isAny e, congrArg V.bl (anyE e), ?_⟩
        cases h2 : isAny e with
        | true =>
          refine iteT ⟨_, rfl, t, _, _, _, rfl, rfl, .inl (.inl ht2), rfl, _, rfl, t, _, _, _, rfl, rfl, .inl (.inl ht2), rfl, (by show 2 ≤ sizeLine; decide), fun p np => ?_⟩
          refine hA (pp, gg) _ _ ?_ (same_upd np) ⟨p, rfl, by rw [upd_same, hp, hg]⟩
          unfold prD
          rw [if_pos (show isC c e = true by unfold isC; rw [decide_eq_true h1, h2]; rfl), hp, hg]
          rfl
        | false =>
          refine iteF (hB H2 ?_ fun _ _ z => z)
          unfold prD
          rw [if_neg (show ¬ isC c e = true by unfold isC; rw [h2, Bool.and_false]; decide)]
      · rw [decide_eq_false h1]
        refine iteF (hB H2 ?_ fun _ _ z => z)
        unfold prD
        rw [if_neg (show ¬ isC c e = true by unfold isC; rw [decide_eq_false h1, Bool.false_and]; decide)]
    · intro ys H2 h1 h2 h3
      have s2 := s1.trans (h3.new hD)
      refine ⟨n, D, ys, _, rfl, by have := wf.m16; omega, h1, h2, fun p hp => ?_, fun p H' y np s' hy rp => q p H' y (s2.free np) (s2.trans s') hy (rp.iff (mem_pr wf.ok c))⟩
      exact Dl.inn wf.ok c p.1 p.2 ((mem_pr wf.ok c p.1 p.2).mp hp)
end
end L2.K24
end

section
set_option Elab.async false
set_option linter.all false
set_option maxRecDepth 100000
set_option maxHeartbeats 4000000
namespace L2.K24
open PySem PySem.Spec PyProof.Rows L2.Gd L2.Lv
/-- lists of pairs, apart from the list that holds them -/
def PlAt (p : Addr) (H : Hp) (v : V) (ps : List (Nat × Nat)) : Prop := ∃ a zs, v = .ref a ∧ a ≠ p ∧ H a = some (.lst zs) ∧ PrAll H zs ps
def PlAll (p : Addr) (H : Hp) (vs : List V) (pss : List (List (Nat × Nat))) : Prop := Paired (PlAt p H) vs pss
theorem PlAt.but {p : Addr} {H H' : Hp} {v : V} {ps : List (Nat × Nat)} (b : ButD p H H') (hp : ∃ zs, H p = some (.lst zs)) (h : PlAt p H v ps) : PlAt p H' v ps :=
  let ⟨a, zs, e, ne, q, pa⟩ := h; ⟨a, zs, e, ne, b _ _ ne q, pa.but b hp⟩
theorem PlAll.but {p : Addr} {H H' : Hp} {vs : List V} {pss : List (List (Nat × Nat))} (b : ButD p H H') (hp : ∃ zs, H p = some (.lst zs)) (h : PlAll p H vs pss) : PlAll p H' vs pss := Paired.mapP h fun _ _ q => q.but b hp
/-- what is known of houses here -/
structure HsK (P : Program) (w : World) (K : PySem.W.Frag) (mg : Str → Option Value) (base : Heap) (C : Addr) : Prop where
  n : Nm mg
  T : ClsT K mg C
  rk : RelK P w K mg base
  dr : Fn P w K mg base 3 "deed_relation" ["house", "change", "when"] (spDR C)
  gr : Fn P w K mg base 4 "ground_of" ["ups", "flats", "downs"] spGro
  ga : Fn P w K mg base 5 "grades_of" ["ups", "flats", "downs"] spGra
  ps : Fn P w K mg base 2 "pairs_of" ["relation"] spPrs
section
variable {P : Program} {w : World} {K : PySem.W.Frag} {mg : Str → Option Value} {base : Heap} {C : Addr}
def cOf (k : Nat) : Int := 1 - (k : Int)
def UdfD (n : Nat) (ds : List Dd) (H : Hp) (u f d : Addr) (lu lf ld : List Nat) : Prop := Udf n (Dl ds 1) (Dl ds 0) (Dl ds (-1)) H u f d lu lf ld
def spPR (C : Addr) : Sp := fun vs H Q _ => ∃ (h l : Addr) (n : Nat) (xs : List V) (ds : List Dd), vs = [.ref h] ∧ HouseL C H h l n xs ds ∧ WF n ds ∧
  ∀ p H' u f d lu lf ld, H p = none → Same H H' → H' p = some (.lst [.ref u, .ref f, .ref d]) → UdfD n ds H' u f d lu lf ld → Q (.ref p) H'
theorem scPR : FnScope ["house", "change"] ["house"] (defScope (top 15)) := ⟨rfl, rfl, rfl, by decide +kernel, rfl, by decide +kernel, by decide +kernel⟩
theorem ok_pr {f : Addr} {fd : FuncData} (F : Fun K "plain_relations" "plain_relations" (top 15) f fd) (k : HsK P w K mg base C) : FnOk P w K mg base CX0 4 f fd ["house"] (spPR C) := by
  refine F.ok scPR (fun vs H Q E h => ?_) (fun cdv A outer s H vs Q E hr h => ?_)
  · obtain ⟨h, l, n, xs, ds, rfl, _⟩ := h
    rfl
  · obtain ⟨h, l, n, xs, ds, rfl, hh, wf, q⟩ := h
    have N := scPR.nd
    refine ⟨_, pss_one (ps_ret (pe_lc (own := [("change", 1)]) (g := gName 1) (tt := tYes) rfl N (pi_tup (pe_tup (pa_cons pe_int (pa_cons pe_int (pa_cons (pe_un un_neg pe_int) pa_nil))))) (blkOk_by (N := ["house", "change"]) (sc := defScope (top 15)) (by decide +kernel)) (fun _ _ _ _ _ => pg_name (i := 1) N rfl (.inl rfl))
      (fun _ _ _ _ _ => pts_nil) (fun _ _ _ _ _ => pe_fn k.dr hr (pa_cons (pv 0) (pa_cons (pv 1) (pa_cons pe_str pa_nil)))))), ?_⟩
    refine ⟨_, rfl, (by show 3 ≤ sizeLine; decide), fun T hT => ?_⟩
    have sT := same_upd (o := .tup [V.int 1, V.int 0, V.int (-1)]) hT
    refine ⟨T, rfl, ⟨_, .inl (.inl upd_same)⟩, fun D hD => ?_⟩
    have hD0 : H D = none := sT.free hD
    refine lc_gen (n := 3) (fun i H3 => ButD D (upd H T (.tup [V.int 1, V.int 0, V.int (-1)])) H3 ∧ ∃ vs ys, H3 D = some (.lst vs) ∧ MsAll D H3 vs ys ∧ ys.length = i ∧ ∀ k y, ys[k]? = some y → Rep n y (Dl ds (cOf k))) ⟨.start, [], [], upd_same, .nil, rfl, fun k y e => nomatch e⟩ ?_ ?_
    · rintro H3 ⟨b3, vs, ys, h3, ms, yl, ry⟩
      have s3 := b3.new hD
      refine ⟨⟨_, .inl (.inl (s3 _ _ upd_same)), by decide⟩, ?_⟩
      obtain ⟨y0, y1, y2, rfl⟩ : ∃ a b c, ys = [a, b, c] := by
        match ys, yl with
        | [a, b, c], _ => exact ⟨a, b, c, rfl⟩
      cases ms with
      | cons m0 t0 => cases t0 with
        | cons m1 t1 => cases t1 with
          | cons m2 t2 =>
            cases t2
            obtain ⟨u, rfl, nu, hu⟩ := m0
            obtain ⟨f, rfl, nf, hf⟩ := m1
            obtain ⟨d, rfl, nd, hd⟩ := m2
            exact q D H3 u f d y0 y1 y2 hD0 (sT.trans s3) h3 ⟨hu, hf, hd, ry 0 _ rfl, ry 1 _ rfl, ry 2 _ rfl, Dl.inn wf.ok _, Dl.inn wf.ok _, Dl.inn wf.ok _, by have := wf.m16; omega⟩
    · rintro i H3 hi ⟨b3, vs, ys, h3, ms, yl, ry⟩
      have s3 := b3.new hD
      have hix : ([V.int 1, V.int 0, V.int (-1)] : List V)[i]? = some (.int (cOf i)) := by
        match i, hi with
        | 0, _ => rfl
        | 1, _ => rfl
        | 2, _ => rfl
      refine ⟨⟨_, _, .inl (.inl (s3 _ _ upd_same)), hix⟩, ?_⟩
      rintro x H4 ⟨rfl, hx⟩
      have hxj := hx _ (.inl (.inl (s3 _ _ upd_same)))
      rw [hix] at hxj
      obtain rfl := Option.some.inj hxj
      refine ⟨rfl, yes_ite ?_⟩
      refine ⟨_, rfl, _, rfl, h, l, n, cOf i, xs, ds, rfl, hh.same (sT.trans s3), wf, fun o H5 y no s5 ho ro => ?_⟩
      have vl := Paired.length ms
      have noD : o ≠ D := fun z => by
        subst z
        rw [h3] at no
        exact nomatch no
      have bp : ButD D H5 (upd H5 D (.lst (vs ++ [V.ref o]))) := ButD.start
      refine ⟨vs, s5 _ _ h3, by rw [sizeLine_eq]; omega, (b3.more s5).put, vs ++ [.ref o], ys ++ [y], upd_same, MsAll.but bp (PySem.Paired.snoc (MsAll.but (Same.but s5) ms) ⟨o, rfl, noD, ho⟩), by rw [List.length_append, yl]; rfl, fun k' z' e' => ?_⟩
      rw [List.getElem?_append] at e'
      split at e'
      · exact ry k' z' e'
      · have : k' = i := by
          have := (List.getElem?_eq_some_iff.mp e').1
          simp at this
          omega
        subst this
        rw [yl, Nat.sub_self] at e'
        obtain rfl := Option.some.inj e'
        exact ro
/-! ### levels -/
def LvS (C : Addr) (Qp : Nat → List Dd → Addr → Hp → Hp → Prop) : Sp := fun vs H Q _ => ∃ (h l : Addr) (n : Nat) (xs : List V) (ds : List Dd), vs = [.ref h] ∧ HouseL C H h l n xs ds ∧ WF n ds ∧
  ∀ p H', H p = none → Same H H' → Qp n ds p H H' → Q (.ref p) H'
/-- the levels as lists of pairs, all of them new -/
def LvOk (n : Nat) (ds : List Dd) (p : Addr) (H H' : Hp) : Prop := ∃ xs ys m, H' p = some (.lst xs) ∧ PlAll p H' xs (ys.map prsL) ∧ (∀ a zs, V.ref a ∈ xs → H' a = some (.lst zs) → H a = none) ∧ LeOk n (Dl ds 1) (Dl ds 0) (Dl ds (-1)) ys m ∧ m ≤ n * n
def PrOk (r : Nat → List Dd → Rl) (n : Nat) (ds : List Dd) (p : Addr) (H H' : Hp) : Prop := ∃ xs y, H' p = some (.lst xs) ∧ PrAll H' xs (prsL y) ∧ Rep n y (r n ds)
def rCl (n : Nat) (ds : List Dd) : Rl := Cp (Dl ds 1) (Gr n (Dl ds 1) (Dl ds 0) (Dl ds (-1)))
def rDr (n : Nat) (ds : List Dd) : Rl := Cp (Gr n (Dl ds 1) (Dl ds 0) (Dl ds (-1))) (Dl ds (-1))
def NLv : List Str := ["house", "ups", "flats", "downs", "grade"]
theorem scLv : FnScope NLv ["house"] (defScope (top 16)) := ⟨rfl, rfl, rfl, by decide +kernel, rfl, by decide +kernel, by decide +kernel⟩
theorem ok_lv {f : Addr} {fd : FuncData} (F : Fun K "levels" "levels" (top 16) f fd) (k : HsK P w K mg base C) (GP : Fn P w K mg base 4 "plain_relations" ["house"] (spPR C)) : FnOk P w K mg base CX0 6 f fd ["house"] (LvS C LvOk) := by
  refine F.ok scLv (fun vs H Q E h => ?_) (fun cdv A outer s H vs Q E hr h => ?_)
  · obtain ⟨h, l, n, xs, ds, rfl, _⟩ := h
    rfl
  · obtain ⟨h, l, n, xs, ds, rfl, hh, wf, q⟩ := h
    have N := scLv.nd
    have r4 := hr.mono (k := 5) (j := 4) (by decide)
    have r2 := hr.mono (k := 5) (j := 2) (by decide)
    refine ⟨_, pss_cons (ps_asg (pe_fn GP r4 (pa_cons (pv 0) pa_nil)) (pg_unl rfl (pgs_cons (pg_name (i := 1) N rfl (.inl rfl)) (pgs_cons (pg_name (i := 2) N rfl (.inl rfl)) (pgs_cons (pg_name (i := 3) N rfl (.inl rfl)) pgs_nil)))))
      (pss_one (ps_ret (pe_lc (own := [("grade", 4)]) (g := gName 4) (tt := tYes) rfl N (pi_list (pe_fn k.ga hr (pa_cons (pv 1) (pa_cons (pv 2) (pa_cons (pv 3) pa_nil))))) (blkOk_by (N := NLv) (sc := defScope (top 16)) (by decide +kernel)) (fun _ _ _ _ _ => pg_name (i := 4) N rfl (.inl rfl))
        (fun _ _ _ _ _ => pts_nil) (fun _ _ _ _ _ => pe_fn k.ps r2 (pa_cons (pv 4) pa_nil))))), ?_⟩
    refine ⟨_, rfl, h, l, n, xs, ds, rfl, hh, wf, fun p H1 u f d lu lf ld np s1 hp g => ?_⟩
    refine ⟨p, _, rfl, .inl (.inl hp), rfl, _, _, rfl, _, _, rfl, _, _, rfl, rfl, ?_⟩
    refine ⟨_, rfl, _, rfl, _, rfl, u, f, d, lu, lf, ld, n, _, _, _, rfl, g, fun o H2 vs ys m no s2 ho ms le mn => ?_⟩
    refine ⟨o, rfl, ⟨_, .inl (.inl ho)⟩, fun D hD => ?_⟩
    have s12 := s1.trans s2
    have vl := Paired.length ms
    refine lc_gen (n := vs.length) (fun i H3 => ButD D H2 H3 ∧ ∃ zs, H3 D = some (.lst zs) ∧ zs.length = i ∧ PlAll D H3 zs ((ys.take i).map prsL) ∧ ∀ a ws, V.ref a ∈ zs → H3 a = some (.lst ws) → H a = none) ⟨.start, [], upd_same, rfl, .nil, fun a ws h => nomatch h⟩ ?_ ?_
    · rintro H3 ⟨b3, zs, h3, zl, pl, fr⟩
      have s3 := b3.new hD
      rw [vl, List.take_length] at pl
      exact ⟨⟨_, .inl (.inl (s3 _ _ ho)), Nat.le_refl _⟩, q D H3 (s12.free hD) (s12.trans s3) ⟨zs, ys, m, h3, pl, fr, le, mn⟩⟩
    · rintro i H3 hi ⟨b3, zs, h3, zl, pl, fr⟩
      have s3 := b3.new hD
      refine ⟨⟨_, _, .inl (.inl (s3 _ _ ho)), List.getElem?_eq_getElem hi⟩, ?_⟩
      rintro x H4 ⟨rfl, hx⟩
      have hxj := hx _ (.inl (.inl (s3 _ _ ho)))
      obtain ⟨y, hy, a, rfl, na, ha⟩ := Paired.at ms hxj
      have ry := le.rep i y hy
      refine ⟨rfl, yes_ite ?_⟩
      refine ⟨_, rfl, a, y, rfl, s3 _ _ ha, by rw [ry.len]; exact g.n100, fun m' hm => lt100 g.n100 (Rep.inn ry (le_in i) hm), fun e H5 ws ne s5 he pa => ?_⟩
      have noD : e ≠ D := fun z => by
        subst z
        rw [h3] at ne
        exact nomatch ne
      have bp : ButD D H5 (upd H5 D (.lst (zs ++ [V.ref e]))) := ButD.start
      have h5 := s5 _ _ h3
      have e2 : (ys.take (i + 1)).map prsL = (ys.take i).map prsL ++ [prsL y] := by
        rw [List.take_succ, hy, List.map_append]
        rfl
      have p5 : PlAll D H5 (zs ++ [V.ref e]) ((ys.take (i + 1)).map prsL) := by
        rw [e2]
        exact PySem.Paired.snoc (PlAll.but (Same.but s5) ⟨_, h3⟩ pl) ⟨e, ws, rfl, noD, he, pa⟩
      refine ⟨zs, h5, by rw [sizeLine_eq, zl]; have := le.len; have n100 := g.n100; have : n * n ≤ 100 * 100 := Nat.mul_le_mul n100 n100; omega, (b3.more s5).put, zs ++ [.ref e], upd_same, by rw [List.length_append, zl]; rfl, p5.but bp ⟨_, h5⟩, fun a' ws' ha' hw => ?_⟩
      rcases List.mem_append.mp ha' with ha' | ha'
      · obtain ⟨i', hi'⟩ := List.getElem?_of_mem ha'
        obtain ⟨ps', _, a2, zs2, e2', ne2, h2', _⟩ := Paired.at pl hi'
        obtain rfl := V.ref.inj e2'
        exact fr _ _ ha' h2'
      · have : a' = e := V.ref.inj (List.mem_singleton.mp ha')
        subst this
        exact (s12.trans s3).free ne
/-! ### climbs and drops -/
theorem scCb : FnScope ["house", "ups", "flats", "downs"] ["house"] (defScope (top 17)) := ⟨rfl, rfl, rfl, by decide +kernel, rfl, by decide +kernel, by decide +kernel⟩
theorem ok_cb {f : Addr} {fd : FuncData} (F : Fun K "climbs" "climbs" (top 17) f fd) (k : HsK P w K mg base C) (GP : Fn P w K mg base 4 "plain_relations" ["house"] (spPR C)) : FnOk P w K mg base CX0 5 f fd ["house"] (LvS C (PrOk rCl)) := by
  refine F.ok scCb (fun vs H Q E h => ?_) (fun cdv A outer s H vs Q E hr h => ?_)
  · obtain ⟨h, l, n, xs, ds, rfl, _⟩ := h
    rfl
  · obtain ⟨h, l, n, xs, ds, rfl, hh, wf, q⟩ := h
    have N := scCb.nd
    have r3 := hr.mono (k := 4) (j := 3) (by decide)
    have r2 := hr.mono (k := 4) (j := 2) (by decide)
    refine ⟨_, pss_cons (ps_asg (pe_fn GP hr (pa_cons (pv 0) pa_nil)) (pg_unl rfl (pgs_cons (pg_name (i := 1) N rfl (.inl rfl)) (pgs_cons (pg_name (i := 2) N rfl (.inl rfl)) (pgs_cons (pg_name (i := 3) N rfl (.inl rfl)) pgs_nil)))))
      (pss_one (ps_ret (pe_fn k.ps r2 (pa_cons (pe_fn k.rk.fo r3 (pa_cons (pv 1) (pa_cons (pe_fn k.gr hr (pa_cons (pv 1) (pa_cons (pv 2) (pa_cons (pv 3) pa_nil)))) pa_nil))) pa_nil)))), ?_⟩
    refine ⟨_, rfl, h, l, n, xs, ds, rfl, hh, wf, fun p H1 u f d lu lf ld np s1 hp g => ?_⟩
    refine ⟨p, _, rfl, .inl (.inl hp), rfl, _, _, rfl, _, _, rfl, _, _, rfl, rfl, ?_⟩
    refine ⟨_, rfl, _, rfl, _, rfl, _, rfl, u, f, d, lu, lf, ld, n, _, _, _, rfl, g, fun o H2 y no s2 ho ro => ?_⟩
    refine ⟨u, o, lu, y, n, _, _, rfl, (g.same s2).u, ho, g.ru, ro, g.n100, g.iu, fun e H3 z ne s3 he re => ?_⟩
    refine ⟨e, z, rfl, he, by rw [re.len]; exact g.n100, fun m' hm => lt100 g.n100 (Rep.inn re (g.iu.cp gr_in) hm), fun e4 H4 ws n4 s4 h4 p4 => ?_⟩
    exact q e4 H4 ((s1.trans (s2.trans s3)).free n4) (s1.trans (s2.trans (s3.trans s4))) ⟨ws, z, h4, p4, re⟩
theorem scDp : FnScope ["house", "ups", "flats", "downs"] ["house"] (defScope (top 18)) := ⟨rfl, rfl, rfl, by decide +kernel, rfl, by decide +kernel, by decide +kernel⟩
theorem ok_dp {f : Addr} {fd : FuncData} (F : Fun K "drops" "drops" (top 18) f fd) (k : HsK P w K mg base C) (GP : Fn P w K mg base 4 "plain_relations" ["house"] (spPR C)) : FnOk P w K mg base CX0 5 f fd ["house"] (LvS C (PrOk rDr)) := by
  refine F.ok scDp (fun vs H Q E h => ?_) (fun cdv A outer s H vs Q E hr h => ?_)
  · obtain ⟨h, l, n, xs, ds, rfl, _⟩ := h
    rfl
  · obtain ⟨h, l, n, xs, ds, rfl, hh, wf, q⟩ := h
    have N := scDp.nd
    have r3 := hr.mono (k := 4) (j := 3) (by decide)
    have r2 := hr.mono (k := 4) (j := 2) (by decide)
    refine ⟨_, pss_cons (ps_asg (pe_fn GP hr (pa_cons (pv 0) pa_nil)) (pg_unl rfl (pgs_cons (pg_name (i := 1) N rfl (.inl rfl)) (pgs_cons (pg_name (i := 2) N rfl (.inl rfl)) (pgs_cons (pg_name (i := 3) N rfl (.inl rfl)) pgs_nil)))))
      (pss_one (ps_ret (pe_fn k.ps r2 (pa_cons (pe_fn k.rk.fo r3 (pa_cons (pe_fn k.gr hr (pa_cons (pv 1) (pa_cons (pv 2) (pa_cons (pv 3) pa_nil)))) (pa_cons (pv 3) pa_nil))) pa_nil)))), ?_⟩
    refine ⟨_, rfl, h, l, n, xs, ds, rfl, hh, wf, fun p H1 u f d lu lf ld np s1 hp g => ?_⟩
    refine ⟨p, _, rfl, .inl (.inl hp), rfl, _, _, rfl, _, _, rfl, _, _, rfl, rfl, ?_⟩
    refine ⟨_, rfl, _, rfl, _, rfl, u, f, d, lu, lf, ld, n, _, _, _, rfl, g, fun o H2 y no s2 ho ro => ?_⟩
    refine ⟨_, rfl, o, d, y, ld, n, _, _, rfl, ho, (g.same s2).d, ro, g.rd, g.n100, gr_in, fun e H3 z ne s3 he re => ?_⟩
    refine ⟨e, z, rfl, he, by rw [re.len]; exact g.n100, fun m' hm => lt100 g.n100 (Rep.inn re (gr_in.cp g.id) hm), fun e4 H4 ws n4 s4 h4 p4 => ?_⟩
    exact q e4 H4 ((s1.trans (s2.trans s3)).free n4) (s1.trans (s2.trans (s3.trans s4))) ⟨ws, z, h4, p4, re⟩
end
end L2.K24
end

section
set_option linter.all false
namespace L2.K24
open L2.Lv
/-! Going over all stands: the mathematics. -/
theorem few_nat : ∀ (N : Nat) (l : List Nat), l.Nodup → (∀ x ∈ l, x < N) → l.length ≤ N
  | 0, l, _, h => by
    cases l with
    | nil => exact Nat.le_refl _
    | cons x r => exact absurd (h x List.mem_cons_self) (Nat.not_lt_zero _)
  | N + 1, l, nd, h => by
    by_cases c : N ∈ l
    · have e := few_nat N (l.erase N) (nd.erase N) (fun x hx => by
        have := (nd.mem_erase_iff.mp hx)
        have := h x this.2
        omega)
      rw [List.length_erase_of_mem c] at e
      omega
    · have := few_nat N l nd (fun x hx => by
        have := h x hx
        have : x ≠ N := fun z => c (z ▸ hx)
        omega)
      omega
theorem few_pairs {n m : Nat} {l : List (Nat × Nat)} (nd : l.Nodup) (h : ∀ t ∈ l, t.1 < n ∧ t.2 < m) : l.length ≤ n * m := by
  have e := few_nat (n * m) (l.map fun t => t.1 * m + t.2) (by
    refine (List.pairwise_map).mpr ?_
    refine nd.imp_of_mem ?_
    intro a b ha hb ne z
    have h1 := h a ha
    have h2 := h b hb
    apply ne
    have e1 : a.1 = b.1 := by
      have x := congrArg (· / m) z
      have y1 : (a.1 * m + a.2) / m = a.1 := by rw [Nat.mul_comm, Nat.mul_add_div (by omega), Nat.div_eq_of_lt h1.2]; rfl
      have y2 : (b.1 * m + b.2) / m = b.1 := by rw [Nat.mul_comm, Nat.mul_add_div (by omega), Nat.div_eq_of_lt h2.2]; rfl
      rw [← y1, ← y2]
      exact x
    have e2 : a.2 = b.2 := by
      have z' : a.1 * m + a.2 = b.1 * m + b.2 := z
      rw [e1] at z'
      omega
    exact Prod.ext e1 e2) (by
    intro x hx
    obtain ⟨t, ht, rfl⟩ := List.mem_map.mp hx
    have := h t ht
    have : t.1 * m + m ≤ n * m := by rw [← Nat.succ_mul]; exact Nat.mul_le_mul_right m this.1
    omega)
  rwa [List.length_map] at e
def nx (cap : Nat) (d : Dd) (s : Nat × Nat) : Option (Nat × Nat) :=
  if d.p = (s.1 : Int) ∧ d.w = "any" ∧ 0 ≤ (s.2 : Int) + d.c ∧ (s.2 : Int) + d.c ≤ cap then some (d.g.toNat, ((s.2 : Int) + d.c).toNat) else none
abbrev ReD (cap : Nat) (ds : List Dd) (s t : Nat × Nat) : Prop := Re cap (Dl ds 1) (Dl ds 0) (Dl ds (-1)) s t
theorem nx_st {n : Int} {cap : Nat} {ds : List Dd} (ok : ∀ d ∈ ds, d.Ok n) {d : Dd} (hd : d ∈ ds) {s t : Nat × Nat} (hs : s.2 ≤ cap) (h : nx cap d s = some t) : St1 cap (Dl ds 1) (Dl ds 0) (Dl ds (-1)) s t := by
  unfold nx at h
  split at h
  · rename_i q
    obtain ⟨q1, q2, q3, q4⟩ := q
    obtain rfl := Option.some.inj h
    have o := ok d hd
    have g0 := o.g0
    obtain ⟨a, i⟩ := s
    have dl : ∀ c : Int, d.c = c → Dl ds c a d.g.toNat := fun c e => ⟨d, hd, q1, by show d.g = ((d.g.toNat : Nat) : Int); omega, e, q2⟩
    have q3 : 0 ≤ (i : Int) + d.c := q3
    have q4 : (i : Int) + d.c ≤ cap := q4
    have hs : i ≤ cap := hs
    have c3 : d.c = 1 ∨ d.c = 0 ∨ d.c = -1 := by
      rcases o.w with ⟨_, c1, c2⟩ | ⟨_, c1, c2⟩ <;> omega
    rcases c3 with e | e | e
    · have : ((i : Int) + d.c).toNat = i + 1 := by omega
      show St1 _ _ _ _ (a, i) (d.g.toNat, ((i : Int) + d.c).toNat)
      rw [this]
      exact .up (dl 1 e) (by omega)
    · have : ((i : Int) + d.c).toNat = i := by omega
      show St1 _ _ _ _ (a, i) (d.g.toNat, ((i : Int) + d.c).toNat)
      rw [this]
      exact .flat (dl 0 e) hs
    · obtain ⟨j, rfl⟩ : ∃ j, i = j + 1 := ⟨i - 1, by omega⟩
      have : (((j + 1 : Nat) : Int) + d.c).toNat = j := by omega
      show St1 _ _ _ _ (a, j + 1) (d.g.toNat, (((j + 1 : Nat) : Int) + d.c).toNat)
      rw [this]
      exact .down (dl (-1) e) hs
  · exact nomatch h
theorem st_nx {cap : Nat} {ds : List Dd} {s t : Nat × Nat} (h : St1 cap (Dl ds 1) (Dl ds 0) (Dl ds (-1)) s t) : ∃ d ∈ ds, nx cap d s = some t := by
  cases h with
  | @up a b i u hc =>
    obtain ⟨d, hd, e1, e2, e3, e4⟩ := u
    refine ⟨d, hd, ?_⟩
    unfold nx
    rw [if_pos ⟨e1, e4, by rw [e3]; show 0 ≤ (i : Int) + 1; omega, by rw [e3]; show (i : Int) + 1 ≤ cap; omega⟩, e2, e3]
    show some (((b : Int)).toNat, ((i : Int) + 1).toNat) = _
    rw [Int.toNat_natCast, show ((i : Int) + 1).toNat = i + 1 by omega]
  | @flat a b i u hc =>
    obtain ⟨d, hd, e1, e2, e3, e4⟩ := u
    refine ⟨d, hd, ?_⟩
    unfold nx
    rw [if_pos ⟨e1, e4, by rw [e3]; show 0 ≤ (i : Int) + 0; omega, by rw [e3]; show (i : Int) + 0 ≤ cap; omega⟩, e2, e3]
    show some (((b : Int)).toNat, ((i : Int) + 0).toNat) = _
    rw [Int.toNat_natCast, show ((i : Int) + 0).toNat = i by omega]
  | @down a b i u hc =>
    obtain ⟨d, hd, e1, e2, e3, e4⟩ := u
    refine ⟨d, hd, ?_⟩
    unfold nx
    rw [if_pos ⟨e1, e4, by rw [e3]; show 0 ≤ ((i + 1 : Nat) : Int) + -1; omega, by rw [e3]; show ((i + 1 : Nat) : Int) + -1 ≤ cap; omega⟩, e2, e3]
    show some (((b : Int)).toNat, (((i + 1 : Nat) : Int) + -1).toNat) = _
    rw [Int.toNat_natCast, show (((i + 1 : Nat) : Int) + -1).toNat = i by omega]
/-- what is found, what waits; busy: the deeds of t0 that are not yet looked at -/
structure Bf (n cap : Nat) (ds : List Dd) (s : Nat × Nat) (fs ws : List (Nat × Nat)) : Prop where
  nd : fs.Nodup
  ok : ∀ t ∈ fs, t.1 < n ∧ t.2 ≤ cap ∧ ReD cap ds s t
  wf : ∀ t ∈ ws, t ∈ fs
  st : s ∈ fs
def Done (cap : Nat) (ds : List Dd) (fs : List (Nat × Nat)) (t : Nat × Nat) : Prop := ∀ d ∈ ds, ∀ u, nx cap d t = some u → u ∈ fs
theorem Done.more {cap : Nat} {ds : List Dd} {fs : List (Nat × Nat)} {t x : Nat × Nat} (h : Done cap ds fs t) : Done cap ds (fs ++ [x]) t := fun d hd u e => List.mem_append_left _ (h d hd u e)
theorem Bf.len {n cap : Nat} {ds : List Dd} {s : Nat × Nat} {fs ws : List (Nat × Nat)} (b : Bf n cap ds s fs ws) : fs.length ≤ n * (cap + 1) := few_pairs b.nd fun t ht => ⟨(b.ok t ht).1, by have := (b.ok t ht).2.1; omega⟩
theorem Bf.all {n cap : Nat} {ds : List Dd} {s : Nat × Nat} {fs ws : List (Nat × Nat)} (b : Bf n cap ds s fs ws) (h : ∀ t ∈ fs, Done cap ds fs t) {t : Nat × Nat} : t ∈ fs ↔ ReD cap ds s t := by
  refine ⟨fun z => (b.ok t z).2.2, fun z => ?_⟩
  induction z with
  | start => exact b.st
  | next _ x ih =>
    obtain ⟨d, hd, e⟩ := st_nx x
    exact h _ ih d hd _ e
theorem Bf.push {m : Int} {n cap : Nat} {ds : List Dd} (ok : ∀ d ∈ ds, d.Ok m) (hm : m = n) {s : Nat × Nat} {fs ws : List (Nat × Nat)} (b : Bf n cap ds s fs ws) {d : Dd} (hd : d ∈ ds) {t u : Nat × Nat} (ht : t ∈ fs) (e : nx cap d t = some u) (hu : u ∉ fs) :
    Bf n cap ds s (fs ++ [u]) (ws ++ [u]) := by
  have bt := b.ok t ht
  refine ⟨List.nodup_append.mpr ⟨b.nd, List.pairwise_singleton _ _, fun a ha c hc z => ?_⟩, fun v hv => ?_, fun v hv => ?_, List.mem_append_left _ b.st⟩
  · rw [List.mem_singleton.mp hc] at z
    exact hu (z ▸ ha)
  · rcases List.mem_append.mp hv with hv | hv
    · exact b.ok v hv
    · rw [List.mem_singleton.mp hv]
      have sx := nx_st ok hd bt.2.1 e
      unfold nx at e
      split at e
      · rename_i q
        obtain rfl := Option.some.inj e
        have o := ok d hd
        have := o.gn
        have := o.g0
        exact ⟨by show d.g.toNat < n; omega, by show ((t.2 : Int) + d.c).toNat ≤ cap; have := q.2.2.2; omega, .next bt.2.2 sx⟩
      · exact nomatch e
  · rcases List.mem_append.mp hv with hv | hv
    · exact List.mem_append_left _ (b.wf v hv)
    · exact List.mem_append_right _ hv
end L2.K24
end

section
set_option Elab.async false
set_option linter.all false
set_option maxRecDepth 100000
set_option maxHeartbeats 2000000
/-! {k: v}, one pair, k a tuple -/
namespace L2.Gd
open PySem PySem.Spec PyProof.Rows
section
variable {prog : Program} {w : World} {K : Type} [DecidableEq K] {knd : HeapKind prog w K} {A : Around} {E : Value → Shared → Prop} {s : Shared} {env : Env}
theorem subDict_one {k v : Sem Value} {Q : Addr → Shared → Prop}
    (h : wpAny (model prog w) A (evalPairs [(k, v)]) (fun vs s₁ => ∃ a key u, vs = [(.ref a, u)] ∧ knd.room A ∧ knd.is s₁.heap key a ∧ s₁.heap.DictOfH knd s.heap.objs.size [] ∧
      ∀ h', h'.DictOfH knd s.heap.objs.size (storedH [] key a u) → Heap.SameBut s.heap.objs.size s₁.heap h' → Q s.heap.objs.size { s₁ with heap := h', toks := s₁.toks + knd.draws key }) E
      { s with heap := s.heap.push { cls := .type "dict", data := .dict #[] } }) :
    wpAny (model prog w) A (subDict [(k, v)]) Q E s := by
  unfold subDict
  refine wpAny_bind (wpAny_alloc ?_)
  refine wpAny_bind (wpAny_holding ?_)
  rw [if_pos (show [(k, v)].length ≤ 15 by show 1 ≤ 15; decide)]
  refine wpAny_bind (wpAny_mono h (fun vs s₁ h₁ => ?_) fun _ _ e => e)
  obtain ⟨a, key, u, rfl, hu, hk, hm, hQ⟩ := h₁
  refine wpAny_holding ?_
  refine wpAny_bind ?_
  rw [List.forIn_cons]
  refine wpAny_bind (wpAny_bind (wpAny_dictSet_heap (hsz := by rw [sizeLine_eq]; exact Nat.zero_le _) hu hk hm fun h' hm' hs' => wpAny_pure ?_))
  show wpAny _ _ (forIn [] _ _) _ _ _
  rw [List.forIn_nil]
  exact wpAny_pure (wpAny_pure (wpAny_pure (hQ h' hm' hs')))
end
def tDisp1 (tk tv : TE) : TE := fun σ H Q => ∀ p, H p = none → tk σ (upd H p (.dT [])) fun x H1 => tv σ H1 fun y H2 => ∃ (b : Addr) (k : List Key), x = .ref b ∧ H2 b = some (.tup (k.map kV)) ∧ H2 p = some (.dT []) ∧ Q (.ref p) (upd H2 p (.dT [(k, y)]))
theorem pe_disp1 {X : Cx} {ke ve : Expr} {tk tv : TE} {pos : Pos} (hu : X.A.units + 1 < cLine) (hk : PE X ke tk) (hv : PE X ve tv) : PE X (.Dict [some ke] [ve] pos) (tDisp1 tk tv) := by
  refine ⟨fun pins s σ H Q I q => ?_⟩
  have hn := I.hok.fresh (Nat.le_refl s.heap.objs.size)
  have I1 := I.laid (a := s.heap.objs.size) (o := .dT []) (h' := s.heap.push { cls := .type "dict", data := .dict #[] }) (t' := s.toks) (fun _ _ q => Heap.get?_push_of_some _ q) (Nat.le_refl _) (dt_empty s.heap I.big)
  rw [arm_eval_Dict, zip_pairTrees [some ke] [ve] X.env pos (by rfl) (by rfl), dictDisplay_pairs (pairTrees [some ke] [ve] X.env pos) (by simp [pairTrees]) (by simp [pairTrees])]
  refine wpAny_bind (wpAny_standAt (wpAny_bind (subDict_one (knd := tupleKind (mixKind X.prog X.w)) ?_)))
  have P : PPs X pos [some ke] [ve] [(tk, tv)] := pps_cons hk hv pps_nil
  refine thn (P.run pins _ σ _ (fun ps H2 => match ps with
    | [(x, y)] => ∃ (b : Addr) (k : List Key), x = .ref b ∧ H2 b = some (.tup (k.map kV)) ∧ H2 s.heap.objs.size = some (.dT []) ∧ Q (.ref s.heap.objs.size) (upd H2 s.heap.objs.size (.dT [(k, y)]))
    | _ => False) I1 (q _ hn)) ?_
  rintro vs s2 ⟨ps, H2, I2, rel, q2⟩
  match ps, rel, q2 with
  | [(x, y)], .cons (b := (kv, u)) r .nil, ⟨b, k, ex, hb, hp, q3⟩ =>
    have ex : x = V.ref b := ex
    subst ex
    obtain ⟨r1, r2⟩ := r
    obtain rfl : kv = Value.ref b := r1
    obtain ⟨z, hd, xs, rel, dd⟩ := dt_of I2.hok hp
    cases rel
    refine ⟨b, k, u, rfl, (by show X.A.units < cLine; omega), key_of I2.hok hb, dd, fun h' dd' hs => ?_⟩
    refine wpAny_pure ⟨.ref s.heap.objs.size, upd H2 s.heap.objs.size (.dT [(k, y)]), ?_, rfl, q3⟩
    obtain ⟨o, es, ep, hq, h2, h3, h4, _, h5⟩ := dd'
    have rel0 : KT H2 [(k, y)] (storedH [] k b u) := .cons ⟨rfl, hb, r2⟩ .nil
    refine d_write I2 (by rw [hp]; exact True.intro) hs ⟨o, hq⟩ ⟨by rw [sizeLine_eq]; show 1 ≤ _; decide, hd, _, rel0.keeps fun c ys ec => ?_, o, es, ep, hq, h2, h3, h4, h5⟩
    rw [upd_ne (ne_of ec hp (fun z => nomatch z))]
    exact ec
end L2.Gd
end

section
set_option Elab.async false
set_option linter.all false
set_option maxRecDepth 100000
set_option maxHeartbeats 4000000
namespace L2.K24
open PySem PySem.Spec PyProof.Rows L2.Gd L2.Lv
/-- stands as keys -/
def kS (t : Nat × Nat) : List Key := [.inl (t.1 : Int), .inl (t.2 : Int)]
def kvS (fs : List (Nat × Nat)) : List (List Key × V) := fs.map fun t => (kS t, V.bl true)
theorem kS_inj {a b : Nat × Nat} (h : kS a = kS b) : a = b := by
  unfold kS at h
  have h1 := Sum.inl.inj (List.cons.inj h).1
  have h2 := Sum.inl.inj (List.cons.inj (List.cons.inj h).2).1
  exact Prod.ext (Int.ofNat.inj h1) (Int.ofNat.inj h2)
theorem valV_S (t : Nat × Nat) : ∀ fs : List (Nat × Nat), (valV (kvS fs) (kS t)).isSome = decide (t ∈ fs)
  | [] => by rw [decide_eq_false (by simp)]; rfl
  | f :: r => by
    unfold kvS
    rw [List.map_cons]
    by_cases e : f = t
    · subst e
      rw [valV_pos rfl, decide_eq_true List.mem_cons_self]
      rfl
    · rw [valV_neg (fun z => e (kS_inj z))]
      have := valV_S t r
      unfold kvS at this
      rw [this, Bool.eq_iff_iff, decide_eq_true_eq, decide_eq_true_eq, List.mem_cons]
      exact ⟨.inr, fun z => z.resolve_left fun z => e z.symm⟩
theorem valV_none {t : Nat × Nat} {fs : List (Nat × Nat)} (h : t ∉ fs) : valV (kvS fs) (kS t) = none := by
  have := valV_S t fs
  rw [decide_eq_false h] at this
  exact Option.isNone_iff_eq_none.mp (by cases hv : valV (kvS fs) (kS t) with | none => rfl | some _ => rw [hv] at this; exact nomatch this)
theorem kS_V (t : Nat × Nat) : (kS t).map kV = [V.int (t.1 : Nat), V.int (t.2 : Nat)] := rfl
theorem PrAt.same {H H' : Hp} {v : V} {p : Nat × Nat} (s : Same H H') (h : PrAt H v p) : PrAt H' v p := let ⟨t, e, q⟩ := h; ⟨t, e, s _ _ q⟩
section
variable {P : Program} {w : World} {K : PySem.W.Frag} {mg : Str → Option Value} {base : Heap} {C : Addr}
def pD (p : Nat × Nat) : PyData := .tuple [.int (p.1 : Nat), .int (p.2 : Nat)]
theorem PrAll.dps {H : Hp} : ∀ {vs : List V} {ps : List (Nat × Nat)}, PrAll H vs ps → DpAll K H vs (ps.map pD)
  | _, _, .nil => .nil
  | _, _, .cons ⟨t, e, q⟩ r => by
    subst e
    exact .cons (.tup (.inl (.inl q)) (.cons (.int _) (.cons (.int _) .nil))) (PrAll.dps r)
theorem pD_lay : ∀ ps : List (Nat × Nat), PyData.canLayAll0 (ps.map pD) = true
  | [] => by simp [PyData.canLayAll0]
  | x :: r => by simp [PyData.canLayAll0, PyData.canLay0, pD, pD_lay r]
theorem pD_dep : ∀ ps : List (Nat × Nat), PyData.depthAll (ps.map pD) ≤ 1
  | [] => by simp [PyData.depthAll]
  | x :: r => by
    have := pD_dep r
    simp [PyData.depthAll, PyData.depth, pD]
    omega
theorem pD_shaped (ps : List (Nat × Nat)) : SeqAt.shaped (.list (ps.map pD)) = true := by
  show (PyData.canLay0 (.list (ps.map pD)) && decide (PyData.depth (.list (ps.map pD)) ≤ 64)) = true
  rw [Bool.and_eq_true]
  refine ⟨by simp only [PyData.canLay0]; exact pD_lay ps, decide_eq_true ?_⟩
  have := pD_dep ps
  simp only [PyData.depth]
  omega
theorem pD_nil (ps : List (Nat × Nat)) : PyData.eqv (.list (ps.map pD)) (.list []) = decide (ps = []) := by
  cases ps with
  | nil => simp [PyData.eqv, PyData.eqvAll]
  | cons x r => simp [PyData.eqv, PyData.eqvAll]
/-! ### all stands under a roof -/
theorem paired_snoc {α β : Type} {R : α → β → Prop} {y : β} : ∀ {ys : List β} {xs : List α}, Paired R xs (ys ++ [y]) → ∃ xs0 x, xs = xs0 ++ [x] ∧ Paired R xs0 ys ∧ R x y
  | [], _, .cons h .nil => ⟨[], _, rfl, .nil, h⟩
  | z :: ys, _, .cons h t => by
    obtain ⟨xs0, x, rfl, h1, h2⟩ := paired_snoc (ys := ys) t
    exact ⟨_ :: xs0, x, rfl, .cons h h1, h2⟩
def spRc : Sp := fun vs H Q _ => ∃ (D : Addr) (ys : List V) (ds : List Dd) (n p s cap : Nat), vs = [.ref D, .int p, .int s, .int cap] ∧ H D = some (.lst ys) ∧ DdAll H ys ds ∧ (∀ d ∈ ds, d.Ok (n : Int)) ∧ p < n ∧ s ≤ cap ∧ n ≤ 16 ∧ cap ≤ 10000 ∧
  ∀ f H' fs, H f = none → Same H H' → H' f = some (.dT (kvS fs)) → (∀ t, t ∈ fs ↔ ReD cap ds (p, s) t) → Q (.ref f) H'
def NRc : List Str := ["_law_deeds_here", "_law_place", "_law_start", "_law_cap", "_law_found", "_law_waiting", "_law_here", "_law_number", "_law_origin", "_law_change", "_law_goal", "_law_when", "_law_stand"]
theorem scRc : FnScope NRc ["_law_deeds_here", "_law_place", "_law_start", "_law_cap"] (defScope (top 42)) := ⟨rfl, rfl, rfl, by decide +kernel, rfl, by decide +kernel, by decide +kernel⟩
/-- what stands while it goes on -/
structure RcAt (n cap : Nat) (ds : List Dd) (s : Nat × Nat) (H H2 : Hp) (f w : Addr) (fs ws : List (Nat × Nat)) : Prop where
  nf : H f = none
  nw : H w = none
  ne : f ≠ w
  same : Same H H2
  hf : H2 f = some (.dT (kvS fs))
  hw : ∃ xs, H2 w = some (.lst xs) ∧ PrAll H2 xs ws
  bf : Bf n cap ds s fs ws
theorem ok_rc {f : Addr} {fd : FuncData} (F : Fun K "_law_reached" "_law_reached" (top 42) f fd) : FnOk P w K mg base CX0 1 f fd ["_law_deeds_here", "_law_place", "_law_start", "_law_cap"] spRc := by
  refine F.ok scRc (fun vs H Q E h => ?_) (fun cdv A outer s H vs Q E hr h => ?_)
  · obtain ⟨D, ys, ds, n, p, s, cap, rfl, _⟩ := h
    rfl
  · obtain ⟨D, ys, ds, n, p, s, cap, rfl, hD, dd, ok, pn, sc, n16, c1000, q⟩ := h
    have N := scRc.nd
    have hu := hu_of hr
    have yl := Paired.length dd
    refine ⟨_, pss_cons (ps_par (i := 4) (j := 5) rfl N rfl rfl (by decide) rfl rfl (pa_cons (pe_disp1 hu (pe_tup (pa_cons (pv 1) (pa_cons (pv 2) pa_nil))) pe_bl) (pa_cons (pe_lst (pa_cons (pe_tup (pa_cons (pv 1) (pa_cons (pv 2) pa_nil))) pa_nil)) pa_nil)) (by rfl))
      (pss_cons (ps_while PassesOwn.never (pt_cmpR (op_neD hr.units) (pv 5) (pe_lst pa_nil) (nomark _))
        (pss_cons (ps_asg (pe_bm0 PySem.F.plainAttrs_list PySem.F.slot_list_pop PySem.F.type_list_pop mt_pop (pv 5)) (pg_tup rfl (pgs_cons (pg_name (i := 6) N rfl (.inl rfl)) (pgs_cons (pg_name (i := 7) N rfl (.inl rfl)) pgs_nil))))
        (pss_one (ps_for PassesOwn.never rfl (pi_list (pv 0)) (pg_tup rfl (pgs_cons (pg_name (i := 8) N rfl (.inl rfl)) (pgs_cons (pg_name (i := 9) N rfl (.inl rfl)) (pgs_cons (pg_name (i := 10) N rfl (.inl rfl)) (pgs_cons (pg_name (i := 11) N rfl (.inl rfl)) pgs_nil)))))
          (pss_cons (ps_set (i := 12) N rfl (.inl rfl) (pe_tup (pa_cons (pv 10) (pa_cons (pe_op op_add (pv 7) (pv 9)) pa_nil))))
          (pss_one (ps_if (PW.pt (pw_and (pt_cmpR op_eq (pv 8) (pv 6) (nomark _)) (pw_and (pt_cmpR op_eq (pv 11) pe_str (nomark _)) (pw_and (pt_chain op_le op_le pe_int (pe_ix ix_tup (pv 12) pe_int (fun _ _ => rfl)) (pv 3)) (pw_and1 (pt_cmp (pc_dnotin hu (pv 12) (pv 4))))))))
            (pss_cons (ps_dput hu (pv 4) (pv 12) pe_bl rfl)
            (pss_one (ps_expr (pe_bm PySem.F.plainAttrs_list PySem.F.slot_list_append PySem.F.type_list_append mt_append (pv 5) (pa_cons (pv 12) pa_nil))))) pss_nil)))))))
      (pss_one (ps_ret (pv 4)))), ?_⟩
    refine seqV (Good := fun σ2 H2 => ∃ (f w : Addr), RcAt n cap ds (p, s) H H2 f w [(p, s)] [(p, s)] ∧ σ2 = [some (.ref D), some (.int p), some (.int s), some (.int cap), some (.ref f), some (.ref w), none, none, none, none, none, none, none]) ?_ ?_
    · intro nx' hnx
      intro f hf
      refine ⟨_, rfl, _, rfl, (by show 2 ≤ sizeLine; decide), fun t ht => ?_⟩
      have s1 : Same H (upd H f (.dT [])) := same_upd hf
      have s2 := same_upd (o := .tup [V.int p, V.int s]) ht
      have ft : f ≠ t := ne_of_none (show upd H f (.dT []) f = some _ from upd_same) ht
      refine ⟨t, kS (p, s), rfl, upd_same, s2 _ _ upd_same, ?_⟩
      refine ⟨_, rfl, _, rfl, (by show 2 ≤ sizeLine; decide), fun t2 ht2 => ⟨(by show 1 ≤ sizeLine; decide), fun w hw => ?_⟩⟩
      have s3 := same_upd (o := .tup [V.int p, V.int s]) ht2
      have s4 := same_upd (o := .lst [V.ref t2]) hw
      have s13 := (s1.trans s2)
      have nt : H t = none := s1.free ht
      have hf2 : upd (upd H f (.dT [])) t (.tup [V.int p, V.int s]) f = some (.dT []) := s2 _ _ upd_same
      have same2 : Same H (upd (upd (upd H f (.dT [])) t (.tup [V.int p, V.int s])) f (.dT [(kS (p, s), V.bl true)])) := fun b o e => by
        rw [upd_ne (ne_of_none e hf)]
        exact s13 _ _ e
      have s24 := s3.trans s4
      have nf3 : f ≠ w := ne_of_none (s3 _ _ (show upd (upd (upd H f (.dT [])) t (.tup [V.int p, V.int s])) f (.dT [(kS (p, s), V.bl true)]) f = some _ from upd_same)) hw
      refine ⟨_, _, rfl, hnx _ _ ⟨f, w, ⟨hf, (same2.trans s3).free hw, nf3, same2.trans s24, s24 _ _ upd_same, ⟨_, upd_same, .cons ⟨t2, rfl, s4 _ _ upd_same⟩ .nil⟩, ⟨List.pairwise_singleton _ _, fun t' ht' => ?_, fun t' h => h, List.mem_cons_self⟩⟩, rfl⟩⟩
      obtain rfl := List.mem_singleton.mp ht'
      exact ⟨pn, sc, .start⟩
    rintro _ H1 ⟨f, w, r1, rfl⟩
    refine ⟨fun m σ H2 => ∃ (f w : Addr) (fs ws : List (Nat × Nat)) (v6 v7 v8 v9 v10 v11 v12 : Option V), m = 2 * (n * (cap + 1) - fs.length) + ws.length ∧ σ = [some (.ref D), some (.int p), some (.int s), some (.int cap), some (.ref f), some (.ref w), v6, v7, v8, v9, v10, v11, v12] ∧ RcAt n cap ds (p, s) H H2 f w fs ws ∧ (∀ t ∈ fs, t ∈ ws ∨ Done cap ds fs t) ∧ 2 * (n * (cap + 1) - fs.length) + ws.length ≤ 2 * (n * (cap + 1)) + 1,
      ⟨_, f, w, _, _, _, _, _, _, _, _, _, rfl, rfl, r1, fun t h => .inl h, by show 2 * (_ - 1) + 1 ≤ _; omega⟩, ?_⟩
    clear r1 f w H1
    rintro m σ H2 ⟨f, w, fs, ws, v6, v7, v8, v9, v10, v11, v12, rfl, rfl, r2, dn, lm⟩
    obtain ⟨xs, hw, pa⟩ := r2.hw
    refine ⟨_, rfl, (by show 0 ≤ sizeLine; decide), fun e he => ?_⟩
    have se := same_upd (o := .lst []) he
    refine ⟨_, .list [], .lst (.inl (.inl (se _ _ hw))) (pa.same se).dps, .lst (.inl (.inl upd_same)) .nil, pD_shaped _, by decide +kernel, !decide (ws = []), congrArg (fun b => V.bl (!b)) (pD_nil ws), ?_⟩
    rcases List.eq_nil_or_concat ws with rfl | ⟨ws0, t0, rfl⟩
    · refine iteF ⟨_, rfl, q f _ fs r2.nf (r2.same.trans se) (se _ _ r2.hf) fun t => ?_⟩
      exact r2.bf.all fun t ht => (dn t ht).resolve_left (fun z => nomatch z)
    · have hne : decide (ws0 ++ [t0] = []) = false := decide_eq_false (by simp)
      rw [List.concat_eq_append] at *
      rw [hne]
      refine iteT ⟨_, fun σ' H' h => h, ?_⟩
      obtain ⟨xs0, x0, rfl, pa0, t, rfl, ht⟩ := paired_snoc pa
      have hw' := se _ _ hw
      refine ⟨_, rfl, .inl ⟨rfl, _, .inl (.inl hw')⟩, w, _, .ref t, rfl, rfl, hw', by simp, ?_⟩
      rw [List.dropLast_concat]
      have bp : ButD w (upd H2 e (.lst [])) (upd (upd H2 e (.lst [])) w (.lst xs0)) := ButD.start
      have tw : t ≠ w := fun z => by
        subst z
        rw [hw] at ht
        exact nomatch ht
      have s3 : Same H (upd (upd H2 e (.lst [])) w (.lst xs0)) := fun b o eb => bp _ _ (ne_of_none eb r2.nw) (se _ _ (r2.same _ _ eb))
      have r3 : RcAt n cap ds (p, s) H (upd (upd H2 e (.lst [])) w (.lst xs0)) f w fs ws0 := ⟨r2.nf, r2.nw, r2.ne, s3, bp _ _ r2.ne (se _ _ r2.hf), ⟨xs0, upd_same, (PrAll.same se pa0).but bp ⟨_, hw'⟩⟩, ⟨r2.bf.nd, r2.bf.ok, fun t h => r2.bf.wf t (List.mem_append_left _ h), r2.bf.st⟩⟩
      have t0f : t0 ∈ fs := r2.bf.wf t0 (by simp)
      have bl := r2.bf.len
      refine ⟨t, _, rfl, .inl (.inl (bp _ _ tw (se _ _ ht))), rfl, _, _, rfl, _, _, rfl, rfl, ?_⟩
      generalize upd (upd H2 e (.lst [])) w (.lst xs0) = H3 at r3
      refine ⟨_, rfl, D, rfl, ⟨ys, .inl (.inl (r3.same _ _ hD))⟩, ?_⟩
      refine loop_of (n := ys.length) (fun i σ H4 => ∃ (fs' ws' : List (Nat × Nat)) (v8 v9 v10 v11 v12 : Option V), σ = [some (.ref D), some (.int p), some (.int s), some (.int cap), some (.ref f), some (.ref w), some (.int (t0.1 : Nat)), some (.int (t0.2 : Nat)), v8, v9, v10, v11, v12] ∧ RcAt n cap ds (p, s) H H4 f w fs' ws' ∧ t0 ∈ fs' ∧
          (∀ t ∈ fs', t ∈ ws' ∨ t = t0 ∨ Done cap ds fs' t) ∧ (∀ d ∈ ds.take i, ∀ u, nx cap d t0 = some u → u ∈ fs') ∧ 2 * (n * (cap + 1) - fs'.length) + ws'.length ≤ 2 * (n * (cap + 1) - fs.length) + ws0.length)
        ⟨fs, ws0, v8, v9, v10, v11, v12, rfl, r3, t0f, fun t ht => ?_, (by simp), Nat.le_refl _⟩ ?_ ?_
      · rcases dn t ht with h | h
        · rcases List.mem_append.mp h with h | h
          · exact .inl h
          · exact .inr (.inl (List.mem_singleton.mp h))
        · exact .inr (.inr h)
      · rintro σ H4 ⟨fs', ws', v8, v9, v10, v11, v12, rfl, r4, t4, dn4, all4, le4⟩
        refine ⟨⟨_, .inl (.inl (r4.same _ _ hD)), Nat.le_refl _⟩, ?_⟩
        rw [List.length_append] at lm
        have lm : 2 * (n * (cap + 1) - fs.length) + (ws0.length + 1) ≤ 2 * (n * (cap + 1)) + 1 := lm
        refine ⟨_, ?_, f, w, fs', ws', _, _, _, _, _, _, _, rfl, rfl, r4, fun t ht => ?_, by omega⟩
        · rw [List.length_append]
          show _ < _ + (ws0.length + 1)
          omega
        · rcases dn4 t ht with h | h | h
          · exact .inl h
          · subst h
            rw [yl, List.take_length] at all4
            exact .inr all4
          · exact .inr h
      · rintro i σ H4 hi ⟨fs', ws', v8, v9, v10, v11, v12, rfl, r4, t4, dn4, all4, le4⟩
        refine ⟨⟨_, _, .inl (.inl (r4.same _ _ hD)), List.getElem?_eq_getElem hi⟩, ?_⟩
        rintro x H5 ⟨rfl, hy⟩
        have hyi := hy _ (.inl (.inl (r4.same _ _ hD)))
        obtain ⟨d, hd, td, rfl, htd⟩ := Paired.at dd hyi
        have dm := List.mem_of_getElem? hd
        have od := ok d dm
        refine ⟨td, _, rfl, .inl (.inl (r4.same _ _ htd)), rfl, _, _, rfl, _, _, rfl, _, _, rfl, _, _, rfl, rfl, ?_⟩
        refine ⟨_, rfl, _, rfl, _, rfl, _, _, rfl, rfl, (by show 2 ≤ sizeLine; decide), fun T hT => ?_⟩
        have sT := same_upd (o := .tup [V.int d.g, V.int ((t0.2 : Nat) + d.c)]) hT
        have r5 : RcAt n cap ds (p, s) H (upd H5 T (.tup [V.int d.g, V.int ((t0.2 : Nat) + d.c)])) f w fs' ws' := by
          obtain ⟨xs4, hw4, pa4⟩ := r4.hw
          exact ⟨r4.nf, r4.nw, r4.ne, r4.same.trans sT, sT _ _ r4.hf, ⟨xs4, sT _ _ hw4, PrAll.same sT pa4⟩, r4.bf⟩
        have hTT : upd H5 T (.tup [V.int d.g, V.int ((t0.2 : Nat) + d.c)]) T = some (.tup [V.int d.g, V.int ((t0.2 : Nat) + d.c)]) := upd_same
        have tk : ds.take (i + 1) = ds.take i ++ [d] := by rw [List.take_succ, hd]; rfl
        have nTw : T ≠ w := fun z => by
          obtain ⟨xs4, hw4, _⟩ := r4.hw
          subst z
          rw [hw4] at hT
          exact nomatch hT
        have nTf : T ≠ f := fun z => by
          subst z
          rw [r4.hf] at hT
          exact nomatch hT
        generalize upd H5 T (.tup [V.int d.g, V.int ((t0.2 : Nat) + d.c)]) = H6 at r5 hTT
        -- what is skipped
        have skip : (∀ u, nx cap d t0 = some u → u ∈ fs') → ∃ (fs'' ws'' : List (Nat × Nat)) (v8 v9 v10 v11 v12 : Option V), [some (V.ref D), some (.int p), some (.int s), some (.int cap), some (.ref f), some (.ref w), some (.int (t0.1 : Nat)), some (.int (t0.2 : Nat)), some (.int d.p), some (.int d.c), some (.int d.g), some (.str d.w), some (.ref T)] = [some (V.ref D), some (.int p), some (.int s), some (.int cap), some (.ref f), some (.ref w), some (.int (t0.1 : Nat)), some (.int (t0.2 : Nat)), v8, v9, v10, v11, v12] ∧ RcAt n cap ds (p, s) H H6 f w fs'' ws'' ∧ t0 ∈ fs'' ∧
          (∀ t ∈ fs'', t ∈ ws'' ∨ t = t0 ∨ Done cap ds fs'' t) ∧ (∀ d ∈ ds.take (i + 1), ∀ u, nx cap d t0 = some u → u ∈ fs'') ∧ 2 * (n * (cap + 1) - fs''.length) + ws''.length ≤ 2 * (n * (cap + 1) - fs.length) + ws0.length := fun h =>
          ⟨fs', ws', _, _, _, _, _, rfl, r5, t4, dn4, fun d' hd' u e => by
            rw [tk] at hd'
            rcases List.mem_append.mp hd' with hd' | hd'
            · exact all4 d' hd' u e
            · rw [List.mem_singleton.mp hd'] at e
              exact h u e, le4⟩
        have no : ¬ (d.p = (t0.1 : Int) ∧ d.w = "any" ∧ 0 ≤ (t0.2 : Int) + d.c ∧ (t0.2 : Int) + d.c ≤ cap) → ∀ u, nx cap d t0 = some u → u ∈ fs' := fun c u e => by
          unfold nx at e
          rw [if_neg c] at e
          exact nomatch e
        have e1 : decide (V.int d.p = V.int (t0.1 : Nat)) = decide (d.p = (t0.1 : Int)) := by simp
        refine ⟨_, rfl, _, rfl, rfl, decide (d.p = (t0.1 : Int)), congrArg V.bl e1, ?_⟩
        by_cases c1 : ¬ (d.p = (t0.1 : Int))
        · rw [decide_eq_false c1]
          exact iteF (skip (no fun z => c1 z.1))
        replace c1 := Decidable.not_not.mp c1
        rw [decide_eq_true c1]
        refine iteT ⟨_, rfl, rfl, isAny d, congrArg V.bl (anyE d), ?_⟩
        cases c2 : isAny d with
        | false => exact iteF (skip (no fun z => by rw [(isAny_w d).mpr z.2.1] at c2; exact nomatch c2))
        | true =>
          have w2 := (isAny_w d).mp c2
          refine iteT ⟨_, rfl, T, _, _, _, rfl, rfl, .inl (.inl hTT), rfl, _, _, rfl, rfl, decide (0 ≤ (t0.2 : Int) + d.c), rfl, ?_⟩
          by_cases c3 : ¬ (0 ≤ (t0.2 : Int) + d.c)
          · rw [decide_eq_false c3]
            exact iteF ⟨false, rfl, iteF (skip (no fun z => c3 z.2.2.1))⟩
          replace c3 := Decidable.not_not.mp c3
          rw [decide_eq_true c3]
          refine iteT ⟨_, rfl, _, _, rfl, rfl, decide ((t0.2 : Int) + d.c ≤ cap), rfl, ?_⟩
          by_cases c4 : ¬ ((t0.2 : Int) + d.c ≤ cap)
          · rw [decide_eq_false c4]
            exact iteF (skip (no fun z => c4 z.2.2.2))
          replace c4 := Decidable.not_not.mp c4
          rw [decide_eq_true c4]
          have g0 := od.g0
          have gn' := od.gn
          have enx : nx cap d t0 = some (d.g.toNat, ((t0.2 : Int) + d.c).toNat) := by
            unfold nx
            rw [if_pos ⟨c1, w2, c3, c4⟩]
          generalize hu0 : (d.g.toNat, ((t0.2 : Int) + d.c).toNat) = u0 at enx
          have hTk : H6 T = some (.tup ((kS u0).map kV)) := by
            rw [hTT, ← hu0, kS_V]
            have a1 : ((d.g.toNat : Nat) : Int) = d.g := by omega
            have a2 : ((((t0.2 : Int) + d.c).toNat : Nat) : Int) = (t0.2 : Int) + d.c := by omega
            rw [a1, a2]
          refine iteT ⟨_, rfl, _, rfl, f, _, rfl, .t r5.hf hTk, _, rfl, ?_⟩
          rw [valV_S]
          by_cases c5 : u0 ∈ fs'
          · rw [decide_eq_true c5]
            exact iteF (skip fun u e => by rw [enx] at e; rw [← Option.some.inj e]; exact c5)
          rw [decide_eq_false c5]
          refine iteT ?_
          have push := r5.bf.push ok rfl dm t4 enx c5
          have pl := push.len
          rw [List.length_append] at pl
          have pl : fs'.length + 1 ≤ n * (cap + 1) := pl
          have nb : n * (cap + 1) ≤ 16 * 10001 := Nat.mul_le_mul n16 (by omega)
          refine ⟨_, rfl, _, rfl, f, _, rfl, .t r5.hf hTk (by unfold kvS; rw [List.length_map, sizeLine_eq]; omega), ?_⟩
          rw [putK_new _ (valV_none c5)]
          obtain ⟨xs5, hw5, pa5⟩ := r5.hw
          have bf : ButD f H6 (upd H6 f (.dT (kvS fs' ++ [(kS u0, V.bl true)]))) := ButD.start
          have hw6 := bf _ _ r5.ne.symm hw5
          refine ⟨_, rfl, .inl ⟨rfl, _, .inl (.inl hw6)⟩, _, rfl, w, _, _, rfl, rfl, hw6, ?_, ?_⟩
          · have := Paired.length pa5
            rw [List.length_append] at lm
            have lm : 2 * (n * (cap + 1) - fs.length) + (ws0.length + 1) ≤ 2 * (n * (cap + 1)) + 1 := lm
            rw [sizeLine_eq]
            omega
          have bw : ButD w (upd H6 f (.dT (kvS fs' ++ [(kS u0, V.bl true)]))) (upd (upd H6 f (.dT (kvS fs' ++ [(kS u0, V.bl true)]))) w (.lst (xs5 ++ [V.ref T]))) := ButD.start
          have tupf : ∀ {vs ps}, PrAll H6 vs ps → PrAll (upd H6 f (.dT (kvS fs' ++ [(kS u0, V.bl true)]))) vs ps := fun h => Paired.mapP h fun _ _ ⟨t, e, z⟩ => ⟨t, e, bf _ _ (fun y => by
            subst y
            rw [r5.hf] at z
            exact nomatch z) z⟩
          refine ⟨fs' ++ [u0], ws' ++ [u0], _, _, _, _, _, rfl, ⟨r5.nf, r5.nw, r5.ne, fun b o eb => bw _ _ (ne_of_none eb r5.nw) (bf _ _ (ne_of_none eb r5.nf) (r5.same _ _ eb)), ?_, ⟨_, upd_same, ?_⟩, push⟩, List.mem_append_left _ t4, fun t ht => ?_, fun d' hd' u e => ?_, ?_⟩
          · rw [bw _ _ r5.ne upd_same]
            unfold kvS
            rw [List.map_append]
            rfl
          · refine PrAll.but bw ⟨_, hw6⟩ (PySem.Paired.snoc (tupf pa5) ⟨T, rfl, bf _ _ nTf ?_⟩)
            rw [hTk, kS_V]
          · rcases List.mem_append.mp ht with ht | ht
            · exact (dn4 t ht).imp (List.mem_append_left _) (Or.imp id Done.more)
            · exact .inl (List.mem_append_right _ ht)
          · rw [tk] at hd'
            rcases List.mem_append.mp hd' with hd' | hd'
            · exact List.mem_append_left _ (all4 d' hd' u e)
            · rw [List.mem_singleton.mp hd', enx] at e
              rw [← Option.some.inj e]
              exact List.mem_append_right _ (List.mem_singleton.mpr rfl)
          · rw [List.length_append, List.length_append]
            show 2 * (_ - (fs'.length + 1)) + (ws'.length + 1) ≤ _
            omega
end
end L2.K24
end

section
set_option Elab.async false
set_option linter.all false
set_option maxRecDepth 100000
set_option maxHeartbeats 4000000
namespace L2.K24
open PySem PySem.Spec PyProof.Rows L2.Gd L2.Lv
/-! ### a relation's pairs, in order -/
open Classical in
noncomputable def rowC (n : Nat) (r : Rl) (a : Nat) : List (Nat × Nat) := ((List.range n).filter fun b => decide (r a b)).map fun b => (a, b)
noncomputable def canon (n : Nat) (r : Rl) : List (Nat × Nat) := (List.range n).flatMap (rowC n r)
theorem rowC_congr {n : Nat} {r s : Rl} {a : Nat} (h : ∀ b, r a b ↔ s a b) : rowC n r a = rowC n s a := by
  unfold rowC
  congr 2
  funext b
  rw [decide_eq_decide]
  exact h b
theorem canon_congr {n : Nat} {r s : Rl} (h : ∀ a, a < n → ∀ b, r a b ↔ s a b) : canon n r = canon n s := by
  unfold canon
  have : ∀ k, k ≤ n → (List.range k).flatMap (rowC n r) = (List.range k).flatMap (rowC n s) := by
    intro k
    induction k with
    | zero => intro _; rfl
    | succ k ih =>
      intro hk
      rw [List.range_succ, List.flatMap_append, List.flatMap_append, ih (by omega), List.flatMap_cons, List.flatMap_cons, rowC_congr (h k (by omega))]
      rfl
  exact this n (Nat.le_refl n)
open Classical in
theorem mem_canon {n : Nat} {r : Rl} {a b : Nat} : (a, b) ∈ canon n r ↔ a < n ∧ b < n ∧ r a b := by
  unfold canon rowC
  rw [List.mem_flatMap]
  constructor
  · rintro ⟨c, hc, h⟩
    obtain ⟨d, hd, e⟩ := List.mem_map.mp h
    obtain ⟨rfl, rfl⟩ := Prod.mk.inj e
    obtain ⟨h1, h2⟩ := List.mem_filter.mp hd
    exact ⟨List.mem_range.mp hc, List.mem_range.mp h1, of_decide_eq_true h2⟩
  · rintro ⟨h1, h2, h3⟩
    exact ⟨a, List.mem_range.mpr h1, List.mem_map.mpr ⟨b, List.mem_filter.mpr ⟨List.mem_range.mpr h2, decide_eq_true h3⟩, rfl⟩⟩
theorem canon_inj {n : Nat} {r s : Rl} (hr : In n r) (hs : In n s) (h : canon n r = canon n s) (a b : Nat) : r a b ↔ s a b := by
  have e : (a, b) ∈ canon n r ↔ (a, b) ∈ canon n s := by rw [h]
  rw [mem_canon, mem_canon] at e
  exact ⟨fun x => (e.mp ⟨(hr a b x).1, (hr a b x).2, x⟩).2.2, fun x => (e.mpr ⟨(hs a b x).1, (hs a b x).2, x⟩).2.2⟩
open Classical in
theorem prs_canon {n : Nat} {l : List Nat} {r : Rl} (h : Rep n l r) (i : In n r) : prsL l = canon n r := by
  unfold prsL canon
  rw [h.len]
  have : ∀ a, rowP l a = rowC n r a := fun a => by
    unfold rowP rowC
    congr 1
    rw [onesL_range (n := l.getD a 0) (m := n) (lt_pow fun b hb => (i a b ((h.bit a b).mp hb)).2)]
    congr 1
    funext b
    rw [Bool.eq_iff_iff, decide_eq_true_eq]
    exact h.bit a b
  rw [show rowP l = rowC n r from funext this]
theorem rowC_len (n : Nat) (r : Rl) (a : Nat) : (rowC n r a).length ≤ n := by
  unfold rowC
  rw [List.length_map]
  exact Nat.le_trans (List.length_filter_le _ _) (Nat.le_of_eq List.length_range)
theorem canon_len (n : Nat) (r : Rl) : ∀ k, ((List.range k).flatMap (rowC n r)).length ≤ k * n
  | 0 => Nat.zero_le _
  | k + 1 => by
    have := canon_len n r k
    have := rowC_len n r k
    rw [List.range_succ, List.flatMap_append, List.length_append, List.flatMap_cons, List.flatMap_nil, List.append_nil, Nat.succ_mul]
    omega
theorem pD_eqv : ∀ ps qs : List (Nat × Nat), PyData.eqvAll (ps.map pD) (qs.map pD) = decide (ps = qs)
  | [], [] => by simp [PyData.eqvAll]
  | [], _ :: _ => by simp [PyData.eqvAll]
  | _ :: _, [] => by simp [PyData.eqvAll]
  | (a, b) :: r, (c, d) :: t => by
    rw [List.map_cons, List.map_cons, PyData.eqvAll, pD_eqv r t]
    simp [PyData.eqv, PyData.eqvAll, pD]
    rw [Bool.eq_iff_iff]
    simp
    omega
theorem pL_eqv (ps qs : List (Nat × Nat)) : PyData.eqv (.list (ps.map pD)) (.list (qs.map pD)) = decide (ps = qs) := by
  rw [PyData.eqv, pD_eqv]
theorem PrAll.app {H : Hp} {xs ys : List V} {ps qs : List (Nat × Nat)} (h : PrAll H xs ps) (k : PrAll H ys qs) : PrAll H (xs ++ ys) (ps ++ qs) := Paired.app h k
section
variable {P : Program} {w : World} {K : PySem.W.Frag} {mg : Str → Option Value} {base : Heap} {C : Addr}
abbrev LeD (n : Nat) (ds : List Dd) (k : Nat) : Rl := Le n (Dl ds 1) (Dl ds 0) (Dl ds (-1)) k
/-! ### one level -/
def spLl : Sp := fun vs H Q _ => ∃ (D : Addr) (ys : List V) (ds : List Dd) (n k : Nat), vs = [.ref D, .int n, .int k] ∧ H D = some (.lst ys) ∧ DdAll H ys ds ∧ (∀ d ∈ ds, d.Ok (n : Int)) ∧ n ≤ 16 ∧ k ≤ 1000 ∧
  ∀ p H' xs, H p = none → Same H H' → H' p = some (.lst xs) → PrAll H' xs (canon n (LeD n ds k)) → Q (.ref p) H'
def NLl : List Str := ["_law_deeds_here", "_law_places", "_law_number", "_law_found", "_law_place", "_law_reached_here", "_law_goal"]
theorem scLl : FnScope NLl ["_law_deeds_here", "_law_places", "_law_number"] (defScope (top 44)) := ⟨rfl, rfl, rfl, by decide +kernel, rfl, by decide +kernel, by decide +kernel⟩
open Classical in
theorem ok_ll {f : Addr} {fd : FuncData} (F : Fun K "_law_level" "_law_level" (top 44) f fd) (n : Nm mg) (GR : Fn P w K mg base 1 "_law_reached" ["_law_deeds_here", "_law_place", "_law_start", "_law_cap"] spRc) :
    FnOk P w K mg base CX0 2 f fd ["_law_deeds_here", "_law_places", "_law_number"] spLl := by
  refine F.ok scLl (fun vs H Q E h => ?_) (fun cdv A outer s H vs Q E hr h => ?_)
  · obtain ⟨D, ys, ds, m, k, rfl, _⟩ := h
    rfl
  · obtain ⟨D, ys, ds, m, k, rfl, hD, dd, ok, m16, k1000, q⟩ := h
    have N := scLl.nd
    have hu := hu_of hr
    have mm : m * m ≤ 16 * 16 := Nat.mul_le_mul m16 m16
    refine ⟨_, pss_cons (ps_set (i := 3) N rfl (.inl rfl) (pe_lst pa_nil))
      (pss_cons (ps_for PassesOwn.never rfl (pi_range1 (by rfl) n.range (pa_cons (pv 1) pa_nil)) (pg_name (i := 4) N rfl (.inr rfl))
        (pss_cons (ps_set (i := 5) N rfl (.inr rfl) (pe_fn GR hr (pa_cons (pv 0) (pa_cons (pv 4) (pa_cons (pv 2) (pa_cons (pe_op op_add (pe_op op_add (pv 2) (pe_op op_mul (pv 1) (pv 1))) pe_int) pa_nil))))))
        (pss_one (ps_set (i := 3) N rfl (.inl rfl) (pe_op op_cat (pv 3)
          (pe_lc (own := [("_law_goal", 6)]) (g := gName 6) rfl N (pi_range1 (by rfl) n.range (pa_cons (pv 1) pa_nil)) (blkOk_by (N := NLl) (sc := defScope (top 44)) (by decide +kernel)) (fun _ _ _ _ _ => pg_name (i := 6) N rfl (.inl rfl))
            (fun _ _ _ _ _ => pts_one (pt_cmp (pc_din hu (pe_tup (pa_cons (pv 6) (pa_cons (pv 2) pa_nil))) (pv 5)))) (fun _ _ _ _ _ => pe_tup (pa_cons (pv 4) (pa_cons (pv 6) pa_nil)))))))))
      (pss_one (ps_ret (pv 3)))), ?_⟩
    refine ⟨(by show 0 ≤ sizeLine; decide), fun o ho => ?_⟩
    have s0 := same_upd (o := .lst []) ho
    refine ⟨_, rfl, m, rfl, by omega, by omega, for_range (lo := 0) (n := ((m : Int)).toNat) (fun i σ H2 => ∃ (p : Addr) (xs : List V) (v4 v5 : Option V), σ = [some (.ref D), some (.int m), some (.int k), some (.ref p), v4, v5, none] ∧ H p = none ∧ Same H H2 ∧ H2 p = some (.lst xs) ∧ PrAll H2 xs ((List.range i).flatMap (rowC m (LeD m ds k))))
      ⟨o, [], none, none, rfl, ho, s0, upd_same, .nil⟩ ?_ ?_⟩
    · rintro i σ H2 hi ⟨p, xs, v4, v5, rfl, np, s2, hp, pa⟩
      have im : i < m := by omega
      have e0 : (0 : Int) + (i : Int) = (i : Int) := Int.zero_add _
      refine gn ?_
      rw [e0]
      refine ⟨_, rfl, _, rfl, _, rfl, _, rfl, _, rfl, _, rfl, _, _, rfl, rfl, .inl ⟨by omega, by omega⟩, _, _, rfl, rfl, _, _, rfl, rfl, D, ys, ds, m, i, k, k + m * m + 1, ?_, s2 _ _ hD, DdAll.same s2 dd, ok, im, by omega, m16, by omega, fun f H3 fs nf s3 hf mem => ?_⟩
      · show [V.ref D, V.int i, V.int k, V.int ((k : Int) + (m : Int) * (m : Int) + 1)] = _
        rw [show (((k + m * m + 1 : Nat)) : Int) = (k : Int) + (m : Int) * (m : Int) + 1 by simp]
      have hp3 := s3 _ _ hp
      have lv : ∀ b, (b, k) ∈ fs ↔ LeD m ds k i b := fun b => (mem (b, k)).trans (level_walk (Dl.inn ok 1) (Dl.inn ok 0) (Dl.inn ok (-1)) (by omega) im).symm
      refine ⟨_, rfl, _, rfl, m, rfl, by omega, by omega, fun o2 ho2 => ?_⟩
      refine lc_range (lo := 0) (n := ((m : Int)).toNat) (fun j H4 => ButD o2 H3 H4 ∧ ∃ zs, H4 o2 = some (.lst zs) ∧ PrAll H4 zs (((List.range j).filter fun b => decide (LeD m ds k i b)).map fun b => (i, b))) ⟨.start, [], upd_same, .nil⟩ ?_ ?_
      · rintro j H4 hj ⟨b4, zs, h4, p4⟩
        have s4 := b4.new ho2
        have ej : (0 : Int) + (j : Int) = (j : Int) := Int.zero_add _
        refine ⟨rfl, ?_⟩
        refine ⟨_, rfl, _, rfl, (by show 2 ≤ sizeLine; decide), fun T hT => ?_⟩
        have sT := same_upd (o := .tup [V.int (0 + (j : Int)), V.int k]) hT
        have hTk : upd H4 T (.tup [V.int (0 + (j : Int)), V.int k]) T = some (.tup ((kS (j, k)).map kV)) := by rw [upd_same, ej, kS_V]
        have hf5 := sT _ _ (s4 _ _ hf)
        have h5 := sT _ _ h4
        have b5 := b4.more sT
        have p5 := PrAll.same sT p4
        generalize upd H4 T (.tup [V.int (0 + (j : Int)), V.int k]) = H5 at hTk hf5 h5 b5 p5
        refine ⟨_, rfl, f, _, rfl, .t hf5 hTk, _, rfl, ?_⟩
        rw [valV_S]
        have rs : ((List.range (j + 1)).filter fun b => decide (LeD m ds k i b)).map (fun b => (i, b)) = ((List.range j).filter fun b => decide (LeD m ds k i b)).map (fun b => (i, b)) ++ (if LeD m ds k i j then [(i, j)] else []) := by
          rw [List.range_succ, List.filter_append, List.map_append]
          congr 1
          by_cases c : LeD m ds k i j <;> simp [c]
        by_cases c : LeD m ds k i j
        · rw [if_pos c] at rs
          rw [decide_eq_true ((lv j).mpr c)]
          refine iteT ⟨_, rfl, _, rfl, (by show 2 ≤ sizeLine; decide), fun u hu => ?_⟩
          have su := same_upd (o := .tup [V.int i, V.int (0 + (j : Int))]) hu
          have zl := Paired.length p5
          have hz : zs.length ≤ j := by
            rw [zl, List.length_map]
            exact Nat.le_trans (List.length_filter_le _ _) (Nat.le_of_eq List.length_range)
          have bt : ButD o2 (upd H5 u (.tup [V.int i, V.int (0 + (j : Int))])) (L2.upd (upd H5 u (.tup [V.int i, V.int (0 + (j : Int))])) o2 (.lst (zs ++ [V.ref u]))) := ButD.start
          refine ⟨zs, su _ _ h5, by rw [sizeLine_eq]; omega, (b5.more su).put, _, upd_same, ?_⟩
          rw [rs]
          refine PrAll.but bt ⟨_, su _ _ h5⟩ (PySem.Paired.snoc (PrAll.same su p5) ⟨u, rfl, ?_⟩)
          rw [upd_same, ej]
        · rw [if_neg c, List.append_nil] at rs
          rw [decide_eq_false (fun z => c ((lv j).mp z))]
          exact iteF ⟨b5, zs, h5, by rw [rs]; exact p5⟩
      · rintro H4 ⟨b4, zs, h4, p4⟩
        rw [Int.toNat_natCast] at p4
        have s4 := b4.new ho2
        have hp4 := s4 _ _ hp3
        have pa4 := PrAll.same (s3.trans s4) pa
        have l1 := canon_len m (LeD m ds k) i
        have l2 := rowC_len m (LeD m ds k) i
        have xl := Paired.length pa4
        have zl : zs.length = (rowC m (LeD m ds k) i).length := Paired.length p4
        have im2 : i * m ≤ 16 * 16 := Nat.mul_le_mul (by omega) m16
        refine ⟨p, o2, xs, zs, rfl, rfl, hp4, h4, by rw [sizeLine_eq]; omega, fun t ht => ?_⟩
        have s5 := same_upd (o := .lst (xs ++ zs)) ht
        refine ⟨t, xs ++ zs, _, _, rfl, (s2.trans (s3.trans s4)).free ht, s2.trans (s3.trans (s4.trans s5)), upd_same, ?_⟩
        rw [List.range_succ, List.flatMap_append, List.flatMap_cons, List.flatMap_nil, List.append_nil]
        exact PrAll.app (PrAll.same s5 pa4) (PrAll.same s5 p4)
    · rintro σ H2 ⟨p, xs, v4, v5, rfl, np, s2, hp, pa⟩
      rw [Int.toNat_natCast] at pa
      exact ⟨_, rfl, q p H2 xs np s2 hp pa⟩
end
end L2.K24
end

section
set_option Elab.async false
set_option linter.all false
set_option maxRecDepth 100000
set_option maxHeartbeats 4000000
namespace L2.K24
open PySem PySem.Spec PyProof.Rows L2.Gd L2.Lv
/-! ### strictly ascending lists of pairs -/
def cN (p : Nat × Nat) : Nat := p.1 * 64 + p.2
theorem asc_eq : ∀ xs ys : List (Nat × Nat), xs.Pairwise (fun a b => cN a < cN b) → ys.Pairwise (fun a b => cN a < cN b) → (∀ a, a ∈ xs ↔ a ∈ ys) → xs = ys
  | [], [], _, _, _ => rfl
  | [], y :: ys, _, _, h => nomatch (h y).mpr List.mem_cons_self
  | x :: xs, [], _, _, h => nomatch (h x).mp List.mem_cons_self
  | x :: xs, y :: ys, hx, hy, h => by
    obtain ⟨hx1, hx2⟩ := List.pairwise_cons.mp hx
    obtain ⟨hy1, hy2⟩ := List.pairwise_cons.mp hy
    have e : x = y := by
      rcases List.mem_cons.mp ((h x).mp List.mem_cons_self) with e | e
      · exact e
      rcases List.mem_cons.mp ((h y).mpr List.mem_cons_self) with f | f
      · exact f.symm
      have := hy1 x e
      have := hx1 y f
      omega
    subst e
    rw [asc_eq xs ys hx2 hy2 fun a => ?_]
    constructor
    · intro ha
      rcases List.mem_cons.mp ((h a).mp (List.mem_cons_of_mem _ ha)) with e | e
      · subst e
        have := hx1 a ha
        omega
      · exact e
    · intro ha
      rcases List.mem_cons.mp ((h a).mpr (List.mem_cons_of_mem _ ha)) with e | e
      · subst e
        have := hy1 a ha
        omega
      · exact e
theorem rowC_fst {n : Nat} {r : Rl} {a : Nat} {p : Nat × Nat} (h : p ∈ rowC n r a) : p.1 = a ∧ p.2 < n := by
  unfold rowC at h
  obtain ⟨d, hd, rfl⟩ := List.mem_map.mp h
  exact ⟨rfl, List.mem_range.mp (List.mem_filter.mp hd).1⟩
theorem rowC_asc (n : Nat) (r : Rl) (a : Nat) : (rowC n r a).Pairwise (fun a b => cN a < cN b) := by
  unfold rowC
  rw [List.pairwise_map]
  refine List.Pairwise.filter _ (List.Pairwise.imp ?_ List.pairwise_lt_range)
  intro x y h
  unfold cN
  omega
theorem canon_asc {n : Nat} (n64 : n ≤ 64) (r : Rl) : (canon n r).Pairwise (fun a b => cN a < cN b) := by
  unfold canon
  have : ∀ k, ((List.range k).flatMap (rowC n r)).Pairwise (fun a b => cN a < cN b) ∧ ∀ p ∈ (List.range k).flatMap (rowC n r), p.1 < k := by
    intro k
    induction k with
    | zero => exact ⟨.nil, fun p h => nomatch h⟩
    | succ k ih =>
      rw [List.range_succ, List.flatMap_append, List.flatMap_cons, List.flatMap_nil, List.append_nil]
      refine ⟨List.pairwise_append.mpr ⟨ih.1, rowC_asc n r k, fun x hx y hy => ?_⟩, fun p hp => ?_⟩
      · have h1 := ih.2 x hx
        have h3 := rowC_fst hy
        have h4 : x.2 < n := by
          obtain ⟨c, _, hc⟩ := List.mem_flatMap.mp hx
          exact (rowC_fst hc).2
        unfold cN
        omega
      · rcases List.mem_append.mp hp with h | h
        · have := ih.2 p h
          omega
        · have := (rowC_fst h).1
          omega
  exact (this n).1
/-- a strictly ascending list with the relation's pairs -/
theorem canon_of {n : Nat} (n64 : n ≤ 64) {r : Rl} {ps : List (Nat × Nat)} (h : ps.Pairwise (fun a b => cN a < cN b)) (m : ∀ a b, (a, b) ∈ ps ↔ a < n ∧ b < n ∧ r a b) : ps = canon n r :=
  asc_eq _ _ h (canon_asc n64 r) fun ⟨a, b⟩ => (m a b).trans mem_canon.symm
theorem canon_nodup {n : Nat} (n64 : n ≤ 64) (r : Rl) : (canon n r).Nodup := (canon_asc n64 r).imp fun {a b} h e => by
  subst e
  omega
/-! ### pairs and their addresses -/
def prI (p : Nat × Nat) : List Int := [(p.1 : Int), (p.2 : Int)]
def natP (l : List Int) : Nat × Nat := ((l.getD 0 0).toNat, (l.getD 1 0).toNat)
theorem natP_prI (p : Nat × Nat) : natP (prI p) = p := by
  unfold natP prI
  simp
theorem prI_inj {p q : Nat × Nat} (h : prI p = prI q) : p = q := by rw [← natP_prI p, ← natP_prI q, h]
theorem prI_code (p : Nat × Nat) : TS.code 64 (prI p) = (cN p : Nat) := by
  unfold prI cN
  rw [code_pair]
  simp
theorem prs_ks {H : Hp} : ∀ {xs : List V} {ps : List (Nat × Nat)}, PrAll H xs ps → ∃ ks : List (Addr × List Int), xs = ks.map (fun q => V.ref q.1) ∧ (∀ q ∈ ks, H q.1 = some (.tup (q.2.map V.int))) ∧ ks.map (·.2) = ps.map prI
  | _, _, .nil => ⟨[], rfl, (fun q h => nomatch h), rfl⟩
  | _, p :: _, .cons ⟨t, e, ht⟩ r => by
    obtain ⟨ks, e1, e2, e3⟩ := prs_ks r
    refine ⟨(t, prI p) :: ks, by rw [e, e1]; rfl, fun q hq => ?_, by rw [List.map_cons, List.map_cons, e3]⟩
    rcases List.mem_cons.mp hq with rfl | hq
    · exact ht
    · exact e2 q hq
theorem ks_prs {H : Hp} : ∀ {ks : List (Addr × List Int)}, (∀ q ∈ ks, H q.1 = some (.tup (q.2.map V.int)) ∧ ∃ p, q.2 = prI p) → PrAll H (ks.map fun q => V.ref q.1) (ks.map fun q => natP q.2)
  | [], _ => .nil
  | q :: ks, h => by
    obtain ⟨h1, p, h2⟩ := h q List.mem_cons_self
    refine .cons ⟨q.1, rfl, ?_⟩ (ks_prs fun x hx => h x (List.mem_cons_of_mem _ hx))
    show _ = some (HO.tup [V.int ((natP q.2).1 : Nat), V.int ((natP q.2).2 : Nat)])
    rw [h1, h2, natP_prI]
    rfl
theorem bd_pair {p : Nat × Nat} (h1 : p.1 < 64) (h2 : p.2 < 64) : TS.Bd 64 (prI p) := by
  intro x hx
  unfold prI at hx
  simp only [List.mem_cons, List.not_mem_nil, or_false] at hx
  omega
section
variable {P : Program} {w : World} {K : PySem.W.Frag} {mg : Str → Option Value} {base : Heap} {C : Addr}
/-- sorted(set(xs)) -/
theorem sorted_set {H : Hp} {t : Addr} {xs : List V} {ps : List (Nat × Nat)} {n : Nat} {r : Rl} {Q : VK} (ht : H t = some (.lst xs)) (pa : PrAll H xs ps) (h64 : ps.length < 64) (n64 : n ≤ 64)
    (mem : ∀ a b, (a, b) ∈ ps ↔ a < n ∧ b < n ∧ r a b) (q : ∀ p H' ys, H p = none → Same H H' → H' p = some (.lst ys) → PrAll H' ys (canon n r) → Q (.ref p) H') :
    rSetOfT K P w [.ref t] H (fun v H1 => rSortedT K P w [v] H1 Q) := by
  obtain ⟨ks, e1, e2, e3⟩ := prs_ks pa
  have hk : ∀ q ∈ ks, ∃ p ∈ ps, q.2 = prI p := fun q hq => by
    have : q.2 ∈ ps.map prI := by
      rw [← e3]
      exact List.mem_map.mpr ⟨q, hq, rfl⟩
    obtain ⟨p, hp, e⟩ := List.mem_map.mp this
    exact ⟨p, hp, e.symm⟩
  have bd : ∀ p ∈ ps, p.1 < 64 ∧ p.2 < 64 := fun p hp => by
    have := (mem p.1 p.2).mp hp
    omega
  have kl : ks.length = ps.length := by
    have := congrArg List.length e3
    simpa using this
  subst e1
  refine ⟨t, ks, rfl, .inl (.inl ht), fun p hp => .inl (.inl (e2 p hp)), by omega, fun a L ha sub all => ?_⟩
  have sa := same_upd (o := SetTO P w a L) ha
  refine ⟨a, L, 2, 64, rfl, upd_same, fun p hp => .inl (.inl (sa _ _ (e2 p (sub p hp)))), by decide, fun q hq => ?_, fun L' p pm nd l64 pw hp => ?_⟩
  · obtain ⟨p, hp, e⟩ := hk q (sub q hq)
    rw [e]
    exact ⟨rfl, bd_pair (bd p hp).1 (bd p hp).2⟩
  · have sp := same_upd (o := .lst (L'.map fun q => V.ref q.1)) hp
    have inL : ∀ q ∈ L', ∃ p ∈ ps, q.2 = prI p := fun q hq => hk q (sub q (pm.mem_iff.mp hq))
    have pa' : PrAll (upd (upd H a (SetTO P w a L)) p (.lst (L'.map fun q => V.ref q.1))) (L'.map fun q => V.ref q.1) (L'.map fun q => natP q.2) :=
      ks_prs fun q hq => ⟨sp _ _ (sa _ _ (e2 q (sub q (pm.mem_iff.mp hq)))), let ⟨p, _, e⟩ := inL q hq; ⟨p, e⟩⟩
    have ec : L'.map (fun q => natP q.2) = canon n r := by
      refine canon_of n64 ?_ fun a b => ?_
      · rw [List.pairwise_map]
        have nd' := List.pairwise_map.mp nd
        refine List.Pairwise.imp_of_mem (fun {x y} hx hy hh => ?_) (pw.and nd')
        obtain ⟨p1, _, f1⟩ := inL x hx
        obtain ⟨p2, _, f2⟩ := inL y hy
        obtain ⟨h1, h2⟩ := hh
        rw [f1, f2] at h1 h2
        rw [prI_code, prI_code] at h1
        rw [f1, f2, natP_prI, natP_prI]
        have b1 := bd p1 ‹_›
        have b2 := bd p2 ‹_›
        have ne : cN p1 ≠ cN p2 := fun e => h2 (by
          unfold cN at e
          have : p1 = p2 := Prod.ext (by omega) (by omega)
          rw [this])
        omega
      · rw [← mem a b, List.mem_map]
        constructor
        · rintro ⟨q, hq, e⟩
          obtain ⟨p, hp, f⟩ := inL q hq
          rw [f, natP_prI] at e
          rw [← e]
          exact hp
        · intro hab
          have : prI (a, b) ∈ ks.map (·.2) := by
            rw [e3]
            exact List.mem_map.mpr ⟨_, hab, rfl⟩
          obtain ⟨q, hq, e⟩ := List.mem_map.mp this
          obtain ⟨q', hq', e'⟩ := List.mem_map.mp (all q hq)
          refine ⟨q', pm.mem_iff.mpr hq', ?_⟩
          have : q'.2 = prI (a, b) := e'.trans e
          rw [this, natP_prI]
    rw [ec] at pa'
    exact q p _ _ (sa.free hp) (sa.trans sp) upd_same pa'
theorem perm_of {α β : Type} {R : α → β → Prop} {ys xs : List α} (h : ys.Perm xs) : ∀ {ps : List β}, Paired R xs ps → ∃ qs, Paired R ys qs ∧ qs.Perm ps := by
  induction h with
  | nil => exact fun {ps} h => ⟨ps, h, .refl _⟩
  | cons x _ ih =>
    rintro _ (_ | ⟨r, t⟩)
    obtain ⟨qs, h1, h2⟩ := ih t
    exact ⟨_ :: qs, .cons r h1, h2.cons _⟩
  | swap x y l =>
    rintro _ (_ | ⟨r, _ | ⟨s, t⟩⟩)
    exact ⟨_, .cons s (.cons r t), .swap _ _ _⟩
  | trans _ _ i1 i2 =>
    intro ps h
    obtain ⟨qs, h1, h2⟩ := i2 h
    obtain ⟨rs, h3, h4⟩ := i1 h1
    exact ⟨rs, h3, h4.trans h2⟩
theorem paired_mem {α β : Type} {R : α → β → Prop} : ∀ {xs : List α} {ys : List β}, Paired R xs ys → ∀ y ∈ ys, ∃ x ∈ xs, R x y
  | _, _, .cons r t, y, hy => by
    rcases List.mem_cons.mp hy with rfl | hy
    · exact ⟨_, List.mem_cons_self, r⟩
    · obtain ⟨x, hx, h⟩ := paired_mem t y hy
      exact ⟨x, List.mem_cons_of_mem _ hx, h⟩
theorem paired_memL {α β : Type} {R : α → β → Prop} : ∀ {xs : List α} {ys : List β}, Paired R xs ys → ∀ x ∈ xs, ∃ y ∈ ys, R x y
  | _, _, .cons r t, y, hy => by
    rcases List.mem_cons.mp hy with rfl | hy
    · exact ⟨_, List.mem_cons_self, r⟩
    · obtain ⟨x, hx, h⟩ := paired_memL t y hy
      exact ⟨x, List.mem_cons_of_mem _ hx, h⟩
theorem pw_of {α β : Type} {R : α → β → Prop} {S : α → α → Prop} {T : β → β → Prop} (st : ∀ x y a b, S x y → R x a → R y b → T a b) : ∀ {xs : List α} {ys : List β}, Paired R xs ys → xs.Pairwise S → ys.Pairwise T
  | _, _, .nil, _ => .nil
  | _, _, .cons r t, h => by
    obtain ⟨h1, h2⟩ := List.pairwise_cons.mp h
    refine List.pairwise_cons.mpr ⟨fun b hb => ?_, pw_of st t h2⟩
    obtain ⟨y, hy, ry⟩ := paired_mem t b hb
    exact st _ _ _ _ (h1 y hy) r ry
theorem PrAt.tupI {H : Hp} {v : V} {p : Nat × Nat} (h : PrAt H v p) : TupI K H v (prI p) := let ⟨t, e, q⟩ := h; ⟨t, e, .inl (.inl q)⟩
/-- sorted(xs) -/
theorem sorted_prs {H : Hp} {t : Addr} {xs : List V} {ps : List (Nat × Nat)} {n : Nat} {r : Rl} {Q : VK} (ht : H t = some (.lst xs)) (pa : PrAll H xs ps) (h64 : ps.length < 64) (n64 : n ≤ 64) (nd : ps.Nodup)
    (mem : ∀ a b, (a, b) ∈ ps ↔ a < n ∧ b < n ∧ r a b) (q : ∀ p H' ys, H p = none → Same H H' → H' p = some (.lst ys) → PrAll H' ys (canon n r) → Q (.ref p) H') :
    rSortU K 2 64 [.ref t] H Q := by
  have bd : ∀ p ∈ ps, p.1 < 64 ∧ p.2 < 64 := fun p hp => by
    have := (mem p.1 p.2).mp hp
    omega
  refine ⟨t, xs, rfl, .inl (.inl ht), by rw [Paired.length pa]; exact h64, fun x hx => ?_, fun ys p pm pw hp => ?_⟩
  · obtain ⟨y, hy, h⟩ := paired_memL pa x hx
    exact ⟨prI y, h.tupI, rfl, bd_pair (bd y hy).1 (bd y hy).2⟩
  · obtain ⟨qs, h1, h2⟩ := perm_of pm pa
    have le : qs.Pairwise (fun a b => cN a ≤ cN b) := pw_of (R := PrAt H) (fun x y a b s ra rb => by
      have := s _ _ ra.tupI rb.tupI
      rw [prI_code, prI_code] at this
      omega) h1 pw
    have ec : qs = canon n r := by
      refine canon_of n64 ?_ fun a b => (h2.mem_iff).trans (mem a b)
      refine List.Pairwise.imp_of_mem (fun {x y} hx hy hh => ?_) (le.and (h2.nodup_iff.mpr nd))
      have b1 := bd x (h2.mem_iff.mp hx)
      have b2 := bd y (h2.mem_iff.mp hy)
      have ne : cN x ≠ cN y := fun e => hh.2 (by
        unfold cN at e
        exact Prod.ext (by omega) (by omega))
      have := hh.1
      omega
    have s := same_upd (o := .lst ys) hp
    rw [ec] at h1
    exact q p _ ys hp s upd_same (PrAll.same s h1)
end
end L2.K24
end

section
set_option Elab.async false
set_option linter.all false
set_option maxRecDepth 100000
set_option maxHeartbeats 4000000
namespace L2.K24
open PySem PySem.Spec PyProof.Rows L2.Gd L2.Lv
theorem pD_in (p : Nat × Nat) (ps : List (Nat × Nat)) : (ps.map pD).any (fun z => PyData.eqv z (pD p)) = decide (p ∈ ps) := by
  rw [List.any_map, Bool.eq_iff_iff, List.any_eq_true, decide_eq_true_eq]
  have e : ∀ q : Nat × Nat, PyData.eqv (pD q) (pD p) = decide (q = p) := fun q => by
    have := pD_eqv [q] [p]
    simp only [List.map_cons, List.map_nil, PyData.eqvAll, Bool.and_true] at this
    rw [this]
    simp
  constructor
  · rintro ⟨q, hq, h⟩
    have h : PyData.eqv (pD q) (pD p) = true := h
    rw [e, decide_eq_true_eq] at h
    exact h ▸ hq
  · intro h
    exact ⟨p, h, by show PyData.eqv (pD p) (pD p) = true; rw [e]; exact decide_eq_true rfl⟩
theorem pD_shaped1 (p : Nat × Nat) : SeqAt.shaped (pD p) = true := by
  show (PyData.canLay0 (pD p) && decide (PyData.depth (pD p) ≤ 64)) = true
  simp [pD, PyData.canLay0, PyData.canLayAll0, PyData.depth, PyData.depthAll]
section
variable {P : Program} {w : World} {K : PySem.W.Frag} {mg : Str → Option Value} {base : Heap} {C : Addr}
theorem in_prs {H : Hp} {t e : Addr} {xs : List V} {ps : List (Nat × Nat)} {a b : Nat} {Q : VK} (ht : H t = some (.tup [.int (a : Nat), .int (b : Nat)])) (he : H e = some (.lst xs)) (pa : PrAll H xs ps) (q : Q (.bl (decide ((a, b) ∈ ps))) H) :
    rInD K (.ref t) (.ref e) H Q :=
  ⟨pD (a, b), ps.map pD, .tup (.inl (.inl ht)) (.cons (.int _) (.cons (.int _) .nil)), .lst (.inl (.inl he)) pa.dps, pD_shaped1 _, pD_shaped _, by rw [pD_in]; exact q⟩
theorem notin_prs {H : Hp} {t e : Addr} {xs : List V} {ps : List (Nat × Nat)} {a b : Nat} {Q : VK} (ht : H t = some (.tup [.int (a : Nat), .int (b : Nat)])) (he : H e = some (.lst xs)) (pa : PrAll H xs ps) (q : Q (.bl (!decide ((a, b) ∈ ps))) H) :
    rNotInD K (.ref t) (.ref e) H Q :=
  ⟨pD (a, b), ps.map pD, .tup (.inl (.inl ht)) (.cons (.int _) (.cons (.int _) .nil)), .lst (.inl (.inl he)) pa.dps, pD_shaped1 _, pD_shaped _, by rw [pD_in]; exact q⟩
/-! ### climbs and drops of the walked level -/
def rCl0 (n : Nat) (ds : List Dd) : Rl := Cp (Dl ds 1) (LeD n ds 0)
def rDr0 (n : Nat) (ds : List Dd) : Rl := Cp (LeD n ds 0) (Dl ds (-1))
def spCd (R : Nat → List Dd → Rl) : Sp := fun vs H Q _ => ∃ (D : Addr) (ys : List V) (ds : List Dd) (n : Nat), vs = [.ref D, .int n] ∧ H D = some (.lst ys) ∧ DdAll H ys ds ∧ (∀ d ∈ ds, d.Ok (n : Int)) ∧ n ≤ 4 ∧ ds.length ≤ 8 ∧
  ∀ p H' xs, H p = none → Same H H' → H' p = some (.lst xs) → PrAll H' xs (canon n (R n ds)) → Q (.ref p) H'
def NCd1 : List Str := ["_law_deeds_here", "_law_places", "_law_even", "_law_found", "_law_origin", "_law_change", "_law_middle", "_law_when", "_law_goal"]
theorem scCd1 : FnScope NCd1 ["_law_deeds_here", "_law_places"] (defScope (top 46)) := ⟨rfl, rfl, rfl, by decide +kernel, rfl, by decide +kernel, by decide +kernel⟩
open Classical in
theorem ok_cd1 {f : Addr} {fd : FuncData} (F : Fun K "_law_climbs" "_law_climbs" (top 46) f fd) (n : Nm mg) (hset : mg "set" = none) (GL : Fn P w K mg base 2 "_law_level" ["_law_deeds_here", "_law_places", "_law_number"] spLl) :
    FnOk P w K mg base CX0 3 f fd ["_law_deeds_here", "_law_places"] (spCd rCl0) := by
  refine F.ok scCd1 (fun vs H Q E h => ?_) (fun cdv A outer s H vs Q E hr h => ?_)
  · obtain ⟨D, ys, ds, m, rfl, _⟩ := h
    rfl
  · obtain ⟨D, ys, ds, m, rfl, hD, dd, ok, m4, d8, q⟩ := h
    have N := scCd1.nd
    have hu := hu65 hr
    have yl := Paired.length dd
    refine ⟨_, pss_cons (ps_asg (pe_tup (pa_cons (pe_fn GL hr (pa_cons (pv 0) (pa_cons (pv 1) (pa_cons pe_int pa_nil)))) (pa_cons (pe_lst pa_nil) pa_nil))) (pg_tup rfl (pgs_cons (pg_name (i := 2) N rfl (.inr rfl)) (pgs_cons (pg_name (i := 3) N rfl (.inl rfl)) pgs_nil))))
      (pss_cons (ps_for PassesOwn.never rfl (pi_list (pv 0)) (pg_tup rfl (pgs_cons (pg_name (i := 4) N rfl (.inr rfl)) (pgs_cons (pg_name (i := 5) N rfl (.inl rfl)) (pgs_cons (pg_name (i := 6) N rfl (.inr rfl)) (pgs_cons (pg_name (i := 7) N rfl (.inl rfl)) pgs_nil)))))
        (pss_one (ps_if (PW.pt (pw_and (pt_cmpR op_eq (pv 5) pe_int (nomark _)) (pw_and1 (pt_cmpR op_eq (pv 7) pe_str (nomark _)))))
          (pss_one (ps_set (i := 3) N rfl (.inl rfl) (pe_op op_cat (pv 3)
            (pe_lc (own := [("_law_goal", 8)]) (g := gName 8) rfl N (pi_range1 (by rfl) n.range (pa_cons (pv 1) pa_nil)) (blkOk_by (N := NCd1) (sc := defScope (top 46)) (by decide +kernel)) (fun _ _ _ _ _ => pg_name (i := 8) N rfl (.inl rfl))
              (fun _ _ _ _ _ => pts_one (pt_cmpR (r := rInD K) (op_inD hu) (pe_tup (pa_cons (pv 6) (pa_cons (pv 8) pa_nil))) (pv 2) (by rfl))) (fun _ _ _ _ _ => pe_tup (pa_cons (pv 4) (pa_cons (pv 8) pa_nil))))))) pss_nil)))
      (pss_one (ps_ret (pe_callB (cr_sortedT rfl) (by rfl) n.sorted (by decide +kernel) (pa_cons (pe_callTy (cr_setOfT rfl hr.units) (by rfl) hset (by decide +kernel) (pa_cons (pv 3) pa_nil)) pa_nil))))), ?_⟩
    refine ⟨_, rfl, _, rfl, D, ys, ds, m, 0, rfl, hD, dd, ok, by omega, by decide, fun e H1 es ne s1 he pae => ?_⟩
    refine ⟨(by show 0 ≤ sizeLine; decide), fun p0 hp0 => ⟨(by show 2 ≤ sizeLine; decide), fun T hT => ?_⟩⟩
    have s2 := same_upd (o := .lst []) hp0
    have s3 := same_upd (o := .tup [V.ref e, V.ref p0]) hT
    refine ⟨T, _, rfl, .inl (.inl upd_same), rfl, _, _, rfl, _, _, rfl, rfl, ?_⟩
    have np0 : H p0 = none := s1.free hp0
    have hp03 := s3 _ _ (show upd H1 p0 (.lst []) p0 = some (.lst []) from upd_same)
    have s13 := s2.trans s3
    generalize upd (upd H1 p0 (.lst [])) T (.tup [V.ref e, V.ref p0]) = H3 at hp03 s13 ⊢
    refine ⟨_, rfl, D, rfl, ⟨ys, .inl (.inl (s13 _ _ (s1 _ _ hD)))⟩, ?_⟩
    refine loop_of (n := ys.length) (fun i σ H2 => ∃ (p : Addr) (xs : List V) (ps : List (Nat × Nat)) (v4 v5 v6 v7 : Option V), σ = [some (.ref D), some (.int m), some (.ref e), some (.ref p), v4, v5, v6, v7, none] ∧ H p = none ∧ Same H1 H2 ∧ H2 p = some (.lst xs) ∧ PrAll H2 xs ps ∧ ps.length ≤ i * m ∧
        (∀ a b, (a, b) ∈ ps ↔ a < m ∧ b < m ∧ ∃ d ∈ ds.take i, d.c = 1 ∧ d.w = "any" ∧ d.p = (a : Int) ∧ ∃ g : Nat, d.g = (g : Int) ∧ LeD m ds 0 g b))
      ⟨p0, [], [], none, none, none, none, rfl, np0, s13, hp03, .nil, Nat.zero_le _, fun a b => by simp⟩ ?_ ?_
    · rintro σ H2 ⟨p, xs, ps, v4, v5, v6, v7, rfl, np, s4, hp, pa, pl, mem⟩
      have s14 := s1.trans s4
      refine ⟨⟨_, .inl (.inl (s14 _ _ hD)), Nat.le_refl _⟩, ?_⟩
      rw [yl] at pl mem
      rw [List.take_length] at mem
      have : ds.length * m ≤ 8 * 4 := Nat.mul_le_mul d8 m4
      refine ⟨_, rfl, sorted_set (n := m) (r := rCl0 m ds) hp pa (by omega) (by omega) (fun a b => (mem a b).trans ?_) fun p' H' xs' np' s5 hp' pa' => ?_⟩
      · refine and_congr_right fun _ => and_congr_right fun _ => ?_
        constructor
        · rintro ⟨d, hd, h1, h2, h3, g, h4, h5⟩
          exact ⟨g, ⟨d, hd, h3, h4, h1, h2⟩, h5⟩
        · rintro ⟨g, ⟨d, hd, h3, h4, h1, h2⟩, h5⟩
          exact ⟨d, hd, h1, h2, h3, g, h4, h5⟩
      · exact q p' H' xs' (s14.free np') (s14.trans s5) hp' pa'
    · rintro i σ H2 hi ⟨p, xs, ps, v4, v5, v6, v7, rfl, np, s4, hp, pa, pl, mem⟩
      have s14 := s1.trans s4
      refine ⟨⟨_, _, .inl (.inl (s14 _ _ hD)), List.getElem?_eq_getElem hi⟩, ?_⟩
      rintro x H5 ⟨rfl, hy⟩
      have hyi := hy _ (.inl (.inl (s14 _ _ hD)))
      obtain ⟨d, hd, td, rfl, htd⟩ := Paired.at dd hyi
      have dm := List.mem_of_getElem? hd
      have od := ok d dm
      have tk : ds.take (i + 1) = ds.take i ++ [d] := by rw [List.take_succ, hd]; rfl
      have i8 : i < 8 := by omega
      have im : i * m + m = (i + 1) * m := by rw [Nat.succ_mul]
      have im8 : i * m ≤ 8 * 4 := Nat.mul_le_mul (by omega) m4
      refine ⟨td, _, rfl, .inl (.inl (s14 _ _ htd)), rfl, _, _, rfl, _, _, rfl, _, _, rfl, _, _, rfl, rfl, ?_⟩
      have skip : ¬ (d.c = 1 ∧ d.w = "any") → ∃ (p' : Addr) (xs : List V) (ps : List (Nat × Nat)) (v4 v5 v6 v7 : Option V), [some (.ref D), some (.int m), some (.ref e), some (.ref p), some (.int d.p), some (.int d.c), some (.int d.g), some (.str d.w), none] = [some (.ref D), some (.int m), some (.ref e), some (.ref p'), v4, v5, v6, v7, none] ∧ H p' = none ∧ Same H1 H5 ∧ H5 p' = some (.lst xs) ∧ PrAll H5 xs ps ∧ ps.length ≤ (i + 1) * m ∧
          (∀ a b, (a, b) ∈ ps ↔ a < m ∧ b < m ∧ ∃ d ∈ ds.take (i + 1), d.c = 1 ∧ d.w = "any" ∧ d.p = (a : Int) ∧ ∃ g : Nat, d.g = (g : Int) ∧ LeD m ds 0 g b) := fun c =>
        ⟨p, xs, ps, _, _, _, _, rfl, np, s4, hp, pa, by omega, fun a b => by
          rw [mem a b, tk]
          refine and_congr_right fun _ => and_congr_right fun _ => ⟨fun ⟨d', h', z⟩ => ⟨d', List.mem_append_left _ h', z⟩, fun ⟨d', h', z⟩ => ?_⟩
          rcases List.mem_append.mp h' with h' | h'
          · exact ⟨d', h', z⟩
          · rw [List.mem_singleton.mp h'] at z
            exact absurd ⟨z.1, z.2.1⟩ c⟩
      refine ⟨_, rfl, rfl, decide (d.c = 1), congrArg V.bl (by simp), ?_⟩
      by_cases c1 : ¬ d.c = 1
      · rw [decide_eq_false c1]
        exact iteF (skip fun z => c1 z.1)
      replace c1 := Decidable.not_not.mp c1
      rw [decide_eq_true c1]
      refine iteT ⟨_, rfl, rfl, isAny d, congrArg V.bl (anyE d), ?_⟩
      cases c2 : isAny d with
      | false => exact iteF (skip fun z => by rw [(isAny_w d).mpr z.2] at c2; exact nomatch c2)
      | true =>
        have w2 := (isAny_w d).mp c2
        have g0 := od.g0
        have gn := od.gn
        have p0 := od.p0
        have pn := od.pn
        obtain ⟨dg, hdg⟩ : ∃ k : Nat, d.g = k := ⟨d.g.toNat, by omega⟩
        obtain ⟨dp, hdp⟩ : ∃ k : Nat, d.p = k := ⟨d.p.toNat, by omega⟩
        refine iteT ⟨_, rfl, _, rfl, m, rfl, by omega, by omega, fun o2 ho2 => ?_⟩
        refine lc_range (lo := 0) (n := ((m : Int)).toNat) (fun j H4 => ButD o2 H5 H4 ∧ ∃ zs, H4 o2 = some (.lst zs) ∧ PrAll H4 zs (((List.range j).filter fun b => decide (LeD m ds 0 dg b)).map fun b => (dp, b))) ⟨.start, [], upd_same, .nil⟩ ?_ ?_
        · rintro j H4 hj ⟨b4, zs, h4, p4⟩
          have s5 := b4.new ho2
          have ej : (0 : Int) + (j : Int) = (j : Int) := Int.zero_add _
          refine ⟨rfl, ?_⟩
          rw [ej]
          refine ⟨_, rfl, _, rfl, (by show 2 ≤ sizeLine; decide), fun T hT => ?_⟩
          have sT := same_upd (o := .tup [V.int d.g, V.int (j : Int)]) hT
          have hTk : upd H4 T (.tup [V.int d.g, V.int (j : Int)]) T = some (.tup [V.int (dg : Nat), V.int (j : Nat)]) := by rw [upd_same, hdg]
          have h6 := sT _ _ h4
          have b6 := b4.more sT
          have p6 := PrAll.same sT p4
          have s56 := s5.trans sT
          generalize upd H4 T (.tup [V.int d.g, V.int (j : Int)]) = H6 at hTk h6 b6 p6 s56
          have he6 := s56 _ _ (s4 _ _ he)
          have pe6 := PrAll.same s56 (PrAll.same s4 pae)
          refine ⟨_, rfl, in_prs hTk he6 pe6 ⟨_, rfl, ?_⟩⟩
          have jm : j < m := by omega
          have cm : ((dg, j) ∈ canon m (LeD m ds 0)) ↔ LeD m ds 0 dg j := mem_canon.trans ⟨fun z => z.2.2, fun z => ⟨by omega, by omega, z⟩⟩
          have rs : ((List.range (j + 1)).filter fun b => decide (LeD m ds 0 dg b)).map (fun b => (dp, b)) = ((List.range j).filter fun b => decide (LeD m ds 0 dg b)).map (fun b => (dp, b)) ++ (if LeD m ds 0 dg j then [(dp, j)] else []) := by
            rw [List.range_succ, List.filter_append, List.map_append]
            congr 1
            by_cases c : LeD m ds 0 dg j <;> simp [c]
          by_cases c : LeD m ds 0 dg j
          · rw [if_pos c] at rs
            rw [decide_eq_true (cm.mpr c)]
            refine iteT ⟨_, rfl, _, rfl, (by show 2 ≤ sizeLine; decide), fun u hu => ?_⟩
            have su := same_upd (o := .tup [V.int d.p, V.int (j : Int)]) hu
            have zl := Paired.length p6
            have hz : zs.length ≤ j := by
              rw [zl, List.length_map]
              exact Nat.le_trans (List.length_filter_le _ _) (Nat.le_of_eq List.length_range)
            have bt : ButD o2 (upd H6 u (.tup [V.int d.p, V.int (j : Int)])) (L2.upd (upd H6 u (.tup [V.int d.p, V.int (j : Int)])) o2 (.lst (zs ++ [V.ref u]))) := ButD.start
            refine ⟨zs, su _ _ h6, by rw [sizeLine_eq]; omega, (b6.more su).put, _, upd_same, ?_⟩
            rw [rs]
            refine PrAll.but bt ⟨_, su _ _ h6⟩ (PySem.Paired.snoc (PrAll.same su p6) ⟨u, rfl, ?_⟩)
            rw [upd_same, hdp]
          · rw [if_neg c, List.append_nil] at rs
            rw [decide_eq_false (fun z => c (cm.mp z))]
            exact iteF ⟨b6, zs, h6, by rw [rs]; exact p6⟩
        · rintro H4 ⟨b4, zs, h4, p4⟩
          rw [Int.toNat_natCast] at p4
          have s5 := b4.new ho2
          have hp4 := s5 _ _ hp
          have pa4 := PrAll.same s5 pa
          have xl := Paired.length pa4
          have zl := Paired.length p4
          have zm : zs.length ≤ m := by
            rw [zl, List.length_map]
            exact Nat.le_trans (List.length_filter_le _ _) (Nat.le_of_eq List.length_range)
          refine ⟨p, o2, xs, zs, rfl, rfl, hp4, h4, by rw [sizeLine_eq]; omega, fun t ht => ?_⟩
          have s6 := same_upd (o := .lst (xs ++ zs)) ht
          have s456 := s4.trans (s5.trans s6)
          refine ⟨t, xs ++ zs, _, _, _, _, _, rfl, (s1.trans (s4.trans s5)).free ht, s456, upd_same, PrAll.app (PrAll.same s6 pa4) (PrAll.same s6 p4), ?_, fun a b => ?_⟩
          · rw [List.length_append, ← zl]
            omega
          · rw [List.mem_append, mem a b, tk]
            constructor
            · rintro (⟨h1, h2, d', h3, z⟩ | h)
              · exact ⟨h1, h2, d', List.mem_append_left _ h3, z⟩
              · obtain ⟨b', hb', eb⟩ := List.mem_map.mp h
                obtain ⟨hb1, hb2⟩ := List.mem_filter.mp hb'
                have hb1 := List.mem_range.mp hb1
                have hb2 := of_decide_eq_true hb2
                obtain ⟨rfl, rfl⟩ := Prod.mk.inj eb
                exact ⟨by omega, by omega, d, List.mem_append_right _ (List.mem_singleton.mpr rfl), c1, w2, hdp, dg, hdg, hb2⟩
            · rintro ⟨h1, h2, d', h3, z⟩
              rcases List.mem_append.mp h3 with h3 | h3
              · exact .inl ⟨h1, h2, d', h3, z⟩
              · rw [List.mem_singleton.mp h3] at z
                obtain ⟨_, _, z1, g, z2, z3⟩ := z
                refine .inr (List.mem_map.mpr ⟨b, List.mem_filter.mpr ⟨List.mem_range.mpr (by omega), decide_eq_true ?_⟩, ?_⟩)
                · have : g = dg := by omega
                  exact this ▸ z3
                · have : dp = a := by omega
                  rw [this]
def NCd2 : List Str := ["_law_deeds_here", "_law_places", "_law_even", "_law_found", "_law_middle", "_law_change", "_law_goal", "_law_when", "_law_origin"]
theorem scCd2 : FnScope NCd2 ["_law_deeds_here", "_law_places"] (defScope (top 47)) := ⟨rfl, rfl, rfl, by decide +kernel, rfl, by decide +kernel, by decide +kernel⟩
open Classical in
theorem ok_cd2 {f : Addr} {fd : FuncData} (F : Fun K "_law_drops" "_law_drops" (top 47) f fd) (n : Nm mg) (hset : mg "set" = none) (GL : Fn P w K mg base 2 "_law_level" ["_law_deeds_here", "_law_places", "_law_number"] spLl) :
    FnOk P w K mg base CX0 3 f fd ["_law_deeds_here", "_law_places"] (spCd rDr0) := by
  refine F.ok scCd2 (fun vs H Q E h => ?_) (fun cdv A outer s H vs Q E hr h => ?_)
  · obtain ⟨D, ys, ds, m, rfl, _⟩ := h
    rfl
  · obtain ⟨D, ys, ds, m, rfl, hD, dd, ok, m4, d8, q⟩ := h
    have N := scCd2.nd
    have hu := hu65 hr
    have yl := Paired.length dd
    refine ⟨_, pss_cons (ps_asg (pe_tup (pa_cons (pe_fn GL hr (pa_cons (pv 0) (pa_cons (pv 1) (pa_cons pe_int pa_nil)))) (pa_cons (pe_lst pa_nil) pa_nil))) (pg_tup rfl (pgs_cons (pg_name (i := 2) N rfl (.inr rfl)) (pgs_cons (pg_name (i := 3) N rfl (.inl rfl)) pgs_nil))))
      (pss_cons (ps_for PassesOwn.never rfl (pi_list (pv 0)) (pg_tup rfl (pgs_cons (pg_name (i := 4) N rfl (.inr rfl)) (pgs_cons (pg_name (i := 5) N rfl (.inl rfl)) (pgs_cons (pg_name (i := 6) N rfl (.inr rfl)) (pgs_cons (pg_name (i := 7) N rfl (.inl rfl)) pgs_nil)))))
        (pss_one (ps_if (PW.pt (pw_and (pt_cmpR op_eq (pv 5) (pe_un un_neg pe_int) (nomark _)) (pw_and1 (pt_cmpR op_eq (pv 7) pe_str (nomark _)))))
          (pss_one (ps_set (i := 3) N rfl (.inl rfl) (pe_op op_cat (pv 3)
            (pe_lc (own := [("_law_origin", 8)]) (g := gName 8) rfl N (pi_range1 (by rfl) n.range (pa_cons (pv 1) pa_nil)) (blkOk_by (N := NCd2) (sc := defScope (top 47)) (by decide +kernel)) (fun _ _ _ _ _ => pg_name (i := 8) N rfl (.inl rfl))
              (fun _ _ _ _ _ => pts_one (pt_cmpR (r := rInD K) (op_inD hu) (pe_tup (pa_cons (pv 8) (pa_cons (pv 4) pa_nil))) (pv 2) (by rfl))) (fun _ _ _ _ _ => pe_tup (pa_cons (pv 8) (pa_cons (pv 6) pa_nil))))))) pss_nil)))
      (pss_one (ps_ret (pe_callB (cr_sortedT rfl) (by rfl) n.sorted (by decide +kernel) (pa_cons (pe_callTy (cr_setOfT rfl hr.units) (by rfl) hset (by decide +kernel) (pa_cons (pv 3) pa_nil)) pa_nil))))), ?_⟩
    refine ⟨_, rfl, _, rfl, D, ys, ds, m, 0, rfl, hD, dd, ok, by omega, by decide, fun e H1 es ne s1 he pae => ?_⟩
    refine ⟨(by show 0 ≤ sizeLine; decide), fun p0 hp0 => ⟨(by show 2 ≤ sizeLine; decide), fun T hT => ?_⟩⟩
    have s2 := same_upd (o := .lst []) hp0
    have s3 := same_upd (o := .tup [V.ref e, V.ref p0]) hT
    refine ⟨T, _, rfl, .inl (.inl upd_same), rfl, _, _, rfl, _, _, rfl, rfl, ?_⟩
    have np0 : H p0 = none := s1.free hp0
    have hp03 := s3 _ _ (show upd H1 p0 (.lst []) p0 = some (.lst []) from upd_same)
    have s13 := s2.trans s3
    generalize upd (upd H1 p0 (.lst [])) T (.tup [V.ref e, V.ref p0]) = H3 at hp03 s13 ⊢
    refine ⟨_, rfl, D, rfl, ⟨ys, .inl (.inl (s13 _ _ (s1 _ _ hD)))⟩, ?_⟩
    refine loop_of (n := ys.length) (fun i σ H2 => ∃ (p : Addr) (xs : List V) (ps : List (Nat × Nat)) (v4 v5 v6 v7 : Option V), σ = [some (.ref D), some (.int m), some (.ref e), some (.ref p), v4, v5, v6, v7, none] ∧ H p = none ∧ Same H1 H2 ∧ H2 p = some (.lst xs) ∧ PrAll H2 xs ps ∧ ps.length ≤ i * m ∧
        (∀ a b, (a, b) ∈ ps ↔ a < m ∧ b < m ∧ ∃ d ∈ ds.take i, d.c = -1 ∧ d.w = "any" ∧ d.g = (b : Int) ∧ ∃ g : Nat, d.p = (g : Int) ∧ LeD m ds 0 a g))
      ⟨p0, [], [], none, none, none, none, rfl, np0, s13, hp03, .nil, Nat.zero_le _, fun a b => by simp⟩ ?_ ?_
    · rintro σ H2 ⟨p, xs, ps, v4, v5, v6, v7, rfl, np, s4, hp, pa, pl, mem⟩
      have s14 := s1.trans s4
      refine ⟨⟨_, .inl (.inl (s14 _ _ hD)), Nat.le_refl _⟩, ?_⟩
      rw [yl] at pl mem
      rw [List.take_length] at mem
      have : ds.length * m ≤ 8 * 4 := Nat.mul_le_mul d8 m4
      refine ⟨_, rfl, sorted_set (n := m) (r := rDr0 m ds) hp pa (by omega) (by omega) (fun a b => (mem a b).trans ?_) fun p' H' xs' np' s5 hp' pa' => ?_⟩
      · refine and_congr_right fun _ => and_congr_right fun _ => ?_
        constructor
        · rintro ⟨d, hd, h1, h2, h3, g, h4, h5⟩
          exact ⟨g, h5, ⟨d, hd, h4, h3, h1, h2⟩⟩
        · rintro ⟨g, h5, ⟨d, hd, h4, h3, h1, h2⟩⟩
          exact ⟨d, hd, h1, h2, h3, g, h4, h5⟩
      · exact q p' H' xs' (s14.free np') (s14.trans s5) hp' pa'
    · rintro i σ H2 hi ⟨p, xs, ps, v4, v5, v6, v7, rfl, np, s4, hp, pa, pl, mem⟩
      have s14 := s1.trans s4
      refine ⟨⟨_, _, .inl (.inl (s14 _ _ hD)), List.getElem?_eq_getElem hi⟩, ?_⟩
      rintro x H5 ⟨rfl, hy⟩
      have hyi := hy _ (.inl (.inl (s14 _ _ hD)))
      obtain ⟨d, hd, td, rfl, htd⟩ := Paired.at dd hyi
      have dm := List.mem_of_getElem? hd
      have od := ok d dm
      have tk : ds.take (i + 1) = ds.take i ++ [d] := by rw [List.take_succ, hd]; rfl
      have i8 : i < 8 := by omega
      have im : i * m + m = (i + 1) * m := by rw [Nat.succ_mul]
      have im8 : i * m ≤ 8 * 4 := Nat.mul_le_mul (by omega) m4
      refine ⟨td, _, rfl, .inl (.inl (s14 _ _ htd)), rfl, _, _, rfl, _, _, rfl, _, _, rfl, _, _, rfl, rfl, ?_⟩
      have skip : ¬ (d.c = -1 ∧ d.w = "any") → ∃ (p' : Addr) (xs : List V) (ps : List (Nat × Nat)) (v4 v5 v6 v7 : Option V), [some (.ref D), some (.int m), some (.ref e), some (.ref p), some (.int d.p), some (.int d.c), some (.int d.g), some (.str d.w), none] = [some (.ref D), some (.int m), some (.ref e), some (.ref p'), v4, v5, v6, v7, none] ∧ H p' = none ∧ Same H1 H5 ∧ H5 p' = some (.lst xs) ∧ PrAll H5 xs ps ∧ ps.length ≤ (i + 1) * m ∧
          (∀ a b, (a, b) ∈ ps ↔ a < m ∧ b < m ∧ ∃ d ∈ ds.take (i + 1), d.c = -1 ∧ d.w = "any" ∧ d.g = (b : Int) ∧ ∃ g : Nat, d.p = (g : Int) ∧ LeD m ds 0 a g) := fun c =>
        ⟨p, xs, ps, _, _, _, _, rfl, np, s4, hp, pa, by omega, fun a b => by
          rw [mem a b, tk]
          refine and_congr_right fun _ => and_congr_right fun _ => ⟨fun ⟨d', h', z⟩ => ⟨d', List.mem_append_left _ h', z⟩, fun ⟨d', h', z⟩ => ?_⟩
          rcases List.mem_append.mp h' with h' | h'
          · exact ⟨d', h', z⟩
          · rw [List.mem_singleton.mp h'] at z
            exact absurd ⟨z.1, z.2.1⟩ c⟩
      refine ⟨_, rfl, 1, rfl, rfl, decide (d.c = -1), congrArg V.bl (by simp), ?_⟩
      by_cases c1 : ¬ d.c = -1
      · rw [decide_eq_false c1]
        exact iteF (skip fun z => c1 z.1)
      replace c1 := Decidable.not_not.mp c1
      rw [decide_eq_true c1]
      refine iteT ⟨_, rfl, rfl, isAny d, congrArg V.bl (anyE d), ?_⟩
      cases c2 : isAny d with
      | false => exact iteF (skip fun z => by rw [(isAny_w d).mpr z.2] at c2; exact nomatch c2)
      | true =>
        have w2 := (isAny_w d).mp c2
        have g0 := od.g0
        have gn := od.gn
        have p0 := od.p0
        have pn := od.pn
        obtain ⟨dg, hdg⟩ : ∃ k : Nat, d.g = k := ⟨d.g.toNat, by omega⟩
        obtain ⟨dp, hdp⟩ : ∃ k : Nat, d.p = k := ⟨d.p.toNat, by omega⟩
        refine iteT ⟨_, rfl, _, rfl, m, rfl, by omega, by omega, fun o2 ho2 => ?_⟩
        refine lc_range (lo := 0) (n := ((m : Int)).toNat) (fun j H4 => ButD o2 H5 H4 ∧ ∃ zs, H4 o2 = some (.lst zs) ∧ PrAll H4 zs (((List.range j).filter fun b => decide (LeD m ds 0 b dp)).map fun b => (b, dg))) ⟨.start, [], upd_same, .nil⟩ ?_ ?_
        · rintro j H4 hj ⟨b4, zs, h4, p4⟩
          have s5 := b4.new ho2
          have ej : (0 : Int) + (j : Int) = (j : Int) := Int.zero_add _
          refine ⟨rfl, ?_⟩
          rw [ej]
          refine ⟨_, rfl, _, rfl, (by show 2 ≤ sizeLine; decide), fun T hT => ?_⟩
          have sT := same_upd (o := .tup [V.int (j : Int), V.int d.p]) hT
          have hTk : upd H4 T (.tup [V.int (j : Int), V.int d.p]) T = some (.tup [V.int (j : Nat), V.int (dp : Nat)]) := by rw [upd_same, hdp]
          have h6 := sT _ _ h4
          have b6 := b4.more sT
          have p6 := PrAll.same sT p4
          have s56 := s5.trans sT
          generalize upd H4 T (.tup [V.int (j : Int), V.int d.p]) = H6 at hTk h6 b6 p6 s56
          have he6 := s56 _ _ (s4 _ _ he)
          have pe6 := PrAll.same s56 (PrAll.same s4 pae)
          refine ⟨_, rfl, in_prs hTk he6 pe6 ⟨_, rfl, ?_⟩⟩
          have jm : j < m := by omega
          have cm : ((j, dp) ∈ canon m (LeD m ds 0)) ↔ LeD m ds 0 j dp := mem_canon.trans ⟨fun z => z.2.2, fun z => ⟨by omega, by omega, z⟩⟩
          have rs : ((List.range (j + 1)).filter fun b => decide (LeD m ds 0 b dp)).map (fun b => (b, dg)) = ((List.range j).filter fun b => decide (LeD m ds 0 b dp)).map (fun b => (b, dg)) ++ (if LeD m ds 0 j dp then [(j, dg)] else []) := by
            rw [List.range_succ, List.filter_append, List.map_append]
            congr 1
            by_cases c : LeD m ds 0 j dp <;> simp [c]
          by_cases c : LeD m ds 0 j dp
          · rw [if_pos c] at rs
            rw [decide_eq_true (cm.mpr c)]
            refine iteT ⟨_, rfl, _, rfl, (by show 2 ≤ sizeLine; decide), fun u hu => ?_⟩
            have su := same_upd (o := .tup [V.int (j : Int), V.int d.g]) hu
            have zl := Paired.length p6
            have hz : zs.length ≤ j := by
              rw [zl, List.length_map]
              exact Nat.le_trans (List.length_filter_le _ _) (Nat.le_of_eq List.length_range)
            have bt : ButD o2 (upd H6 u (.tup [V.int (j : Int), V.int d.g])) (L2.upd (upd H6 u (.tup [V.int (j : Int), V.int d.g])) o2 (.lst (zs ++ [V.ref u]))) := ButD.start
            refine ⟨zs, su _ _ h6, by rw [sizeLine_eq]; omega, (b6.more su).put, _, upd_same, ?_⟩
            rw [rs]
            refine PrAll.but bt ⟨_, su _ _ h6⟩ (PySem.Paired.snoc (PrAll.same su p6) ⟨u, rfl, ?_⟩)
            rw [upd_same, hdg]
          · rw [if_neg c, List.append_nil] at rs
            rw [decide_eq_false (fun z => c (cm.mp z))]
            exact iteF ⟨b6, zs, h6, by rw [rs]; exact p6⟩
        · rintro H4 ⟨b4, zs, h4, p4⟩
          rw [Int.toNat_natCast] at p4
          have s5 := b4.new ho2
          have hp4 := s5 _ _ hp
          have pa4 := PrAll.same s5 pa
          have xl := Paired.length pa4
          have zl := Paired.length p4
          have zm : zs.length ≤ m := by
            rw [zl, List.length_map]
            exact Nat.le_trans (List.length_filter_le _ _) (Nat.le_of_eq List.length_range)
          refine ⟨p, o2, xs, zs, rfl, rfl, hp4, h4, by rw [sizeLine_eq]; omega, fun t ht => ?_⟩
          have s6 := same_upd (o := .lst (xs ++ zs)) ht
          have s456 := s4.trans (s5.trans s6)
          refine ⟨t, xs ++ zs, _, _, _, _, _, rfl, (s1.trans (s4.trans s5)).free ht, s456, upd_same, PrAll.app (PrAll.same s6 pa4) (PrAll.same s6 p4), ?_, fun a b => ?_⟩
          · rw [List.length_append, ← zl]
            omega
          · rw [List.mem_append, mem a b, tk]
            constructor
            · rintro (⟨h1, h2, d', h3, z⟩ | h)
              · exact ⟨h1, h2, d', List.mem_append_left _ h3, z⟩
              · obtain ⟨b', hb', eb⟩ := List.mem_map.mp h
                obtain ⟨hb1, hb2⟩ := List.mem_filter.mp hb'
                have hb1 := List.mem_range.mp hb1
                have hb2 := of_decide_eq_true hb2
                obtain ⟨rfl, rfl⟩ := Prod.mk.inj eb
                exact ⟨by omega, by omega, d, List.mem_append_right _ (List.mem_singleton.mpr rfl), c1, w2, hdg, dp, hdp, hb2⟩
            · rintro ⟨h1, h2, d', h3, z⟩
              rcases List.mem_append.mp h3 with h3 | h3
              · exact .inl ⟨h1, h2, d', h3, z⟩
              · rw [List.mem_singleton.mp h3] at z
                obtain ⟨_, _, z1, g, z2, z3⟩ := z
                refine .inr (List.mem_map.mpr ⟨a, List.mem_filter.mpr ⟨List.mem_range.mpr (by omega), decide_eq_true ?_⟩, ?_⟩)
                · have : g = dp := by omega
                  exact this ▸ z3
                · have : dg = b := by omega
                  rw [this]
end
end L2.K24
end

section
set_option Elab.async false
set_option linter.all false
set_option maxRecDepth 100000
set_option maxHeartbeats 4000000
namespace L2.K24
open PySem PySem.Spec PyProof.Rows L2.Gd L2.Lv
theorem getElem_mapR {α : Type} (f : Nat → α) {n i : Nat} (h : i < n) : ((List.range n).map f)[i]? = some (f i) := by
  rw [List.getElem?_map, List.getElem?_range h]
  rfl
theorem atI_take1 {α : Type} {xs : List α} {j : Nat} {v : α} (h : xs[j]? = some v) : atI (xs.take (j + 1)) (-1) = some v := by
  rw [List.take_succ, h]
  exact atI_last _ _
theorem atI_last2 {α : Type} (xs : List α) (v u : α) : atI (xs ++ [v, u]) (-2) = some v := by
  unfold atI
  have e : ixN (xs ++ [v, u]).length (-2) = some xs.length := by
    unfold ixN
    rw [List.length_append]
    rw [if_neg (by decide), if_pos (by show -((xs.length + 2 : Nat) : Int) ≤ -2; omega)]
    congr 1
    show (-2 + ((xs.length + 2 : Nat) : Int)).toNat = _
    omega
  rw [e]
  simp
theorem atI_take2 {α : Type} {xs : List α} {j : Nat} {v u : α} (h : xs[j]? = some v) (k : xs[j + 1]? = some u) : atI (xs.take (j + 2)) (-2) = some v := by
  rw [List.take_succ, k, List.take_succ, h, List.append_assoc]
  exact atI_last2 _ _ _
theorem dropLast_take {α : Type} {xs : List α} {j : Nat} {v : α} (h : xs[j]? = some v) : (xs.take (j + 1)).dropLast = xs.take j := by
  rw [List.take_succ, h]
  exact List.dropLast_concat
section
variable {P : Program} {w : World} {K : PySem.W.Frag} {mg : Str → Option Value} {base : Heap} {C : Addr}
noncomputable def leL (n : Nat) (ds : List Dd) (m : Nat) : List (List (Nat × Nat)) := (List.range (m + 1)).map fun k => canon n (LeD n ds k)
theorem leL_take {n : Nat} {ds : List Dd} {k m : Nat} (h : k ≤ m) : (leL n ds m).take (k + 1) = leL n ds k := by
  unfold leL
  rw [← List.map_take, List.take_range]
  congr 2
  omega
def spLs : Sp := fun vs H Q _ => ∃ (D : Addr) (ys : List V) (ds : List Dd) (n : Nat), vs = [.ref D, .int n] ∧ H D = some (.lst ys) ∧ DdAll H ys ds ∧ (∀ d ∈ ds, d.Ok (n : Int)) ∧ n ≤ 16 ∧
  ∀ p H' xs m, H p = none → Same H H' → H' p = some (.lst xs) → PlAll p H' xs (leL n ds m) → m ≤ n * n → Stops (LeD n ds) m → (∀ j, j < m → ¬ Stops (LeD n ds) j) → Q (.ref p) H'
def NLs : List Str := ["_law_deeds_here", "_law_places", "_law_found", "_law_number"]
theorem scLs : FnScope NLs ["_law_deeds_here", "_law_places"] (defScope (top 45)) := ⟨rfl, rfl, rfl, by decide +kernel, rfl, by decide +kernel, by decide +kernel⟩
theorem ok_ls {f : Addr} {fd : FuncData} (F : Fun K "_law_levels" "_law_levels" (top 45) f fd) (n : Nm mg) (GL : Fn P w K mg base 2 "_law_level" ["_law_deeds_here", "_law_places", "_law_number"] spLl) :
    FnOk P w K mg base CX0 3 f fd ["_law_deeds_here", "_law_places"] spLs := by
  refine F.ok scLs (fun vs H Q E h => ?_) (fun cdv A outer s H vs Q E hr h => ?_)
  · obtain ⟨D, ys, ds, m, rfl, _⟩ := h
    rfl
  · obtain ⟨D, ys, ds, m, rfl, hD, dd, ok, m16, q⟩ := h
    have N := scLs.nd
    refine ⟨_, pss_cons (ps_setLc (i := 2) (own := [("_law_number", 3)]) (g := gName 3) (tt := tYes) (by rfl) N rfl rfl (sw_true rfl rfl rfl (by decide +kernel)) (pi_range1 (by rfl) n.range (pa_cons (pe_op op_add (pe_op op_mul (pv 1) (pv 1)) pe_int) pa_nil)) (blkOk_by (N := NLs) (sc := defScope (top 45)) (by decide +kernel)) (fun _ _ _ _ _ => pg_name (i := 3) N rfl (.inl rfl))
          (fun _ _ _ _ _ => pts_nil) (fun _ _ _ _ _ => pe_fn GL hr (pa_cons (pv 0) (pa_cons (pv 1) (pa_cons (pv 3) pa_nil)))))
      (pss_cons (ps_while PassesOwn.never (PW.pt (pw_and (pt_cmpR op_gt (pe_callB call_len_seq (by rfl) n.len PySem.boot_len (pa_cons (pv 2) pa_nil)) pe_int (nomark _))
          (pw_and1 (pt_cmpR (op_eqD hr.units) (pe_ix ix_list (pv 2) (pe_un un_neg pe_int) (fun _ _ => rfl)) (pe_ix ix_list (pv 2) (pe_un un_neg pe_int) (fun _ _ => rfl)) (nomark _)))))
        (pss_one (ps_expr (pe_bm0 PySem.F.plainAttrs_list PySem.F.slot_list_pop PySem.F.type_list_pop mt_pop (pv 2)))))
      (pss_one (ps_ret (pv 2)))), ?_⟩
    have mm : m * m ≤ 16 * 16 := Nat.mul_le_mul m16 m16
    obtain ⟨k0, k0m, st0, go0⟩ := le_chain (n := m) (U := Dl ds 1) (D := Dl ds (-1)) (Dl.inn ok 0)
    refine seqV (Good := fun σ2 H2 => ∃ (p : Addr) (xs : List V), H p = none ∧ Same H H2 ∧ H2 p = some (.lst xs) ∧ PlAll p H2 xs (leL m ds (m * m)) ∧ σ2 = [some (.ref D), some (.int m), some (.ref p), none]) ?_ ?_
    · intro nx hnx
      refine ⟨_, rfl, _, rfl, _, _, rfl, rfl, .inl ⟨by omega, by omega⟩, _, _, rfl, rfl, _, rfl, by omega, by omega, fun o ho => ?_⟩
      refine lc_range (lo := 0) (n := ((m : Int) * (m : Int) + 1).toNat) (fun i H3 => ButD o H H3 ∧ ∃ zs, H3 o = some (.lst zs) ∧ PlAll o H3 zs ((List.range i).map fun k => canon m (LeD m ds k))) ⟨.start, [], upd_same, .nil⟩ ?_ ?_
      · rintro i H3 hi ⟨b3, zs, h3, pl⟩
        have s3 := b3.new ho
        have ei : (0 : Int) + (i : Int) = (i : Int) := Int.zero_add _
        have im : i ≤ m * m := by
          have : (((m * m : Nat)) : Int) = (m : Int) * (m : Int) := Int.natCast_mul m m
          omega
        refine ⟨rfl, yes_ite ?_⟩
        rw [ei]
        refine ⟨_, rfl, _, rfl, _, rfl, D, ys, ds, m, i, rfl, s3 _ _ hD, DdAll.same s3 dd, ok, m16, by omega, fun e H5 es ne s5 he pa => ?_⟩
        have noD : e ≠ o := fun z => by
          subst z
          rw [h3] at ne
          exact nomatch ne
        have bp : ButD o H5 (upd H5 o (.lst (zs ++ [V.ref e]))) := ButD.start
        have h5 := s5 _ _ h3
        have zl := Paired.length pl
        rw [List.length_map, List.length_range] at zl
        have e2 : (List.range (i + 1)).map (fun k => canon m (LeD m ds k)) = (List.range i).map (fun k => canon m (LeD m ds k)) ++ [canon m (LeD m ds i)] := by
          rw [List.range_succ, List.map_append]
          rfl
        refine ⟨zs, h5, by rw [sizeLine_eq]; omega, (b3.more s5).put, zs ++ [.ref e], upd_same, ?_⟩
        rw [e2]
        exact PlAll.but bp ⟨_, h5⟩ (PySem.Paired.snoc (PlAll.but (Same.but s5) ⟨_, h3⟩ pl) ⟨e, es, rfl, noD, he, pa⟩)
      · rintro H3 ⟨b3, zs, h3, pl⟩
        have s3 := b3.new ho
        have et : ((m : Int) * (m : Int) + 1).toNat = m * m + 1 := by
          have : (((m * m : Nat)) : Int) = (m : Int) * (m : Int) := Int.natCast_mul m m
          omega
        rw [et] at pl
        exact hnx _ _ ⟨o, zs, ho, s3, h3, pl, rfl⟩
    rintro _ H1 ⟨p, xs, np, s1, hp, pl, rfl⟩
    have xl : xs.length = m * m + 1 := by
      have := Paired.length pl
      unfold leL at this
      rw [List.length_map, List.length_range] at this
      exact this
    refine ⟨fun j σ H2 => k0 ≤ j ∧ j ≤ m * m ∧ σ = [some (.ref D), some (.int m), some (.ref p), none] ∧ H2 p = some (.lst (xs.take (j + 1))) ∧ ButD p H1 H2,
      ⟨m * m, k0m, Nat.le_refl _, rfl, by rw [List.take_of_length_le (by omega)]; exact hp, fun _ _ _ e => e⟩, ?_⟩
    rintro j σ H2 ⟨kj, jm, rfl, h2, b2⟩
    have tl : (xs.take (j + 1)).length = j + 1 := by rw [List.length_take]; omega
    have at_ : ∀ i, i ≤ m * m → ∃ a zs, xs[i]? = some (V.ref a) ∧ H2 a = some (.lst zs) ∧ PrAll H2 zs (canon m (LeD m ds i)) := fun i hi => by
      obtain ⟨x, hx⟩ : ∃ x, xs[i]? = some x := ⟨_, List.getElem?_eq_getElem (by omega)⟩
      obtain ⟨ps, hps, a, zs, e, ne, ha, pa⟩ := Paired.at pl hx
      have : ps = canon m (LeD m ds i) := by
        unfold leL at hps
        rw [getElem_mapR _ (by omega)] at hps
        exact (Option.some.inj hps).symm
      subst this
      exact ⟨a, zs, by rw [hx, e], b2 _ _ ne ha, pa.but b2 ⟨_, hp⟩⟩
    have s2 : Same H H2 := fun a o e => b2 a o (ne_of_none e np) (s1 a o e)
    have fin : j = k0 → Q (.ref p) H2 := fun e => by
      subst e
      refine q p H2 _ j np s2 h2 ?_ jm st0 go0
      have := Paired.takeP (j + 1) (PlAll.but b2 ⟨_, hp⟩ pl)
      rw [leL_take jm] at this
      exact this
    refine ⟨_, rfl, p, _, rfl, .inl (.inl (.inl h2)), _, _, rfl, rfl, decide (0 < j), ?_, ?_⟩
    · show V.bl (decide (((xs.take (j + 1)).length : Int) > 1)) = _
      rw [tl]
      congr 1
      rw [decide_eq_decide]
      omega
    · cases j with
      | zero => exact iteF ⟨_, rfl, fin (by omega)⟩
      | succ j =>
        obtain ⟨a, zs, h3, h4, h5⟩ := at_ (j + 1) jm
        obtain ⟨b, ws, h6, h7, h8⟩ := at_ j (by omega)
        refine iteT ⟨_, rfl, 1, rfl, p, _, _, _, rfl, rfl, .inl (.inl h2), atI_take1 h3, _, rfl, 2, rfl, p, _, _, _, rfl, rfl, .inl (.inl h2), atI_take2 h6 h3, ?_⟩
        refine ⟨_, _, .lst (.inl (.inl h4)) h5.dps, .lst (.inl (.inl h7)) h8.dps, pD_shaped _, pD_shaped _, _, congrArg V.bl (pL_eqv _ _), ?_⟩
        by_cases c : canon m (LeD m ds (j + 1)) = canon m (LeD m ds j)
        · rw [decide_eq_true c]
          have st : Stops (LeD m ds) j := canon_inj (le_in _) (le_in _) c
          have kj' : k0 ≤ j := by
            rcases Nat.lt_or_ge j k0 with l | l
            · exact absurd st (go0 j l)
            · exact l
          refine iteT ⟨_, fun σ' H' h => h, ?_⟩
          refine ⟨_, rfl, .inl ⟨rfl, _, .inl (.inl h2)⟩, p, _, V.ref a, rfl, rfl, h2, by rw [tl, List.getElem?_take]; simpa using h3, ?_⟩
          exact ⟨j, by omega, kj', by omega, rfl, by rw [upd_same, dropLast_take h3], b2.put⟩
        · rw [decide_eq_false c]
          refine iteF ⟨_, rfl, fin ?_⟩
          rcases Nat.lt_or_ge k0 (j + 1) with l | l
          · refine absurd (canon_congr fun a _ b => ?_) c
            have z1 := le_stop st0 (j + 1 - k0) a b
            have z2 := le_stop st0 (j - k0) a b
            rw [show k0 + (j + 1 - k0) = j + 1 by omega] at z1
            rw [show k0 + (j - k0) = j by omega] at z2
            exact z1.trans z2.symm
          · omega
/-! ### pairs turned -/
def spTu : Sp := fun vs H Q _ => ∃ (a : Addr) (xs : List V) (n : Nat) (r : Rl), vs = [.ref a] ∧ H a = some (.lst xs) ∧ PrAll H xs (canon n r) ∧ n ≤ 4 ∧
  ∀ p H' ys, H p = none → Same H H' → H' p = some (.lst ys) → PrAll H' ys (canon n (Tr r)) → Q (.ref p) H'
def NTu : List Str := ["_law_pairs", "_law_place", "_law_goal"]
theorem scTu : FnScope NTu ["_law_pairs"] (defScope (top 48)) := ⟨rfl, rfl, rfl, by decide +kernel, rfl, by decide +kernel, by decide +kernel⟩
theorem ok_tu {f : Addr} {fd : FuncData} (F : Fun K "_law_turned" "_law_turned" (top 48) f fd) (n : Nm mg) : FnOk P w K mg base CX0 1 f fd ["_law_pairs"] spTu := by
  refine F.ok scTu (fun vs H Q E h => ?_) (fun cdv A outer s H vs Q E hr h => ?_)
  · obtain ⟨a, xs, m, r, rfl, _⟩ := h
    rfl
  · obtain ⟨a, xs, m, r, rfl, ha, pa, m4, q⟩ := h
    have N := scTu.nd
    refine ⟨_, pss_one (ps_ret (pe_callB (cr_sortT (d := 2) (B := 64) (by decide)) (by rfl) n.sorted (by decide +kernel) (pa_cons
      (pe_lc (own := [("_law_place", 1), ("_law_goal", 2)]) (g := gTup K 2 (gCons (gName 1) (gCons (gName 2) gNil))) (tt := tYes) rfl N (pi_list (pv 0)) (blkOk_by (N := NTu) (sc := defScope (top 48)) (by decide +kernel))
        (fun _ _ _ _ _ => pg_tup rfl (pgs_cons (pg_name (i := 1) N rfl (.inl rfl)) (pgs_cons (pg_name (i := 2) N rfl (.inl rfl)) pgs_nil)))
        (fun _ _ _ _ _ => pts_nil) (fun _ _ _ _ _ => pe_tup (pa_cons (pv 2) (pa_cons (pv 1) pa_nil)))) pa_nil))), ?_⟩
    have xl := Paired.length pa
    have cl := canon_len m r m
    have cl : (canon m r).length ≤ m * m := cl
    have mm : m * m ≤ 4 * 4 := Nat.mul_le_mul m4 m4
    refine ⟨_, rfl, a, rfl, ⟨xs, .inl (.inl ha)⟩, fun D hD => ?_⟩
    refine lc_list (xs := xs) (fun i H' => ButD D H H' ∧ ∃ zs, H' D = some (.lst zs) ∧ PrAll H' zs (((canon m r).take i).map Prod.swap)) ⟨.start, [], upd_same, .nil⟩
      (fun i H' _ hI => .inl (.inl (hI.1.new hD _ _ ha))) ?_ ?_
    · rintro i x H' hx ⟨b, zs, h1, h2⟩
      have s1 := b.new hD
      obtain ⟨y, hy, t, rfl, ht⟩ := Paired.at pa hx
      refine ⟨t, _, rfl, .inl (.inl (s1 _ _ ht)), rfl, _, _, rfl, _, _, rfl, rfl, rfl, yes_ite ?_⟩
      refine ⟨_, rfl, _, rfl, (by show 2 ≤ sizeLine; decide), fun u hu => ?_⟩
      have su := same_upd (o := .tup [V.int (y.2 : Nat), V.int (y.1 : Nat)]) hu
      have zl := Paired.length h2
      rw [List.length_map, List.length_take] at zl
      have bt : ButD D (upd H' u (.tup [V.int (y.2 : Nat), V.int (y.1 : Nat)])) (L2.upd (upd H' u (.tup [V.int (y.2 : Nat), V.int (y.1 : Nat)])) D (.lst (zs ++ [V.ref u]))) := ButD.start
      refine ⟨zs, su _ _ h1, by rw [sizeLine_eq]; omega, (b.more su).put, _, upd_same, ?_⟩
      rw [take_map _ hy]
      exact PrAll.but bt ⟨_, su _ _ h1⟩ (PySem.Paired.snoc (PrAll.same su h2) ⟨u, rfl, upd_same⟩)
    · rintro H' ⟨b, zs, h1, h2⟩
      have s1 := b.new hD
      rw [xl, List.take_length] at h2
      refine sorted_prs (K := K) (n := m) (r := Tr r) h1 h2 (by rw [List.length_map]; omega) (by omega) ?_ (fun c d => ?_) fun p H2 ys np s2 hp pp => q p H2 ys (s1.free np) (s1.trans s2) hp pp
      · exact List.pairwise_map.mpr ((canon_nodup (by omega) r).imp fun {x y} h e => h (by
          have := congrArg Prod.swap e
          simpa using this))
      · rw [List.mem_map]
        constructor
        · rintro ⟨⟨x, y⟩, hxy, e⟩
          obtain ⟨rfl, rfl⟩ := Prod.mk.inj e
          have := mem_canon.mp hxy
          exact ⟨this.2.1, this.1, this.2.2⟩
        · rintro ⟨h3, h4, h5⟩
          exact ⟨(d, c), mem_canon.mpr ⟨h4, h3, h5⟩, rfl⟩
end
end L2.K24
end

section
set_option Elab.async false
set_option linter.all false
set_option maxRecDepth 100000
set_option maxHeartbeats 4000000
namespace L2.K24
open PySem PySem.Spec PyProof.Rows L2.Gd L2.Lv
/-! ### what is told of deeds fits -/
theorem small_tab : ∀ k : Fin 70, (PyData.int ((k.val : Int) - 1)).intsShort 13 = true ∧ (PyData.int ((k.val : Int) - 1)).showable = true ∧ (PyData.int ((k.val : Int) - 1)).weight ≤ 8 := by
  decide +kernel
theorem small_int {i : Int} (h1 : -1 ≤ i) (h2 : i ≤ 68) : (PyData.int i).intsShort 13 = true ∧ (PyData.int i).showable = true ∧ (PyData.int i).weight ≤ 8 := by
  have e : (((i + 1).toNat : Nat) : Int) - 1 = i := by omega
  have := small_tab ⟨(i + 1).toNat, by omega⟩
  rw [show (((⟨(i + 1).toNat, by omega⟩ : Fin 70)).val : Int) - 1 = i from e] at this
  exact this
/-- plain data that is small: at most n in weight -/
structure Sml (d : PyData) (n : Nat) : Prop where
  lay : d.canLay0 = true
  sh : d.showable = true
  hd : d.hasDict = false
  is : d.intsShort 13 = true
  we : d.weight ≤ n
structure SmlAll (ds : List PyData) (n : Nat) : Prop where
  lay : PyData.canLayAll0 ds = true
  sh : PyData.showableAll ds = true
  hd : PyData.hasDictAll ds = false
  is : PyData.intsShortAll 13 ds = true
  we : PyData.weightAll ds ≤ n
theorem SmlAll.nil : SmlAll [] 0 := ⟨by simp [PyData.canLayAll0], by simp [PyData.showableAll], by simp [PyData.hasDictAll], by simp [PyData.intsShortAll], by simp [PyData.weightAll]⟩
theorem SmlAll.cons {d : PyData} {ds : List PyData} {n m : Nat} (a : Sml d n) (b : SmlAll ds m) : SmlAll (d :: ds) (n + 1 + m) :=
  ⟨by simp [PyData.canLayAll0, a.lay, b.lay], by simp [PyData.showableAll, a.sh, b.sh], by simp [PyData.hasDictAll, a.hd, b.hd], by simp [PyData.intsShortAll, a.is, b.is],
    by simp only [PyData.weightAll]; have := a.we; have := b.we; omega⟩
theorem SmlAll.tup {ds : List PyData} {n : Nat} (a : SmlAll ds n) : Sml (.tuple ds) n :=
  ⟨by simp only [PyData.canLay0, a.lay], by simp only [PyData.showable, a.sh], by simp only [PyData.hasDict, a.hd], by simp only [PyData.intsShort, a.is], by simp only [PyData.weight]; exact a.we⟩
theorem SmlAll.lst {ds : List PyData} {n : Nat} (a : SmlAll ds n) : Sml (.list ds) n :=
  ⟨by simp only [PyData.canLay0, a.lay], by simp only [PyData.showable, a.sh], by simp only [PyData.hasDict, a.hd], by simp only [PyData.intsShort, a.is], by simp only [PyData.weight]; exact a.we⟩
theorem Sml.int {i : Int} (h1 : -1 ≤ i) (h2 : i ≤ 68) : Sml (.int i) 8 :=
  let ⟨a, b, c⟩ := small_int h1 h2
  ⟨by simp [PyData.canLay0], b, by simp [PyData.hasDict], a, c⟩
theorem Sml.bool (b : Bool) : Sml (.bool b) 0 := ⟨by simp [PyData.canLay0], by simp [PyData.showable], by simp [PyData.hasDict], by simp [PyData.intsShort], by simp [PyData.weight]⟩
theorem Sml.short {d : PyData} {n : Nat} (a : Sml d n) (hn : n ≤ 100000) (hd : d.depth ≤ 20) : d.shown.length ≤ 15728653 := by
  have l : PyData.layable0 d = true := by
    show (PyData.canLay0 d && decide (PyData.depth d ≤ 64) && decide (PyData.weight d ≤ 2 ^ 20)) = true
    rw [a.lay, decide_eq_true (by omega : d.depth ≤ 64), decide_eq_true]
    · rfl
    · have := a.we
      have e : (2 : Nat) ^ 20 = 1048576 := by decide
      omega
  exact shown_le13 l a.is
theorem Sml.showy {d : PyData} {n : Nat} (a : Sml d n) (hn : n ≤ 100000) (hd : d.depth ≤ 20) : Showy d := by
  refine ⟨a.sh, a.hd, hd, ?_⟩
  have := a.short hn hd
  rw [sizeLine_eq]
  omega
/-! ### a def called by keywords alone -/
section
variable {X : Cx} {CX : CXT} {k n : Nat} {f : Addr} {fd : FuncData} {ps ks : List Str} {sp : Sp} {E : XK} {x : Str} {p pos : Pos} {kws : List Keyword} {tk : TA} {g : List Value → List Value → List Value} {gV : List V → List V → List V}
theorem pe_callN0 (F : FnOk X.prog X.w X.K X.mg X.base CX k f fd ps sp) (hr : Room k X.A) (hg : Gl X x) (hm : X.mg x = some (.ref f)) (hk : PySem.W.keepIn X.K (.ref f) = true) (hb : KBn X.K fd ps 0 ks g gV) (hx : Passes CX X E)
    (hkw : PK X kws tk) (hall : (backToKw pos (keywordEach kws X.env)).all (·.1.isSome) = true := by rfl) (hks : (backToKw pos (keywordEach kws X.env)).filterMap (·.1) = ks := by rfl)
    (hdb : (x == ("__debug__" : Str)) = false := by decide)
    (hpl : ((backTo pos (starEach [] X.env)).any (·.1) || (backToKw pos (keywordEach kws X.env)).any (·.1.isNone)) = false := by rfl) :
    PE X (.Call (.Name x p) [] kws pos) (tCallN 0 ks.length sp gV E tNil tk) := by
  refine ⟨fun pins s σ H Q I h => ?_⟩
  refine wpAny_Call_Name_kw (ld_glob I hg hm ?_ hdb)
  refine PySem.W.callWith_KW0 (h₀ := X.base) I.ok.mod.kin hk hall ?_ hpl
  refine thn (hkw.run pos pins s σ H _ I h) fun ws s2 ⟨zs, H2, I2, rz, l1, l2, q2⟩ => ⟨I2.kIn, ?_⟩
  rw [hks]
  exact run_fnN (us := []) (vs := []) F hr hb hx I2 .nil rz l1 l2 q2
end
/-- a def called by its name, where nothing is being shown -/
structure FnGd (P : Program) (w : World) (K : PySem.W.Frag) (mg : Str → Option Value) (base : Heap) (k : Nat) (x : Str) (ps : List Str) (sp : Sp) : Prop where
  ex : ∃ f fd, mg x = some (.ref f) ∧ PySem.W.keepIn K (.ref f) = true ∧ Binds K fd ps [] ∧ FnG P w K mg base k f fd ps sp
theorem pe_fnG {X : Cx} {k : Nat} {x : Str} {ps : List Str} {sp : Sp} {e : Expr} {es : List Expr} {t : TA} {p pos : Pos}
    (F : FnGd X.prog X.w X.K X.mg X.base k x ps sp) (hg : X.A.guards = some []) (hr : Room k X.A) (ha : PA X (e :: es) t) (gl : Gl X x := by rfl) (hdb : (x == ("__debug__" : Str)) = false := by decide)
    (he : starEach (e :: es) X.env = (false, eval e X.env) :: starEach es X.env := by rfl)
    (hpl : (backTo pos (starEach es X.env)).any (·.1) = false := by rfl) :
    PE X (.Call (.Name x p) (e :: es) [] pos) (tCall sp [] E0 t) := by
  obtain ⟨f, fd, m, kp, b, G⟩ := F.ex
  exact pe_callG G hg hr gl m kp b ha hdb he hpl

/-- a def of one parameter, called by its keyword -/
structure KFn (P : Program) (w : World) (K : PySem.W.Frag) (mg : Str → Option Value) (base : Heap) (k : Nat) (x y : Str) (sp : Sp) : Prop where
  ex : ∃ f fd, mg x = some (.ref f) ∧ PySem.W.keepIn K (.ref f) = true ∧ KBn K fd [y] 0 [y] (fun _ ws => ws) (fun _ zs => zs) ∧ FnOk P w K mg base CX0 k f fd [y] sp
theorem pe_kfn {X : Cx} {k : Nat} {x y : Str} {sp : Sp} {kws : List Keyword} {tk : TA} {p pos : Pos} (G : KFn X.prog X.w X.K X.mg X.base k x y sp) (hr : Room k X.A) (hkw : PK X kws tk)
    (hg : Gl X x := by rfl) (hdb : (x == ("__debug__" : Str)) = false := by decide) (hall : (backToKw pos (keywordEach kws X.env)).all (·.1.isSome) = true := by rfl) (hks : (backToKw pos (keywordEach kws X.env)).filterMap (·.1) = [y] := by rfl)
    (hpl : ((backTo pos (starEach [] X.env)).any (·.1) || (backToKw pos (keywordEach kws X.env)).any (·.1.isNone)) = false := by rfl) :
    PE X (.Call (.Name x p) [] kws pos) (tCallN 0 1 sp (fun _ zs => zs) E0 tNil tk) := by
  obtain ⟨f, fd, m, kp, b, F⟩ := G.ex
  exact pe_callN0 F hr hg m kp b pass0 hkw hall hks hdb hpl
/-! ### what levels, climbs and drops tell, as data -/
def dL (ps : List (Nat × Nat)) : PyData := .list (ps.map pD)
def dT (ls : List (List (Nat × Nat))) (c d : List (Nat × Nat)) : PyData := .list [.list (ls.map dL), dL c, dL d]
theorem SmlAll.mono {ds : List PyData} {n m : Nat} (a : SmlAll ds n) (h : n ≤ m) : SmlAll ds m := ⟨a.lay, a.sh, a.hd, a.is, Nat.le_trans a.we h⟩
theorem sm_prs : ∀ {ps : List (Nat × Nat)}, (∀ p ∈ ps, p.1 ≤ 16 ∧ p.2 ≤ 16) → SmlAll (ps.map pD) (19 * ps.length)
  | [], _ => .nil
  | p :: r, h => by
    obtain ⟨h1, h2⟩ := h p List.mem_cons_self
    have a := SmlAll.cons (SmlAll.cons (Sml.int (i := (p.1 : Int)) (by omega) (by omega)) (.cons (Sml.int (i := (p.2 : Int)) (by omega) (by omega)) .nil)).tup (sm_prs (ps := r) fun q hq => h q (List.mem_cons_of_mem _ hq))
    exact a.mono (by rw [List.length_cons]; omega)
theorem sm_canon {n : Nat} (n4 : n ≤ 4) (r : Rl) : Sml (dL (canon n r)) 304 := by
  have cl : (canon n r).length ≤ n * n := canon_len n r n
  have mm : n * n ≤ 4 * 4 := Nat.mul_le_mul n4 n4
  refine ((sm_prs fun p hp => ?_).mono (m := 304) (by omega)).lst
  have := mem_canon.mp (show (p.1, p.2) ∈ canon n r from hp)
  omega
theorem sm_all {ls : List (List (Nat × Nat))} : (∀ ps ∈ ls, Sml (dL ps) 304) → SmlAll (ls.map dL) (305 * ls.length) := by
  induction ls with
  | nil => exact fun _ => .nil
  | cons ps r ih =>
    intro h
    have a := SmlAll.cons (h ps List.mem_cons_self) (ih fun q hq => h q (List.mem_cons_of_mem _ hq))
    exact a.mono (by rw [List.length_cons]; omega)
theorem dL_dep (ps : List (Nat × Nat)) : (dL ps).depth ≤ 2 := by
  have := pD_dep ps
  unfold dL
  simp only [PyData.depth]
  omega
theorem dLs_dep : ∀ ls : List (List (Nat × Nat)), PyData.depthAll (ls.map dL) ≤ 2
  | [] => by simp [PyData.depthAll]
  | ps :: r => by
    have := dL_dep ps
    have := dLs_dep r
    simp only [List.map_cons, PyData.depthAll]
    omega
theorem dT_dep (ls : List (List (Nat × Nat))) (c d : List (Nat × Nat)) : (dT ls c d).depth ≤ 4 := by
  have := dLs_dep ls
  have := dL_dep c
  have := dL_dep d
  unfold dT
  simp only [PyData.depth, PyData.depthAll]
  omega
theorem dLs_lay : ∀ ls : List (List (Nat × Nat)), PyData.canLayAll0 (ls.map dL) = true
  | [] => by simp [PyData.canLayAll0]
  | ps :: r => by
    have := pD_lay ps
    simp [PyData.canLayAll0, PyData.canLay0, dL, dLs_lay r, this]
theorem dLs_shaped (ls : List (List (Nat × Nat))) : SeqAt.shaped (.list (ls.map dL)) = true := by
  show (PyData.canLay0 (.list (ls.map dL)) && decide (PyData.depth (.list (ls.map dL)) ≤ 64)) = true
  rw [Bool.and_eq_true]
  refine ⟨by simp only [PyData.canLay0]; exact dLs_lay ls, decide_eq_true ?_⟩
  have := dLs_dep ls
  simp only [PyData.depth]
  omega
theorem dT_shaped (ls : List (List (Nat × Nat))) (c d : List (Nat × Nat)) : SeqAt.shaped (dT ls c d) = true := by
  show (PyData.canLay0 (dT ls c d) && decide (PyData.depth (dT ls c d) ≤ 64)) = true
  rw [Bool.and_eq_true]
  refine ⟨?_, decide_eq_true ?_⟩
  · have h1 := dLs_lay ls
    have h2 := pD_lay c
    have h3 := pD_lay d
    simp [dT, dL, PyData.canLay0, PyData.canLayAll0, h2, h3]
    exact h1
  · have := dT_dep ls c d
    omega
theorem dLs_eqv : ∀ ls : List (List (Nat × Nat)), PyData.eqvAll (ls.map dL) (ls.map dL) = true
  | [] => by simp [PyData.eqvAll]
  | ps :: r => by
    have h1 : PyData.eqv (dL ps) (dL ps) = true := by
      unfold dL
      rw [pL_eqv]
      exact decide_eq_true rfl
    rw [List.map_cons, PyData.eqvAll, h1, dLs_eqv r]
    rfl
theorem dLs_eqv' (ls : List (List (Nat × Nat))) : PyData.eqv (.list (ls.map dL)) (.list (ls.map dL)) = true := by rw [PyData.eqv, dLs_eqv]
theorem dL_eqv (ps : List (Nat × Nat)) : PyData.eqv (dL ps) (dL ps) = true := by
  unfold dL
  rw [pL_eqv]
  exact decide_eq_true rfl
theorem dT_eqv (ls : List (List (Nat × Nat))) (c d : List (Nat × Nat)) : PyData.eqv (dT ls c d) (dT ls c d) = true := by
  unfold dT
  rw [PyData.eqv, PyData.eqvAll, PyData.eqvAll, PyData.eqvAll, dLs_eqv', dL_eqv, dL_eqv]
  simp [PyData.eqvAll]
theorem d2_eqv (c d : List (Nat × Nat)) : PyData.eqv (.list [dL c, dL d]) (.list [dL c, dL d]) = true := by
  rw [PyData.eqv, PyData.eqvAll, PyData.eqvAll, dL_eqv, dL_eqv]
  simp [PyData.eqvAll]
theorem d2_shaped (c d : List (Nat × Nat)) : SeqAt.shaped (.list [dL c, dL d]) = true := dLs_shaped [c, d]
theorem dT_showy {ls : List (List (Nat × Nat))} {c d : List (Nat × Nat)} (h : ∀ ps ∈ ls, Sml (dL ps) 304) (hc : Sml (dL c) 304) (hd : Sml (dL d) 304) (l : ls.length ≤ 17) : Showy (dT ls c d) := by
  have a := (SmlAll.cons (sm_all h).lst (.cons hc (.cons hd .nil))).lst
  exact Sml.showy a (by omega) (Nat.le_trans (dT_dep ls c d) (by decide))
/-- the three, told -/
structure TrAt (H : Hp) (t : Addr) (ls : List (List (Nat × Nat))) (c d : List (Nat × Nat)) : Prop where
  ex : ∃ (a ca da : Addr) (xs cs es : List V), H t = some (.lst [.ref a, .ref ca, .ref da]) ∧ H a = some (.lst xs) ∧ PlAll a H xs ls ∧ H ca = some (.lst cs) ∧ PrAll H cs c ∧ H da = some (.lst es) ∧ PrAll H es d
theorem PlAll.same {p : Addr} {H H' : Hp} {vs : List V} {pss : List (List (Nat × Nat))} (s : Same H H') (h : PlAll p H vs pss) : PlAll p H' vs pss := Paired.mapP h fun _ _ ⟨a, zs, e, ne, q, pa⟩ => ⟨a, zs, e, ne, s _ _ q, pa.same s⟩
theorem TrAt.same {H H' : Hp} {t : Addr} {ls : List (List (Nat × Nat))} {c d : List (Nat × Nat)} (s : Same H H') (h : TrAt H t ls c d) : TrAt H' t ls c d := by
  obtain ⟨a, ca, da, xs, cs, es, h1, h2, h3, h4, h5, h6, h7⟩ := h
  exact ⟨a, ca, da, xs, cs, es, s _ _ h1, s _ _ h2, h3.same s, s _ _ h4, h5.same s, s _ _ h6, h7.same s⟩
section
variable {K : PySem.W.Frag}
theorem PlAll.dps {p : Addr} {H : Hp} : ∀ {vs : List V} {pss : List (List (Nat × Nat))}, PlAll p H vs pss → DpAll K H vs (pss.map dL)
  | _, _, .nil => .nil
  | _, _, .cons ⟨a, zs, e, _, q, pa⟩ t => by
    subst e
    exact .cons (.lst (.inl (.inl q)) pa.dps) (PlAll.dps t)
theorem TrAt.dp {H : Hp} {t : Addr} {ls : List (List (Nat × Nat))} {c d : List (Nat × Nat)} (h : TrAt H t ls c d) : Dp K H (.ref t) (dT ls c d) := by
  obtain ⟨a, ca, da, xs, cs, es, h1, h2, h3, h4, h5, h6, h7⟩ := h
  exact .lst (.inl (.inl h1)) (.cons (.lst (.inl (.inl h2)) h3.dps) (.cons (.lst (.inl (.inl h4)) h5.dps) (.cons (.lst (.inl (.inl h6)) h7.dps) .nil)))
end
/-! ### relations of plain and turned deeds -/
theorem Dl_plain (ds : List Dd) : Dl (ds.filter isAny) = Dl ds := by
  funext c a b
  refine propext ⟨fun ⟨d, hd, z⟩ => ⟨d, (List.mem_filter.mp hd).1, z⟩, fun ⟨d, hd, h1, h2, h3, h4⟩ => ⟨d, List.mem_filter.mpr ⟨hd, (isAny_w d).mpr h4⟩, h1, h2, h3, h4⟩⟩
theorem Dl_turn (ds : List Dd) (c : Int) : Dl (ds.map turnD) c = Tr (Dl ds (-c)) := by
  funext a b
  refine propext ⟨?_, ?_⟩
  · rintro ⟨d', hd, h1, h2, h3, h4⟩
    obtain ⟨d, hd2, rfl⟩ := List.mem_map.mp hd
    exact ⟨d, hd2, h2, h1, by have : 0 - d.c = c := h3; omega, h4⟩
  · rintro ⟨d, hd, h1, h2, h3, h4⟩
    exact ⟨turnD d, List.mem_map.mpr ⟨d, hd, rfl⟩, h2, h1, by show 0 - d.c = c; omega, h4⟩
theorem le_plain (n : Nat) (ds : List Dd) (k : Nat) : LeD n (ds.filter isAny) k = LeD n ds k := by
  show Le n (Dl (ds.filter isAny) 1) (Dl (ds.filter isAny) 0) (Dl (ds.filter isAny) (-1)) k = _
  rw [Dl_plain]
theorem leL_plain (n : Nat) (ds : List Dd) (m : Nat) : leL n (ds.filter isAny) m = leL n ds m := by
  unfold leL
  congr 1
  funext k
  rw [le_plain]
theorem rCl_plain (n : Nat) (ds : List Dd) : rCl n (ds.filter isAny) = rCl n ds := by
  unfold rCl
  rw [Dl_plain]
theorem rDr_plain (n : Nat) (ds : List Dd) : rDr n (ds.filter isAny) = rDr n ds := by
  unfold rDr
  rw [Dl_plain]
theorem le_turn (n : Nat) (ds : List Dd) (k : Nat) : Tr (LeD n (ds.map turnD) k) = LeD n ds k := by
  funext a b
  refine propext ?_
  show Le n (Dl (ds.map turnD) 1) (Dl (ds.map turnD) 0) (Dl (ds.map turnD) (-1)) k b a ↔ _
  rw [Dl_turn, Dl_turn, Dl_turn]
  exact le_tr_iff k a b
theorem gr_turn (n : Nat) (ds : List Dd) (a b : Nat) : Gr n (Dl (ds.map turnD) 1) (Dl (ds.map turnD) 0) (Dl (ds.map turnD) (-1)) b a ↔ Gr n (Dl ds 1) (Dl ds 0) (Dl ds (-1)) a b := by
  rw [Dl_turn, Dl_turn, Dl_turn]
  exact gr_tr_iff a b
theorem rCl_turn (n : Nat) (ds : List Dd) : Tr (rCl n (ds.map turnD)) = rDr n ds := by
  funext a b
  refine propext ⟨?_, ?_⟩
  · rintro ⟨x, h1, h2⟩
    rw [Dl_turn] at h1
    exact ⟨x, (gr_turn n ds a x).mp h2, h1⟩
  · rintro ⟨x, h1, h2⟩
    refine ⟨x, ?_, (gr_turn n ds a x).mpr h1⟩
    rw [Dl_turn]
    exact h2
theorem rDr_turn (n : Nat) (ds : List Dd) : Tr (rDr n (ds.map turnD)) = rCl n ds := by
  funext a b
  refine propext ⟨?_, ?_⟩
  · rintro ⟨x, h1, h2⟩
    rw [Dl_turn] at h2
    exact ⟨x, h2, (gr_turn n ds x b).mp h1⟩
  · rintro ⟨x, h1, h2⟩
    refine ⟨x, (gr_turn n ds x b).mpr h2, ?_⟩
    rw [Dl_turn]
    exact h1
theorem stops_one {f : Nat → Rl} {m m' : Nat} (h : Stops f m) (g : ∀ j, j < m → ¬ Stops f j) (h' : Stops f m') (g' : ∀ j, j < m' → ¬ Stops f j) : m = m' := by
  rcases Nat.lt_trichotomy m m' with l | l | l
  · exact absurd h (g' m l)
  · exact l
  · exact absurd h' (g m' l)
theorem stops_turn {n : Nat} {ds : List Dd} {k : Nat} : Stops (LeD n (ds.map turnD)) k ↔ Stops (LeD n ds) k := by
  constructor
  · intro h a b
    rw [← le_turn n ds k, ← le_turn n ds (k + 1)]
    exact h b a
  · intro h a b
    have h1 := congrFun (congrFun (le_turn n ds k) b) a
    have h2 := congrFun (congrFun (le_turn n ds (k + 1)) b) a
    have h1 : LeD n (ds.map turnD) k a b = LeD n ds k b a := h1
    have h2 : LeD n (ds.map turnD) (k + 1) a b = LeD n ds (k + 1) b a := h2
    show LeD n (ds.map turnD) (k + 1) a b ↔ LeD n (ds.map turnD) k a b
    rw [h1, h2]
    exact h b a
/-- the program's levels are these -/
theorem leOk_leL {n : Nat} {ds : List Dd} {ys : List (List Nat)} {m m' : Nat} (le : LeOk n (Dl ds 1) (Dl ds 0) (Dl ds (-1)) ys m) (st : Stops (LeD n ds) m') (go : ∀ j, j < m' → ¬ Stops (LeD n ds) j) : ys.map prsL = leL n ds m' := by
  obtain rfl := stops_one le.stop le.go st go
  refine List.ext_getElem? fun k => ?_
  unfold leL
  rw [List.getElem?_map]
  by_cases h : k < m + 1
  · rw [getElem_mapR _ h]
    obtain ⟨y, hy⟩ : ∃ y, ys[k]? = some y := ⟨_, List.getElem?_eq_getElem (by rw [le.len]; exact h)⟩
    rw [hy]
    exact congrArg some (prs_canon (le.rep k y hy) (le_in k))
  · rw [List.getElem?_eq_none (by rw [le.len]; omega), List.getElem?_eq_none (by rw [List.length_map, List.length_range]; omega)]
    rfl
theorem turnD_inj {a b : Dd} (h : turnD a = turnD b) : a = b := by
  cases a
  cases b
  unfold turnD at h
  simp only [Dd.mk.injEq] at h ⊢
  obtain ⟨h1, h2, h3, h4⟩ := h
  exact ⟨h3, by omega, h1, h4⟩
theorem WF.turn {m : Int} {ds : List Dd} (w : WF m ds) (h : ds.all isAny = true) : WF m (ds.map turnD) := by
  refine ⟨w.m1, w.m16, fun d hd => ?_, List.pairwise_map.mpr (w.nd.imp fun {a b} ne e => ne (turnD_inj e)), by rw [List.length_map]; exact w.len⟩
  obtain ⟨d, hd2, rfl⟩ := List.mem_map.mp hd
  have o := w.ok d hd2
  have hw := (isAny_w d).mp (List.all_eq_true.mp h d hd2)
  refine ⟨o.g0, o.gn, o.p0, o.pn, .inl ⟨hw, ?_⟩⟩
  rcases o.w with ⟨_, a, b⟩ | ⟨e, _⟩
  · show -1 ≤ 0 - d.c ∧ 0 - d.c ≤ 1
    omega
  · rw [hw] at e
    exact absurd e (by decide)
end L2.K24
end

section
set_option Elab.async false
set_option linter.all false
set_option maxRecDepth 100000
set_option maxHeartbeats 8000000
namespace L2.K24
open PySem PySem.Spec PyProof.Rows L2.Gd L2.Lv
theorem same_put {H H' : Hp} {x : Addr} {o : HO} (s : Same H H') (n : H x = none) : Same H (upd H' x o) := fun b u e => by
  rw [upd_ne (ne_of_none e n)]
  exact s _ _ e
theorem rCl_in {n : Nat} {ds : List Dd} (ok : ∀ d ∈ ds, d.Ok (n : Int)) : In n (rCl n ds) := (Dl.inn ok 1).cp gr_in
theorem rDr_in {n : Nat} {ds : List Dd} (ok : ∀ d ∈ ds, d.Ok (n : Int)) : In n (rDr n ds) := gr_in.cp (Dl.inn ok (-1))
theorem tr_of {C : Addr} {n M : Nat} {ds : List Dd} (ok : ∀ d ∈ ds, d.Ok (n : Int)) (st : Stops (LeD n ds) M) (go : ∀ j, j < M → ¬ Stops (LeD n ds) j) {H0 H4 H5 H6 : Hp} {ta tc td t2 : Addr}
    (lv : LvOk n ds ta H0 H4) (cb : PrOk rCl n ds tc H4 H5) (dp : PrOk rDr n ds td H5 H6) (s5 : Same H4 H5) (s6 : Same H5 H6) (ht2 : H6 t2 = none) :
    TrAt (upd H6 t2 (.lst [.ref ta, .ref tc, .ref td])) t2 (leL n ds M) (canon n (rCl n ds)) (canon n (rDr n ds)) := by
  obtain ⟨lx, lys, lm, hl, pl, fr, le, mn⟩ := lv
  obtain ⟨cs, cy, hc, pc, rc⟩ := cb
  obtain ⟨es, dy, hd, pd, rd⟩ := dp
  have s7 := same_upd (o := .lst [V.ref ta, V.ref tc, V.ref td]) ht2
  rw [leOk_leL le st go] at pl
  rw [prs_canon rc (rCl_in ok)] at pc
  rw [prs_canon rd (rDr_in ok)] at pd
  exact ⟨ta, tc, td, lx, cs, es, upd_same, s7 _ _ (s6 _ _ (s5 _ _ hl)), ((pl.same s5).same s6).same s7, s7 _ _ (s6 _ _ hc), (pc.same s6).same s7, s7 _ _ hd, pd.same s7⟩
theorem leL_get {n M k : Nat} {ds : List Dd} (h : k ≤ M) : (leL n ds M)[k]? = some (canon n (LeD n ds k)) := by
  unfold leL
  exact getElem_mapR _ (by omega)
theorem leL_len {n M : Nat} {ds : List Dd} : (leL n ds M).length = M + 1 := by
  unfold leL
  rw [List.length_map, List.length_range]
theorem leL_of {n M : Nat} {ds : List Dd} {ps : List (Nat × Nat)} (h : ps ∈ leL n ds M) : ∃ k, ps = canon n (LeD n ds k) := by
  unfold leL at h
  obtain ⟨k, _, e⟩ := List.mem_map.mp h
  exact ⟨k, e.symm⟩
abbrev σR (p : Addr) (m : Nat) (x2 x3 x4 x5 x6 x7 x8 x9 x10 x11 x12 : Option V) : L2.St := [some (.ref p), some (.int (m : Int)), x2, x3, x4, x5, x6, x7, x8, x9, x10, x11, x12, none, none, none]
section
variable {P : Program} {w : World} {K : PySem.W.Frag} {mg : Str → Option Value} {base : Heap} {C : Addr}
/-- what the law's right wants -/
structure RK (P : Program) (w : World) (K : PySem.W.Frag) (mg : Str → Option Value) (base : Heap) (C : Addr) : Prop where
  n : Nm mg
  T : ClsT K mg C
  M : MkH P w K mg base C
  dr : Fn P w K mg base 1 "_law_draw" ["_law_pot_here", "_law_many"] spDraw
  ds : Fn P w K mg base 2 "_law_deeds" ["_law_pot_here", "_law_places", "_law_many", "_law_has_empty"] spDeedsL
  ls : Fn P w K mg base 3 "_law_levels" ["_law_deeds_here", "_law_places"] spLs
  cb : Fn P w K mg base 3 "_law_climbs" ["_law_deeds_here", "_law_places"] (spCd rCl0)
  dp : Fn P w K mg base 3 "_law_drops" ["_law_deeds_here", "_law_places"] (spCd rDr0)
  tu : Fn P w K mg base 1 "_law_turned" ["_law_pairs"] spTu
  lv : Fn P w K mg base 6 "levels" ["house"] (LvS C LvOk)
  cl : Fn P w K mg base 5 "climbs" ["house"] (LvS C (PrOk rCl))
  do_ : Fn P w K mg base 5 "drops" ["house"] (LvS C (PrOk rDr))
  lvk : KFn P w K mg base 6 "levels" "house" (LvS C LvOk)
  dok : KFn P w K mg base 5 "drops" "house" (LvS C (PrOk rDr))
  pn : MeH P w K mg base C "plain" 7 ["self"] (spPln C)
  tn : MeH P w K mg base C "turned" 7 ["self"] (spTrn C)
def spRight : Sp := fun vs H Q _ => ∃ (p : Addr), vs = [.ref p] ∧ PotAt H p ∧ ∀ H', ButD p H H' → Q (.bl true) H'
def NRi : List Str := ["_law_pot_here", "_law_places", "_law_deeds_here", "_law_house", "_law_due", "_law_turn", "_law_told", "_law_plain", "_law_number", "_law_pairs", "_law_place", "_law_middle", "_law_back", "_law_pair", "_law_goal", "_law_origin"]
theorem scRi : FnScope NRi ["_law_pot_here"] (defScope (top 49)) := ⟨rfl, rfl, rfl, by decide +kernel, rfl, by decide +kernel, by decide +kernel⟩
theorem ok_right {f : Addr} {fd : FuncData} (F : Fun K "_law_right" "_law_right" (top 49) f fd) (k : RK P w K mg base C) : FnG P w K mg base 8 f fd ["_law_pot_here"] spRight := by
  refine okG F scRi (fun vs H Q h => ?_) (fun cdv A outer s H vs Q hg hr h => ?_)
  · obtain ⟨p, rfl, _⟩ := h
    rfl
  · obtain ⟨p, rfl, hp, q⟩ := h
    have N := scRi.nd
    have n := k.n
    have T := k.T
    have hu := hu65 hr
    have r1 := hr.mono (k := 7) (j := 1) (by decide)
    have r2 := hr.mono (k := 7) (j := 2) (by decide)
    have r3 := hr.mono (k := 7) (j := 3) (by decide)
    have r5 := hr.mono (k := 7) (j := 5) (by decide)
    have r6 := hr.mono (k := 7) (j := 6) (by decide)
    refine ⟨_, pss_cons (ps_set (i := 1) N rfl (.inl rfl) (pe_op op_add pe_int (pe_fn k.dr r1 (pa_cons (pv 0) (pa_cons pe_int pa_nil)))))
      (pss_cons (ps_set (i := 2) N rfl (.inl rfl) (pe_fn k.ds r2 (pa_cons (pv 0) (pa_cons (pv 1) (pa_cons (pe_op op_add pe_int (pe_fn k.dr r1 (pa_cons (pv 0) (pa_cons pe_int pa_nil)))) (pa_cons pe_bl pa_nil))))))
      (pss_cons (ps_set (i := 3) N rfl (.inl rfl) (pe_house k.M T r6 (pa_cons (pv 1) (pa_cons (pv 2) pa_nil))))
      (pss_cons (ps_set (i := 4) N rfl (.inr rfl) (pe_lst (pa_cons (pe_fn k.ls r3 (pa_cons (pv 2) (pa_cons (pv 1) pa_nil))) (pa_cons (pe_fn k.cb r3 (pa_cons (pv 2) (pa_cons (pv 1) pa_nil))) (pa_cons (pe_fn k.dp r3 (pa_cons (pv 2) (pa_cons (pv 1) pa_nil))) pa_nil)))))
      (pss_cons (ps_for PassesOwn.never rfl (pi_range1 (by rfl) n.range (pa_cons pe_int pa_nil)) (pg_name (i := 5) N rfl (.inl rfl))
        (pss_cons (ps_set (i := 6) N rfl (.inl rfl) (pe_lst (pa_cons (pe_fn k.lv r6 (pa_cons (pv 3) pa_nil)) (pa_cons (pe_fn k.cl r5 (pa_cons (pv 3) pa_nil)) (pa_cons (pe_kfn k.dok r5 (pk_cons (pv 3) pk_nil)) pa_nil)))))
        (pss_cons (ps_if (pt_cmpR op_ne (pe_callB (call_reprAny hg hr.units) (by rfl) n.repr (by decide +kernel) (pa_cons (pv 6) pa_nil)) (pe_callB (call_reprAny hg hr.units) (by rfl) n.repr (by decide +kernel) (pa_cons (pv 4) pa_nil)) (nomark _)) (pss_one (ps_ret pe_bl)) pss_nil)
        (pss_cons (ps_expr (pe_bm PySem.F.plainAttrs_list PySem.F.slot_list_append PySem.F.type_list_append mt_append (pe_ix ix_list (pe_ix ix_list (pv 6) pe_int (fun _ _ => rfl)) pe_int (fun _ _ => rfl)) (pa_cons (pe_tup (pa_cons pe_int (pa_cons pe_int pa_nil))) pa_nil)))
        (pss_cons (ps_expr (pe_bm PySem.F.plainAttrs_list PySem.F.slot_list_append PySem.F.type_list_append mt_append (pe_ix ix_list (pv 6) pe_int (fun _ _ => rfl)) (pa_cons (pe_lst pa_nil) pa_nil)))
        (pss_cons (ps_expr (pe_bm PySem.F.plainAttrs_list PySem.F.slot_list_append PySem.F.type_list_append mt_append (pe_ix ix_list (pv 6) pe_int (fun _ _ => rfl)) (pa_cons (pe_tup (pa_cons pe_int (pa_cons pe_int pa_nil))) pa_nil)))
        (pss_one (ps_expr (pe_bm0 PySem.F.plainAttrs_list PySem.F.slot_list_clear PySem.F.type_list_clear mt_clear (pe_ix ix_list (pv 6) pe_int (fun _ _ => rfl)))))))))))
      (pss_cons (ps_set (i := 7) N rfl (.inl rfl) (pe_mH0 k.pn T hr (pv 3)))
      (pss_cons (ps_if (pt_cmpR (op_neD hr.units) (pe_lst (pa_cons (pe_fn k.lv r6 (pa_cons (pv 7) pa_nil)) (pa_cons (pe_fn k.cl r5 (pa_cons (pv 7) pa_nil)) (pa_cons (pe_fn k.do_ r5 (pa_cons (pv 7) pa_nil)) pa_nil)))) (pv 4) (nomark _)) (pss_one (ps_ret pe_bl)) pss_nil)
      (pss_cons (ps_for PassesOwn.never rfl (pi_range2 (by rfl) n.range (pa_cons pe_int (pa_cons (pe_callB call_len_seq (by rfl) n.len PySem.boot_len (pa_cons (pe_ix ix_list (pv 4) pe_int (fun _ _ => rfl)) pa_nil)) pa_nil))) (pg_name (i := 8) N rfl (.inr rfl))
        (pss_one (ps_if (pt_cmpR (op_neD hr.units)
          (pe_lc (own := [("_law_pair", 13)]) (g := gName 13) rfl N (pi_list (pe_ix ix_list (pe_ix ix_list (pv 4) pe_int (fun _ _ => rfl)) (pe_op op_sub (pv 8) pe_int) (fun _ _ => rfl))) (blkOk_by (N := NRi) (sc := defScope (top 49)) (by decide +kernel)) (fun _ _ _ _ _ => pg_name (i := 13) N rfl (.inl rfl))
            (fun _ _ _ _ _ => pts_one (pt_cmpR (r := rNotInD K) (op_notInD hu) (pv 13) (pe_ix (r := rIxL K) ix_list (pe_ix (r := rIxL K) ix_list (pv 4) pe_int (fun _ _ => rfl)) (pv 8) (fun _ _ => rfl)) (by rfl))) (fun _ _ _ _ _ => pv 13))
          (pe_lst pa_nil) (nomark _)) (pss_one (ps_ret pe_bl)) pss_nil)))
      (pss_cons (ps_for PassesOwn.never rfl (pi_list (pe_kfn k.lvk r6 (pk_cons (pv 3) pk_nil))) (pg_name (i := 9) N rfl (.inr rfl))
        (pss_one (ps_for PassesOwn.never rfl (pi_list (pv 9)) (pg_tup rfl (pgs_cons (pg_name (i := 10) N rfl (.inr rfl)) (pgs_cons (pg_name (i := 11) N rfl (.inr rfl)) pgs_nil)))
          (pss_one (ps_if (pt_cmpR (op_neD hr.units)
            (pe_lc (own := [("_law_origin", 15), ("_law_goal", 14)]) (g := gTup K 2 (gCons (gName 15) (gCons (gName 14) gNil))) rfl N (pi_list (pv 9)) (blkOk_by (N := NRi) (sc := defScope (top 49)) (by decide +kernel)) (fun _ _ _ _ _ => pg_tup rfl (pgs_cons (pg_name (i := 15) N rfl (.inl rfl)) (pgs_cons (pg_name (i := 14) N rfl (.inl rfl)) pgs_nil)))
              (fun _ _ _ _ _ => pts_one (PW.pt (pw_and (pt_cmpR op_eq (pv 15) (pv 11) (nomark _)) (pw_and1 (pt_cmpR (r := rNotInD K) (op_notInD hu) (pe_tup (pa_cons (pv 10) (pa_cons (pv 14) pa_nil))) (pv 9) (by rfl)))))) (fun _ _ _ _ _ => pv 14))
            (pe_lst pa_nil) (nomark _)) (pss_one (ps_ret pe_bl)) pss_nil)))))
      (pss_cons (ps_set (i := 12) N rfl (.inl rfl) (pe_mH0 k.tn T hr (pv 7)))
      (pss_one (ps_ret (pe_and (pe_cmpR (op_eqD hr.units)
          (pe_lc (own := [("_law_pairs", 9)]) (g := gName 9) (tt := tYes) rfl N (pi_list (pe_fn k.lv r6 (pa_cons (pv 12) pa_nil))) (blkOk_by (N := NRi) (sc := defScope (top 49)) (by decide +kernel)) (fun _ _ _ _ _ => pg_name (i := 9) N rfl (.inl rfl)) (fun _ _ _ _ _ => pts_nil) (fun _ _ _ _ _ => pe_fn k.tu r1 (pa_cons (pv 9) pa_nil)))
          (pe_ix ix_list (pv 4) pe_int (fun _ _ => rfl)) (nomark _))
        (pe_one (pe_cmpR (op_eqD hr.units) (pe_lst (pa_cons (pe_fn k.tu r1 (pa_cons (pe_fn k.cl r5 (pa_cons (pv 12) pa_nil)) pa_nil)) (pa_cons (pe_fn k.tu r1 (pa_cons (pe_fn k.do_ r5 (pa_cons (pv 12) pa_nil)) pa_nil)) pa_nil)))
          (pe_lst (pa_cons (pe_ix ix_list (pv 4) pe_int (fun _ _ => rfl)) (pa_cons (pe_ix ix_list (pv 4) pe_int (fun _ _ => rfl)) pa_nil))) (nomark _))))))))))))))), ?_⟩
    -- places
    refine seqV (Good := fun σ2 H2 => ∃ m : Nat, 1 ≤ m ∧ m ≤ 4 ∧ PotAt H2 p ∧ ButD p H H2 ∧ σ2 = σR p m none none none none none none none none none none none)
      (fun nx hnx => ⟨_, rfl, p, 4, rfl, hp, by decide, by decide, fun d H1 d0 d4 hp1 b1 => ⟨_, _, rfl, rfl, by
        obtain ⟨k9, rfl⟩ : ∃ k9 : Nat, d = k9 := ⟨d.toNat, by omega⟩
        exact hnx _ _ ⟨1 + k9, by omega, by omega, hp1, b1, by
          show _ = [some (V.ref p), some (V.int ((1 + k9 : Nat) : Int)), none, none, none, none, none, none, none, none, none, none, none, none, none, none]
          rw [show (((1 + k9 : Nat)) : Int) = 1 + (k9 : Int) by omega]
          rfl⟩⟩⟩) ?_
    rintro _ H1 ⟨m, m1, m4, hp1, b1, rfl⟩
    -- deeds
    refine seqV (Good := fun σ2 H2 => ∃ (a : Addr) (ys : List V) (ds : List Dd), H2 a = some (.lst ys) ∧ DdAll H2 ys ds ∧ WF (m : Int) ds ∧ ds.length ≤ 8 ∧ ButD p H H2 ∧ σ2 = σR p m (some (.ref a)) none none none none none none none none none none) ?_ ?_
    · intro nx hnx
      refine ⟨_, rfl, _, rfl, _, rfl, p, 7, rfl, hp1, by decide, by decide, fun d H2 d0 d6 hp2 b2 => ?_⟩
      obtain ⟨k9, rfl⟩ : ∃ k9 : Nat, d = k9 := ⟨d.toNat, by omega⟩
      refine ⟨_, _, rfl, rfl, p, m, 2 + k9, ?_, hp2, by omega, by omega, by omega, fun l xs ds H3 nl hl hp3 b3 dd ok nd le nn => ?_⟩
      · show [V.ref p, V.int m, V.int (2 + (k9 : Int)), V.bl true] = _
        rw [show (2 + (k9 : Int)) = ((2 + k9 : Nat) : Int) from by omega]
      · exact hnx _ _ ⟨l, xs, ds, hl, dd, ⟨by omega, by omega, ok, nd, by omega⟩, by omega, ButD.trans b1 (ButD.trans b2 b3), rfl⟩
    clear hp1 b1 H1 hp
    rintro _ H1 ⟨a, ys, ds, ha, dd, wf, d8, b1, rfl⟩
    have ok := wf.ok
    -- the house
    refine seqV (Good := fun σ2 H2 => ∃ (h l : Addr), HouseL C H2 h l (m : Int) ys ds ∧ Same H1 H2 ∧ σ2 = σR p m (some (.ref a)) (some (.ref h)) none none none none none none none none none) ?_ ?_
    · intro nx hnx
      refine ⟨_, rfl, _, rfl, ?_⟩
      exact make_any (K := K) (C := C) (.inl ha) dd wf (fun h l H3 n3 n3' s3 hh3 => ⟨rfl, hnx _ _ ⟨h, l, hh3, s3, rfl⟩⟩)
    rintro _ H2 ⟨h, l, hh, s12, rfl⟩
    replace ha := s12 _ _ ha
    replace dd := DdAll.same s12 dd
    replace b1 : ButD p H H2 := ButD.trans b1 (Same.but s12)
    clear s12 H1
    -- due
    refine seqV (Good := fun σ2 H3 => ∃ (t : Addr) (M : Nat), Same H2 H3 ∧ TrAt H3 t (leL m ds M) (canon m (rCl m ds)) (canon m (rDr m ds)) ∧ M ≤ m * m ∧ Stops (LeD m ds) M ∧ (∀ j, j < M → ¬ Stops (LeD m ds) j) ∧ σ2 = σR p m (some (.ref a)) (some (.ref h)) (some (.ref t)) none none none none none none none none) ?_ ?_
    · intro nx hnx
      refine ⟨_, rfl, _, rfl, a, ys, ds, m, rfl, ha, dd, ok, by omega, fun a1 H4 xs M n4 s4 h4 pl mn st go => ?_⟩
      refine ⟨_, rfl, _, rfl, a, ys, ds, m, rfl, s4 _ _ ha, DdAll.same s4 dd, ok, m4, d8, fun c1 H5 cs n5 s5 h5 pc => ?_⟩
      refine ⟨_, rfl, _, rfl, a, ys, ds, m, rfl, s5 _ _ (s4 _ _ ha), DdAll.same s5 (DdAll.same s4 dd), ok, m4, d8, fun d1 H6 es n6 s6 h6 pd => ⟨(by show 3 ≤ sizeLine; decide), fun t ht => ?_⟩⟩
      have s7 := same_upd (o := .lst [V.ref a1, V.ref c1, V.ref d1]) ht
      exact hnx _ _ ⟨t, M, s4.trans (s5.trans (s6.trans s7)), ⟨a1, c1, d1, xs, cs, es, upd_same, s7 _ _ (s6 _ _ (s5 _ _ h4)), ((pl.same s5).same s6).same s7, s7 _ _ (s6 _ _ h5), (pc.same s6).same s7, s7 _ _ h6, pd.same s7⟩, mn, st, go, rfl⟩
    rintro _ H3 ⟨t, M, s3, tr, mn, st, go, rfl⟩
    replace hh := hh.same s3
    replace b1 : ButD p H H3 := ButD.trans b1 (Same.but s3)
    clear s3 ha dd H2
    have mm : m * m ≤ 4 * 4 := Nat.mul_le_mul m4 m4
    have shw : Showy (dT (leL m ds M) (canon m (rCl m ds)) (canon m (rDr m ds))) := dT_showy (fun ps hps => by
      obtain ⟨j, rfl⟩ := leL_of hps
      exact sm_canon m4 _) (sm_canon m4 _) (sm_canon m4 _) (by rw [leL_len]; omega)
    -- two turns
    refine seqV (Good := fun σ2 H4 => Same H3 H4 ∧ ∃ x5 x6 : Option V, σ2 = σR p m (some (.ref a)) (some (.ref h)) (some (.ref t)) x5 x6 none none none none none none) ?_ ?_
    · intro nx hnx
      refine ⟨2, rfl, by decide, by decide, for_range (lo := 0) (n := (2 : Int).toNat) (fun i σ2 H4 => Same H3 H4 ∧ ∃ x5 x6 : Option V, σ2 = σR p m (some (.ref a)) (some (.ref h)) (some (.ref t)) x5 x6 none none none none none none) ⟨fun _ _ e => e, none, none, rfl⟩ ?_ ?_⟩
      · rintro i σ2 H4 hi ⟨s4, x5, x6, rfl⟩
        have hh4 := hh.same s4
        refine ⟨_, rfl, h, l, m, ys, ds, rfl, hh4, wf, fun ta H5 n5 s5 lv => ?_⟩
        refine ⟨_, rfl, h, l, m, ys, ds, rfl, hh4.same s5, wf, fun tc H6 n6 s6 cb => ?_⟩
        refine ⟨_, rfl, rfl, rfl, h, l, m, ys, ds, rfl, (hh4.same s5).same s6, wf, fun td H7 n7 s7 dp => ⟨(by show 3 ≤ sizeLine; decide), fun t2 ht2 => ?_⟩⟩
        have tr2 := tr_of (C := C) ok st go lv cb dp s6 s7 ht2
        obtain ⟨lx, lys, lm, hl, pl, fr, le, _⟩ := lv
        obtain ⟨cs, cy, hc, pc, rc⟩ := cb
        obtain ⟨es, dy, hd, pd, rd⟩ := dp
        rw [leOk_leL le st go] at pl
        rw [prs_canon rc (rCl_in ok)] at pc
        rw [prs_canon rd (rDr_in ok)] at pd
        have lxl : lx.length = M + 1 := by rw [Paired.length pl, leL_len]
        have cl : (canon m (rCl m ds)).length ≤ m * m := canon_len m _ m
        have csl : cs.length ≤ 16 := by rw [Paired.length pc]; omega
        have s8 := same_upd (o := .lst [V.ref ta, V.ref tc, V.ref td]) ht2
        obtain ⟨x0, hx0⟩ : ∃ x, lx[0]? = some x := ⟨_, List.getElem?_eq_getElem (by omega)⟩
        obtain ⟨ps0, hps0, b, bs, rfl, nb, hb, pb⟩ := Paired.at pl hx0
        rw [leL_get (Nat.zero_le _)] at hps0
        obtain rfl := Option.some.inj hps0
        have bl : (canon m (LeD m ds 0)).length ≤ m * m := canon_len m _ m
        have bsl : bs.length ≤ 16 := by rw [Paired.length pb]; omega
        have fta : H3 ta = none := s4.free n5
        have ftb : H3 b = none := s4.free (fr b bs (List.mem_of_getElem? hx0) hb)
        have ftc : H3 tc = none := (s4.trans s5).free n6
        have ftd : H3 td = none := (s4.trans (s5.trans s6)).free n7
        have ca : ta ≠ tc := ne_of_none hl n6
        have ea : ta ≠ td := ne_of_none (s6 _ _ hl) n7
        have cb' : b ≠ tc := ne_of_none hb n6
        have eb : b ≠ td := ne_of_none (s6 _ _ hb) n7
        have ec : tc ≠ td := ne_of_none hc n7
        have t2a : ta ≠ t2 := ne_of_none (s7 _ _ (s6 _ _ hl)) ht2
        have t2b : b ≠ t2 := ne_of_none (s7 _ _ (s6 _ _ hb)) ht2
        have t2c : tc ≠ t2 := ne_of_none (s7 _ _ hc) ht2
        have t2d : td ≠ t2 := ne_of_none hd ht2
        have s38 := s4.trans (s5.trans (s6.trans (s7.trans s8)))
        have ht8 : upd H7 t2 (.lst [V.ref ta, V.ref tc, V.ref td]) t2 = some (.lst [V.ref ta, V.ref tc, V.ref td]) := upd_same
        have hl8 := s8 _ _ (s7 _ _ (s6 _ _ hl))
        have hb8 := s8 _ _ (s7 _ _ (s6 _ _ hb))
        have hc8 := s8 _ _ (s7 _ _ hc)
        have hd8 := s8 _ _ hd
        have trd := tr.same s38
        generalize upd H7 t2 (.lst [V.ref ta, V.ref tc, V.ref td]) = H8 at tr2 s38 ht8 hl8 hb8 hc8 hd8 trd ⊢
        clear s8 s7 s6 s5 hl hb hc hd n5 n6 n7 ht2 pl pc pd pb fr
        refine ⟨_, rfl, _, _, rfl, tr2.dp, shw, _, rfl, _, _, rfl, trd.dp, shw, rfl, false, by simp, iteF ?_⟩
        -- told[0][0].append((0, 0))
        refine ⟨_, rfl, t2, _, _, _, rfl, rfl, .inl (.inl ht8), rfl, ta, _, _, _, rfl, rfl, .inl (.inl hl8), atI_nat (j := 0) hx0, .inl ⟨rfl, _, .inl (.inl hb8)⟩, (by show 2 ≤ sizeLine; decide), fun u hu => ?_⟩
        have su := same_upd (o := .tup [V.int 0, V.int 0]) hu
        refine ⟨b, _, _, rfl, rfl, su _ _ hb8, by rw [sizeLine_eq]; omega, ?_⟩
        have ht9 : upd (upd H8 u (.tup [V.int 0, V.int 0])) b (.lst (bs ++ [V.ref u])) t2 = some (.lst [V.ref ta, V.ref tc, V.ref td]) := by rw [upd_ne t2b.symm]; exact su _ _ ht8
        have hl9 : upd (upd H8 u (.tup [V.int 0, V.int 0])) b (.lst (bs ++ [V.ref u])) ta = some (.lst lx) := by rw [upd_ne nb.symm]; exact su _ _ hl8
        have hc9 : upd (upd H8 u (.tup [V.int 0, V.int 0])) b (.lst (bs ++ [V.ref u])) tc = some (.lst cs) := by rw [upd_ne cb'.symm]; exact su _ _ hc8
        have hd9 : upd (upd H8 u (.tup [V.int 0, V.int 0])) b (.lst (bs ++ [V.ref u])) td = some (.lst es) := by rw [upd_ne eb.symm]; exact su _ _ hd8
        have s39 : Same H3 (upd (upd H8 u (.tup [V.int 0, V.int 0])) b (.lst (bs ++ [V.ref u]))) := same_put (s38.trans su) ftb
        show tSeq _ _ _ _ (upd (upd H8 u (.tup [V.int 0, V.int 0])) b (.lst (bs ++ [V.ref u])))
        generalize upd (upd H8 u (.tup [V.int 0, V.int 0])) b (.lst (bs ++ [V.ref u])) = H9 at ht9 hl9 hc9 hd9 s39 ⊢
        -- told[0].append([])
        refine ⟨_, rfl, t2, _, _, _, rfl, rfl, .inl (.inl ht9), rfl, .inl ⟨rfl, _, .inl (.inl hl9)⟩, (by show 0 ≤ sizeLine; decide), fun e he => ?_⟩
        have se := same_upd (o := .lst []) he
        refine ⟨ta, _, _, rfl, rfl, se _ _ hl9, by rw [sizeLine_eq]; omega, ?_⟩
        have ht10 : upd (upd H9 e (.lst [])) ta (.lst (lx ++ [V.ref e])) t2 = some (.lst [V.ref ta, V.ref tc, V.ref td]) := by rw [upd_ne t2a.symm]; exact se _ _ ht9
        have hc10 : upd (upd H9 e (.lst [])) ta (.lst (lx ++ [V.ref e])) tc = some (.lst cs) := by rw [upd_ne ca.symm]; exact se _ _ hc9
        have hd10 : upd (upd H9 e (.lst [])) ta (.lst (lx ++ [V.ref e])) td = some (.lst es) := by rw [upd_ne ea.symm]; exact se _ _ hd9
        have s310 : Same H3 (upd (upd H9 e (.lst [])) ta (.lst (lx ++ [V.ref e]))) := same_put (s39.trans se) fta
        show tSeq _ _ _ _ (upd (upd H9 e (.lst [])) ta (.lst (lx ++ [V.ref e])))
        generalize upd (upd H9 e (.lst [])) ta (.lst (lx ++ [V.ref e])) = H10 at ht10 hc10 hd10 s310 ⊢
        -- told[1].append((9, 9))
        refine ⟨_, rfl, t2, _, _, _, rfl, rfl, .inl (.inl ht10), rfl, .inl ⟨rfl, _, .inl (.inl hc10)⟩, (by show 2 ≤ sizeLine; decide), fun u2 hu2 => ?_⟩
        have su2 := same_upd (o := .tup [V.int 9, V.int 9]) hu2
        refine ⟨tc, _, _, rfl, rfl, su2 _ _ hc10, by rw [sizeLine_eq]; omega, ?_⟩
        have ht11 : upd (upd H10 u2 (.tup [V.int 9, V.int 9])) tc (.lst (cs ++ [V.ref u2])) t2 = some (.lst [V.ref ta, V.ref tc, V.ref td]) := by rw [upd_ne t2c.symm]; exact su2 _ _ ht10
        have hd11 : upd (upd H10 u2 (.tup [V.int 9, V.int 9])) tc (.lst (cs ++ [V.ref u2])) td = some (.lst es) := by rw [upd_ne ec.symm]; exact su2 _ _ hd10
        have s311 : Same H3 (upd (upd H10 u2 (.tup [V.int 9, V.int 9])) tc (.lst (cs ++ [V.ref u2]))) := same_put (s310.trans su2) ftc
        -- told[2].clear()
        refine ⟨_, rfl, t2, _, _, _, rfl, rfl, .inl (.inl ht11), rfl, .inl ⟨rfl, _, .inl (.inl hd11)⟩, td, es, rfl, rfl, hd11, ?_⟩
        exact ⟨same_put s311 ftd, _, _, rfl⟩
      · rintro σ2 H4 ⟨s4, x5, x6, rfl⟩
        exact hnx _ _ ⟨s4, x5, x6, rfl⟩
    rintro _ H4 ⟨s4, x5, x6, rfl⟩
    replace hh := hh.same s4
    replace tr := tr.same s4
    replace b1 : ButD p H H4 := ButD.trans b1 (Same.but s4)
    clear s4 H3
    -- plain
    refine seqV (Good := fun σ2 H5 => ∃ (ph pl : Addr) (pys : List V), Same H4 H5 ∧ HouseL C H5 ph pl (m : Int) pys (ds.filter isAny) ∧ σ2 = σR p m (some (.ref a)) (some (.ref h)) (some (.ref t)) x5 x6 (some (.ref ph)) none none none none none) ?_ ?_
    · intro nx hnx
      obtain ⟨dx, ob⟩ := hh.ob
      exact ⟨_, rfl, h, dx, _, rfl, ob, flds_no _ _ (by decide +kernel) (by decide +kernel), h, l, m, ys, ds, rfl, hh, wf, fun ph pl pys H5 n5 n5' s5 ph5 => hnx _ _ ⟨ph, pl, pys, s5, ph5, rfl⟩⟩
    rintro _ H5 ⟨ph, plh, pys, s5, hp5, rfl⟩
    replace hh := hh.same s5
    replace tr := tr.same s5
    replace b1 : ButD p H H5 := ButD.trans b1 (Same.but s5)
    clear s5 H4
    have wfp : WF (m : Int) (ds.filter isAny) := wf.filter isAny
    have elp : LeD m (ds.filter isAny) = LeD m ds := funext fun j => le_plain m ds j
    -- the plain house tells the same
    refine seqV (Good := fun σ2 H6 => Same H5 H6 ∧ σ2 = σR p m (some (.ref a)) (some (.ref h)) (some (.ref t)) x5 x6 (some (.ref ph)) none none none none none) ?_ ?_
    · intro nx hnx
      refine ⟨_, rfl, ph, plh, m, pys, _, rfl, hp5, wfp, fun ta H6 n6 s6 lv => ?_⟩
      refine ⟨_, rfl, ph, plh, m, pys, _, rfl, hp5.same s6, wfp, fun tc H7 n7 s7 cb => ?_⟩
      refine ⟨_, rfl, ph, plh, m, pys, _, rfl, (hp5.same s6).same s7, wfp, fun td H8 n8 s8 dp => ⟨(by show 3 ≤ sizeLine; decide), fun t2 ht2 => ?_⟩⟩
      have tr2 := tr_of (C := C) (M := M) wfp.ok (by rw [elp]; exact st) (by rw [elp]; exact go) lv cb dp s7 s8 ht2
      rw [leL_plain, rCl_plain, rDr_plain] at tr2
      have s9 := same_upd (o := .lst [V.ref ta, V.ref tc, V.ref td]) ht2
      have s59 := s6.trans (s7.trans (s8.trans s9))
      refine ⟨_, rfl, _, _, tr2.dp, (tr.same s59).dp, dT_shaped _ _ _, dT_shaped _ _ _, false, by rw [dT_eqv]; rfl, iteF ?_⟩
      exact hnx _ _ ⟨s59, rfl⟩
    rintro _ H6 ⟨s6, rfl⟩
    replace hh := hh.same s6
    replace hp5 := hp5.same s6
    replace tr := tr.same s6
    replace b1 : ButD p H H6 := ButD.trans b1 (Same.but s6)
    clear s6 H5
    obtain ⟨la, lc, ld, lxs, lcs, les, ht, hl, pl, hc, pc, hd, pd⟩ := id tr
    have lxl : lxs.length = M + 1 := by rw [Paired.length pl, leL_len]
    -- the levels grow
    refine seqV (Good := fun σ2 H7 => Same H6 H7 ∧ ∃ x8 : Option V, σ2 = σR p m (some (.ref a)) (some (.ref h)) (some (.ref t)) x5 x6 (some (.ref ph)) x8 none none none none) ?_ ?_
    · intro nx hnx
      refine ⟨_, rfl, t, _, _, _, rfl, rfl, .inl (.inl ht), rfl, la, _, rfl, .inl (.inl (.inl hl)), 1, _, rfl, ⟨by decide, by decide, by omega, by rw [lxl]; omega⟩, ?_⟩
      refine for_range (lo := 1) (n := ((lxs.length : Int) - 1).toNat) (fun i σ2 H7 => Same H6 H7 ∧ ∃ x8 : Option V, σ2 = σR p m (some (.ref a)) (some (.ref h)) (some (.ref t)) x5 x6 (some (.ref ph)) x8 none none none none) ⟨fun _ _ e => e, none, rfl⟩ ?_ ?_
      · rintro i σ2 H7 hi ⟨s7, x8, rfl⟩
        have iM : i + 1 ≤ M := by rw [lxl] at hi; omega
        have e1 : (1 : Int) + (i : Int) = ((i + 1 : Nat) : Int) := by omega
        have e0 : ((i + 1 : Nat) : Int) - 1 = (i : Int) := by omega
        rw [e1]
        obtain ⟨x, hx⟩ : ∃ x, lxs[i]? = some x := ⟨_, List.getElem?_eq_getElem (by omega)⟩
        obtain ⟨ps, hps, b, bs, rfl, nb, hb, pb⟩ := Paired.at pl hx
        rw [leL_get (by omega)] at hps
        obtain rfl := Option.some.inj hps
        obtain ⟨y, hy⟩ : ∃ y, lxs[i + 1]? = some y := ⟨_, List.getElem?_eq_getElem (by omega)⟩
        obtain ⟨qs, hqs, b2, bs2, rfl, nb2, hb2, pb2⟩ := Paired.at pl hy
        rw [leL_get (by omega)] at hqs
        obtain rfl := Option.some.inj hqs
        have bsl := Paired.length pb
        refine ⟨_, rfl, t, _, _, _, rfl, rfl, .inl (.inl (s7 _ _ ht)), rfl, _, rfl, _, _, rfl, rfl, la, _, _, _, rfl, rfl, .inl (.inl (s7 _ _ hl)), by rw [e0]; exact atI_nat hx, b, rfl, ⟨_, .inl (.inl (s7 _ _ hb))⟩, fun D hD => ?_⟩
        refine lc_list (xs := bs) (fun j H8 => H8 D = some (.lst []) ∧ ButD D H7 H8) ⟨upd_same, .start⟩ (fun j H8 _ hI => .inl (.inl (hI.2.new hD _ _ (s7 _ _ hb)))) ?_ ?_
        · rintro j z H8 hz ⟨h8, b8⟩
          have s8 := s7.trans (b8.new hD)
          obtain ⟨q1, hq1, tt, rfl, htt⟩ := Paired.at pb hz
          have qm := mem_canon.mp (show (q1.1, q1.2) ∈ _ from List.mem_of_getElem? hq1)
          have q2m : (q1.1, q1.2) ∈ canon m (LeD m ds (i + 1)) := mem_canon.mpr ⟨qm.1, qm.2.1, le_succ (Dl.inn ok 0) i _ _ qm.2.2⟩
          refine ⟨rfl, ?_⟩
          refine ⟨_, rfl, _, rfl, t, _, _, _, rfl, rfl, .inl (.inl (s8 _ _ ht)), rfl, _, rfl, la, _, _, _, rfl, rfl, .inl (.inl (s8 _ _ hl)), atI_nat hy, ?_⟩
          refine notin_prs (s8 _ _ htt) (s8 _ _ hb2) (PrAll.same s8 pb2) ⟨_, rfl, ?_⟩
          rw [decide_eq_true q2m]
          exact iteF ⟨h8, b8⟩
        · rintro H8 ⟨h8, b8⟩
          have s8 := s7.trans (b8.new hD)
          refine ⟨(by show 0 ≤ sizeLine; decide), fun e he => ?_⟩
          have se := same_upd (o := .lst []) he
          exact ⟨_, _, .lst (.inl (.inl (se _ _ h8))) .nil, .lst (.inl (.inl upd_same)) .nil, by decide +kernel, by decide +kernel, false, by decide +kernel, iteF ⟨s8.trans se, _, rfl⟩⟩
      · rintro σ2 H7 ⟨s7, x8, rfl⟩
        exact hnx _ _ ⟨s7, x8, rfl⟩
    rintro _ H7 ⟨s7, x8, rfl⟩
    replace hh := hh.same s7
    replace hp5 := hp5.same s7
    replace tr := tr.same s7
    replace b1 : ButD p H H7 := ButD.trans b1 (Same.but s7)
    clear ht hl pl hc pc hd pd s7 H6
    -- each level is closed
    refine seqV (Good := fun σ2 H8 => Same H7 H8 ∧ ∃ x9 x10 x11 : Option V, σ2 = σR p m (some (.ref a)) (some (.ref h)) (some (.ref t)) x5 x6 (some (.ref ph)) x8 x9 x10 x11 none) ?_ ?_
    · intro nx hnx
      refine ⟨_, rfl, rfl, rfl, h, l, m, ys, ds, rfl, hh, wf, fun va H8 n8 s8 lv => ?_⟩
      obtain ⟨vx, vys, vm, hv, pv8, fr, le, _⟩ := lv
      rw [leOk_leL le st go] at pv8
      refine ⟨va, rfl, ⟨_, .inl (.inl hv)⟩, ?_⟩
      refine loop_of (n := vx.length) (fun i σ H9 => Same H8 H9 ∧ ∃ x9 x10 x11 : Option V, σ = σR p m (some (.ref a)) (some (.ref h)) (some (.ref t)) x5 x6 (some (.ref ph)) x8 x9 x10 x11 none) ⟨fun _ _ e => e, _, _, _, rfl⟩ ?_ ?_
      · rintro σ H9 ⟨s9, x9, x10, x11, rfl⟩
        exact ⟨⟨_, .inl (.inl (s9 _ _ hv)), Nat.le_refl _⟩, hnx _ _ ⟨s8.trans s9, _, _, _, rfl⟩⟩
      · rintro i σ H9 hi ⟨s9, x9, x10, x11, rfl⟩
        refine ⟨⟨_, _, .inl (.inl (s9 _ _ hv)), List.getElem?_eq_getElem hi⟩, ?_⟩
        rintro x H10 ⟨rfl, hy⟩
        have hx := hy _ (.inl (.inl (s9 _ _ hv)))
        obtain ⟨ps, hps, b, bs, rfl, nb, hb, pb⟩ := Paired.at pv8 hx
        obtain ⟨kk, rfl⟩ := leL_of (List.mem_of_getElem? hps)
        refine ⟨_, rfl, b, rfl, ⟨_, .inl (.inl (s9 _ _ hb))⟩, ?_⟩
        refine loop_of (n := bs.length) (fun j σ H11 => Same H8 H11 ∧ ∃ x10 x11 : Option V, σ = σR p m (some (.ref a)) (some (.ref h)) (some (.ref t)) x5 x6 (some (.ref ph)) x8 (some (.ref b)) x10 x11 none) ⟨s9, _, _, rfl⟩ ?_ ?_
        · rintro σ H11 ⟨s11, x10, x11, rfl⟩
          exact ⟨⟨_, .inl (.inl (s11 _ _ hb)), Nat.le_refl _⟩, s11, _, _, _, rfl⟩
        · rintro j σ H11 hj ⟨s11, x10, x11, rfl⟩
          refine ⟨⟨_, _, .inl (.inl (s11 _ _ hb)), List.getElem?_eq_getElem hj⟩, ?_⟩
          rintro y H12 ⟨rfl, hy2⟩
          have hyj := hy2 _ (.inl (.inl (s11 _ _ hb)))
          obtain ⟨q1, hq1, tt, rfl, htt⟩ := Paired.at pb hyj
          have qm := mem_canon.mp (show (q1.1, q1.2) ∈ _ from List.mem_of_getElem? hq1)
          refine ⟨tt, _, rfl, .inl (.inl (s11 _ _ htt)), rfl, _, _, rfl, _, _, rfl, rfl, ?_⟩
          refine ⟨_, rfl, b, rfl, ⟨_, .inl (.inl (s11 _ _ hb))⟩, fun D hD => ?_⟩
          refine lc_list (xs := bs) (fun j H13 => H13 D = some (.lst []) ∧ ButD D H12 H13) ⟨upd_same, .start⟩ (fun j H13 _ hI => .inl (.inl (hI.2.new hD _ _ (s11 _ _ hb)))) ?_ ?_
          · rintro j2 z H13 hz ⟨h13, b13⟩
            have s13 := s11.trans (b13.new hD)
            obtain ⟨q2, hq2, tt2, rfl, htt2⟩ := Paired.at pb hz
            have qm2 := mem_canon.mp (show (q2.1, q2.2) ∈ _ from List.mem_of_getElem? hq2)
            refine ⟨tt2, _, rfl, .inl (.inl (s13 _ _ htt2)), rfl, _, _, rfl, _, _, rfl, rfl, rfl, ?_⟩
            refine ⟨_, rfl, _, rfl, rfl, decide (q2.1 = q1.2), congrArg V.bl (by simp; omega), ?_⟩
            by_cases c : q2.1 = q1.2
            · rw [decide_eq_true c]
              refine iteT ⟨_, rfl, _, rfl, (by show 2 ≤ sizeLine; decide), fun T hT => ?_⟩
              have sT := same_upd (o := .tup [V.int (q1.1 : Nat), V.int (q2.2 : Nat)]) hT
              have s14 := s13.trans sT
              refine ⟨_, rfl, notin_prs (a := q1.1) (b := q2.2) upd_same (s14 _ _ hb) (PrAll.same s14 pb) ⟨_, rfl, ?_⟩⟩
              rw [decide_eq_true (mem_canon.mpr ⟨qm.1, qm2.2.1, le_trans kk qm.2.2 (c ▸ qm2.2.2)⟩)]
              exact iteF ⟨sT _ _ h13, b13.more sT⟩
            · rw [decide_eq_false c]
              exact iteF ⟨h13, b13⟩
          · rintro H13 ⟨h13, b13⟩
            have s13 := s11.trans (b13.new hD)
            refine ⟨(by show 0 ≤ sizeLine; decide), fun e he => ?_⟩
            have se := same_upd (o := .lst []) he
            exact ⟨_, _, .lst (.inl (.inl (se _ _ h13))) .nil, .lst (.inl (.inl upd_same)) .nil, by decide +kernel, by decide +kernel, false, by decide +kernel, iteF ⟨s13.trans se, _, _, rfl⟩⟩
    rintro _ H8 ⟨s8, x9, x10, x11, rfl⟩
    replace hp5 := hp5.same s8
    replace tr := tr.same s8
    replace b1 : ButD p H H8 := ButD.trans b1 (Same.but s8)
    clear hh s8 H7
    -- turned
    have alp : (ds.filter isAny).all isAny = true := List.all_eq_true.mpr fun d hd => (List.mem_filter.mp hd).2
    have wfb : WF (m : Int) ((ds.filter isAny).map turnD) := wfp.turn alp
    refine seqV (Good := fun σ2 H9 => ∃ (bh bl : Addr) (bys : List V), Same H8 H9 ∧ HouseL C H9 bh bl (m : Int) bys ((ds.filter isAny).map turnD) ∧ σ2 = σR p m (some (.ref a)) (some (.ref h)) (some (.ref t)) x5 x6 (some (.ref ph)) x8 x9 x10 x11 (some (.ref bh))) ?_ ?_
    · intro nx hnx
      obtain ⟨dx, ob⟩ := hp5.ob
      exact ⟨_, rfl, ph, dx, _, rfl, ob, flds_no _ _ (by decide +kernel) (by decide +kernel), ph, plh, m, pys, _, rfl, hp5, wfp.len, alp, wfb, fun bh bl bys H9 n9 n9' s9 bh9 => hnx _ _ ⟨bh, bl, bys, s9, bh9, rfl⟩⟩
    rintro _ H9 ⟨bh, bl, bys, s9, hb9, rfl⟩
    replace tr := tr.same s9
    replace b1 : ButD p H H9 := ButD.trans b1 (Same.but s9)
    clear s9 hp5 H8
    generalize hdb : (ds.filter isAny).map turnD = db at wfb hb9
    have stb : Stops (LeD m db) M := by
      rw [← hdb]
      exact stops_turn.mpr (by rw [elp]; exact st)
    have gob : ∀ j, j < M → ¬ Stops (LeD m db) j := fun j hj z => by
      rw [← hdb] at z
      have := stops_turn.mp z
      rw [elp] at this
      exact go j hj this
    have eT : ∀ j, Tr (LeD m db j) = LeD m ds j := fun j => by rw [← hdb, le_turn, elp]
    have eC : Tr (rCl m db) = rDr m ds := by rw [← hdb, rCl_turn, rDr_plain]
    have eD : Tr (rDr m db) = rCl m ds := by rw [← hdb, rDr_turn, rCl_plain]
    refine ⟨_, rfl, bh, bl, m, bys, _, rfl, hb9, wfb, fun va H10 n10 s10 lv => ?_⟩
    obtain ⟨vx, vys, vm, hv, pv10, fr, le, _⟩ := lv
    rw [leOk_leL le stb gob] at pv10
    have vxl : vx.length = M + 1 := by rw [Paired.length pv10, leL_len]
    refine ⟨va, rfl, ⟨_, .inl (.inl hv)⟩, fun D hD => ?_⟩
    refine lc_list (xs := vx) (fun i H11 => ButD D H10 H11 ∧ ∃ zs, H11 D = some (.lst zs) ∧ PlAll D H11 zs ((leL m ds M).take i)) ⟨.start, [], upd_same, .nil⟩ (fun i H11 _ hI => .inl (.inl (hI.1.new hD _ _ hv))) ?_ ?_
    · rintro i x H11 hx ⟨b11, zs, h11, pz⟩
      have s11 := b11.new hD
      obtain ⟨ps, hps, b, bs, rfl, nb, hb, pb⟩ := Paired.at pv10 hx
      have il : i < vx.length := (List.getElem?_eq_some_iff.mp hx).1
      rw [leL_get (by omega)] at hps
      obtain rfl := Option.some.inj hps
      refine ⟨rfl, yes_ite ?_⟩
      refine ⟨_, rfl, b, bs, m, LeD m db i, rfl, s11 _ _ hb, PrAll.same s11 pb, m4, fun e H12 es ne s12 he pe => ?_⟩
      rw [eT] at pe
      have noD : e ≠ D := fun z => by
        subst z
        rw [h11] at ne
        exact nomatch ne
      have zl : zs.length ≤ i := by
        rw [Paired.length pz, List.length_take]
        omega
      have bp : ButD D H12 (upd H12 D (.lst (zs ++ [V.ref e]))) := ButD.start
      have h12 := s12 _ _ h11
      refine ⟨zs, h12, by rw [sizeLine_eq]; omega, (b11.more s12).put, zs ++ [.ref e], upd_same, ?_⟩
      rw [List.take_succ, leL_get (by omega)]
      exact PlAll.but bp ⟨_, h12⟩ (PySem.Paired.snoc (PlAll.but (Same.but s12) ⟨_, h11⟩ pz) ⟨e, es, rfl, noD, he, pe⟩)
    · rintro H11 ⟨b11, zs, h11, pz⟩
      have s11 := s10.trans (b11.new hD)
      rw [vxl, List.take_of_length_le (by rw [leL_len]; exact Nat.le_refl _)] at pz
      replace tr := tr.same s11
      obtain ⟨la, lc, ld, lxs, lcs, les, ht, hl, pl, hc, pc, hd, pd⟩ := id tr
      refine ⟨_, rfl, t, _, _, _, rfl, rfl, .inl (.inl ht), rfl, ?_⟩
      refine ⟨_, _, .lst (.inl (.inl h11)) pz.dps, .lst (.inl (.inl hl)) pl.dps, dLs_shaped _, dLs_shaped _, true, by rw [dLs_eqv'], iteT ?_⟩
      have hb11 := hb9.same s11
      refine ⟨_, rfl, bh, bl, m, bys, _, rfl, hb11, wfb, fun c1 H12 n12 s12 cb => ?_⟩
      obtain ⟨cs, cy, hc1, pc1, rc⟩ := cb
      rw [prs_canon rc (rCl_in wfb.ok)] at pc1
      refine ⟨c1, cs, m, _, rfl, hc1, pc1, m4, fun c2 H13 cs2 n13 s13 hc2 pc2 => ?_⟩
      rw [eC] at pc2
      refine ⟨_, rfl, bh, bl, m, bys, _, rfl, (hb11.same s12).same s13, wfb, fun d1 H14 n14 s14 dp => ?_⟩
      obtain ⟨es, dy, hd1, pd1, rd⟩ := dp
      rw [prs_canon rd (rDr_in wfb.ok)] at pd1
      refine ⟨d1, es, m, _, rfl, hd1, pd1, m4, fun d2 H15 es2 n15 s15 hd2 pd2 => ⟨(by show 2 ≤ sizeLine; decide), fun t3 ht3 => ?_⟩⟩
      rw [eD] at pd2
      have s16 := same_upd (o := .lst [V.ref c2, V.ref d2]) ht3
      have s1115 := s12.trans (s13.trans (s14.trans s15))
      have s1116 := s1115.trans s16
      refine ⟨_, rfl, t, _, _, _, rfl, rfl, .inl (.inl (s1116 _ _ ht)), rfl, _, rfl, t, _, _, _, rfl, rfl, .inl (.inl (s1116 _ _ ht)), rfl, (by show 2 ≤ sizeLine; decide), fun t4 ht4 => ?_⟩
      have s17 := same_upd (o := .lst [V.ref ld, V.ref lc]) ht4
      have s1117 := s1116.trans s17
      have s1417 := s14.trans (s15.trans (s16.trans s17))
      have s1617 := s16.trans s17
      refine ⟨.list [dL (canon m (rDr m ds)), dL (canon m (rCl m ds))], .list [dL (canon m (rDr m ds)), dL (canon m (rCl m ds))],
        .lst (.inl (.inl (s17 _ _ upd_same))) (.cons (.lst (.inl (.inl (s1417 _ _ hc2))) (PrAll.same s1417 pc2).dps) (.cons (.lst (.inl (.inl (s1617 _ _ hd2))) (PrAll.same s1617 pd2).dps) .nil)),
        .lst (.inl (.inl upd_same)) (.cons (.lst (.inl (.inl (s1117 _ _ hd))) (PrAll.same s1117 pd).dps) (.cons (.lst (.inl (.inl (s1117 _ _ hc))) (PrAll.same s1117 pc).dps) .nil)),
        d2_shaped _ _, d2_shaped _ _, ?_⟩
      rw [d2_eqv]
      exact q _ (ButD.trans b1 (Same.but (s11.trans s1117)))
end
end L2.K24
end

section
set_option Elab.async false
set_option linter.all false
set_option maxRecDepth 100000
set_option maxHeartbeats 4000000
namespace L2.K24
open PySem PySem.Spec PyProof.Rows L2.Gd L2.Lv
section
variable {P : Program} {w : World} {K : PySem.W.Frag} {mg : Str → Option Value} {base : Heap} {C : Addr}
abbrev sLaw : Stmt := top 50
def spLaw (K : PySem.W.Frag) : Sp := fun vs H Q _ => ∃ (a : Addr) (ns : List Int), vs = [.ref a] ∧ SqL K H a (ns.map V.int) ∧ ns.length ≤ 63 ∧ ∀ H', Q (.bl true) H'
theorem scLaw : FnScope ["_law_script", "_law_k"] ["_law_script"] (defScope sLaw) := ⟨rfl, rfl, rfl, by decide +kernel, rfl, by decide +kernel, by decide +kernel⟩
theorem ok_law {f : Addr} {fd : FuncData} (F : Fun K "law" "law" sLaw f fd) (n : Nm mg) (GP : Fn P w K mg base 1 "_law_pot" ["_law_script", "_law_k"] (spPot K)) (GR : FnGd P w K mg base 8 "_law_right" ["_law_pot_here"] spRight) :
    FnG P w K mg base 9 f fd ["_law_script"] (spLaw K) := by
  refine okG F scLaw (fun vs H Q h => ?_) (fun cdv A outer s H vs Q hg hr h => ?_)
  · obtain ⟨a, ns, rfl, _⟩ := h
    rfl
  · obtain ⟨a, ns, rfl, hs, hl, q⟩ := h
    have N := scLaw.nd
    have r1 := hr.mono (k := 8) (j := 1) (by decide)
    refine ⟨_, pss_one (ps_ret (pe_callB (cr_all rfl) (by rfl) n.all (by decide +kernel) (pa_cons
      (pe_lc (own := [("_law_k", 1)]) (g := gName 1) (tt := tYes) rfl N (pi_range1 (by rfl) n.range (pa_cons (pe_callB (call_max2 rfl) (by rfl) n.max (by decide +kernel) (pa_cons pe_int (pa_cons
          (pe_callB (call_min2 rfl) (by rfl) n.min (by decide +kernel) (pa_cons pe_int (pa_cons (pe_callB call_len_seq (by rfl) n.len PySem.boot_len (pa_cons (pv 0) pa_nil)) pa_nil))) pa_nil))) pa_nil))
        (blkOk_by (N := ["_law_script", "_law_k"]) (sc := defScope sLaw) (by decide +kernel)) (fun _ _ _ _ _ => pg_name (i := 1) N rfl (.inl rfl)) (fun _ _ _ _ _ => pts_nil)
        (fun _ _ _ _ _ => pe_fnG GR hg hr (pa_cons (pe_fn GP r1 (pa_cons (pv 0) (pa_cons (pv 1) pa_nil))) pa_nil))) pa_nil))), ?_⟩
    refine ⟨_, rfl, a, _, rfl, .inl hs, _, _, rfl, _, _, rfl, ?_⟩
    have hlen : (ns.map V.int).length = ns.length := List.length_map _
    generalize hr' : (if (if ((ns.map V.int).length : Int) < 1 then ((ns.map V.int).length : Int) else 1) > 1 then (if ((ns.map V.int).length : Int) < 1 then ((ns.map V.int).length : Int) else 1) else 1) = R
    have R1 : 1 ≤ R ∧ R ≤ 1 := by
      rw [hlen] at hr'
      subst hr'
      split <;> split <;> omega
    refine ⟨R, rfl, by omega, by omega, fun D hD => ?_⟩
    refine lc_mapR (lo := 0) (n := R.toNat) (G := fun _ v b => v = V.bl b) (f := fun _ => some true) (fun _ _ _ _ _ _ z => z) (by omega) ?_ ?_
    · rintro x e H2 A B he rfl b ⟨zs, hz⟩ hA hB
      unfold rgI at he
      obtain ⟨i, hi, rfl⟩ := List.mem_map.mp he
      have s2 := b.new hD
      refine ⟨rfl, yes_ite ?_⟩
      refine ⟨_, rfl, _, rfl, a, i, ns, by rw [Int.zero_add]; rfl, s2.seq hs, by omega, fun p H4 np s4 hp4 => ?_⟩
      refine ⟨p, rfl, hp4, fun H5 b5 => hA true _ H5 rfl (fun c o z => ?_) rfl⟩
      exact b5 _ _ (ne_of_none z np) (s4 _ _ z)
    · intro ys H2 h1 h2 h3
      rw [mapE] at h2
      rw [bls_of h2] at h1
      exact ⟨D, _, rfl, .inl (.inl h1), by
        have : ((rgI 0 R.toNat).map fun _ => true).all id = true := by simp
        rw [this]
        exact q H2⟩
end
end L2.K24
end

section
set_option Elab.async false
set_option linter.all false
set_option maxRecDepth 100000
set_option maxHeartbeats 4000000
namespace L2.K24
open PySem PySem.Spec PyProof.Rows L2.Gd L2.Lv
section
variable {K : PySem.W.Frag} {mg : Str → Option Value} {h : Heap} {C f p g N : Addr} {x qual : Str} {st : Stmt} {oc kV doc pm cdv ct : Value} {od an : Option Addr} {osl : Array (Option Value)}
/-- a def of the top -/
def MFact (K : PySem.W.Frag) (mg : Str → Option Value) (x : Str) (st : Stmt) : Prop := ∃ f fd, mg x = some (.ref f) ∧ Fun K x x st f fd
theorem mfact (X : K.In h) (G : h.Ns mainGlobals mg) (a : PySem.W.nsIn K mainGlobals x = some (some (.ref f)))
    (l : K.lookup f = some ⟨oc, od, .func (PySem.W.fnOf x x (defArgs st) (defBody st) (defScope st) .none kV doc pm an cdv ct), osl⟩) (c : PySem.W.codeIn K cdv x = true) (k : PySem.W.keepIn K (.ref f) = true) : MFact K mg x st :=
  ⟨f, _, PySem.W.mg_of X G a, fun_mk l c k⟩
/-- a method -/
def CFact (K : PySem.W.Frag) (C : Addr) (x qual : Str) (st : Stmt) : Prop := ∃ f fd, Meth K C x f ∧ Fun K x qual st f fd
theorem cfact (a : PySem.W.findIn K (.ref C) x = some (some (.ref f))) (i : PySem.W.isFn K (.ref f) = true)
    (l : K.lookup f = some ⟨oc, od, .func (PySem.W.fnOf x qual (defArgs st) (defBody st) (defScope st) .none kV doc pm an cdv ct), osl⟩) (c : PySem.W.codeIn K cdv qual = true) (k : PySem.W.keepIn K (.ref f) = true) : CFact K C x qual st :=
  ⟨f, _, ⟨a, i, k⟩, fun_mk l c k⟩
/-- a property -/
def PFact (K : PySem.W.Frag) (C : Addr) (x qual : Str) (st : Stmt) : Prop := ∃ p g fd, PropOf K C x p g ∧ Fun K x qual st g fd
theorem pfact {rest : List Value} (a : PySem.W.findIn K (.ref C) x = some (some (.ref p))) (b : PySem.W.specialIn K (.ref p) "__get__" = some (some (.builtin "property.__get__"))) (t : PySem.W.takesIn K (.ref p) = some true)
    (r : PySem.W.recIn K p "property" = some (.ref g :: rest))
    (l : K.lookup g = some ⟨oc, od, .func (PySem.W.fnOf x qual (defArgs st) (defBody st) (defScope st) .none kV doc pm an cdv ct), osl⟩) (c : PySem.W.codeIn K cdv qual = true) (k : PySem.W.keepIn K (.ref g) = true) : PFact K C x qual st :=
  ⟨p, g, _, ⟨a, b, t, ⟨rest, r⟩⟩, fun_mk l c k⟩
theorem kbn_of {f : Addr} {fd : FuncData} {ps ks : List Str} {n : Nat} {g : List Value → List Value → List Value} {gV : List V → List V → List V} (F : Fun K x qual st f fd)
    (h : ∀ (kV doc pm : Value) (an : Option Addr) (cdv ct : Value) (us ws : List Value), us.length = n → ws.length = ks.length →
      bindArgs (PySem.W.fnOf x qual (defArgs st) (defBody st) (defScope st) .none kV doc pm an cdv ct) ⟨us, ks.zip ws⟩ = pure (ps.zip (g us ws)))
    (r : ∀ {vs : List V} {us : List Value} {zs : List V} {ws : List Value}, Vals vs us → Vals zs ws → Vals (gV vs zs) (g us ws)) : KBn K fd ps n ks g gV := by
  obtain ⟨oc, od, kV, doc, pm, an, cdv, ct, osl, rfl, lk, hcd⟩ := F.ex
  exact ⟨fun s us ws _ l1 l2 => .of_eq (h kV doc pm an cdv ct us ws l1 l2), r⟩
end
/-- all that the top has left -/
structure Facts (K : PySem.W.Frag) (mg : Str → Option Value) (C : Addr) : Prop where
  n : Nm mg
  st : mg "set" = none
  m16 : ∃ t, mg "MOST_PLACES" = some (.int 16 t)
  m60 : ∃ t, mg "MOST_DEEDS" = some (.int 60 t)
  T : ClsT K mg C
  mkC : PySem.W.makesIn K C = true
  kpC : PySem.W.keepIn K (.ref C) = true
  ii : MFact K mg "is_integer" sIsInt
  ic : MFact K mg "is_count" sIsCount
  il : MFact K mg "is_list" sIsList
  id : MFact K mg "is_deed" sIsDeed
  ck : MFact K mg "check_deeds" sCheck
  on : MFact K mg "ones" (top 2)
  rel : MFact K mg "relation_of" (top 4)
  prs : MFact K mg "pairs_of" (top 5)
  img : MFact K mg "image" (top 6)
  fol : MFact K mg "followed" (top 7)
  joi : MFact K mg "joined" (top 8)
  clo : MFact K mg "closed" (top 9)
  der : MFact K mg "deed_relation" (top 11)
  gro : MFact K mg "ground_of" (top 12)
  gra : MFact K mg "grades_of" (top 13)
  plr : MFact K mg "plain_relations" (top 15)
  lvs : MFact K mg "levels" (top 16)
  cbs : MFact K mg "climbs" (top 17)
  dps : MFact K mg "drops" (top 18)
  pot : MFact K mg "_law_pot" sPot
  dr : MFact K mg "_law_draw" sDraw
  ds : MFact K mg "_law_deeds" sDeeds
  rc : MFact K mg "_law_reached" (top 42)
  ll : MFact K mg "_law_level" (top 44)
  ls : MFact K mg "_law_levels" (top 45)
  cb : MFact K mg "_law_climbs" (top 46)
  dp : MFact K mg "_law_drops" (top 47)
  tu : MFact K mg "_law_turned" (top 48)
  ri : MFact K mg "_law_right" (top 49)
  init : CFact K C "__init__" "House.__init__" (cHouse 0)
  de : CFact K C "deeds" "House.deeds" (cHouse 3)
  pn : CFact K C "plain" "House.plain" (cHouse 11)
  tn : CFact K C "turned" "House.turned" (cHouse 12)
  pl : PFact K C "places" "House.places" (cHouse 1)
  ip : PFact K C "is_plain" "House.is_plain" (cHouse 2)
section
variable {P : Program} {w : World} {K : PySem.W.Frag} {mg : Str → Option Value} {base : Heap} {C : Addr}
theorem fn_mk {x : Str} {st : Stmt} {k : Nat} {ps : List Str} {sp : Sp} (m : MFact K mg x st)
    (b : ∀ (kV doc pm : Value) (an : Option Addr) (cdv ct : Value) (us : List Value), us.length = ps.length → bindArgs (PySem.W.fnOf x x (defArgs st) (defBody st) (defScope st) .none kV doc pm an cdv ct) ⟨us, []⟩ = pure (ps.zip us))
    (ok : ∀ f fd, Fun K x x st f fd → FnOk P w K mg base CX0 k f fd ps sp) : Fn P w K mg base k x ps sp := by
  obtain ⟨f, fd, e, F⟩ := m
  exact ⟨f, fd, e, F.kp, F.binds b, ok f fd F⟩
theorem fnG_mk {x : Str} {st : Stmt} {k : Nat} {ps : List Str} {sp : Sp} (m : MFact K mg x st)
    (b : ∀ (kV doc pm : Value) (an : Option Addr) (cdv ct : Value) (us : List Value), us.length = ps.length → bindArgs (PySem.W.fnOf x x (defArgs st) (defBody st) (defScope st) .none kV doc pm an cdv ct) ⟨us, []⟩ = pure (ps.zip us))
    (ok : ∀ f fd, Fun K x x st f fd → FnG P w K mg base k f fd ps sp) : FnGd P w K mg base k x ps sp := by
  obtain ⟨f, fd, e, F⟩ := m
  exact ⟨f, fd, e, F.kp, F.binds b, ok f fd F⟩
theorem me_mk {x qual : Str} {st : Stmt} {k : Nat} {ps : List Str} {sp : Sp} (m : CFact K C x qual st)
    (b : ∀ (kV doc pm : Value) (an : Option Addr) (cdv ct : Value) (us : List Value), us.length = ps.length → bindArgs (PySem.W.fnOf x qual (defArgs st) (defBody st) (defScope st) .none kV doc pm an cdv ct) ⟨us, []⟩ = pure (ps.zip us))
    (ok : ∀ f fd, Fun K x qual st f fd → FnOk P w K mg base CX0 k f fd ps sp) : MeH P w K mg base C x k ps sp := by
  obtain ⟨f, fd, e, F⟩ := m
  exact ⟨f, fd, e, F.binds b, ok f fd F⟩
theorem pr_mk {x qual : Str} {st : Stmt} {sp : Sp} (m : PFact K C x qual st)
    (b : ∀ (kV doc pm : Value) (an : Option Addr) (cdv ct : Value) (us : List Value), us.length = (["self"] : List Str).length → bindArgs (PySem.W.fnOf x qual (defArgs st) (defBody st) (defScope st) .none kV doc pm an cdv ct) ⟨us, []⟩ = pure ((["self"] : List Str).zip us))
    (ok : ∀ f fd, Fun K x qual st f fd → FnOk P w K mg base CX0 1 f fd ["self"] sp) : PrH P w K mg base C x sp := by
  obtain ⟨p, g, fd, e, F⟩ := m
  exact ⟨p, g, fd, e, F.binds b, ok g fd F⟩
theorem law_of (z : Facts K mg C) {f : Addr} {fd : FuncData} (F : Fun K "law" "law" sLaw f fd) : FnG P w K mg base 9 f fd ["_law_script"] (spLaw K) := by
  obtain ⟨t16, m16⟩ := z.m16
  obtain ⟨t60, m60⟩ := z.m60
  have n := z.n
  have T := z.T
  have II : Fn P w K mg base 1 "is_integer" ["value"] spIsInt := fn_mk z.ii (fun _ _ _ _ _ _ us hl => match us, hl with | [_], _ => rfl) fun f fd F => ok_isInt F n
  have IC : Fn P w K mg base 2 "is_count" ["value"] spIsCount := fn_mk z.ic (fun _ _ _ _ _ _ us hl => match us, hl with | [_], _ => rfl) fun f fd F => ok_isCount F II
  have IL : Fn P w K mg base 1 "is_list" ["value"] (spIsList K) := fn_mk z.il (fun _ _ _ _ _ _ us hl => match us, hl with | [_], _ => rfl) fun f fd F => ok_isList F n
  have ID : Fn P w K mg base 3 "is_deed" ["value", "places"] spIsDeed := fn_mk z.id (fun _ _ _ _ _ _ us hl => match us, hl with | [_, _], _ => rfl) fun f fd F => ok_isDeed F n II IC
  have CK : Fn P w K mg base 4 "check_deeds" ["places", "deeds"] (spCheck K) := fn_mk z.ck (fun _ _ _ _ _ _ us hl => match us, hl with | [_, _], _ => rfl) fun f fd F => ok_check F n IL ID m60
  have MK : MkH P w K mg base C := by
    obtain ⟨f, fd, me, F⟩ := z.init
    exact ⟨f, fd, ⟨z.mkC, me.at_, me.fn, z.kpC⟩, F.binds (fun _ _ _ _ _ _ us hl => match us, hl with | [_, _, _], _ => rfl), ok_init F n T II CK m16⟩
  have PL : PrH P w K mg base C "places" (spPlaces C) := pr_mk z.pl (fun _ _ _ _ _ _ us hl => match us, hl with | [_], _ => rfl) fun f fd F => ok_places F T
  have IP : PrH P w K mg base C "is_plain" (spPlain C) := pr_mk z.ip (fun _ _ _ _ _ _ us hl => match us, hl with | [_], _ => rfl) fun f fd F => ok_isPlain F n T
  have DE : MeH P w K mg base C "deeds" 1 ["self"] (spDeeds C) := me_mk z.de (fun _ _ _ _ _ _ us hl => match us, hl with | [_], _ => rfl) fun f fd F => ok_deeds F n T
  have PN : MeH P w K mg base C "plain" 7 ["self"] (spPln C) := me_mk z.pn (fun _ _ _ _ _ _ us hl => match us, hl with | [_], _ => rfl) fun f fd F => ok_plain F T MK
  have TN : MeH P w K mg base C "turned" 7 ["self"] (spTrn C) := me_mk z.tn (fun _ _ _ _ _ _ us hl => match us, hl with | [_], _ => rfl) fun f fd F => ok_turned F T MK IP
  have ON : Fn P w K mg base 1 "ones" ["bits"] spOnes := fn_mk z.on (fun _ _ _ _ _ _ us hl => match us, hl with | [_], _ => rfl) fun f fd F => ok_ones F n
  have RE : Fn P w K mg base 1 "relation_of" ["many", "pairs"] spRel := fn_mk z.rel (fun _ _ _ _ _ _ us hl => match us, hl with | [_, _], _ => rfl) fun f fd F => ok_rel F n
  have PS : Fn P w K mg base 2 "pairs_of" ["relation"] spPrs := fn_mk z.prs (fun _ _ _ _ _ _ us hl => match us, hl with | [_], _ => rfl) fun f fd F => ok_prs F n ON
  have IM : Fn P w K mg base 2 "image" ["relation", "mask"] spImg := fn_mk z.img (fun _ _ _ _ _ _ us hl => match us, hl with | [_, _], _ => rfl) fun f fd F => ok_img F n ON
  have FO : Fn P w K mg base 3 "followed" ["one", "two"] spFol := fn_mk z.fol (fun _ _ _ _ _ _ us hl => match us, hl with | [_, _], _ => rfl) fun f fd F => ok_fol F n IM
  have JO : Fn P w K mg base 1 "joined" ["one", "two"] spJoi := fn_mk z.joi (fun _ _ _ _ _ _ us hl => match us, hl with | [_, _], _ => rfl) fun f fd F => ok_joi F n
  have CL : Fn P w K mg base 1 "closed" ["relation"] spCl := fn_mk z.clo (fun _ _ _ _ _ _ us hl => match us, hl with | [_], _ => rfl) fun f fd F => ok_cl F n
  have rk : RelK P w K mg base := ⟨CL, JO, FO⟩
  have GO : Fn P w K mg base 4 "ground_of" ["ups", "flats", "downs"] spGro := fn_mk z.gro (fun _ _ _ _ _ _ us hl => match us, hl with | [_, _, _], _ => rfl) fun f fd F => ok_gro F rk
  have GA : Fn P w K mg base 5 "grades_of" ["ups", "flats", "downs"] spGra := fn_mk z.gra (fun _ _ _ _ _ _ us hl => match us, hl with | [_, _, _], _ => rfl) fun f fd F => ok_gra F rk GO
  have DR : Fn P w K mg base 3 "deed_relation" ["house", "change", "when"] (spDR C) := fn_mk z.der (fun _ _ _ _ _ _ us hl => match us, hl with | [_, _, _], _ => rfl) fun f fd F => ok_dr F T PL DE RE
  have hs : HsK P w K mg base C := { n := n, T := T, rk := rk, dr := DR, gr := GO, ga := GA, ps := PS }
  have PR : Fn P w K mg base 4 "plain_relations" ["house"] (spPR C) := fn_mk z.plr (fun _ _ _ _ _ _ us hl => match us, hl with | [_], _ => rfl) fun f fd F => ok_pr F hs
  have LV : Fn P w K mg base 6 "levels" ["house"] (LvS C LvOk) := fn_mk z.lvs (fun _ _ _ _ _ _ us hl => match us, hl with | [_], _ => rfl) fun f fd F => ok_lv F hs PR
  have CB : Fn P w K mg base 5 "climbs" ["house"] (LvS C (PrOk rCl)) := fn_mk z.cbs (fun _ _ _ _ _ _ us hl => match us, hl with | [_], _ => rfl) fun f fd F => ok_cb F hs PR
  have DP : Fn P w K mg base 5 "drops" ["house"] (LvS C (PrOk rDr)) := fn_mk z.dps (fun _ _ _ _ _ _ us hl => match us, hl with | [_], _ => rfl) fun f fd F => ok_dp F hs PR
  have LK : KFn P w K mg base 6 "levels" "house" (LvS C LvOk) := by
    obtain ⟨f, fd, e, F⟩ := z.lvs
    exact ⟨f, fd, e, F.kp, kbn_of F (fun _ _ _ _ _ _ us ws l1 l2 => match us, ws, l1, l2 with | [], [_], _, _ => rfl) (fun _ r => r), ok_lv F hs PR⟩
  have DK : KFn P w K mg base 5 "drops" "house" (LvS C (PrOk rDr)) := by
    obtain ⟨f, fd, e, F⟩ := z.dps
    exact ⟨f, fd, e, F.kp, kbn_of F (fun _ _ _ _ _ _ us ws l1 l2 => match us, ws, l1, l2 with | [], [_], _, _ => rfl) (fun _ r => r), ok_dp F hs PR⟩
  have DW : Fn P w K mg base 1 "_law_draw" ["_law_pot_here", "_law_many"] spDraw := fn_mk z.dr (fun _ _ _ _ _ _ us hl => match us, hl with | [_, _], _ => rfl) fun f fd F => ok_draw F n
  have DS : Fn P w K mg base 2 "_law_deeds" ["_law_pot_here", "_law_places", "_law_many", "_law_has_empty"] spDeedsL := fn_mk z.ds (fun _ _ _ _ _ _ us hl => match us, hl with | [_, _, _, _], _ => rfl) fun f fd F => ok_deedsL F n DW
  have RC : Fn P w K mg base 1 "_law_reached" ["_law_deeds_here", "_law_place", "_law_start", "_law_cap"] spRc := fn_mk z.rc (fun _ _ _ _ _ _ us hl => match us, hl with | [_, _, _, _], _ => rfl) fun f fd F => ok_rc F
  have LL : Fn P w K mg base 2 "_law_level" ["_law_deeds_here", "_law_places", "_law_number"] spLl := fn_mk z.ll (fun _ _ _ _ _ _ us hl => match us, hl with | [_, _, _], _ => rfl) fun f fd F => ok_ll F n RC
  have k : RK P w K mg base C := {
    n := n, T := T, M := MK, dr := DW, ds := DS
    ls := fn_mk z.ls (fun _ _ _ _ _ _ us hl => match us, hl with | [_, _], _ => rfl) fun f fd F => ok_ls F n LL
    cb := fn_mk z.cb (fun _ _ _ _ _ _ us hl => match us, hl with | [_, _], _ => rfl) fun f fd F => ok_cd1 F n z.st LL
    dp := fn_mk z.dp (fun _ _ _ _ _ _ us hl => match us, hl with | [_, _], _ => rfl) fun f fd F => ok_cd2 F n z.st LL
    tu := fn_mk z.tu (fun _ _ _ _ _ _ us hl => match us, hl with | [_], _ => rfl) fun f fd F => ok_tu F n
    lv := LV, cl := CB, do_ := DP, lvk := LK, dok := DK, pn := PN, tn := TN }
  have RI : FnGd P w K mg base 8 "_law_right" ["_law_pot_here"] spRight := fnG_mk z.ri (fun _ _ _ _ _ _ us hl => match us, hl with | [_], _ => rfl) fun f fd F => ok_right F k
  have PO : Fn P w K mg base 1 "_law_pot" ["_law_script", "_law_k"] (spPot K) := fn_mk z.pot (fun _ _ _ _ _ _ us hl => match us, hl with | [_, _], _ => rfl) fun f fd F => ok_pot F n
  exact ok_law F n PO RI
theorem law_all (z : Facts K mg C) (l : MFact K mg "law" sLaw) {fa : Addr} (hfa : mg "law" = some (.ref fa)) :
    ∃ fd : FuncData, (∀ (s : Shared) (v : Value), BindsTo s fd ⟨[v], []⟩ [("_law_script", v)]) ∧ ∀ base : Heap, K.In base → base.Ns mainGlobals mg → FnG P w K mg base 9 fa fd ["_law_script"] (spLaw K) := by
  obtain ⟨f, fd, e, F⟩ := l
  cases hfa.symm.trans e
  refine ⟨fd, ?_, fun base _ _ => law_of z F⟩
  obtain ⟨oc, od, kV, doc, pm, an, cdv, ct, osl, rfl, _, _⟩ := F.ex
  exact fun s v => .of_eq rfl
end
end L2.K24
end

section
set_option Elab.async false
set_option linter.all false
set_option maxRecDepth 100000
set_option maxHeartbeats 2000000
namespace L2.K24
open PySem PySem.Spec PyProof.Rows L2.Gd
section
variable {K : PySem.W.Frag} {mg : Str → Option Value} {h : Heap} {C f N : Addr} {oc kV doc pm cdv ct : Value} {od an : Option Addr} {osl : Array (Option Value)}
  {nm q : Str} {bs : List Value} {sn : List Str} {sub : List Value} {ab : Bool} {col : Option Bool} {dd : Option Addr} {k0 k1 k2 k3 k5 : Option Value} {newId : String}
  {nc : Value} {nd : Option Addr} {es : Array DictEntry} {en : Nat} {nsl : Array (Option Value)}
theorem kit_ref {T : String} {b : Bool} (c1 : PySem.W.isClsIn K C = true) (c2 : PySem.W.typeIn K (.ref C) = some (.type "type")) (s : PySem.W.subIn K (.type T) (.ref C) = some b) : PySem.W.kitOne K (.type T) (.ref C) = some b := by
  unfold PySem.W.kitOne
  rw [if_neg (show ¬ (Value.type T == Value.ref C) = true from fun z => nomatch z)]
  unfold PySem.W.kitCls
  have c1' : (PySem.W.clsIn K C).isSome = true := c1
  show (if ((PySem.W.clsIn K C).isSome && PySem.W.typeIn K (.ref C) == some (.type "type")) = true then PySem.W.subIn K (.type T) (.ref C) else none) = some b
  rw [c1', c2, if_pos (by rfl)]
  exact s
theorem kit_self : PySem.W.kitOne K (.ref C) (.ref C) = some true := by
  unfold PySem.W.kitOne
  rw [if_pos (show (Value.ref C == Value.ref C) = true by simp)]
theorem ifact {x : Str} {n : Int} {t : Tok} (X : K.In h) (G : h.Ns mainGlobals mg) (a : PySem.W.nsIn K mainGlobals x = some (some (.int n t))) : ∃ t, mg x = some (.int n t) := ⟨t, PySem.W.mg_of X G a⟩
theorem clsT_of (mC : mg "House" = some (.ref C)) (pg : PySem.W.plainGet K C Str.empty = true) (hd : PySem.W.hasDictIn K C = true) (po : PySem.W.plainOver K C = true) (sa : PySem.W.findIn K (.ref C) "__setattr__" = some (some (.builtin "object.__setattr__")))
    (ha : PySem.W.findIn K (.ref C) "__class__" = some (some (.builtin "object.__class__"))) (hn : PySem.W.specialIn K (.builtin "object.__class__") "__get__" = some (some (.builtin "getset_descriptor.__get__"))) (ht : PySem.W.takesIn K (.builtin "object.__class__") = some true)
    (hm : PySem.W.mroIn K C (.type "object") = some true) (nP : PySem.W.findIn K (.ref C) "_places" = some none) (nD : PySem.W.findIn K (.ref C) "_deeds" = some none) : ClsT K mg C :=
  ⟨⟨⟨pg, hd, po, sa⟩, ha, hn, ht, hm, kit_self⟩, nP, nD, mC⟩
end
end L2.K24
end

section
set_option Elab.async false
set_option linter.all false
open PySem PySem.W PyProof.Rows L2.K24
set_option maxRecDepth 100000 in
set_option maxHeartbeats 0 in
theorem PySem.Challenge.cw_lonetill_k24_whole_levels_climbs_drops_holds : PySem.Challenge.rw_lonetill_k24_whole_levels_climbs_drops.Holds := by
  w_on; o_law; k_head; (case hw => w_witness2)
  k_fill
  refine L2.Gd.walk_ofG (l := PySem.Challenge.rw_lonetill_k24_whole_levels_climbs_drops) (n := 63) (k := 9) (x := "_law_script") (sp := L2.K24.spLaw) rfl (by decide) rfl ⟨rfl, by decide, by decide⟩ (fun w h Y => PySem.W.kIn_of Y) ?F ?hsp
  case hsp =>
    intro K H a ns hl _ hS
    exact ⟨a, ns, rfl, hS, hl, fun _ => rfl⟩
  case F =>
    intro w mg fa h KX G hmg
    refine' (fun {C : Addr} (aC : PySem.W.nsIn _ mainGlobals "House" = some (some (.ref C))) (z : (mg "House" = some (.ref C)) → Facts _ mg C ∧ MFact _ mg "law" sLaw) => law_all (z (PySem.W.mg_of KX G aC)).1 (z (PySem.W.mg_of KX G aC)).2 hmg) ?aC ?z
    (case aC => k_is)
    case z =>
      intro mC
      refine' ⟨⟨?n, ?st, ?m16, ?m60, ?T, ?mkC, ?kpC, ?ii, ?ic, ?il, ?id, ?ck, ?on, ?rel, ?prs, ?img, ?fol, ?joi, ?clo, ?der, ?gro, ?gra, ?plr, ?lvs, ?cbs, ?dps, ?pot, ?dr, ?ds, ?rc, ?ll, ?ls, ?cb, ?dp, ?tu, ?ri, ?init, ?de, ?pn, ?tn, ?pl, ?ip⟩, ?law⟩
      case n =>
        refine' ⟨PySem.W.mg_none_of KX G ?b0, PySem.W.mg_none_of KX G ?b1, PySem.W.mg_none_of KX G ?b2, PySem.W.mg_none_of KX G ?b3, PySem.W.mg_none_of KX G ?b4, PySem.W.mg_none_of KX G ?b5, PySem.W.mg_none_of KX G ?b6, PySem.W.mg_none_of KX G ?b7, PySem.W.mg_none_of KX G ?b8, PySem.W.mg_none_of KX G ?b9, PySem.W.mg_none_of KX G ?b10, PySem.W.mg_none_of KX G ?b11, PySem.W.mg_none_of KX G ?b12, PySem.W.mg_none_of KX G ?b13, PySem.W.mg_none_of KX G ?b14, PySem.W.mg_none_of KX G ?b15, PySem.W.mg_none_of KX G ?b16, PySem.W.mg_none_of KX G ?b17⟩
        (case b0 => k_is); (case b1 => k_is); (case b2 => k_is); (case b3 => k_is); (case b4 => k_is); (case b5 => k_is); (case b6 => k_is); (case b7 => k_is); (case b8 => k_is); (case b9 => k_is); (case b10 => k_is); (case b11 => k_is); (case b12 => k_is); (case b13 => k_is); (case b14 => k_is); (case b15 => k_is); (case b16 => k_is); (case b17 => k_is)
      case st =>
        refine' PySem.W.mg_none_of KX G ?a
        case a => k_is
      case m16 =>
        refine' ifact KX G ?a
        case a => k_is
      case m60 =>
        refine' ifact KX G ?a
        case a => k_is
      case T =>
        refine' clsT_of mC ?pg ?hd ?po ?sa ?ha ?hn ?ht ?hm ?nP ?nD
        (case pg => k_is); (case hd => k_is); (case po => k_is); (case sa => k_is); (case ha => k_is); (case hn => k_is); (case ht => k_is); (case hm => k_is); (case nP => k_is); (case nD => k_is)
      case mkC => k_is
      case kpC => k_is
      case ii =>
        refine' mfact KX G ?a ?l ?c ?k
        (case a => k_is); (case l => k_is); (case c => k_is); (case k => k_is)
      case ic =>
        refine' mfact KX G ?a ?l ?c ?k
        (case a => k_is); (case l => k_is); (case c => k_is); (case k => k_is)
      case il =>
        refine' mfact KX G ?a ?l ?c ?k
        (case a => k_is); (case l => k_is); (case c => k_is); (case k => k_is)
      case id =>
        refine' mfact KX G ?a ?l ?c ?k
        (case a => k_is); (case l => k_is); (case c => k_is); (case k => k_is)
      case ck =>
        refine' mfact KX G ?a ?l ?c ?k
        (case a => k_is); (case l => k_is); (case c => k_is); (case k => k_is)
      case on =>
        refine' mfact KX G ?a ?l ?c ?k
        (case a => k_is); (case l => k_is); (case c => k_is); (case k => k_is)
      case rel =>
        refine' mfact KX G ?a ?l ?c ?k
        (case a => k_is); (case l => k_is); (case c => k_is); (case k => k_is)
      case prs =>
        refine' mfact KX G ?a ?l ?c ?k
        (case a => k_is); (case l => k_is); (case c => k_is); (case k => k_is)
      case img =>
        refine' mfact KX G ?a ?l ?c ?k
        (case a => k_is); (case l => k_is); (case c => k_is); (case k => k_is)
      case fol =>
        refine' mfact KX G ?a ?l ?c ?k
        (case a => k_is); (case l => k_is); (case c => k_is); (case k => k_is)
      case joi =>
        refine' mfact KX G ?a ?l ?c ?k
        (case a => k_is); (case l => k_is); (case c => k_is); (case k => k_is)
      case clo =>
        refine' mfact KX G ?a ?l ?c ?k
        (case a => k_is); (case l => k_is); (case c => k_is); (case k => k_is)
      case der =>
        refine' mfact KX G ?a ?l ?c ?k
        (case a => k_is); (case l => k_is); (case c => k_is); (case k => k_is)
      case gro =>
        refine' mfact KX G ?a ?l ?c ?k
        (case a => k_is); (case l => k_is); (case c => k_is); (case k => k_is)
      case gra =>
        refine' mfact KX G ?a ?l ?c ?k
        (case a => k_is); (case l => k_is); (case c => k_is); (case k => k_is)
      case plr =>
        refine' mfact KX G ?a ?l ?c ?k
        (case a => k_is); (case l => k_is); (case c => k_is); (case k => k_is)
      case lvs =>
        refine' mfact KX G ?a ?l ?c ?k
        (case a => k_is); (case l => k_is); (case c => k_is); (case k => k_is)
      case cbs =>
        refine' mfact KX G ?a ?l ?c ?k
        (case a => k_is); (case l => k_is); (case c => k_is); (case k => k_is)
      case dps =>
        refine' mfact KX G ?a ?l ?c ?k
        (case a => k_is); (case l => k_is); (case c => k_is); (case k => k_is)
      case pot =>
        refine' mfact KX G ?a ?l ?c ?k
        (case a => k_is); (case l => k_is); (case c => k_is); (case k => k_is)
      case dr =>
        refine' mfact KX G ?a ?l ?c ?k
        (case a => k_is); (case l => k_is); (case c => k_is); (case k => k_is)
      case ds =>
        refine' mfact KX G ?a ?l ?c ?k
        (case a => k_is); (case l => k_is); (case c => k_is); (case k => k_is)
      case rc =>
        refine' mfact KX G ?a ?l ?c ?k
        (case a => k_is); (case l => k_is); (case c => k_is); (case k => k_is)
      case ll =>
        refine' mfact KX G ?a ?l ?c ?k
        (case a => k_is); (case l => k_is); (case c => k_is); (case k => k_is)
      case ls =>
        refine' mfact KX G ?a ?l ?c ?k
        (case a => k_is); (case l => k_is); (case c => k_is); (case k => k_is)
      case cb =>
        refine' mfact KX G ?a ?l ?c ?k
        (case a => k_is); (case l => k_is); (case c => k_is); (case k => k_is)
      case dp =>
        refine' mfact KX G ?a ?l ?c ?k
        (case a => k_is); (case l => k_is); (case c => k_is); (case k => k_is)
      case tu =>
        refine' mfact KX G ?a ?l ?c ?k
        (case a => k_is); (case l => k_is); (case c => k_is); (case k => k_is)
      case ri =>
        refine' mfact KX G ?a ?l ?c ?k
        (case a => k_is); (case l => k_is); (case c => k_is); (case k => k_is)
      case init =>
        refine' cfact ?a ?i ?l ?c ?k
        (case a => k_is); (case i => k_is); (case l => k_is); (case c => k_is); (case k => k_is)
      case de =>
        refine' cfact ?a ?i ?l ?c ?k
        (case a => k_is); (case i => k_is); (case l => k_is); (case c => k_is); (case k => k_is)
      case pn =>
        refine' cfact ?a ?i ?l ?c ?k
        (case a => k_is); (case i => k_is); (case l => k_is); (case c => k_is); (case k => k_is)
      case tn =>
        refine' cfact ?a ?i ?l ?c ?k
        (case a => k_is); (case i => k_is); (case l => k_is); (case c => k_is); (case k => k_is)
      case pl =>
        refine' pfact ?a ?b ?t ?r ?l ?c ?k
        (case a => k_is); (case b => k_is); (case t => k_is); (case r => k_is); (case l => k_is); (case c => k_is); (case k => k_is)
      case ip =>
        refine' pfact ?a ?b ?t ?r ?l ?c ?k
        (case a => k_is); (case b => k_is); (case t => k_is); (case r => k_is); (case l => k_is); (case c => k_is); (case k => k_is)
      case law =>
        refine' mfact KX G ?a ?l ?c ?k
        (case a => k_is); (case l => k_is); (case c => k_is); (case k => k_is)
end
