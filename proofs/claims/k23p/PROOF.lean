import PyProof.Rows.All
import Wide.All
import OpenK.AllK
import Wide.FinOn
import KE.OsRunLaw
import PySem.Challenge.RW_lonetill_k23_whole_goings_in_laps
import PyProof.EqAt
import PyProof.EqKinds
import PyProof.TupleCall
import HandS.ForMost
import HandS.FStr
import HandS.RaiseMore
import HandS.IsInst
import PyProof.FactsAll.dict
import HandS.OwnEq
import PyProof.InstNe
import HandS.Defaults
import HandS.MakeKwOnly
import HandS.Conv
import HandS.Property
import HandS.Style
import HandS.Iter
import PyProof.EnumMake
import PyProof.EnumIter
import HandS.Deep
import HandS.TupAny
import PyProof.P3In
import HandS.Codes
import HandS.Comp
import OpenK.KOps
import HandS.Wide
import HandS.ForExc
import HandS.ExcInit
import HandS.ExcField
import HandS.TryMany
import HandS.Lambda
import HandS.EndTab
import KE.KNest

section
set_option Elab.async false
set_option linter.all false
set_option maxRecDepth 100000
set_option maxHeartbeats 0
namespace L2.Hs23
open PySem PySem.W PySem.Calls PyProof.Rows HeadRun
def at_ (i : Nat) : Stmt := match PySem.Challenge.pw_lonetill_k23_whole_goings_in_laps.main.body[i]? with
  | some s => s
  | none => .Pass ⟨0, 0, 0, 0⟩
def q : Program := { PySem.Challenge.pw_lonetill_k23_whole_goings_in_laps with main := { PySem.Challenge.pw_lonetill_k23_whole_goings_in_laps.main with body := ([0, 2, 3, 4, 6, 7, 8, 9, 10, 11, 12, 13, 14, 15, 17, 18, 20, 21, 22, 23, 24, 25, 26, 27, 28, 29, 30, 32, 33, 34, 35, 36, 38, 39, 40, 41, 42, 44, 45, 46, 47, 48, 49, 50, 51, 52, 53, 54, 55, 56, 57, 58, 59, 60, 61, 62, 63, 64] : List Nat).map at_ } }
def loose : List PySem.Str := [PySem.Str.ofString "House"]
def Xt : Shared → Bool := fun s => xlAt q [] s && recOk [] s
noncomputable def fin (w : World) (os : OsState) : Option SharedT := endF (stepQ (denQ tabQ) PySem.Challenge.pw_lonetill_k23_whole_goings_in_laps w) 9468 PySem.Challenge.pw_lonetill_k23_whole_goings_in_laps w os
theorem seen_ (w : World) (os : OsState) : (fin w os).map (fun s => seenQ q loose (importedModules PySem.Challenge.pw_lonetill_k23_whole_goings_in_laps.main.body) Xt s.abs) = some (openGood q loose) := by kernel_rfl
theorem split3 {α β γ δ : Type} {f : α → β} {g : α → γ} {h : α → δ} {x : Option α} {a : β} {b : γ} {c : δ} (h1 : x.map f = some a) (h2 : x.map g = some b) (h3 : x.map h = some c) : x.map (fun s => (f s, g s, h s)) = some (a, b, c) := by
  cases x with
  | none => cases h1
  | some s =>
    cases h1
    cases h2
    cases h3
    rfl
end L2.Hs23
end

section
set_option Elab.async false
set_option linter.all false
set_option maxRecDepth 100000
set_option maxHeartbeats 2000000
/-! Defs that are called while nothing is being shown (no repr runs around): their promise, their calls, the law's end. -/
namespace L2.Gd
open PySem PySem.Spec PyProof.Rows

structure FnG (P : Program) (w : World) (K : PySem.W.Frag) (mg : Str → Option Value) (base : Heap)
    (k : Nat) (f : Addr) (fd : FuncData) (ps : List Str) (sp : Sp) : Prop where
  cnt : ∀ (vs : List V) (H : Hp) (Q : VK), sp vs H Q E0 → vs.length = ps.length
  go : ∀ (A : Around) (outer : List Env) (s : Shared) (H : Hp) (args : Args)
      (us : List Value) (vs : List V) (Q : VK), A.guards = some [] → Room k A →
    Env0 P w K mg base A outer s H → BindsTo s fd args (ps.zip us) → Vals vs us →
    sp vs H Q E0 → codeAny (model P w) A (.call (.ref f) args) (CR CX0 outer P w H s Q E0) s

section
variable {P : Program} {w : World} {K : PySem.W.Frag} {mg : Str → Option Value} {base : Heap}
  {k : Nat} {f : Addr} {fd : FuncData} {ps N : List Str} {sp : Sp}

theorem FnG.of (F : FnOk P w K mg base CX0 k f fd ps sp) : FnG P w K mg base k f fd ps sp :=
  ⟨fun vs H Q h => F.len vs H Q E0 h,
   fun A outer s H args us vs Q _ hr e0 hb r h => F.run A outer s H args us vs Q E0 hr e0 hb r h⟩

theorem FnG.mono {j : Nat} (F : FnG P w K mg base j f fd ps sp) (h : j ≤ k) : FnG P w K mg base k f fd ps sp :=
  ⟨F.cnt, fun A outer s H args us vs Q hg hr => F.go A outer s H args us vs Q hg (hr.mono h)⟩

/-- a def of the text, by its body, where nothing is being shown around it -/
theorem okG {x qual : Str} {st : Stmt} (F : Fun K x qual st f fd) (S : FnScope N ps (defScope st))
    (cnt : ∀ (vs : List V) (H : Hp) (Q : VK), sp vs H Q E0 → vs.length = ps.length)
    (body : ∀ (cdv : Value) (A : Around) (outer : List Env) (s : Shared) (H : Hp) (vs : List V) (Q : VK),
      A.guards = some [] → Room k (A.deeper (envOfC qual (defScope st) s.heap.objs.size f cdv)) →
      sp vs H Q E0 →
      ∃ t, PSs (cxOf CX0 P w K mg base N qual (defScope st) f cdv A outer s H E0).nox (defBody st) t ∧
        t { nx := fun _ H' => Q .non H', rt := Q } (start N vs) H) :
    FnG P w K mg base (k + 1) f fd ps sp := by
  obtain ⟨oc, od, kV, doc, pm, an, cdv, ct, osl, rfl, there, code⟩ := F.ex
  refine ⟨cnt, ?_⟩
  intro A outer s H args us vs Q hg hr e0 bind rv hsp
  have inK : K.In s.heap := e0.mod.kin.keeps (fun b o q => (e0.bs b o q).1)
  have nolim : s.heap.NoLimit := e0.mod.nolimit.keeps (fun b o q => (e0.bs b o q).1)
  have kinds : ∀ y ∈ ps.zip us, (defScope st).names.lookup y.1 = some .local ∨
      ((defScope st).names.lookup y.1 = some .cell ∧
        ((cellsFrom (s.heap.objs.size + 1) (defScope st).names []).lookup y.1).isSome = true) := by
    rintro ⟨n, v⟩ hy
    cases S.par n (List.of_mem_zip hy).1 with
    | inl q => exact .inl q
    | inr q => exact .inr ⟨q, PySem.W.cellsFrom_some _ _ _ (.inl q)⟩
  refine codeAny_call_function hr.depth (inK _ _ there) rfl S.co S.gen rfl
    (PySem.W.codeRec_of inK code) (bind _ _ _ _ ?_)
  refine wpAny_newFunctionEnv_cells S.kind kinds ?_
  intro env he s1 ic
  subst he
  refine ⟨nolim.keeps ic.toInCall.keep, codeAny_func ?_⟩
  obtain ⟨t, ht, hq⟩ := body cdv A outer s H vs Q hg (hr.deeper _) hsp
  have hl : vs.length = ps.length := cnt _ _ _ hsp
  have I := inv_start (CX := CX0) (P := P) (w := w) (mg := mg) (base := base) (E := E0) S hr.hd e0 hl rv ic
  refine wpAny_mono (ht.nox.run [] s1 (start N vs) H _ I hq) (fun fl s' z => ?_) (fun e s' z => z)
  cases fl with
  | ret u =>
    obtain ⟨v, σ', H', J, r1, q⟩ := z
    exact ⟨v, H', J.os, J.bare, J.base, J.hok, r1, q⟩
  | next =>
    obtain ⟨σ', H', J, q⟩ := z
    exact ⟨.non, H', J.os, J.bare, J.base, J.hok, rfl, q⟩
  | brk =>
    obtain ⟨_, _, _, q⟩ := z
    exact q.elim
  | cont =>
    obtain ⟨_, _, _, q⟩ := z
    exact q.elim
end

section
variable {X : Cx} {k : Nat} {f : Addr} {fd : FuncData} {ps : List Str} {sp : Sp} {x : Str}
  {p pos : Pos} {e : Expr} {es : List Expr} {t : TA}

theorem run_fnG {pins : List (Addr × Obj)} {σ : St} {H : Hp} {s : Shared} {Q : VK} {us : List Value} {vs : List V}
    (F : FnG X.prog X.w X.K X.mg X.base k f fd ps sp) (hg : X.A.guards = some []) (hr : Room k X.A)
    (hb : Binds X.K fd ps []) (I : Inv X pins σ H s) (r : Vals vs us) (h : sp vs H Q E0) :
    wpAny (model X.prog X.w) X.A (call (.ref f) us) (EP X pins σ Q) X.xe s := by
  have hl : (us ++ []).length = ps.length := by
    rw [List.append_nil, ← r.length]
    exact F.cnt _ _ _ h
  have hb2 := hb s us I.kIn hl
  rw [List.append_nil] at hb2
  refine wpAny_call (codeAny_mono
    (F.go X.A X.stack s H ⟨us, []⟩ us vs Q hg hr I.env0 hb2 r h) ?_)
  intro res s' hq
  cases res with
  | error er => exact (show False from hq).elim
  | ok fl =>
    cases fl with
    | ret u => exact I.after hq
    | next => exact hq.elim
    | brk => exact hq.elim
    | cont => exact hq.elim

/-- f(e, ..), f such a def -/
theorem pe_callG (F : FnG X.prog X.w X.K X.mg X.base k f fd ps sp) (hg : X.A.guards = some [])
    (hr : Room k X.A) (gl : Gl X x) (hm : X.mg x = some (.ref f))
    (hk : PySem.W.keepIn X.K (.ref f) = true) (hb : Binds X.K fd ps []) (ha : PA X (e :: es) t)
    (hdb : (x == ("__debug__" : Str)) = false := by decide)
    (he : starEach (e :: es) X.env = (false, eval e X.env) :: starEach es X.env := by rfl)
    (hpl : (backTo pos (starEach es X.env)).any (·.1) = false := by rfl) :
    PE X (.Call (.Name x p) (e :: es) [] pos) (tCall sp [] E0 t) := by
  constructor
  intro pins s σ H Q I h
  refine wpAny_Call_Name_kw (ld_glob I gl hm ?_ hdb)
  refine PySem.W.callWith_K (h₀ := X.base) I.ok.mod.kin hk ?_ he hpl
  refine thn (ha.run pos pins s σ H _ I h) ?_
  rintro us s1 ⟨vs, H1, I1, r, q⟩
  rw [List.append_nil] at q
  exact ⟨I1.kIn, run_fnG F hg hr hb I1 r q⟩
end
end L2.Gd
end

section
set_option Elab.async false
set_option linter.all false
set_option maxRecDepth 100000
set_option maxHeartbeats 2000000
namespace L2.Gd
open PySem PySem.Spec PyProof.Rows

section
variable {P : Program} {w : World} {K : PySem.W.Frag} {mg mb : Str → Option Value} {k : Nat} {fa a : Addr}
  {fd : FuncData} {x : Str} {sp : Sp} {s₁ : Shared} {vs : List Value} {ns : List Int}

/-- the law's run from a heap of which at most the script is tracked -/
theorem law_core (inK : K.In s₁.heap) (hns : s₁.heap.Ns mainGlobals mg) (hb : s₁.heap.Ns builtinsNs mb)
    (hbb : ∀ x : Str, x ≠ "__name__" → mb x = bootBuiltins x) (nolim : s₁.heap.NoLimit) (hg : s₁.gens = #[])
    (ha : s₁.heap.get? a = some { cls := .type "list", data := .seq vs.toArray }) (hr : Room k callerA)
    (F : ∀ base : Heap, K.In base → base.Ns mainGlobals mg → FnG P w K mg base k fa fd [x] sp)
    (bind : ∀ (s : Shared) (u : Value), BindsTo s fd ⟨[u], []⟩ [(x, u)])
    (H : Hp) (only : Only H) (hsp : sp [.ref a] H (fun v _ => v = .bl true) E0)
    (ok : HOk P w H s₁.heap) (hA : ∀ b, H b ≠ none → b = a) (hK : H a ≠ none → K.lookup a = none) :
    codeAny (model P w) callerA (.call (.ref fa) ⟨[.ref a], []⟩)
      (fun r s' => r = .ok (.ret (.bool true)) ∧ OldK s₁.heap s'.heap ∧ s'.os = s₁.os ∧ AllBare s'.gens) s₁ := by
  have untracked : ∀ {b : Addr} {o : Obj} {es : Array DictEntry} {ep : Nat},
      s₁.heap.get? b = some o → o.data = .dict es ep → H b = none := by
    intro b o es ep q d
    cases hb' : H b with
    | none => rfl
    | some u =>
      have q2 : b = a := hA b (by rw [hb']; exact fun z => nomatch z)
      subst q2
      have q3 := ha.symm.trans q
      cases q3
      exact nomatch (show Data.seq vs.toArray _ = Data.dict es ep from d)
  have nsB : ∀ {b : Addr} {m : Str → Option Value}, s₁.heap.Ns b m → (hidT s₁.heap H).Ns b m := by
    rintro b m ⟨o, es, ep, q, d, r⟩
    exact ⟨o, es, ep, hidT_get q (untracked q d), d, r⟩
  have inB : K.In (hidT s₁.heap H) := by
    intro b o q
    refine hidT_get (inK b o q) ?_
    cases hb' : H b with
    | none => rfl
    | some u =>
      have q2 : b = a := hA b (by rw [hb']; exact fun z => nomatch z)
      subst q2
      rw [hK (by rw [hb']; exact fun z => nomatch z)] at q
      exact nomatch q
  obtain ⟨mc, l1, l2⟩ := nolim
  have md : Mod K mg (hidT s₁.heap H) := ⟨inB, nsB hns, ⟨mb, nsB hb, hbb⟩, ⟨mc, nsB l1, l2⟩⟩
  have e0 : Env0 P w K mg (hidT s₁.heap H) callerA [] s₁ H :=
    ⟨rfl, md, fun b o q => of_hidT q, Nat.le_of_eq (hidT_size _ _), trivial,
      fun b z => absurd (show b ∈ ([] : List Addr) from z) (by simp), ok, .of_eq hg⟩
  refine codeAny_mono ((F _ inB (nsB hns)).go callerA [] s₁ H ⟨[.ref a], []⟩ [.ref a] [.ref a] _ rfl hr e0
    (bind s₁ (.ref a)) (.cons rfl .nil) hsp) ?_
  intro r s' h
  cases r with
  | error e => exact (show False from h).elim
  | ok fl =>
    cases fl with
    | next => exact h.elim
    | brk => exact h.elim
    | cont => exact h.elim
    | ret u =>
      obtain ⟨v, H', os, bare, un, ok', rv, q⟩ := h
      obtain rfl : v = V.bl true := q
      obtain rfl : u = Value.bool true := rv
      refine ⟨rfl, OldK.of_keep ?_, os, bare⟩
      intro b o q1
      cases hb' : H b with
      | none =>
        exact un.keep b o q1 hb' (fun z => absurd (show b ∈ ([] : List Addr) from z) (by simp)) (by simp)
      | some u =>
        rcases only b with z | ⟨ob, xs, z⟩
        · exact nomatch hb'.symm.trans z
        · obtain ⟨q2, _⟩ := ok b _ z
          obtain ⟨q3, _⟩ := ok' b _ (un.frzs b ob _ z)
          cases q1.symm.trans q2
          exact q3

theorem law_callG (inK : K.In s₁.heap) (hns : s₁.heap.Ns mainGlobals mg) (hb : s₁.heap.Ns builtinsNs mb)
    (hbb : ∀ x : Str, x ≠ "__name__" → mb x = bootBuiltins x) (nolim : s₁.heap.NoLimit) (hg : s₁.gens = #[])
    (ha : s₁.heap.get? a = some { cls := .type "list", data := .seq vs.toArray }) (hi : IntsAre vs ns)
    (hl : ns.length ≤ sizeLine) (hr : Room k callerA)
    (F : ∀ base : Heap, K.In base → base.Ns mainGlobals mg → FnG P w K mg base k fa fd [x] sp)
    (bind : ∀ (s : Shared) (u : Value), BindsTo s fd ⟨[u], []⟩ [(x, u)])
    (hsp : ∀ H : Hp, Only H → SqL K H a (ns.map V.int) → sp [.ref a] H (fun v _ => v = .bl true) E0) :
    codeAny (model P w) callerA (.call (.ref fa) ⟨[.ref a], []⟩)
      (fun r s' => r = .ok (.ret (.bool true)) ∧ OldK s₁.heap s'.heap ∧ s'.os = s₁.os ∧ AllBare s'.gens) s₁ := by
  have rv := vals_ints hi
  have lenV := hi.length
  cases hk : K.lookup a with
  | some o =>
    -- the script is one of the module's own objects
    cases ha.symm.trans (inK a o hk)
    have only : Only (fun _ => none) := fun _ => .inl rfl
    have sq : SqL K (fun _ => none) a (ns.map V.int) :=
      .inr ⟨_, vs.toArray, _, hk, rfl, rfl, rfl, by rw [List.size_toArray, lenV]; exact hl, by simpa using rv⟩
    refine law_core inK hns hb hbb nolim hg ha hr F bind _ only (hsp _ only sq) ?_ ?_ ?_
    · intro b u z
      exact nomatch (show (none : Option HO) = some u from z)
    · exact fun b z => absurd rfl z
    · exact fun z => absurd rfl z
  | none =>
    let Hs : Hp := fun b => if b = a then some (.frz { cls := .type "list", data := .seq vs.toArray } (.lst (ns.map V.int))) else none
    have at_a : Hs a = some (.frz { cls := .type "list", data := .seq vs.toArray } (.lst (ns.map V.int))) := if_pos rfl
    have else_ : ∀ b, b ≠ a → Hs b = none := fun b n => if_neg n
    have only : Only Hs := by
      intro b
      by_cases q : b = a
      · subst q; exact .inr ⟨_, _, at_a⟩
      · exact .inl (else_ b q)
    refine law_core inK hns hb hbb nolim hg ha hr F bind Hs only (hsp _ only (.inl (.inr ⟨_, at_a⟩))) ?_ ?_ ?_
    · intro b u z
      by_cases q : b = a
      · subst q
        cases at_a.symm.trans z
        exact ⟨ha, by rw [List.length_map]; exact hl, vs, _, rv, ha⟩
      · exact nomatch (else_ b q).symm.trans z
    · intro b z
      by_cases q : b = a
      · exact q
      · exact absurd (else_ b q) z
    · exact fun _ => hk
end

/-- the goal that the head leaves, from the law's promise -/
theorem walk_ofG {l : PySem.W.OpenLaw} {n k : Nat} {q : Program} {loose : List Str}
    {XP : (Str → Option Value) → Heap → Prop} {YP : World → Heap → Prop} {d : DefRec} {K : Params → PySem.W.Frag}
    {sp : PySem.W.Frag → Sp} {x : Str}
    (hn : l.most = some n) (hn2 : n ≤ sizeLine) (hdf : d.params.defaults = []) (hr : Room k callerA)
    (hY : ∀ (w : World) (h : Heap), YP w h → (K w.params).In h)
    (F : ∀ (w : World) (mg : Str → Option Value) (fa : Addr) (h : Heap), (K w.params).In h →
      h.Ns mainGlobals mg → mg d.name = some (.ref fa) →
      ∃ fd : FuncData, (∀ (s : Shared) (u : Value), BindsTo s fd ⟨[u], []⟩ [(x, u)]) ∧
        ∀ base : Heap, (K w.params).In base → base.Ns mainGlobals mg →
          FnG l.prog w (K w.params) mg base k fa fd [x] (sp (K w.params)))
    (hsp : ∀ (K : PySem.W.Frag) (H : Hp) (a : Addr) (ns : List Int), ns.length ≤ n → Only H →
      SqL K H a (ns.map V.int) → sp K [.ref a] H (fun v _ => v = .bl true) E0) :
    PySem.W.WalkO q loose XP YP l.row.toRowW d [] (fun f vs => PySem.call f vs) := by
  refine Att.attach_call hn hdf ?_
  intro w s₀ s₁ mg mb fa o pm cd doc a vs ns G Y ho hd hcd hmg hobj hints hlen hg
  have inK := hY w _ Y
  obtain ⟨fd, bind, hF⟩ := F w mg fa _ inK G.T.g hmg
  exact law_callG inK G.T.g G.T.b G.T.builtins G.T.nolimit hg hobj hints (Nat.le_trans hlen hn2) hr hF bind
    (fun H hO hS => hsp (K w.params) H a ns hlen hO hS)
end L2.Gd
end

section
set_option Elab.async false
set_option linter.all false
set_option maxRecDepth 100000
set_option maxHeartbeats 2000000
namespace L2.Gd
open PySem PySem.Spec PyProof.Rows

/-- a list or a tuple of plain data: what is told of it fits -/
def Showy (d : PyData) : Prop := d.showable = true ∧ d.hasDict = false ∧ d.depth ≤ 20 ∧ d.shown.length ≤ sizeLine
section
variable {X : Cx} {pins : List (Addr × Obj)} {σ : St} {H : Hp} {s : Shared}
theorem reprObj_D {A : Around} (I : Inv X pins σ H s) (hg : A.guards = some []) (hu : A.units + 64 < cLine) {a : Addr} {d : PyData}
    (hd : Dp X.K H (.ref a) d) (hs : Showy d) {Q : Value → Shared → Prop} {E : Value → Shared → Prop}
    (h : ∀ s' u, Inv X pins σ H s' → Q (.str d.shown u) s') :
    wpAny (model X.prog X.w) A (pyReprObj (.ref a)) Q E s := by
  obtain ⟨as, r⟩ := Dp.reads I d _ _ hd rfl
  obtain ⟨h1, h2, h3, h4⟩ := hs
  refine pyReprObj_of_reads r h1 (PyData.noDict_hsm h2) hg (by omega) (fun _ _ q => q) ?_ h4
  intro h' u tk k
  exact h _ u (I.kept k)
end
section
variable {X : Cx}
/-- repr(x), x a list or a tuple of plain data -/
theorem call_reprD (hg : X.A.guards = some []) (hu : X.A.units + 64 < cLine) :
    CallR X (.builtin "repr") (fun xs H Q => ∃ a d, xs = [.ref a] ∧ Dp X.K H (.ref a) d ∧ Showy d ∧ Q (.str d.shown) H) := by
  rintro pins s σ H xs us Q I r ⟨a, d, rfl, hd, ⟨h1, h2, h3, h4⟩, q⟩
  cases r with
  | cons r1 r2 =>
    cases r2
    obtain rfl := r1
    obtain ⟨as, rd⟩ := Dp.reads I d _ _ hd rfl
    refine repr_of_reads' rd h1 (PyData.noDict_hsm h2) hg (by omega) (fun _ _ q => q) ?_ h4
    intro h' u tk k
    exact ⟨.str d.shown, H, I.kept k, ⟨_, rfl⟩, q⟩
/-- {x!r} of such -/
theorem pe_fmtRD {e : Expr} {te : TE} {pos : Pos} (hg : X.A.guards = some []) (hu : X.A.units + 64 < cLine) (he : PE X e te) :
    PE X (.FormattedValue e 114 none pos) (fun σ H Q => te σ H fun x H1 => ∃ a d, x = .ref a ∧ Dp X.K H1 (.ref a) d ∧ Showy d ∧ Q (.str d.shown) H1) := by
  constructor
  intro pins s σ H Q I h
  refine wpAny_FormattedValue_repr (thn (he.run pins s σ H _ I h) ?_)
  rintro v s1 ⟨x, H1, I1, r1, a, d, rfl, hd, hs, q⟩
  obtain rfl := r1
  refine reprObj_D I1 hg hu hd hs ?_
  intro s' u I'
  exact wpAny_formatField_str ⟨.str d.shown, H1, I', ⟨u, rfl⟩, q⟩ ⟨.str d.shown, H1, I'.tok _, ⟨_, rfl⟩, q⟩ hs.2.2.2
end
end L2.Gd
end

section
set_option Elab.async false
set_option linter.all false
set_option maxRecDepth 100000
set_option maxHeartbeats 2000000
namespace L2.Gd
open PySem PySem.Spec PyProof.Rows

/-! ### a def's run, whatever it hands back (NotImplemented, too) -/
def RawEnd (R : Result → Shared → Prop) (fl : Flow) (s' : Shared) : Prop := match fl with
  | .ret u => R (.ok (.ret u)) s'
  | .next => R (.ok (.ret .none)) s'
  | _ => False
section
variable {P : Program} {w : World} {K : PySem.W.Frag} {mg : Str → Option Value} {base : Heap}
  {k : Nat} {f : Addr} {fd : FuncData} {ps N : List Str}

theorem raw_call {x qual : Str} {st : Stmt} (F : Fun K x qual st f fd) (S : FnScope N ps (defScope st))
    {A : Around} {outer : List Env} {s : Shared} {H : Hp} {args : Args} {us : List Value} {vs : List V}
    {R : Result → Shared → Prop} (hr : Room (k + 1) A) (e0 : Env0 P w K mg base A outer s H)
    (bind : BindsTo s fd args (ps.zip us)) (rv : Vals vs us) (hl : vs.length = ps.length)
    (body : ∀ (cdv : Value) (s1 : Shared),
      Inv (cxOf CX0 P w K mg base N qual (defScope st) f cdv A outer s H E0).nox [] (start N vs) H s1 →
      wpAny (model P w) (A.deeper (envOfC qual (defScope st) s.heap.objs.size f cdv))
        (execs (defBody st) (envOfC qual (defScope st) s.heap.objs.size f cdv)) (RawEnd R) (fun _ _ => False) s1) :
    codeAny (model P w) A (.call (.ref f) args) R s := by
  obtain ⟨oc, od, kV, doc, pm, an, cdv, ct, osl, rfl, there, code⟩ := F.ex
  have inK : K.In s.heap := e0.mod.kin.keeps (fun b o q => (e0.bs b o q).1)
  have nolim : s.heap.NoLimit := e0.mod.nolimit.keeps (fun b o q => (e0.bs b o q).1)
  have kinds : ∀ y ∈ ps.zip us, (defScope st).names.lookup y.1 = some .local ∨
      ((defScope st).names.lookup y.1 = some .cell ∧
        ((cellsFrom (s.heap.objs.size + 1) (defScope st).names []).lookup y.1).isSome = true) := by
    rintro ⟨n, v⟩ hy
    cases S.par n (List.of_mem_zip hy).1 with
    | inl q => exact .inl q
    | inr q => exact .inr ⟨q, PySem.W.cellsFrom_some _ _ _ (.inl q)⟩
  refine codeAny_call_function hr.depth (inK _ _ there) rfl S.co S.gen rfl
    (PySem.W.codeRec_of inK code) (bind _ _ _ _ ?_)
  refine wpAny_newFunctionEnv_cells S.kind kinds ?_
  intro env he s1 ic
  subst he
  refine ⟨nolim.keeps ic.toInCall.keep, codeAny_func ?_⟩
  have I := inv_start (CX := CX0) (P := P) (w := w) (mg := mg) (base := base) (E := E0) S hr.hd e0 hl rv ic
  refine wpAny_mono (body cdv s1 (I.wish _)) (fun fl s' z => ?_) (fun e s' z => z.elim)
  cases fl with
  | ret u => exact z
  | next => exact z
  | brk => exact z.elim
  | cont => exact z.elim
end

/-! ### == of an own class that answers NotImplemented -/
/-- the state behind it: nothing that was tracked has changed -/
def After (X : Cx) (pins : List (Addr × Obj)) (σ : St) (H : Hp) (s' : Shared) : Prop := ∃ H', Inv X pins σ H' s' ∧ Same H H'
/-- the own __eq__ at f, of the class at C, declines what is of another kind -/
def Declines (X : Cx) (C f : Addr) (D : V → Hp → Prop) : Prop :=
  ∀ (pins : List (Addr × Obj)) (s : Shared) (σ : St) (H : Hp) (x : Addr) (y : V) (v : Value) (dx : Addr) (fs : List (Str × V)),
    Inv X pins σ H s → H x = some (.ins C dx fs) → RelV y v → D y H →
    wpAny (model X.prog X.w) X.A (call (.ref f) [.ref x, v]) (fun r s' => r = .notImplemented ∧ After X pins σ H s') (fun _ _ => False) s

section
variable {X : Cx} {C f : Addr}
theorem wpAny_noE {M : Model} {A : Around} {α : Type} {t : Sem α} {Q : α → Shared → Prop} {E : Value → Shared → Prop} {s : Shared}
    (h : wpAny M A t Q (fun _ _ => False) s) : wpAny M A t Q E s := wpAny_mono h (fun _ _ z => z) (fun _ _ z => z.elim)

/-- the value on the right: its type, and what its own == says of an instance -/
structure OtherKind (X : Cx) (C : Addr) (y : V) (tb : Value) (D : V → Hp → Prop) : Prop where
  ne : (tb == .ref C) = false
  sub : PySem.W.subIn X.K tb (.ref C) = some false
  ty : ∀ (pins : List (Addr × Obj)) (s : Shared) (σ : St) (H : Hp) (v : Value), Inv X pins σ H s → RelV y v → D y H →
    PySem.W.Looks (model X.prog X.w) s.heap (typeOf v) tb
  dec : ∀ (A : Around) (pins : List (Addr × Obj)) (s : Shared) (σ : St) (H : Hp) (x : Addr) (v : Value) (dx : Addr) (fs : List (Str × V)) (Q : Option Value → Shared → Prop) (E : Value → Shared → Prop),
    A.units + 8 < cLine → Inv X pins σ H s → RelV y v → D y H → H x = some (.ins C dx fs) → (∀ s', Inv X pins σ H s' → Q none s') →
    wpAny (model X.prog X.w) A (tryCompare v "__eq__" (.ref x)) Q E s
  mono : ∀ (H H' : Hp), Same H H' → D y H → D y H'
  notSame : ∀ (pins : List (Addr × Obj)) (s : Shared) (σ : St) (H : Hp) (x : Addr) (v : Value) (dx : Addr) (fs : List (Str × V)) (A : Around) (Q : Bool → Shared → Prop) (E : Value → Shared → Prop),
    Inv X pins σ H s → RelV y v → D y H → H x = some (.ins C dx fs) → Q false s → wpAny (model X.prog X.w) A (isSame (.ref x) v) Q E s

/-- x == y, x an instance of the class at C, y of another kind: False -/
theorem op_eqNI (hu : X.A.units + 64 < cLine) {DD : V → Hp → Prop} (hs : PySem.W.findIn X.K (.ref C) "__eq__" = some (some (.ref f)))
    (hf : PySem.W.isFn X.K (.ref f) = true) (dc : Declines X C f DD) :
    OpR X (compareOp .Eq) (fun x y H Q => ∃ (a dx : Addr) (fs : List (Str × V)) (tb : Value) (D : V → Hp → Prop),
      x = .ref a ∧ H a = some (.ins C dx fs) ∧ OtherKind X C y tb D ∧ D y H ∧ DD y H ∧ ∀ H', Same H H' → Q (.bl false) H') := by
  rintro pins s σ H x y u v Q I rx ry ⟨a, dx, fs, tb, D, rfl, ha, O, hD, hDD, q⟩
  obtain rfl := rx
  obtain ⟨mA, J, _⟩ := ins_get I.hok ha
  obtain ⟨od, J, _⟩ := J.look
  show wpAny _ _ (richCompare .Eq (.ref a) v) _ _ _
  unfold richCompare
  simp only [oneThing_ref]
  refine wpAny_holding (wpAny_bind (wpAny_cRoomFor (by omega) ?_))
  refine wpAny_bind (J.type.here (wpAny_bind ((O.ty pins s σ H v I ry hD).here ?_)))
  have ne : (Value.ref C != tb) = true := by
    have := O.ne
    rw [bne_comm, bne, this]
    rfl
  rw [if_pos ne]
  refine wpAny_bind ((PySem.W.looks_subIn I.kIn O.sub).here ?_)
  simp only [Bool.false_eq_true, if_false]
  have one : wpAny (model X.prog X.w) X.A (tryCompare (.ref a) (cmpInfo CmpOp.Eq).2.fst v)
      (fun r s' => r = none ∧ After X pins σ H s') X.xe s := by
    unfold tryCompare
    refine wpAny_bind (PySem.W.ifBound_K I.kIn J hs hf (wpAny_mono (wpAny_noE (dc pins s σ H a y v dx fs I ha ry hDD)) ?_ (fun _ _ z => z)))
    rintro r s' ⟨rfl, h⟩
    exact wpAny_pure ⟨rfl, h⟩
  refine wpAny_bind (thn one ?_)
  rintro r s1 ⟨rfl, H1, I1, sm⟩
  show wpAny _ _ (tryCompare v (cmpInfo CmpOp.Eq).2.snd (Value.ref a) >>= _) _ _ _
  refine wpAny_bind (O.dec X.A pins s1 σ H1 a v dx fs _ _ (by omega) I1 ry (O.mono _ _ sm hD) (sm _ _ ha) ?_)
  intro s2 I2
  show wpAny _ _ (rule "compare.eq-identity" >>= _) _ _ _
  refine wpAny_bind (wpAny_rule (wpAny_bind (O.notSame pins s2 σ H1 a v dx fs X.A _ _ I2 ry (O.mono _ _ sm hD) (sm _ _ ha) ?_)))
  exact wpAny_pure ⟨.bl false, H1, I2, rfl, q H1 sm⟩
end
end L2.Gd
end

section
set_option Elab.async false
set_option linter.all false
set_option maxRecDepth 100000
set_option maxHeartbeats 2000000
/-! What built-in values say of an instance of an own class: their own == declines. -/
namespace PySem.SeqAt
open AutoSeq1 (wpAny_loadPart')
open MeetsSeq
def NoSub (C : Addr) (T : String) (h : Heap) : Prop := ∀ M : Model, PySem.W.Looks M h (isSubtype (.ref C) (.type T)) false
theorem list_eq_ni (l x C dx : Addr) (items : Array Value) (n : Nat) (dd : Option Addr) (sl : Array (Option Value)) :
    Meets (Builtin.«list.__eq__» ⟨[.ref l, .ref x], []⟩) (fun _ R s =>
      s.heap.get? l = some { cls := .type "list", dict := dd, data := .seq items n, slots := sl } ∧
      s.heap.get? x = some (PySem.W.instObj C dx) ∧ NoSub C "list" s.heap ∧ R (.ok (.ret .notImplemented)) s) :=
  .of_wp fun prog w A R s h => by
    obtain ⟨hp, g, d, tk, os⟩ := s
    obtain ⟨hl, hx, ns, h⟩ := h
    wp_walk using wpAny_loadPart' hl
    refine (ns _).here ?_
    wp_walk
    exact ⟨_, rfl, h⟩
theorem tuple_eq_ni (l x C dx : Addr) (items : Array Value) (n : Nat) (dd : Option Addr) (sl : Array (Option Value)) :
    Meets (Builtin.«tuple.__eq__» ⟨[.ref l, .ref x], []⟩) (fun _ R s =>
      s.heap.get? l = some { cls := .type "tuple", dict := dd, data := .seq items n, slots := sl } ∧
      s.heap.get? x = some (PySem.W.instObj C dx) ∧ NoSub C "tuple" s.heap ∧ R (.ok (.ret .notImplemented)) s) :=
  .of_wp fun prog w A R s h => by
    obtain ⟨hp, g, d, tk, os⟩ := s
    obtain ⟨hl, hx, ns, h⟩ := h
    wp_walk using wpAny_loadPart' hl
    refine (ns _).here ?_
    wp_walk
    exact ⟨_, rfl, h⟩
theorem dict_eq_ni (l x C dx : Addr) (o : Obj) :
    Meets (Builtin.«dict.__eq__» ⟨[.ref l, .ref x], []⟩) (fun _ R s => s.heap.get? l = some o ∧ o.cls = .type "dict" ∧
      s.heap.get? x = some (PySem.W.instObj C dx) ∧ NoSub C "dict" s.heap ∧ R (.ok (.ret .notImplemented)) s) :=
  .of_wp fun prog w A R s h => by
    obtain ⟨hp, g, d, tk, os⟩ := s
    obtain ⟨hl, hc, hx, ns, h⟩ := h
    wp_walk using wpAny_loadPart' hl
    refine (ns _).here ?_
    wp_walk
    exact ⟨_, rfl, h⟩
theorem int_eq_ni (b : Int) (u : Tok) (x C dx : Addr) :
    Meets (Builtin.«int.__eq__» ⟨[.int b u, .ref x], []⟩) (fun _ R s => s.heap.get? x = some (PySem.W.instObj C dx) ∧ R (.ok (.ret .notImplemented)) s) :=
  .of_wp fun prog w A R s h => by
    obtain ⟨hp, g, d, tk, os⟩ := s
    obtain ⟨hx, h⟩ := h
    wp_walk using wpAny_loadPart' hx, wpAny_load hx
    exact ⟨_, rfl, h⟩
theorem str_eq_ni (b : Str) (u : Tok) (x C dx : Addr) :
    Meets (Builtin.«str.__eq__» ⟨[.str b u, .ref x], []⟩) (fun _ R s => s.heap.get? x = some (PySem.W.instObj C dx) ∧ R (.ok (.ret .notImplemented)) s) :=
  .of_wp fun prog w A R s h => by
    obtain ⟨hp, g, d, tk, os⟩ := s
    obtain ⟨hx, h⟩ := h
    wp_walk using wpAny_loadPart' hx, wpAny_load hx
    exact ⟨_, rfl, h⟩
end PySem.SeqAt

namespace L2.Gd
open PySem PySem.Spec PyProof.Rows PySem.SeqAt
section
variable {X : Cx} {C : Addr}
/-- the class at C is of no built-in kind -/
structure NoKin (K : PySem.W.Frag) (C : Addr) : Prop where
  none : PySem.W.subIn K (.type "NoneType") (.ref C) = some false
  int : PySem.W.subIn K (.type "int") (.ref C) = some false
  str : PySem.W.subIn K (.type "str") (.ref C) = some false
  lst : PySem.W.subIn K (.type "list") (.ref C) = some false
  tup : PySem.W.subIn K (.type "tuple") (.ref C) = some false
  dct : PySem.W.subIn K (.type "dict") (.ref C) = some false
  lst' : PySem.W.subIn K (.ref C) (.type "list") = some false
  tup' : PySem.W.subIn K (.ref C) (.type "tuple") = some false
  dct' : PySem.W.subIn K (.ref C) (.type "dict") = some false
theorem noSub_of {pins : List (Addr × Obj)} {σ : St} {H : Hp} {s : Shared} {T : String} (I : Inv X pins σ H s)
    (h : PySem.W.subIn X.K (.ref C) (.type T) = some false) : NoSub C T s.heap := fun _ => PySem.W.looks_subIn I.kIn h

theorem kind_none (nk : NoKin X.K C) : OtherKind X C .non (.type "NoneType") (fun _ _ => True) where
  ne := rfl
  sub := nk.none
  ty := by
    intro pins s σ H v I rv _
    obtain rfl := rv
    exact .now
  dec := by
    intro A pins s σ H x v dx fs Q E hu I rv _ hx k
    obtain rfl := rv
    exact wpAny_tryCompare_declines (T := "NoneType") rfl F.slot_NoneType_eq
      (call_gives F.slot_NoneType_eq rfl F.entry_NoneType_eq (F.args_NoneType_eq_2 _ _) (NoneType___eq___none_ref_0 x) ⟨rfl, k _ I⟩)
  mono := fun _ _ _ h => h
  notSame := by
    intro pins s σ H x v dx fs A Q E I rv _ hx q
    obtain rfl := rv
    exact wpAny_of_eq (rfl : isSame (.ref x) .none = pure false) q
theorem kind_int (i : Int) (nk : NoKin X.K C) : OtherKind X C (.int i) (.type "int") (fun _ _ => True) where
  ne := rfl
  sub := nk.int
  ty := by
    intro pins s σ H v I rv _
    obtain ⟨t, rfl⟩ := rv
    exact .now
  dec := by
    intro A pins s σ H x v dx fs Q E hu I rv _ hx k
    obtain ⟨t, rfl⟩ := rv
    obtain ⟨mA, J, _⟩ := ins_get I.hok hx
    exact wpAny_tryCompare_declines (T := "int") (typeIs_int _ _ _) F.slot_int_eq
      (call_meets F.slot_int_eq (typeIs_int _ _ _) F.entry_int_eq (F.args_int_eq_2 _ _) (int_eq_ni i t x C dx) ⟨J.1, rfl, k _ I⟩)
  mono := fun _ _ _ h => h
  notSame := by
    intro pins s σ H x v dx fs A Q E I rv _ hx q
    obtain ⟨t, rfl⟩ := rv
    exact wpAny_of_eq (rfl : isSame (.ref x) (.int i t) = pure false) q
theorem kind_str (z : Str) (nk : NoKin X.K C) : OtherKind X C (.str z) (.type "str") (fun _ _ => True) where
  ne := rfl
  sub := nk.str
  ty := by
    intro pins s σ H v I rv _
    obtain ⟨t, rfl⟩ := rv
    exact .now
  dec := by
    intro A pins s σ H x v dx fs Q E hu I rv _ hx k
    obtain ⟨t, rfl⟩ := rv
    obtain ⟨mA, J, _⟩ := ins_get I.hok hx
    exact wpAny_tryCompare_declines (T := "str") (typeIs_str _ _ _) F.slot_str_eq
      (call_meets F.slot_str_eq (typeIs_str _ _ _) F.entry_str_eq (F.args_str_eq_2 _ _) (str_eq_ni z t x C dx) ⟨J.1, rfl, k _ I⟩)
  mono := fun _ _ _ h => h
  notSame := by
    intro pins s σ H x v dx fs A Q E I rv _ hx q
    obtain ⟨t, rfl⟩ := rv
    exact wpAny_of_eq (rfl : isSame (.ref x) (.str z t) = pure false) q
theorem kind_list (l : Addr) (nk : NoKin X.K C) : OtherKind X C (.ref l) (.type "list") (fun _ H => ∃ xs, H l = some (.lst xs)) where
  ne := rfl
  sub := nk.lst
  ty := by
    intro pins s σ H v I rv ⟨xs, hl⟩
    obtain rfl := rv
    obtain ⟨_, its, n, _, e⟩ := (show ObjOk X.prog X.w H s.heap l (.lst xs) from I.hok l _ hl)
    exact (PySem.W.Looks.ld (part := none) e).andThen .now
  dec := by
    intro A pins s σ H x v dx fs Q E hu I rv ⟨xs, hl⟩ hx k
    obtain rfl := rv
    obtain ⟨_, its, n, _, e⟩ := (show ObjOk X.prog X.w H s.heap l (.lst xs) from I.hok l _ hl)
    obtain ⟨mA, J, _⟩ := ins_get I.hok hx
    exact wpAny_tryCompare_declines (T := "list") ⟨_, e, rfl⟩ F.slot_list_eq
      (call_meets F.slot_list_eq ⟨_, e, rfl⟩ F.entry_list_eq (F.args_list_eq_2 _ _) (list_eq_ni l x C dx _ _ _ _) ⟨e, J.1, noSub_of I nk.lst', rfl, k _ I⟩)
  mono := fun _ _ sm ⟨xs, h⟩ => ⟨xs, sm _ _ h⟩
  notSame := by
    intro pins s σ H x v dx fs A Q E I rv ⟨xs, hl⟩ hx q
    obtain rfl := rv
    obtain ⟨_, its, n, _, e⟩ := (show ObjOk X.prog X.w H s.heap l (.lst xs) from I.hok l _ hl)
    obtain ⟨mA, J, _⟩ := ins_get I.hok hx
    exact wpAny_isSame_ref_other' (ne_of hx hl (by intro z; cases z)) J.1 e (show Value.type "list" ≠ Value.type "tuple" by decide) q
theorem same_left {M : Model} {A : Around} {E : Value → Shared → Prop} {s : Shared} {x y : Addr} {ox oy : Obj} {R : Bool → Shared → Prop} (ne : x ≠ y)
    (hx : s.heap.get? x = some ox) (hy : s.heap.get? y = some oy) (hnt : ox.cls ≠ .type "tuple") (h : R false s) :
    wpAny M A (isSame (.ref x) (.ref y)) R E s := by
  show wpAny M A (if (x == y) = true then pure true else _) R E s
  rw [if_neg (fun z => ne (beq_iff_eq.mp z))]
  refine wpAny_bind (wpAny_load hx (wpAny_bind (wpAny_load hy ?_)))
  split
  · rename_i _ h1 _ _ _
    exact absurd h1 hnt
  · exact wpAny_pure h
theorem kind_tup (l : Addr) (nk : NoKin X.K C) : OtherKind X C (.ref l) (.type "tuple") (fun _ H => ∃ xs, H l = some (.tup xs)) where
  ne := rfl
  sub := nk.tup
  ty := by
    intro pins s σ H v I rv ⟨xs, hl⟩
    obtain rfl := rv
    obtain ⟨_, its, _, o, e, c, n, hd⟩ := (show ObjOk X.prog X.w H s.heap l (.tup xs) from I.hok l _ hl)
    obtain ⟨cls, dd, data, sl⟩ := o
    simp only at c hd
    subst c hd
    exact (PySem.W.Looks.ld (part := none) e).andThen .now
  dec := by
    intro A pins s σ H x v dx fs Q E hu I rv ⟨xs, hl⟩ hx k
    obtain rfl := rv
    obtain ⟨_, its, _, o, e, c, n, hd⟩ := (show ObjOk X.prog X.w H s.heap l (.tup xs) from I.hok l _ hl)
    obtain ⟨cls, dd, data, sl⟩ := o
    simp only at c hd
    subst c hd
    obtain ⟨mA, J, _⟩ := ins_get I.hok hx
    exact wpAny_tryCompare_declines (T := "tuple") ⟨_, e, rfl⟩ F.slot_tuple_eq
      (call_meets F.slot_tuple_eq ⟨_, e, rfl⟩ F.entry_tuple_eq (F.args_tuple_eq_2 _ _) (tuple_eq_ni l x C dx _ _ _ _) ⟨e, J.1, noSub_of I nk.tup', rfl, k _ I⟩)
  mono := fun _ _ sm ⟨xs, h⟩ => ⟨xs, sm _ _ h⟩
  notSame := by
    intro pins s σ H x v dx fs A Q E I rv ⟨xs, hl⟩ hx q
    obtain rfl := rv
    obtain ⟨_, its, _, o, e, c, n, hd⟩ := (show ObjOk X.prog X.w H s.heap l (.tup xs) from I.hok l _ hl)
    obtain ⟨mA, J, _⟩ := ins_get I.hok hx
    exact same_left (ne_of hx hl (by intro z; cases z)) J.1 e (by intro z; cases z) q
theorem kind_dict (l : Addr) (nk : NoKin X.K C) : OtherKind X C (.ref l) (.type "dict") (fun _ H => ∃ kvs, H l = some (.dK kvs)) where
  ne := rfl
  sub := nk.dct
  ty := by
    intro pins s σ H v I rv ⟨kvs, hl⟩
    obtain rfl := rv
    obtain ⟨_, _, vs, _, o, es, ep, e, c, _⟩ := (show ObjOk X.prog X.w H s.heap l (.dK kvs) from I.hok l _ hl)
    have c1 : o.cls = .type "dict" := c.1
    obtain ⟨cls, dd, data, sl⟩ := o
    simp only at c1
    subst c1
    exact (PySem.W.Looks.ld (part := none) e).andThen .now
  dec := by
    intro A pins s σ H x v dx fs Q E hu I rv ⟨kvs, hl⟩ hx k
    obtain rfl := rv
    obtain ⟨_, _, vs, _, o, es, ep, e, c, _⟩ := (show ObjOk X.prog X.w H s.heap l (.dK kvs) from I.hok l _ hl)
    obtain ⟨mA, J, _⟩ := ins_get I.hok hx
    exact wpAny_tryCompare_declines (T := "dict") ⟨_, e, c.1⟩ F.slot_dict_eq
      (call_meets F.slot_dict_eq ⟨_, e, c.1⟩ F.entry_dict_eq (F.args_dict_eq_2 _ _) (dict_eq_ni l x C dx o) ⟨e, c.1, J.1, noSub_of I nk.dct', rfl, k _ I⟩)
  mono := fun _ _ sm ⟨xs, h⟩ => ⟨xs, sm _ _ h⟩
  notSame := by
    intro pins s σ H x v dx fs A Q E I rv ⟨kvs, hl⟩ hx q
    obtain rfl := rv
    obtain ⟨_, _, vs, _, o, es, ep, e, c, _⟩ := (show ObjOk X.prog X.w H s.heap l (.dK kvs) from I.hok l _ hl)
    obtain ⟨mA, J, _⟩ := ins_get I.hok hx
    exact same_left (ne_of hx hl (by intro z; cases z)) J.1 e (by intro z; cases z) q
end
end L2.Gd
end

section
set_option Elab.async false
set_option linter.all false
set_option maxRecDepth 100000
set_option maxHeartbeats 2000000
/-! == and != of two instances of an own class that has an __eq__ alone. -/
namespace L2.Gd
open PySem PySem.Spec PyProof.Rows
section
variable {X : Cx} {C f N : Addr} {n : Nat} {fd : FuncData} {ps : List Str} {sp : Sp}

/-- the callee runs, somewhere below the body -/
theorem run_at (F : FnOk X.prog X.w X.K X.mg X.base CX0 n f fd ps sp) (hb : Binds X.K fd ps []) {A : Around} (sb : Sub X n A)
    {pins : List (Addr × Obj)} {σ : St} {H : Hp} {s : Shared} {Q : VK} {us : List Value} {vs : List V}
    (I : Inv X pins σ H s) (r : Vals vs us) (h : sp vs H Q E0) {E : Value → Shared → Prop} :
    wpAny (model X.prog X.w) A (call (.ref f) us) (EP X pins σ Q) E s := by
  have e := I.env0
  have e0 : Env0 X.prog X.w X.K X.mg X.base A X.stack s H := ⟨sb.fr.trans e.frames, e.mod, e.bs, e.bsz, e.funs, e.frf, e.hok, e.bare⟩
  have hl : (us ++ []).length = ps.length := by
    rw [List.append_nil, ← r.length]
    exact F.len _ _ _ _ h
  have hb2 := hb s us I.kIn hl
  rw [List.append_nil] at hb2
  refine wpAny_call (codeAny_mono (F.run A X.stack s H ⟨us, []⟩ us vs Q E0 sb.room e0 hb2 r h) ?_)
  intro res s' hq
  cases res with
  | error er => exact (show False from hq).elim
  | ok fl =>
    cases fl with
    | ret u => exact I.after hq
    | next => exact hq.elim
    | brk => exact hq.elim
    | cont => exact hq.elim

theorem binds2 (hb : Binds X.K fd ps []) : Binds X.K fd ps [] := hb

/-- x == y, two instances of the class at C -/
theorem op_eqOwn (hr : Room n X.A) (F : FnOk X.prog X.w X.K X.mg X.base CX0 n f fd ps sp) (hb : Binds X.K fd ps [])
    (hs : PySem.W.findIn X.K (.ref C) "__eq__" = some (some (.ref f))) (hf : PySem.W.isFn X.K (.ref f) = true) :
    OpR X (compareOp .Eq) (fun x y H Q => ∃ (a b dx dy : Addr) (fs gs : List (Str × V)), x = .ref a ∧ y = .ref b ∧
      H a = some (.ins C dx fs) ∧ H b = some (.ins C dy gs) ∧ sp [.ref a, .ref b] H (fun v H' => (∃ k, v = .bl k) ∧ Q v H') E0) := by
  rintro pins s σ H x y u v Q I rx ry ⟨a, b, dx, dy, fs, gs, rfl, rfl, ha, hb', h⟩
  obtain rfl := rx
  obtain rfl := ry
  obtain ⟨mA, J, _⟩ := ins_get I.hok ha
  obtain ⟨mB, J', _⟩ := ins_get I.hok hb'
  obtain ⟨od, J, _⟩ := J.look
  obtain ⟨od', J', _⟩ := J'.look
  obtain ⟨m, fr⟩ := I.fr
  show wpAny _ _ (richCompare .Eq (.ref a) (.ref b)) _ _ _
  refine PySem.W.cmp_K (op := .Eq) (tb := .ref C) hr.units0 fr I.ok.mod.kin J J'.type (by simp [PySem.W.notFirst]) hs hf ?_
  refine thn (run_at (us := [.ref a, .ref b]) (vs := [.ref a, .ref b]) F hb ⟨hr, rfl⟩ I (.cons rfl (.cons rfl .nil)) h) ?_
  rintro r s' ⟨z, H', I', rz, ⟨k, rfl⟩, q⟩
  obtain rfl := rz
  exact ⟨.bl k, H', I', rfl, q⟩

/-- what the text's class must have for != by its own == -/
structure NeC (K : PySem.W.Frag) (C f N : Addr) : Prop where
  cls : ∃ nm q bs sn sub ab col dd k0 k1 k2 k3 k5 newId, K.lookup C = some (excClassObj nm q C N bs [.type "object"] true sn sub ab col dd k0 k1 k2 k3 k5 newId)
  ok : PySem.W.nsOkIn K N = true
  eq : PySem.W.nsIn K N "__eq__" = some (some (.ref f))
  ne : PySem.W.nsIn K N "__ne__" = some none
  fn : ∃ o, K.lookup f = some o ∧ o.cls = .type "function"

theorem ns_some {K : PySem.W.Frag} {h : Heap} {N : Addr} {m : Str → Option Value} {x : Str} {v : Value} (k : K.In h) (G : h.Ns N m)
    (e : PySem.W.nsIn K N x = some (some v)) : m x = some v := by
  obtain ⟨o, es, ep, ho, hd, _, hf⟩ := G
  unfold PySem.W.nsIn at e
  split at e
  · rename_i c d es' n' sl q
    cases ho.symm.trans (k _ _ q)
    cases hd
    split at e
    · rename_i en he
      cases e
      rw [← hf]
      unfold nsFind findBy
      rw [← Array.find?_toList, he]
      rfl
    · split at e
      · cases e
      · cases e
  · cases e
theorem NeC.heap {K : PySem.W.Frag} {h : Heap} (c : NeC K C f N) (k : K.In h) {x : Addr} {o : Obj} (hx : h.get? x = some o) (hc : o.cls = .ref C) :
    h.OwnEqNoNe x C f "object" [.type "object"] := by
  obtain ⟨nm, q, bs, sn, sub, ab, col, dd, k0, k1, k2, k3, k5, newId, hC⟩ := c.cls
  obtain ⟨of, hf, ft⟩ := c.fn
  have ns := Heap.Ns.of_isNs (PySem.W.isNs_of_in k c.ok)
  exact ⟨o, of, nm, q, N, bs, true, sn, sub, ab, col, dd, k0, k1, k2, k3, k5, newId, _, _, hx, hc, k _ _ hC, ns,
    ns_some k ns c.eq, k _ _ hf, ft, PySem.F.cmp_object.mro, PySem.F.cmp_object.eq.lookup, PySem.W.nsMap_none_of_in k c.ok c.ne⟩

/-- x != y -/
theorem op_neOwn (hr : Room (n + 1) X.A) (F : FnOk X.prog X.w X.K X.mg X.base CX0 n f fd ps sp) (hb : Binds X.K fd ps []) (c : NeC X.K C f N) :
    OpR X (compareOp .NotEq) (fun x y H Q => ∃ (a b dx dy : Addr) (fs gs : List (Str × V)), x = .ref a ∧ y = .ref b ∧
      H a = some (.ins C dx fs) ∧ H b = some (.ins C dy gs) ∧
      sp [.ref a, .ref b] H (fun v H' => ∃ k, v = .bl k ∧ Q (.bl (!k)) H') E0) := by
  rintro pins s σ H x y u v Q I rx ry ⟨a, b, dx, dy, fs, gs, rfl, rfl, ha, hb', h⟩
  obtain rfl := rx
  obtain rfl := ry
  obtain ⟨mA, J, _⟩ := ins_get I.hok ha
  obtain ⟨mB, J', _⟩ := ins_get I.hok hb'
  show wpAny _ _ (richCompare .NotEq (.ref a) (.ref b)) _ _ _
  obtain ⟨hp, g, d, t, os⟩ := s
  refine richCompare_ne_ownEq PySem.F.cmp_object (c.heap I.kIn J.1 rfl) J'.1 rfl (by have := hr.units; omega) ?_
  refine thn (run_at (us := [.ref a, .ref b]) (vs := [.ref a, .ref b]) F hb (A := X.A.in1) ⟨hr.in1, rfl⟩ I (.cons rfl (.cons rfl .nil)) h) ?_
  rintro r s' ⟨z, H', I', rz, k, rfl, q⟩
  obtain rfl := rz
  exact ⟨k, rfl, .bl (!k), H', I', rfl, q⟩
end
end L2.Gd
end

section
set_option Elab.async false
set_option linter.all false
set_option maxRecDepth 100000
set_option maxHeartbeats 2000000
namespace L2.Gd
open PySem PySem.Spec PyProof.Rows
section
variable {X : Cx} {k : Nat} {f C : Addr} {fd : FuncData} {ps ks : List Str} {sp : Sp} {x m : Str} {p pos apos : Pos}
  {o : Expr} {kws : List Keyword} {ta tk : TE} {tks : TA} {g : List Value → List Value → List Value} {gV : List V → List V → List V}
/-- a call with keywords alone of a def: it binds by KBn -/
theorem run_kw {pins : List (Addr × Obj)} {σ : St} {H : Hp} {s : Shared} {Q : VK} {us ws : List Value} {vs zs : List V} {n : Nat}
    (F : FnOk X.prog X.w X.K X.mg X.base CX0 k f fd ps sp) (hr : Room k X.A) (hb : KBn X.K fd ps n ks g gV)
    (I : Inv X pins σ H s) (r : Vals vs us) (rz : Vals zs ws) (l1 : vs.length = n) (l2 : zs.length = ks.length)
    (h : sp (gV vs zs) H Q E0) : wpAny (model X.prog X.w) X.A (call (.ref f) us (ks.zip ws)) (EP X pins σ Q) X.xe s := by
  have n1 : us.length = n := r.length.symm.trans l1
  have n2 : ws.length = ks.length := rz.length.symm.trans l2
  refine wpAny_call (codeAny_mono (F.run X.A X.stack s H ⟨us, ks.zip ws⟩ (g us ws) (gV vs zs) Q E0 hr I.env0
    (hb.to s us ws I.kIn n1 n2) (hb.rel r rz) h) ?_)
  intro res s' hq
  cases res with
  | error er => exact (show False from hq).elim
  | ok fl =>
    cases fl with
    | ret u => exact I.after hq
    | next => exact hq.elim
    | brk => exact hq.elim
    | cont => exact hq.elim
/-- o.m(k = v, ..), o an instance of the class at C -/
def tMethK (C : Addr) (m : Str) (n : Nat) (sp : Sp) (gV : List V → List V → List V) (ta : TE) (tk : TA) : TE := fun σ H Q =>
  ta σ H fun x H1 => ∃ a dx fs, x = .ref a ∧ H1 a = some (.ins C dx fs) ∧ fs.lookup m = none ∧
    tk σ H1 fun zs H2 => zs.length = n ∧ sp (gV [x] zs) H2 Q E0
theorem pe_methK0 {pl : Sem Bool} (he : PE X o ta) (c : Cls X.K C) (hm : Meth X.K C m f)
    (F : FnOk X.prog X.w X.K X.mg X.base CX0 k f fd ps sp) (hr : Room k X.A) (hb : KBn X.K fd ps 1 ks g gV) (hkw : PK X kws tks)
    (hall : (backToKw pos (keywordEach kws X.env)).all (·.1.isSome) = true := by rfl)
    (hks : (backToKw pos (keywordEach kws X.env)).filterMap (·.1) = ks := by rfl)
    (hpl : ((backTo pos (starEach [] X.env)).any (·.1) || (backToKw pos (keywordEach kws X.env)).any (·.1.isNone)) = false := by rfl)
    (ht : eval (.Call (.Attribute o m apos) [] kws pos) X.env = (do
      let ov ← eval o X.env
      standAt apos.atName
      let (f, first) ← holding [ov] (getMethod ov m pl)
      callWith pos f first (backTo pos (starEach [] X.env))
        (backToKw pos (keywordEach kws X.env))) := by rfl) :
    PE X (.Call (.Attribute o m apos) [] kws pos) (tMethK C m ks.length sp gV ta tks) := by
  constructor
  intro pins s σ H Q I h
  refine PySem.W.methodCall_KW (pl := pl) (thn (he.run pins s σ H _ I h) ?_) ht
  rintro u s1 ⟨x, H1, I1, rx, a, dx, fs, rfl, ea, l, q⟩
  obtain rfl := rx
  refine getmeth_ok I1 ea c hm l ?_
  refine PySem.W.callWith_KW0 (first := [.ref a]) (h₀ := X.base) I.ok.mod.kin hm.kp hall ?_ hpl
  refine thn (hkw.run pos pins s1 σ H1 _ I1 q) ?_
  rintro ws s2 ⟨zs, H2, I2, rz, l2, q2⟩
  refine ⟨I2.kIn, ?_⟩
  rw [hks]
  have r1 : Vals [V.ref a] [Value.ref a] := .cons rfl .nil
  exact run_kw (us := [Value.ref a]) (vs := [V.ref a]) F hr hb I2 r1 rz rfl l2 q2
end
end L2.Gd
end

section
set_option Elab.async false
set_option linter.all false
set_option maxRecDepth 100000
set_option maxHeartbeats 2000000
namespace L2.K23
open PySem PySem.Spec PyProof.Rows
def top (i : Nat) : Stmt := PySem.Challenge.pw_lonetill_k23_whole_goings_in_laps.main.body.getD i (.Pass ⟨0, 0, 0, 0⟩)
abbrev sIsInt : Stmt := top 2
abbrev sIsCount : Stmt := top 3
abbrev sIsList : Stmt := top 4
abbrev sIsDeed : Stmt := top 40
abbrev sCheck : Stmt := top 41
abbrev cHouse (i : Nat) : Stmt := inClass (top 42) i

/-- built-in names that the module leaves alone -/
structure Nm (mg : Str → Option Value) : Prop where
  isi : mg "isinstance" = none
  int : mg "int" = none
  bool : mg "bool" = none
  list : mg "list" = none
  tuple : mg "tuple" = none
  str : mg "str" = none
  len : mg "len" = none
  all : mg "all" = none
  any : mg "any" = none
  enumerate : mg "enumerate" = none
  range : mg "range" = none
  sorted : mg "sorted" = none
  abs : mg "abs" = none
  max : mg "max" = none
  min : mg "min" = none
  repr : mg "repr" = none
  divmod : mg "divmod" = none
  ni : mg "NotImplemented" = none

/-! ### deeds -/
structure Dd where
  p : Int
  c : Int
  g : Int
  w : Str
  deriving DecidableEq
def Dd.vs (x : Dd) : List V := [.int x.p, .int x.c, .int x.g, .str x.w]
def Dd.d (x : Dd) : PyData := .tuple [.int x.p, .int x.c, .int x.g, .str x.w]
structure Dd.Ok (n : Int) (x : Dd) : Prop where
  p0 : 0 ≤ x.p
  pn : x.p < n
  g0 : 0 ≤ x.g
  gn : x.g < n
  w : (x.w = "any" ∧ -1 ≤ x.c ∧ x.c ≤ 1) ∨ (x.w = "empty" ∧ 0 ≤ x.c ∧ x.c ≤ 1)
def DdAt (H : Hp) (v : V) (x : Dd) : Prop := ∃ t, v = .ref t ∧ H t = some (.tup x.vs)

section
variable {P : Program} {w : World} {K : PySem.W.Frag} {mg : Str → Option Value} {base : Heap}

/-- what isinstance(x, T) asks, T a built-in type -/
theorem isi_mk {H : Hp} {v : V} {t T : String} {b : Bool} {Q : VK} (h : TyX K H v (.type t)) (e : kitB t T = some b) (q : Q (.bl b) H) :
    rIsi K [v, .ty T] H Q := ⟨_, _, _, _, b, rfl, .ty _, h, kit_ty e, q⟩
def tIsi (K : PySem.W.Frag) (te : TE) (T : String) : TE := fun σ H Q => te σ H fun v H1 => rIsi K [v, .ty T] H1 Q
theorem blT {p : Prop} [Decidable p] {Q : VK} {H : Hp} (h : p) (k : Q (.bl true) H) : Q (.bl (decide p)) H := by
  rw [decide_eq_true h]
  exact k
theorem blF {p : Prop} [Decidable p] {Q : VK} {H : Hp} (h : ¬ p) (k : Q (.bl false) H) : Q (.bl (decide p)) H := by
  rw [decide_eq_false h]
  exact k
theorem blNT {p : Prop} [Decidable p] {Q : VK} {H : Hp} (h : ¬ p) (k : Q (.bl true) H) : Q (.bl (!decide p)) H := by
  rw [decide_eq_false h]
  exact k
theorem blNF {p : Prop} [Decidable p] {Q : VK} {H : Hp} (h : p) (k : Q (.bl false) H) : Q (.bl (!decide p)) H := by
  rw [decide_eq_true h]
  exact k
section
variable {X : Cx} {e : Expr} {te : TE} {p q pos : Pos}
theorem pe_isInt (n : Nm X.mg) (he : PE X e te) (g1 : Gl X "isinstance" := by rfl) (g2 : Gl X "int" := by rfl)
    (s1 : starEach [e, .Name "int" q] X.env = (false, eval e X.env) :: starEach [.Name "int" q] X.env := by rfl)
    (s2 : starEach [.Name "int" q] X.env = (false, eval (.Name "int" q) X.env) :: starEach [] X.env := by rfl)
    (hpl : (backTo pos (starEach [.Name "int" q] X.env)).any (·.1) = false := by rfl) :
    PE X (.Call (.Name "isinstance" p) [e, .Name "int" q] [] pos) (tIsi X.K te "int") :=
  pe_callB call_isi g1 n.isi (by decide +kernel) (pa_cons he (pa_cons (pe_bltn (v := .ty "int") g2 n.int (by decide +kernel) rfl) pa_nil s2) s1) (he := s1) (hpl := hpl)
theorem pe_isBool (n : Nm X.mg) (he : PE X e te) (g1 : Gl X "isinstance" := by rfl) (g2 : Gl X "bool" := by rfl)
    (s1 : starEach [e, .Name "bool" q] X.env = (false, eval e X.env) :: starEach [.Name "bool" q] X.env := by rfl)
    (s2 : starEach [.Name "bool" q] X.env = (false, eval (.Name "bool" q) X.env) :: starEach [] X.env := by rfl)
    (hpl : (backTo pos (starEach [.Name "bool" q] X.env)).any (·.1) = false := by rfl) :
    PE X (.Call (.Name "isinstance" p) [e, .Name "bool" q] [] pos) (tIsi X.K te "bool") :=
  pe_callB call_isi g1 n.isi (by decide +kernel) (pa_cons he (pa_cons (pe_bltn (v := .ty "bool") g2 n.bool (by decide +kernel) rfl) pa_nil s2) s1) (he := s1) (hpl := hpl)
theorem pe_isTuple (n : Nm X.mg) (he : PE X e te) (g1 : Gl X "isinstance" := by rfl) (g2 : Gl X "tuple" := by rfl)
    (s1 : starEach [e, .Name "tuple" q] X.env = (false, eval e X.env) :: starEach [.Name "tuple" q] X.env := by rfl)
    (s2 : starEach [.Name "tuple" q] X.env = (false, eval (.Name "tuple" q) X.env) :: starEach [] X.env := by rfl)
    (hpl : (backTo pos (starEach [.Name "tuple" q] X.env)).any (·.1) = false := by rfl) :
    PE X (.Call (.Name "isinstance" p) [e, .Name "tuple" q] [] pos) (tIsi X.K te "tuple") :=
  pe_callB call_isi g1 n.isi (by decide +kernel) (pa_cons he (pa_cons (pe_bltn (v := .ty "tuple") g2 n.tuple (by decide +kernel) rfl) pa_nil s2) s1) (he := s1) (hpl := hpl)
theorem pe_isStr (n : Nm X.mg) (he : PE X e te) (g1 : Gl X "isinstance" := by rfl) (g2 : Gl X "str" := by rfl)
    (s1 : starEach [e, .Name "str" q] X.env = (false, eval e X.env) :: starEach [.Name "str" q] X.env := by rfl)
    (s2 : starEach [.Name "str" q] X.env = (false, eval (.Name "str" q) X.env) :: starEach [] X.env := by rfl)
    (hpl : (backTo pos (starEach [.Name "str" q] X.env)).any (·.1) = false := by rfl) :
    PE X (.Call (.Name "isinstance" p) [e, .Name "str" q] [] pos) (tIsi X.K te "str") :=
  pe_callB call_isi g1 n.isi (by decide +kernel) (pa_cons he (pa_cons (pe_bltn (v := .ty "str") g2 n.str (by decide +kernel) rfl) pa_nil s2) s1) (he := s1) (hpl := hpl)
end

theorem yes_ite {σ : L2.St} {H : Hp} {A B : Hp → Prop} (h : A H) : tYes σ H (fun b H3 => if b = true then A H3 else B H3) := by
  show if true = true then A H else B H
  exact iteT h
def spIsInt : Sp := fun vs H Q _ => ∃ i, vs = [.int i] ∧ Q (.bl true) H
theorem scI : FnScope ["value"] ["value"] (defScope sIsInt) := ⟨rfl, rfl, rfl, by decide +kernel, rfl, by decide +kernel, by decide +kernel⟩
theorem ok_isInt {f : Addr} {fd : FuncData} (F : Fun K "is_integer" "is_integer" sIsInt f fd) (n : Nm mg) : FnOk P w K mg base CX0 1 f fd ["value"] spIsInt := by
  refine F.ok scI (fun vs H Q E h => ?_) (fun cdv A outer s H vs Q E hr h => ?_)
  · obtain ⟨i, rfl, _⟩ := h
    rfl
  · obtain ⟨i, rfl, k⟩ := h
    refine ⟨_, pss_one (ps_ret (pe_and (pe_isInt n (pv 0)) (pe_one (pe_not (pe_isBool n (pv 0)))))), ?_⟩
    refine ⟨_, rfl, isi_mk (t := "int") (b := true) (.base (.int _)) (by decide +kernel) ⟨true, rfl, iteT ?_⟩⟩
    exact ⟨_, rfl, isi_mk (t := "int") (b := false) (.base (.int _)) (by decide +kernel) ⟨false, rfl, k⟩⟩

/-- a def called by its name: what a caller needs of it -/
structure Fn (P : Program) (w : World) (K : PySem.W.Frag) (mg : Str → Option Value) (base : Heap) (k : Nat) (x : Str) (ps : List Str) (sp : Sp) : Prop where
  ex : ∃ f fd, mg x = some (.ref f) ∧ PySem.W.keepIn K (.ref f) = true ∧ Binds K fd ps [] ∧ FnOk P w K mg base CX0 k f fd ps sp
theorem pe_fn {X : Cx} {k : Nat} {x : Str} {ps : List Str} {sp : Sp} {e : Expr} {es : List Expr} {t : TA} {p pos : Pos}
    (F : Fn X.prog X.w X.K X.mg X.base k x ps sp) (hr : Room k X.A) (ha : PA X (e :: es) t) (gl : Gl X x := by rfl) (hdb : (x == ("__debug__" : Str)) = false := by decide)
    (he : starEach (e :: es) X.env = (false, eval e X.env) :: starEach es X.env := by rfl)
    (hpl : (backTo pos (starEach es X.env)).any (·.1) = false := by rfl) :
    PE X (.Call (.Name x p) (e :: es) [] pos) (tCall sp [] E0 t) := by
  obtain ⟨f, fd, m, kp, b, G⟩ := F.ex
  exact pe_call G hr gl m kp b .nil pass0 ha hdb he hpl

def spIsCount : Sp := fun vs H Q _ => ∃ i, vs = [.int i] ∧ 0 ≤ i ∧ Q (.bl true) H
theorem scC : FnScope ["value"] ["value"] (defScope sIsCount) := ⟨rfl, rfl, rfl, by decide +kernel, rfl, by decide +kernel, by decide +kernel⟩
theorem ok_isCount {f : Addr} {fd : FuncData} (F : Fun K "is_count" "is_count" sIsCount f fd) (G : Fn P w K mg base 1 "is_integer" ["value"] spIsInt) : FnOk P w K mg base CX0 2 f fd ["value"] spIsCount := by
  refine F.ok scC (fun vs H Q E h => ?_) (fun cdv A outer s H vs Q E hr h => ?_)
  · obtain ⟨i, rfl, _⟩ := h
    rfl
  · obtain ⟨i, rfl, h0, k⟩ := h
    refine ⟨_, pss_one (ps_ret (pe_and (pe_fn G hr (pa_cons (pv 0) pa_nil)) (pe_one (pe_cmpR op_ge (pv 0) pe_int (nomark _))))), ?_⟩
    refine ⟨_, rfl, _, rfl, true, rfl, iteT ?_⟩
    refine ⟨_, rfl, _, _, rfl, rfl, ?_⟩
    exact blT (Q := Q) h0 k

theorem same_upd {H : Hp} {p : Addr} {o : HO} (h : H p = none) : Same H (upd H p o) := fun a u e => by
  rw [upd_ne (ne_of_none e h)]
  exact e
/-- a list or a tuple of these -/
def Seq (K : PySem.W.Frag) (H : Hp) (a : Addr) (xs : List V) : Prop := H a = some (.lst xs) ∨ H a = some (.tup xs)
def spIsList (K : PySem.W.Frag) : Sp := fun vs H Q _ => ∃ a xs, vs = [.ref a] ∧ Seq K H a xs ∧ ∀ H', Same H H' → Q (.bl true) H'
theorem scL : FnScope ["value"] ["value"] (defScope sIsList) := ⟨rfl, rfl, rfl, by decide +kernel, rfl, by decide +kernel, by decide +kernel⟩
theorem ok_isList {f : Addr} {fd : FuncData} (F : Fun K "is_list" "is_list" sIsList f fd) (n : Nm mg) : FnOk P w K mg base CX0 1 f fd ["value"] (spIsList K) := by
  refine F.ok scL (fun vs H Q E h => ?_) (fun cdv A outer s H vs Q E hr h => ?_)
  · obtain ⟨i, _, rfl, _⟩ := h
    rfl
  · obtain ⟨a, xs, rfl, hs, k⟩ := h
    refine ⟨_, pss_one (ps_ret (pe_callB call_isiT (by rfl) n.isi (by decide +kernel) (pa_cons (pv 0) (pa_cons (pe_tup (pa_cons (pe_bltn (v := .ty "list") (by rfl) n.list (by decide +kernel) rfl) (pa_cons (pe_bltn (v := .ty "tuple") (by rfl) n.tuple (by decide +kernel) rfl) pa_nil))) pa_nil)))), ?_⟩
    refine ⟨_, rfl, (by show 2 ≤ sizeLine; decide), fun p hp => ?_⟩
    have cs : Paired ClsV [V.ty "list", V.ty "tuple"] [Value.type "list", Value.type "tuple"] := .cons (.ty _) (.cons (.ty _) .nil)
    rcases hs with hs | hs
    · refine ⟨_, p, _, _, _, true, rfl, upd_same, cs, .base (.lst (by rw [upd_ne (ne_of_none hs hp)]; exact hs)), ?_, k _ (same_upd hp)⟩
      exact kitAny_cons (kit_ty (b := "list") (r := true) (by decide +kernel)) (fun z => nomatch z) (fun _ => rfl)
    · refine ⟨_, p, _, _, _, true, rfl, upd_same, cs, .base (.tup (by rw [upd_ne (ne_of_none hs hp)]; exact hs)), ?_, k _ (same_upd hp)⟩
      exact kitAny_cons (kit_ty (b := "list") (r := false) (by decide +kernel)) (fun _ => kitAny_cons (kit_ty (b := "tuple") (r := true) (by decide +kernel)) (fun z => nomatch z) (fun _ => rfl)) (fun z => nomatch z)

/-! ### is_deed: asked of deeds alone -/
def spIsDeed : Sp := fun vs H Q _ => ∃ (t : Addr) (x : Dd) (n : Int), vs = [.ref t, .int n] ∧ H t = some (.tup x.vs) ∧ x.Ok n ∧ ∀ H', Same H H' → Q (.bl true) H'
theorem scD : FnScope ["value", "places", "place", "change", "goal", "when", "end"] ["value", "places"] (defScope sIsDeed) := ⟨rfl, rfl, rfl, by decide +kernel, rfl, by decide +kernel, by decide +kernel⟩
theorem ok_isDeed {f : Addr} {fd : FuncData} (F : Fun K "is_deed" "is_deed" sIsDeed f fd) (n : Nm mg)
    (GI : Fn P w K mg base 1 "is_integer" ["value"] spIsInt) (GC : Fn P w K mg base 2 "is_count" ["value"] spIsCount) :
    FnOk P w K mg base CX0 3 f fd ["value", "places"] spIsDeed := by
  refine F.ok scD (fun vs H Q E h => ?_) (fun cdv A outer s H vs Q E hr h => ?_)
  · obtain ⟨t, x, m, rfl, _⟩ := h
    rfl
  · obtain ⟨t, x, m, rfl, ht, ok, k⟩ := h
    have nd := scD.nd
    refine ⟨_, pss_cons (ps_if (pw_or (pt_not (pt_val (pe_isTuple n (pv 0))))
          (pw_or1 (pt_cmpR op_ne (pe_callB call_len_seq (by rfl) n.len PySem.boot_len (pa_cons (pv 0) pa_nil)) pe_int (nomark _)))).pt pss_never pss_nil)
      (pss_cons (ps_asg (pv 0) (pg_tup rfl (pgs_cons (pg_name (i := 2) nd rfl (.inl rfl)) (pgs_cons (pg_name (i := 3) nd rfl (.inl rfl)) (pgs_cons (pg_name (i := 4) nd rfl (.inl rfl)) (pgs_cons (pg_name (i := 5) nd rfl (.inl rfl)) pgs_nil))))))
      (pss_cons (ps_if (pt_not (pt_val (pe_callB (cr_all rfl) (by rfl) n.all (by decide +kernel) (pa_cons
          (pe_lc (own := [("end", 6)]) (g := gName 6) (tt := tYes) rfl nd (pi_tup (pe_tup (pa_cons (pv 2) (pa_cons (pv 4) pa_nil)))) (blkOk_by (N := ["value", "places", "place", "change", "goal", "when", "end"]) (sc := defScope sIsDeed) (by decide +kernel))
            (fun _ _ _ _ _ => pg_name (i := 6) nd rfl (.inl rfl)) (fun _ _ _ _ _ => pts_nil)
            (fun _ _ _ _ _ => pe_and (pe_fn GC hr (pa_cons (pv 6) pa_nil)) (pe_one (pe_cmpR op_lt (pv 6) (pv 1) (nomark _))))) pa_nil)))) pss_never pss_nil)
      (pss_cons (ps_if (pw_or (pt_not (pt_val (pe_fn GI (hr.mono (by decide)) (pa_cons (pv 3) pa_nil)))) (pw_or1 (pt_not (pt_val (pe_isStr n (pv 5)))))).pt pss_never pss_nil)
      (pss_one (ps_ret (pe_or (pe_and (pe_cmpR op_eq (pv 5) pe_str (nomark _)) (pe_one (pe_chain op_le op_le (pe_un un_neg pe_int) (pv 3) pe_int)))
        (pe_one (pe_and (pe_cmpR op_eq (pv 5) pe_str (nomark _)) (pe_one (pe_chain op_le op_le pe_int (pv 3) pe_int))))))))) ), ?_⟩
    -- the first test: a tuple, of four
    refine ⟨_, rfl, isi_mk (t := "tuple") (b := true) (.base (.tup ht)) (by decide +kernel) ⟨true, rfl, iteF ?_⟩⟩
    refine ⟨_, rfl, t, x.vs, rfl, .inr (.inl (.inl ht)), rfl, false, rfl, iteF ?_⟩
    refine ⟨_, rfl, t, x.vs, rfl, .inl (.inl ht), rfl, _, _, rfl, _, _, rfl, _, _, rfl, _, _, rfl, rfl, ?_⟩
    -- all([is_count(end) and end < places for end in (place, goal)])
    refine ⟨_, rfl, _, rfl, (by show 2 ≤ sizeLine; decide), fun q hq => ⟨q, rfl, ⟨_, .inl (.inl upd_same)⟩, fun D hD => ?_⟩⟩
    have s1 := same_upd (o := .tup [V.int x.p, V.int x.g]) hq
    have nqD : q ≠ D := ne_of_none upd_same hD
    refine lc_tup (xs := [V.int x.p, V.int x.g]) (fun i H' => H' D = some (.lst (List.replicate i (.bl true))) ∧ ∀ b o, b ≠ D → upd H q (.tup [V.int x.p, V.int x.g]) b = some o → H' b = some o) ⟨upd_same, fun b o hb e => by rw [upd_ne hb]; exact e⟩ (fun i H' _ hI => .inl (.inl (hI.2 _ _ nqD upd_same))) ?_ ?_
    · intro i y H' hi hI
      have hy : ∃ z, y = V.int z ∧ 0 ≤ z ∧ z < m := by
        match i, hi with
        | 0, hi => cases hi; exact ⟨_, rfl, ok.p0, ok.pn⟩
        | 1, hi => cases hi; exact ⟨_, rfl, ok.g0, ok.gn⟩
      obtain ⟨z, rfl, z0, zn⟩ := hy
      refine ⟨rfl, yes_ite ?_⟩
      refine ⟨_, rfl, _, rfl, z0, true, rfl, iteT ?_⟩
      refine ⟨_, rfl, _, rfl, _, _, rfl, rfl, ?_⟩
      have hl : i < 2 := (List.getElem?_eq_some_iff.mp hi).1
      refine ⟨_, hI.1, (by rw [List.length_replicate]; exact small1000 (by omega)), ?_, fun b o hb e => by rw [upd_ne hb]; exact hI.2 b o hb e⟩
      rw [upd_same, List.replicate_succ']
      show some (HO.lst (List.replicate i (V.bl true) ++ [V.bl (decide (z < m))])) = _
      rw [decide_eq_true zn]
    · intro H' ⟨hD', hK'⟩
      have s2 : Same H H' := fun b o e => hK' b o (ne_of_none (s1 b o e) hD) (s1 b o e)
      have ht' : H' t = some (.tup x.vs) := s2 _ _ ht
      refine ⟨D, [true, true], rfl, .inl (.inl hD'), true, rfl, ?_⟩
      refine iteF ?_
      refine ⟨_, rfl, _, rfl, true, rfl, ?_⟩
      refine iteF ?_
      refine ⟨_, rfl, isi_mk (t := "str") (b := true) (.base (.str _)) (by decide +kernel) ⟨true, rfl, ?_⟩⟩
      refine iteF ?_
      have fin := k H' s2
      rcases ok.w with ⟨e, l, u⟩ | ⟨e, l, u⟩
      · refine ⟨_, rfl, rfl, true, congrArg V.bl (decide_eq_true (by rw [e])), ?_⟩
        refine iteT ?_
        refine ⟨1, rfl, _, rfl, _, _, rfl, rfl, true, congrArg V.bl (decide_eq_true l), ?_⟩
        refine iteT ?_
        refine ⟨_, _, rfl, rfl, true, congrArg V.bl (decide_eq_true u), ?_⟩
        exact iteT fin
      · have ne : ¬ V.str x.w = V.str "any" := by
          rw [e]
          decide +kernel
        refine ⟨_, rfl, rfl, false, congrArg V.bl (decide_eq_false ne), ?_⟩
        refine iteF ?_
        refine ⟨false, rfl, ?_⟩
        refine iteF ?_
        refine ⟨_, rfl, rfl, true, congrArg V.bl (decide_eq_true (by rw [e])), ?_⟩
        refine iteT ?_
        refine ⟨_, rfl, _, _, rfl, rfl, true, congrArg V.bl (decide_eq_true l), ?_⟩
        refine iteT ?_
        exact ⟨_, _, rfl, rfl, blT (Q := Q) u fin⟩
end
end L2.K23
end

section
set_option Elab.async false
set_option linter.all false
set_option maxRecDepth 100000
set_option maxHeartbeats 2000000
/-! enumerate of a tuple -/
namespace PyProof.Rows
open PySem
open Sem (wp)
open AutoSeq1 (wpAny_loadPart')
section
variable {prog : Program} {w : World} {A : Around} {E : Value → Shared → Prop} {s : Shared} {I T e : Addr} {i : Nat} {xs : Array Value} {x old : Value}
/-- the tuple's iterator, asked from within a builtin -/
theorem nextOf_tup {Q : Value → Shared → Prop} (it : IsTupIter s.heap I T i) (ht : IsTup s.heap T xs) (hx : xs[i]? = some x)
    (k : ∀ h', IsTupIter h' I T (i + 1) → Heap.SameBut I s.heap h' → Q x { s with heap := h' }) :
    wpAny (model prog w) A (Builtin.SmallTypes.nextOf (.ref I)) Q E s := by
  obtain ⟨o, oi, oc, od⟩ := id it
  obtain ⟨p, op, _, m, pd⟩ := ht
  unfold Builtin.SmallTypes.nextOf
  refine wpAny_bind (wpAny_callSpecial?_slot (name := Str.ofString "__next__") it.typeIs slot_tupleiter_next (wpAny_call_entry slot_tupleiter_next it.typeIs entry_tupleiter_next
    (?a : wpAny _ _ _ _ _ _) (args_tupleiter_next _)))
  show wpAny _ _ (field (.ref I) 0 >>= _) _ _ s
  refine wpAny_bind (wpAny_field oi od (x := .ref T) rfl ?_)
  show wpAny _ _ (if (Value.ref T == Value.none) = true then _ else _) _ _ s
  rw [if_neg (show ¬ ((Value.ref T == Value.none) = true) from Bool.false_ne_true)]
  show wpAny _ _ (field (.ref I) 1 >>= _) _ _ s
  refine wpAny_bind (wpAny_field oi od (x := .int i 0) rfl ?_)
  show wpAny _ _ (seqItems? (.ref T) >>= _) _ _ s
  refine wpAny_bind (wpAny_seqItems op pd ?_)
  simp only [hx, Int.toNat_natCast]
  refine wpAny_bind (wpAny_setField oi od (by simp) (wpAny_pure ⟨x, rfl, wpAny_pure (k _ ⟨_, Heap.get?_update_self _ oi (Obj.isFreed_of_fields (Obj.data_mapFields od _)), (Obj.cls_mapFields ..).trans oc, ?_⟩ (Heap.SameBut.update ..))⟩))
  rw [Obj.data_mapFields od]
  simp [rawInt]
theorem nextOf_tup_end {Q : Value → Shared → Prop} (hh : A.handled = none) (it : IsTupIter s.heap I T i) (ht : IsTup s.heap T xs) (hx : xs[i]? = none)
    (k : ∀ h' c, Heap.ExtBut I s.heap h' → (∃ o, h'.get? c = some o ∧ o.cls = .type "StopIteration") → E (.ref c) { s with heap := h' }) :
    wpAny (model prog w) A (Builtin.SmallTypes.nextOf (.ref I)) Q E s := by
  obtain ⟨o, oi, oc, od⟩ := id it
  obtain ⟨p, op, _, m, pd⟩ := ht
  unfold Builtin.SmallTypes.nextOf
  refine wpAny_bind (wpAny_callSpecial?_slot (name := Str.ofString "__next__") it.typeIs slot_tupleiter_next (wpAny_call_entry slot_tupleiter_next it.typeIs entry_tupleiter_next
    (?a : wpAny _ _ _ _ _ _) (args_tupleiter_next _)))
  show wpAny _ _ (field (.ref I) 0 >>= _) _ _ s
  refine wpAny_bind (wpAny_field oi od (x := .ref T) rfl ?_)
  show wpAny _ _ (if (Value.ref T == Value.none) = true then _ else _) _ _ s
  rw [if_neg (show ¬ ((Value.ref T == Value.none) = true) from Bool.false_ne_true)]
  show wpAny _ _ (field (.ref I) 1 >>= _) _ _ s
  refine wpAny_bind (wpAny_field oi od (x := .int i 0) rfl ?_)
  show wpAny _ _ (seqItems? (.ref T) >>= _) _ _ s
  refine wpAny_bind (wpAny_seqItems op pd ?_)
  simp only [hx, Int.toNat_natCast]
  refine wpAny_bind (wpAny_rule (wpAny_bind (wpAny_setField oi od (by simp) ?_)))
  show wpAny _ _ (newExc (.type "StopIteration") ([] : List Value) >>= _) _ _ _
  refine wpAny_bind ?_
  simp only [newTuple, newExc]
  refine wpAny_bind (wpAny_newObj_type ?_ (by size_fits))
  refine wpAny_bind (m := firstArgMember _ _) (wpAny_of_eq (a := Value.none) rfl ?_)
  refine wpAny_newObj_type ?_ (by size_fits)
  simp only [raiseNew]
  refine wpAny_bind (wpAny_handled ?_)
  rw [show A.in1.handled = none from hh]
  exact wpAny_bind (wpAny_pure (wpAny_throw (k _ _ (((Heap.SameBut.update ..).extBut.push _).push _) ⟨_, Heap.get?_push_size _ rfl, rfl⟩)))
/-- enumerate.__next__ over a tuple's iterator: a pair -/
theorem enumT_item {Q : Value → Shared → Prop} (he : IsEnum s.heap e I i old) (it : IsTupIter s.heap I T i) (ht : IsTup s.heap T xs) (hx : xs[i]? = some x) (ne : e ≠ I)
    (k : ∀ h', IsEnumOut h' e I ((i : Int) + 1) x s.heap.objs.size → IsTupIter h' I T (i + 1) →
      h'.get? s.heap.objs.size = some { cls := .type "tuple", data := .seq #[.int i s.toks, x] } → h'.objs.size = s.heap.objs.size + 1 →
      (∀ b o, b ≠ e → b ≠ I → s.heap.get? b = some o → h'.get? b = some o) → Q (.ref s.heap.objs.size) { s with heap := h', toks := s.toks + 1 }) :
    wpAny (model prog w) A (Builtin.«enumerate.__next__» ⟨[.ref e], []⟩) (fun r s' => ∃ v, r = .done (.ret v) ∧ Q v s') E s := by
  obtain ⟨hp, gs, dr, tk, os⟩ := s
  show wpAny _ _ (field (.ref e) 2 >>= _) _ _ (⟨hp, gs, dr, tk, os⟩ : Shared)
  refine wpAny_bind (wpAny_field he rfl (x := .ref I) rfl (wpAny_bind (nextOf_tup it ht hx ?_)))
  intro a1 ia1 (sa1 : Heap.SameBut I hp a1)
  have e1 : IsEnum a1 e I i old := (sa1.2 e ne).trans he
  show wpAny _ _ (field (.ref e) 3 >>= _) _ _ ⟨a1, gs, dr, tk, os⟩
  refine wpAny_bind (wpAny_field e1 rfl (x := rawInt i) rfl ?_)
  show wpAny _ _ (field (.ref e) 4 >>= _) _ _ ⟨a1, gs, dr, tk, os⟩
  refine wpAny_bind (wpAny_field e1 rfl (x := .none) rfl ?_)
  show wpAny _ _ (mkInt i >>= _) _ _ ⟨a1, gs, dr, tk, os⟩
  refine wpAny_bind (wpAny_mkInt ?_)
  show wpAny _ _ (setField (.ref e) 3 (rawInt ((i : Int) + 1)) >>= _) _ _ ⟨a1, gs, dr, tk + 1, os⟩
  refine wpAny_bind (wpAny_setField_rec e1 (by simp) ?_)
  intro a2 (e2 : IsEnum a2 e I ((i : Int) + 1) old) (sa2 : Heap.SameBut e a1 a2)
  show wpAny _ _ (setField (.ref e) 4 .none >>= _) _ _ ⟨a2, gs, dr, tk + 1, os⟩
  refine wpAny_bind (wpAny_setField_rec e2 (by simp) ?_)
  intro a3 (e3 : IsEnum a3 e I ((i : Int) + 1) old) (sa3 : Heap.SameBut e a2 a3)
  show wpAny _ _ (newTuple [.int i tk, x] >>= _) _ _ ⟨a3, gs, dr, tk + 1, os⟩
  refine wpAny_bind (wpAny_newTuple ?_)
  have z3 : a3.objs.size = hp.objs.size := by rw [sa3.1, sa2.1, sa1.1]
  have le : e < hp.objs.size := Heap.lt_size he
  have nz : hp.objs.size ≠ e := Nat.ne_of_gt le
  rw [z3]
  generalize hq : a3.push { cls := .type "tuple", data := .seq #[.int i tk, x] } = a4
  have e4 : IsEnum a4 e I ((i : Int) + 1) old := by
    rw [← hq]
    exact Heap.get?_push_of_some _ e3
  have t4 : a4.get? hp.objs.size = some { cls := .type "tuple", data := .seq #[.int i tk, x] } := by
    rw [← hq, ← z3]
    exact Heap.get?_push_size _ rfl
  have z4 : a4.objs.size = hp.objs.size + 1 := by rw [← hq, Heap.size_push, z3]
  have k4 : ∀ b o, b ≠ e → b ≠ I → hp.get? b = some o → a4.get? b = some o := by
    intro b o h1 h2 h3
    rw [← hq]
    exact Heap.get?_push_of_some _ (sa3.extBut b o h1 (sa2.extBut b o h1 (sa1.extBut b o h2 h3)))
  have i4 : IsTupIter a4 I T (i + 1) := by
    rw [← hq]
    obtain ⟨o, ho, r⟩ := (ia1.extBut sa2.extBut (Ne.symm ne)).extBut sa3.extBut (Ne.symm ne)
    exact ⟨o, Heap.get?_push_of_some _ ho, r⟩
  show wpAny _ _ (Builtin.SmallTypes.ownedTupleIsFree (.ref e) >>= _) _ _ ⟨a4, gs, dr, tk + 1, os⟩
  refine wpAny_bind ?_
  unfold Builtin.SmallTypes.ownedTupleIsFree
  refine wpAny_bind (wpAny_field e4 rfl (x := .none) rfl (wpAny_pure ?_))
  simp only [if_true]
  refine wpAny_bind (wpAny_rule (wpAny_bind (wpAny_field e4 rfl (x := old) rfl ?_)))
  refine wpAny_bind (wpAny_setField_rec e4 (by simp) ?_)
  intro a5 (e5 : IsEnum a5 e I ((i : Int) + 1) x) (sa5 : Heap.SameBut e a4 a5)
  show wpAny _ _ (Builtin.SmallTypes.ownedTupleHandOut (.ref e) (.ref hp.objs.size) >>= _) _ _ ⟨a5, gs, dr, tk + 1, os⟩
  refine wpAny_bind ?_
  unfold Builtin.SmallTypes.ownedTupleHandOut
  refine wpAny_bind (wpAny_setField_rec e5 (by simp) ?_)
  intro a6 (e6 : IsEnumOut a6 e I ((i : Int) + 1) x hp.objs.size) (sa6 : Heap.SameBut e a5 a6)
  refine wpAny_setField_rec e6 (by simp) ?_
  intro a7 (e7 : IsEnumOut a7 e I ((i : Int) + 1) x hp.objs.size) (sa7 : Heap.SameBut e a6 a7)
  refine wpAny_bind (wpAny_letGo (wpAny_pure ⟨_, rfl, k a7 e7 ?_ ?_ ?_ ?_⟩))
  · exact ((i4.extBut sa5.extBut (Ne.symm ne)).extBut sa6.extBut (Ne.symm ne)).extBut sa7.extBut (Ne.symm ne)
  · exact sa7.extBut _ _ nz (sa6.extBut _ _ nz (sa5.extBut _ _ nz t4))
  · rw [sa7.1, sa6.1, sa5.1, z4]
  · exact fun b o h1 h2 h3 => sa7.extBut b o h1 (sa6.extBut b o h1 (sa5.extBut b o h1 (k4 b o h1 h2 h3)))
theorem pyNext_enumT {Q : Option Value → Shared → Prop} (he : IsEnum s.heap e I i old) (it : IsTupIter s.heap I T i) (ht : IsTup s.heap T xs) (hx : xs[i]? = some x) (ne : e ≠ I)
    (k : ∀ h', IsEnumOut h' e I ((i : Int) + 1) x s.heap.objs.size → IsTupIter h' I T (i + 1) →
      h'.get? s.heap.objs.size = some { cls := .type "tuple", data := .seq #[.int i s.toks, x] } → h'.objs.size = s.heap.objs.size + 1 →
      (∀ b o, b ≠ e → b ≠ I → s.heap.get? b = some o → h'.get? b = some o) → Q (some (.ref s.heap.objs.size)) { s with heap := h', toks := s.toks + 1 }) :
    wpAny (model prog w) A (pyNext (.ref e)) Q E s := by
  have ty : s.TypeIs (.ref e) "enumerate" := ⟨_, he, rfl⟩
  unfold pyNext
  refine wpAny_bind (wpAny_attempt (wpAny_callSpecial?_slot (name := Str.ofString "__next__") ty F.slot_enumerate_next ?_))
  refine wpAny_call_entry F.slot_enumerate_next ty F.entry_enumerate_next ?_ (F.args_enumerate_next_1 _)
  exact enumT_item he it ht hx ne fun h' q1 q2 q3 q4 q5 => wpAny_pure (k h' q1 q2 q3 q4 q5)
theorem pyNext_enumT_end {Q : Option Value → Shared → Prop} (hh : A.handled = none) (he : IsEnum s.heap e I i old) (it : IsTupIter s.heap I T i) (ht : IsTup s.heap T xs) (hx : xs[i]? = none)
    (k : ∀ h', Heap.ExtBut I s.heap h' → Q none { s with heap := h' }) : wpAny (model prog w) A (pyNext (.ref e)) Q E s := by
  have ty : s.TypeIs (.ref e) "enumerate" := ⟨_, he, rfl⟩
  unfold pyNext
  refine wpAny_bind (wpAny_attempt (wpAny_callSpecial?_slot (name := Str.ofString "__next__") ty F.slot_enumerate_next ?_))
  refine wpAny_call_entry F.slot_enumerate_next ty F.entry_enumerate_next ?_ (F.args_enumerate_next_1 _)
  show wpAny _ _ (field (.ref e) 2 >>= _) _ _ s
  refine wpAny_bind (wpAny_field he rfl (x := .ref I) rfl (wpAny_bind (nextOf_tup_end hh it ht hx ?_)))
  rintro h' c q ⟨o, ho, hc⟩
  exact wpAny_bind (wpAny_isInstance (T := "StopIteration") (b := true) ⟨o, ho, hc⟩ isSubtype_stop (wpAny_pure (k _ q)))
/-- enumerate(t) -/
theorem call_enumT {Q : Value → Shared → Prop} (ht : IsTup s.heap T xs)
    (k : ∀ h', IsEnum h' (s.heap.objs.size + 1) s.heap.objs.size 0 .none → IsTupIter h' s.heap.objs.size T 0 →
      (∀ b o, s.heap.get? b = some o → h'.get? b = some o) → Q (.ref (s.heap.objs.size + 1)) { s with heap := h' }) :
    wpAny (model prog w) A (call (.type "enumerate") [.ref T]) Q E s := by
  obtain ⟨o, ho, hc, n, hd⟩ := id ht
  let mid := s.heap.push { cls := .type "tuple_iterator", data := .fields #[.ref T, .int 0 0] }
  let fin := mid.push { cls := .type "enumerate", data := .fields #[.none, .bool false, .ref s.heap.objs.size, rawInt 0, .none, .none] }
  have meets : Meets (Builtin.«enumerate.__new__» ⟨[.type "enumerate", .ref T], []⟩) (fun _ R s' => (∃ o, s'.heap.get? T = some o ∧ o.cls = .type "tuple" ∧ ∃ n, o.data = .seq xs n) ∧
      R (.ok (.ret (.ref (s'.heap.push { cls := .type "tuple_iterator", data := .fields #[.ref T, .int 0 0] }).objs.size)))
        { s' with heap := (s'.heap.push { cls := .type "tuple_iterator", data := .fields #[.ref T, .int 0 0] }).push { cls := .type "enumerate", data := .fields #[.none, .bool false, .ref s'.heap.objs.size, rawInt 0, .none, .none] } }) :=
    .of_wp fun prog w A R s' h => by
      obtain ⟨hp, g, d, tk, os⟩ := s'
      obtain ⟨hT, h⟩ := h
      obtain ⟨o', ho', _⟩ := id hT
      have sub := sub_enumerate
      have tu : IsTup (Shared.heap ⟨hp, g, d, tk, os⟩) T xs := hT
      wp_walk using wpAny_loadPart' ho'
      refine wpAny_stack_any fun st => wpAny_pure ?_
      split
      · rename_i c _ _ _ _ _
        cases (c == Value.type "enumerate") <;> (wp_walk using wpAny_loadPart' ho', iter_tuple tu; exact ⟨_, rfl, h⟩)
      · wp_walk using wpAny_loadPart' ho', iter_tuple tu
        exact ⟨_, rfl, h⟩
  have z : mid.objs.size = s.heap.objs.size + 1 := Heap.size_push ..
  have he : IsEnum fin (s.heap.objs.size + 1) s.heap.objs.size 0 .none := by
    have q := Heap.get?_push_size mid (o := { cls := .type "enumerate", data := .fields #[.none, .bool false, .ref s.heap.objs.size, rawInt 0, .none, .none] }) rfl
    rw [z] at q
    exact q
  refine callType_new F.called_enumerate (by decide) (F.typeCall_enumerate_1 _) (F.newCall_enumerate_1 _) (fun obj => F.args_object_init_2 obj _) F.entry_enumerate_new meets ⟨ht, ?_⟩
  show _ ∧ _
  rw [show (s.heap.push { cls := .type "tuple_iterator", data := .fields #[.ref T, .int 0 0] }).objs.size = s.heap.objs.size + 1 from z]
  exact ⟨⟨_, he, rfl⟩, k fin he ⟨_, Heap.get?_push_of_some _ (Heap.get?_push_size _ rfl), rfl, rfl⟩ fun b o q => Heap.get?_push_of_some _ (Heap.get?_push_of_some _ q)⟩
end
end PyProof.Rows

namespace L2.Gd
open PySem PySem.Spec PyProof.Rows
/-- the tuple at a: each item in a new pair -/
def IteT (K : PySem.W.Frag) (a : Addr) : It where
  go := fun i H => ∃ (xs : List V) (x : V), SqT K H a xs ∧ xs[i]? = some x
  yld := fun i H v H' => ∃ T x, v = .ref T ∧ H T = none ∧ H' = upd H T (.tup [.int (i : Nat), x]) ∧ ∀ xs, SqT K H a xs → xs[i]? = some x
  stop := fun i H => ∃ xs : List V, SqT K H a xs ∧ xs.length ≤ i
theorem turn_enumT {P : Program} {w : World} {K : PySem.W.Frag} {elts : List Expr} {kk : Nat} {tpos : Pos} (a e I : Addr) :
    Turn P w K (.Tuple elts kk tpos) (IteT K a) [e, I] e (fun i h => (∃ old, IsEnum h e I ((i : Nat) : Int) old) ∧ IsTupIter h I a i ∧ e ≠ I) where
  mem := List.mem_cons_self
  obj := by
    rintro i h ⟨⟨old, he⟩, ⟨o, ho, hc, hd⟩, _⟩ b hb
    rcases List.mem_cons.mp hb with rfl | hb
    · exact ⟨_, he, fun v q => nomatch q⟩
    · obtain rfl := List.mem_singleton.mp hb
      exact ⟨o, ho, fun v q => by rw [hd] at q; exact nomatch q⟩
  keep := by
    rintro i h h' ⟨⟨old, he⟩, ⟨o, ho, r⟩, ne⟩ k
    exact ⟨⟨old, k e (by simp) _ he⟩, ⟨o, k I (by simp) _ ho, r⟩, ne⟩
  item := by
    rintro X hP hw hK hc i pins s σ H E J hf ⟨⟨old, he⟩, it, ne⟩ ⟨xs, x, hq, hx⟩
    subst hP hw hK
    obtain ⟨its, rv, tu, _⟩ := J.tuple hq
    obtain ⟨u, hu, ru⟩ := rv.get hx
    have le : e < s.heap.objs.size := Heap.lt_size he
    have li : I < s.heap.objs.size := let ⟨_, q, _⟩ := it; Heap.lt_size q
    refine pyNext_enumT he it tu (x := u) (by simpa using hu) ne ?_
    intro h1 out it1 tup1 z1 k1
    refine ⟨_, rfl, wpAny_letOwnedTupleGo_enum (s := { s with heap := h1, toks := s.toks + 1 }) out ?_⟩
    intro h2 he2 sb
    have tup2 : h2.get? s.heap.objs.size = some { cls := .type "tuple", data := .seq #[.int i s.toks, u] } := (sb.2 _ (Nat.ne_of_gt le)).trans tup1
    have new : ObjOk X.prog X.w (upd H s.heap.objs.size (.tup [.int (i : Nat), x])) h2 s.heap.objs.size (.tup [.int (i : Nat), x]) :=
      ⟨by show 2 ≤ sizeLine; decide, [.int i s.toks, u], .cons ⟨_, rfl⟩ (.cons ru .nil), ⟨_, tup2, rfl, _, rfl⟩⟩
    have J1 : Inv X pins σ (upd H s.heap.objs.size (.tup [.int (i : Nat), x])) { s with heap := h2, toks := s.toks + 1 } := by
      refine J.turnedNew (ch := [e, I]) (fun b o hb q => ?_) hf (Nat.le_refl _) new
      have b1 : b ≠ e := fun z => hb (by simp [z])
      have b2 : b ≠ I := fun z => hb (by simp [z])
      exact (sb.2 b b1).trans (k1 b o b1 b2 q)
    refine ⟨.ref s.heap.objs.size, _, J1, rfl, ⟨_, x, rfl, J.hok.fresh (Nat.le_refl _), rfl, fun ys hy => by rw [J.tuple_inj hy hq]; exact hx⟩, ⟨⟨u, ?_⟩, ?_, ne⟩, ?_⟩
    · rw [show ((i + 1 : Nat) : Int) = (i : Int) + 1 by omega]
      exact he2
    · obtain ⟨o, ho, r⟩ := it1
      exact ⟨o, (sb.2 I (Ne.symm ne)).trans ho, r⟩
    · intro b hb
      have lb : b < s.heap.objs.size := by
        rcases List.mem_cons.mp hb with rfl | q
        · exact le
        · obtain rfl := List.mem_singleton.mp q
          exact li
      rw [upd_ne (Nat.ne_of_lt lb)]
      exact (hf b hb).1
  done := by
    rintro X hP hw hK hc i pins s σ H E J hf ⟨⟨old, he⟩, it, ne⟩ ⟨xs, hq, hx⟩
    subst hP hw hK
    obtain ⟨its, rv, tu, _⟩ := J.tuple hq
    obtain ⟨f0, f1, f2, f3, f4, f5⟩ := hf I (by simp)
    have hl := rv.length
    refine pyNext_enumT_end (J.ok.hd hc) he it tu (by simp; omega) ?_
    intro h1 eb
    exact ⟨rfl, J.turned (t' := s.toks) (fun b o hb q => eb b o hb q) f0 f1 f3 f4 f5⟩
  self := by
    rintro A i s Q E ⟨⟨_, he⟩, _⟩ h
    exact wpAny_pyIter_enum he h
/-- enumerate of a list or of a tuple -/
def iEnumA (K : PySem.W.Frag) (ta : TA) : TI := fun σ H R => ta σ H fun vs H1 => ∃ a xs, vs = [.ref a] ∧
  ((SqL K H1 a xs ∧ R (Ite K a) H1) ∨ (SqT K H1 a xs ∧ R (IteT K a) H1))
theorem pi_enumA {X : Cx} {e : Expr} {ta : TA} {p pos tpos : Pos} {elts : List Expr} {kk : Nat} (hg : Gl X "enumerate") (hm : X.mg "enumerate" = none) (ha : PA X [e] ta)
    (hs : starEach [e] X.env = [(false, eval e X.env)] := by rfl) :
    PI X (.Tuple elts kk tpos) (.Call (.Name "enumerate" p) [e] [] pos) (iEnumA X.K ta) := by
  constructor
  intro pins s σ H R J h
  refine Call_ (ld_blt J hg hm boot_enumerate (PyProof.Rows.callWith_type1 (thn (ha.run pos pins s σ H _ J h) ?_) hs rfl))
  rintro us s1 ⟨vs, H1, J1, r1, a, xs, rfl, q⟩
  cases r1 with
  | cons r rr =>
    cases rr
    cases r
    have fp : ∀ b ∈ [s1.heap.objs.size + 1, s1.heap.objs.size], FpOk X pins H1 b := by
      intro b hb
      have le : s1.heap.objs.size ≤ b := by
        rcases List.mem_cons.mp hb with rfl | q
        · omega
        · obtain rfl := List.mem_singleton.mp q
          exact Nat.le_refl _
      exact J1.fpOk le (J1.hok.fresh le)
    rcases q with ⟨hq, q⟩ | ⟨hq, q⟩
    · obtain ⟨its, rv, pl, _⟩ := J1.list hq
      refine call_enumerate_list pl.isList ?_
      intro h' he it z k
      exact wpAny_pyIter_enum he ⟨_, _, _, _, H1, rfl, J1.kept (t' := s1.toks) k, turn_enum a (s1.heap.objs.size + 1) s1.heap.objs.size,
        ⟨⟨.none, he⟩, it, Nat.succ_ne_self _⟩, fp, q⟩
    · obtain ⟨its, rv, tu, _⟩ := J1.tuple hq
      refine call_enumT tu ?_
      intro h' he it k
      exact wpAny_pyIter_enum he ⟨_, _, _, _, H1, rfl, J1.kept (t' := s1.toks) k, turn_enumT a (s1.heap.objs.size + 1) s1.heap.objs.size,
        ⟨⟨.none, he⟩, it, Nat.succ_ne_self _⟩, fp, q⟩
end L2.Gd
end

section
set_option Elab.async false
set_option linter.all false
set_option maxRecDepth 100000
set_option maxHeartbeats 2000000
namespace L2.K23
open PySem PySem.Spec PyProof.Rows L2.Gd

/-! ### deeds as data -/
theorem DdAt.dp {K : PySem.W.Frag} {H : Hp} {v : V} {x : Dd} (h : DdAt H v x) : Dp K H v x.d := by
  obtain ⟨t, rfl, ht⟩ := h
  exact .tup (.inl (.inl ht)) (.cons (.int _) (.cons (.int _) (.cons (.int _) (.cons (.str _) .nil))))
abbrev DdAll (H : Hp) : List V → List Dd → Prop := Paired (DdAt H)
theorem DdAll.dps {K : PySem.W.Frag} {H : Hp} : ∀ {vs : List V} {ds : List Dd}, DdAll H vs ds → DpAll K H vs (ds.map Dd.d)
  | _, _, .nil => .nil
  | _, _, .cons h t => .cons (DdAt.dp h) (DdAll.dps t)
def Dd.Wd (x : Dd) : Prop := x.w = "any" ∨ x.w = "empty"
theorem Dd.Ok.wd {n : Int} {x : Dd} (h : x.Ok n) : x.Wd := h.w.elim (fun q => .inl q.1) (fun q => .inr q.1)
theorem Dd.lay {x : Dd} (h : x.Wd) : x.d.canLay0 = true := by
  have e : PyData.strOk x.w = true := by
    rcases h with e | e <;> (rw [e]; decide +kernel)
  simp [Dd.d, PyData.canLay0, PyData.canLayAll0, e]
theorem Dd.dep (x : Dd) : x.d.depth = 1 := by simp [Dd.d, PyData.depth, PyData.depthAll]
theorem lays : ∀ {ds : List Dd}, (∀ x ∈ ds, x.Wd) → PyData.canLayAll0 (ds.map Dd.d) = true
  | [], _ => by simp [PyData.canLayAll0]
  | x :: r, h => by simp [PyData.canLayAll0, Dd.lay (h x List.mem_cons_self), lays (ds := r) fun y hy => h y (List.mem_cons_of_mem _ hy)]
theorem deps : ∀ ds : List Dd, PyData.depthAll (ds.map Dd.d) ≤ 1
  | [] => by simp [PyData.depthAll]
  | x :: r => by
    have h1 := deps r
    have h2 := x.dep
    simp only [List.map_cons, PyData.depthAll]
    omega
theorem Dd.shaped {x : Dd} (hx : x.Wd) : SeqAt.shaped x.d = true := by
  have h := x.dep
  show (x.d.canLay0 && decide (x.d.depth ≤ 64)) = true
  rw [Dd.lay hx, decide_eq_true (by omega)]
  rfl
theorem shapedL {ds : List Dd} (hd : ∀ x ∈ ds, x.Wd) : SeqAt.shaped (.list (ds.map Dd.d)) = true := by
  have h := deps ds
  have h2 : PyData.depth (.list (ds.map Dd.d)) ≤ 64 := by
    simp only [PyData.depth]
    omega
  show (PyData.canLay0 (.list (ds.map Dd.d)) && decide (PyData.depth (.list (ds.map Dd.d)) ≤ 64)) = true
  rw [Bool.and_eq_true]
  exact ⟨by simp only [PyData.canLay0]; exact lays hd, decide_eq_true h2⟩
theorem shapedT {ds : List Dd} (hd : ∀ x ∈ ds, x.Wd) : SeqAt.shaped (.tuple (ds.map Dd.d)) = true := by
  have h := deps ds
  have h2 : PyData.depth (.tuple (ds.map Dd.d)) ≤ 64 := by
    simp only [PyData.depth]
    omega
  show (PyData.canLay0 (.tuple (ds.map Dd.d)) && decide (PyData.depth (.tuple (ds.map Dd.d)) ≤ 64)) = true
  rw [Bool.and_eq_true]
  exact ⟨by simp only [PyData.canLay0]; exact lays hd, decide_eq_true h2⟩
theorem Dd.eqv (x y : Dd) : PyData.eqv x.d y.d = decide (x = y) := by
  obtain ⟨p, c, g, w⟩ := x
  obtain ⟨p', c', g', w'⟩ := y
  have e : PyData.eqv (Dd.d ⟨p, c, g, w⟩) (Dd.d ⟨p', c', g', w'⟩) = ((p == p') && ((c == c') && ((g == g') && ((w == w') && true)))) := by
    simp only [Dd.d, PyData.eqv, PyData.eqvAll]
  rw [e, Bool.eq_iff_iff]
  simp
theorem eqvs : ∀ xs ys : List Dd, PyData.eqvAll (xs.map Dd.d) (ys.map Dd.d) = decide (xs = ys)
  | [], [] => by simp [PyData.eqvAll]
  | [], y :: ys => by simp [PyData.eqvAll]
  | x :: xs, [] => by simp [PyData.eqvAll]
  | x :: xs, y :: ys => by
    simp only [List.map_cons, PyData.eqvAll, x.eqv y, eqvs xs ys]
    rw [Bool.eq_iff_iff]
    simp
theorem any_in (x : Dd) (ds : List Dd) : (ds.map Dd.d).any (fun z => PyData.eqv z x.d) = decide (x ∈ ds) := by
  rw [List.any_map, Bool.eq_iff_iff, List.any_eq_true, decide_eq_true_eq]
  constructor
  · rintro ⟨y, hy, e⟩
    have e2 : PyData.eqv y.d x.d = true := e
    rw [y.eqv x, decide_eq_true_eq] at e2
    exact e2 ▸ hy
  · intro h
    refine ⟨x, h, ?_⟩
    show PyData.eqv x.d x.d = true
    rw [x.eqv x]
    simp
theorem DdAt.same {H H' : Hp} {v : V} {x : Dd} (s : Same H H') (h : DdAt H v x) : DdAt H' v x := let ⟨t, e, q⟩ := h; ⟨t, e, s _ _ q⟩
theorem DdAll.same {H H' : Hp} {vs : List V} {ds : List Dd} (s : Same H H') (h : DdAll H vs ds) : DdAll H' vs ds := Paired.mapP h fun _ _ q => q.same s

theorem cutV_take (xs : List V) {i : Nat} (h : i ≤ xs.length) : cutV xs none (some (i : Int)) = xs.take i := by
  have e0 : HT.sIx xs.length 0 none = 0 := by simp [HT.sIx]
  have e1 : HT.sIx xs.length xs.length (some (i : Int)) = i := by
    simp only [HT.sIx]
    split <;> omega
  unfold cutV
  rw [e0, e1, List.drop_zero, Nat.sub_zero]
theorem Paired.at {α β : Type} {R : α → β → Prop} : ∀ {xs : List α} {ys : List β} {i : Nat} {x : α}, Paired R xs ys → xs[i]? = some x → ∃ y, ys[i]? = some y ∧ R x y
  | _, _, _, _, .nil, e => by simp at e
  | _, _, 0, _, .cons r _, e => by simp at e; subst e; exact ⟨_, rfl, r⟩
  | _, _, i + 1, x, .cons _ t, e => by
    obtain ⟨u, h1, h2⟩ := Paired.at (i := i) (x := x) t (by simpa using e)
    exact ⟨u, by simpa using h1, h2⟩
theorem Paired.takeP {α β : Type} {R : α → β → Prop} : ∀ {xs : List α} {ys : List β} (n : Nat), Paired R xs ys → Paired R (xs.take n) (ys.take n)
  | _, _, 0, _ => .nil
  | _, _, _ + 1, .nil => .nil
  | _, _, n + 1, .cons r t => .cons r (Paired.takeP n t)
theorem not_ahead {α : Type} {l : List α} {i : Nat} {x : α} (nd : l.Nodup) (h : l[i]? = some x) : x ∉ l.take i := by
  intro hm
  obtain ⟨j, hj⟩ := List.mem_iff_getElem?.mp hm
  obtain ⟨lt, e⟩ := List.getElem?_eq_some_iff.mp hj
  rw [List.length_take] at lt
  have e2 : l[j]? = some x := by
    rw [List.getElem?_take_of_lt (by omega)] at hj
    exact hj
  obtain ⟨l1, q1⟩ := List.getElem?_eq_some_iff.mp h
  obtain ⟨l2, q2⟩ := List.getElem?_eq_some_iff.mp e2
  exact (List.pairwise_iff_getElem.mp nd) j i l2 l1 (by omega) (q2.trans q1.symm)
theorem hu65 {k : Nat} {A : Around} (hr : Room k A) : A.units + 65 < cLine := by
  have := hr.un
  omega
/-- a for by an invariant, whatever is walked -/
theorem loop_of {J : It} {n : Nat} {g : TG} {tb : TS} {D : Ends} {σ : L2.St} {H : Hp} (Pv : Nat → L2.St → Hp → Prop) (h0 : Pv 0 σ H)
    (hd : ∀ σ H, Pv n σ H → J.stop n H ∧ D.nx σ H)
    (hs : ∀ i σ H, i < n → Pv i σ H → J.go i H ∧ ∀ x H', J.yld i H x H' → g x σ H' fun σ2 H2 => tb { D with nx := Pv (i + 1), ct := Pv (i + 1), bk := D.nx } σ2 H2) :
    ∃ W : Nat → Nat → L2.St → Hp → Prop, (∃ m, W 0 m σ H) ∧ ∀ i m σ H, W i m σ H → (J.stop i H ∧ D.nx σ H) ∨
      (J.go i H ∧ ∃ N : L2.St → Hp → Prop, (∀ σ' H', N σ' H' → ∃ m', m' < m ∧ W (i + 1) m' σ' H') ∧
        ∀ x H', J.yld i H x H' → g x σ H' fun σ2 H2 => tb { D with nx := N, ct := N, bk := D.nx } σ2 H2) := by
  refine ⟨fun i m σ H => m = n - i ∧ i ≤ n ∧ Pv i σ H, ⟨n, by simp, Nat.zero_le _, h0⟩, ?_⟩
  rintro i m σ H ⟨rfl, hi, hp⟩
  by_cases e : i < n
  · obtain ⟨go, k⟩ := hs i σ H e hp
    exact .inr ⟨go, Pv (i + 1), fun σ' H' q => ⟨n - (i + 1), by omega, rfl, e, q⟩, k⟩
  · obtain rfl : i = n := by omega
    exact .inl (hd σ H hp)
/-- x in s, s a list or a tuple -/
theorem op_inDT {X : Cx} (hu : X.A.units + 65 < cLine) : OpR X (compareOp .In) (fun x y H Q => ∃ d ds, Dp X.K H x d ∧ Dp X.K H y (.tuple ds) ∧ SeqAt.shaped d = true ∧ SeqAt.shaped (.tuple ds) = true ∧ Q (.bl (ds.any fun z => PyData.eqv z d)) H) := by
  rintro pins s σ H x y v u Q I rx ry ⟨d, ds, hd, he, sd, se, q⟩
  obtain ⟨as, r1⟩ := Dp.reads I d x v hd rx
  obtain ⟨bs, r2⟩ := Dp.reads I (.tuple ds) y u he ry
  refine SeqAt.in_tuple_reads r2 r1 (SeqAt.canLay_of_shaped se) (SeqAt.canLay_of_shaped sd) ?_ ⟨.bl _, H, I, rfl, q⟩
  exact room_in_shaped sd hu

section
variable {P : Program} {w : World} {K : PySem.W.Frag} {mg : Str → Option Value} {base : Heap}
theorem Seq.len {H : Hp} {a : Addr} {xs : List V} (h : Seq K H a xs) : SqL K H a xs ∨ SqT K H a xs := h.elim (fun q => .inl (.inl (.inl q))) (fun q => .inr (.inl (.inl q)))
theorem Seq.same {H H' : Hp} {a : Addr} {xs : List V} (s : Same H H') (h : Seq K H a xs) : Seq K H' a xs := h.elim (fun q => .inl (s _ _ q)) (fun q => .inr (s _ _ q))
def spCheck (K : PySem.W.Frag) : Sp := fun vs H Q _ => ∃ (m : Int) (a : Addr) (xs : List V) (ds : List Dd), vs = [.int m, .ref a] ∧ Seq K H a xs ∧ DdAll H xs ds ∧
  (∀ d ∈ ds, d.Ok m) ∧ ds.Nodup ∧ ds.length ≤ 60 ∧ ∀ H', Same H H' → Q .non H'
theorem scCk : FnScope ["places", "deeds", "position", "deed"] ["places", "deeds"] (defScope sCheck) := ⟨rfl, rfl, rfl, by decide +kernel, rfl, by decide +kernel, by decide +kernel⟩
theorem ok_check {f : Addr} {fd : FuncData} (F : Fun K "check_deeds" "check_deeds" sCheck f fd) (n : Nm mg)
    (GL : Fn P w K mg base 1 "is_list" ["value"] (spIsList K)) (GD : Fn P w K mg base 3 "is_deed" ["value", "places"] spIsDeed) {tk : Tok} (mm : mg "MOST_DEEDS" = some (.int 60 tk)) :
    FnOk P w K mg base CX0 4 f fd ["places", "deeds"] (spCheck K) := by
  refine F.ok scCk (fun vs H Q E h => ?_) (fun cdv A outer s H vs Q E hr h => ?_)
  · obtain ⟨m, a, xs, ds, rfl, _⟩ := h
    rfl
  · obtain ⟨m, a, xs, ds, rfl, hs, hd, ok, nd, hl, k⟩ := h
    have N := scCk.nd
    have lx : xs.length = ds.length := Paired.length hd
    refine ⟨_, pss_cons (ps_if (pt_not (pt_val (pe_fn GL (hr.mono (by decide)) (pa_cons (pv 1) pa_nil)))) pss_never pss_nil)
      (pss_cons (ps_for PassesOwn.never rfl (pi_enumA (by rfl) n.enumerate (pa_cons (pv 1) pa_nil)) (pg_tup rfl (pgs_cons (pg_name (i := 2) N rfl (.inl rfl)) (pgs_cons (pg_name (i := 3) N rfl (.inl rfl)) pgs_nil)))
        (pss_one (ps_if (pw_or (pt_not (pt_val (pe_fn GD hr (pa_cons (pv 3) (pa_cons (pv 0) pa_nil)))))
          (pw_or1 (pt_cmpR (OpR.or (op_inD (hu65 hr)) (op_inDT (hu65 hr))) (pv 3) (pe_slice (SlR.or sl_list sl_tupA) (pv 1) po_none (po_some (pv 2))) (by rfl)))).pt pss_never pss_nil)))
      (pss_one (ps_if (pt_cmpR op_gt (pe_callB call_len_seq (by rfl) n.len PySem.boot_len (pa_cons (pv 1) pa_nil)) (pe_glob (v := .int 60) (by rfl) mm ⟨_, rfl⟩) (nomark _)) pss_never pss_nil))), ?_⟩
    refine ⟨_, rfl, a, xs, rfl, hs, fun H1 s1 => ⟨true, rfl, ?_⟩⟩
    refine iteF ?_
    have hs1 := hs.same s1
    -- the loop: nothing but new things
    let Pv : Nat → L2.St → Hp → Prop := fun i σ H2 => ∃ v2 v3 : Option V, σ = [some (.int m), some (.ref a), v2, v3] ∧ Same H1 H2
    have body : ∀ (D : Ends) (i : Nat) (T : Addr) (y : V) (H2 : Hp) (v2 v3 : Option V), D.nx = Pv (i + 1) → Same H1 H2 → H2 T = none → xs[i]? = some y →
        (gTup K 2 (gCons (gName 2) (gCons (gName 3) gNil))) (.ref T) [some (.int m), some (.ref a), v2, v3] (upd H2 T (.tup [.int (i : Nat), y])) fun σ3 H3 => (tIfS
          (tOr (tNot (tB (tCall spIsDeed [] E0 (tCons (tVar 3) (tCons (tVar 0) tNil)))))
            (tTest (tOp (fun x y H Q => rInD K x y H Q ∨ ∃ d ds, Dp K H x d ∧ Dp K H y (.tuple ds) ∧ SeqAt.shaped d = true ∧ SeqAt.shaped (.tuple ds) = true ∧ Q (.bl (ds.any fun z => PyData.eqv z d)) H) (tVar 3)
              (tSl (fun x lo hi H Q => rSlL K x lo hi H Q ∨ rSlA K x lo hi H Q) (tVar 1) tNoPart (tPart (tVar 2)))))) tNever tNext) D σ3 H3 := by
      intro D i T y H2 v2 v3 hD s2 hT hy
      have ii : i < xs.length := (List.getElem?_eq_some_iff.mp hy).1
      have s3 : Same H1 (upd H2 T (.tup [.int (i : Nat), y])) := s2.trans (same_upd hT)
      obtain ⟨d, hdi, hdy⟩ := Paired.at hd hy
      have okd := ok d (List.mem_of_getElem? hdi)
      obtain ⟨t, rfl, ht⟩ := hdy
      refine ⟨T, _, rfl, .inl (.inl upd_same), rfl, _, _, rfl, _, _, rfl, rfl, ?_⟩
      refine ⟨_, rfl, _, rfl, t, d, m, rfl, s3 _ _ (s1 _ _ ht), okd, fun H4 s4 => ⟨true, rfl, ?_⟩⟩
      refine iteF ?_
      have sa : Same H H4 := s1.trans (s3.trans s4)
      refine ⟨_, rfl, _, rfl, _, rfl, i, rfl, ?_⟩
      have no : decide (d ∈ ds.take i) = false := decide_eq_false (not_ahead nd hdi)
      have dd : Dp K H4 (.ref t) d.d := DdAt.dp ⟨t, rfl, sa _ _ ht⟩
      have wd : ∀ x ∈ ds.take i, x.Wd := fun x hx => (ok x (List.mem_of_mem_take hx)).wd
      have dl : ∀ {H5 : Hp}, Same H4 H5 → DpAll K H5 (xs.take i) ((ds.take i).map Dd.d) := fun s5 => DdAll.dps (DdAll.same (sa.trans s5) (Paired.takeP i hd))
      rcases hs.same sa with h4 | h4
      · refine .inl ⟨a, xs, rfl, .inl (.inl h4), fun p hp => ?_⟩
        rw [cutV_take xs (Nat.le_of_lt ii)]
        have s5 : Same H4 (upd H4 p (.lst (xs.take i))) := same_upd hp
        refine .inl ⟨_, _, DdAt.dp ⟨t, rfl, s5 _ _ (sa _ _ ht)⟩, .lst (.inl (.inl upd_same)) (dl s5), Dd.shaped okd.wd, shapedL wd, false, ?_, ?_⟩
        · rw [any_in, no]
        · refine iteF ?_
          show D.nx _ _
          rw [hD]
          exact ⟨_, _, rfl, s3.trans (s4.trans s5)⟩
      · refine .inr ⟨a, xs, rfl, .inl (.inl h4), fun q => ?_, fun _ p hp => ?_⟩
        · exfalso
          have e1 : HT.sIx xs.length xs.length (some (i : Int)) = i := by
            simp only [HT.sIx]
            split <;> omega
          omega
        · rw [cutV_take xs (Nat.le_of_lt ii)]
          have s5 : Same H4 (upd H4 p (.tup (xs.take i))) := same_upd hp
          refine .inr ⟨_, _, DdAt.dp ⟨t, rfl, s5 _ _ (sa _ _ ht)⟩, .tup (.inl (.inl upd_same)) (dl s5), Dd.shaped okd.wd, shapedT wd, false, ?_, ?_⟩
          · rw [any_in, no]
          · refine iteF ?_
            show D.nx _ _
            rw [hD]
            exact ⟨_, _, rfl, s3.trans (s4.trans s5)⟩
    refine ⟨_, rfl, a, xs, rfl, ?_⟩
    have after : ∀ σ H2, Pv xs.length σ H2 → tIfS (tTest (tOp (rI0 fun i j => .bl (decide (j < i))) (tCB (fun xs H Q => ∃ p ys, xs = [.ref p] ∧ (SqL K H p ys ∨ SqT K H p ys) ∧ Q (.int ys.length) H) (tCons (tVar 1) tNil)) (tC (.int 60)))) tNever tNext { nx := fun _ H' => Q .non H', rt := Q } σ H2 := by
      rintro σ H2 ⟨v2, v3, rfl, s2⟩
      refine ⟨_, rfl, a, xs, rfl, (hs.same (s1.trans s2)).len, _, _, rfl, rfl, false, congrArg V.bl (decide_eq_false (by omega)), ?_⟩
      exact iteF (k _ (s1.trans s2))
    rcases hs1 with h1 | h1
    · refine .inl ⟨.inl (.inl h1), loop_of (n := xs.length) Pv ⟨none, none, rfl, fun _ _ q => q⟩ (fun σ H2 hp => ?_) ?_⟩
      · obtain ⟨v2, v3, e, s2⟩ := id hp
        exact ⟨⟨xs, .inl (.inl (s2 _ _ h1)), Nat.le_refl _⟩, after σ H2 hp⟩
      · rintro i σ H2 hi ⟨v2, v3, rfl, s2⟩
        refine ⟨⟨xs, _, .inl (.inl (s2 _ _ h1)), List.getElem?_eq_getElem hi⟩, ?_⟩
        rintro x H' ⟨T, y, rfl, hT, rfl, hy⟩
        exact body _ i T y H2 v2 v3 rfl s2 hT (hy xs (.inl (.inl (s2 _ _ h1))))
    · refine .inr ⟨.inl (.inl h1), loop_of (n := xs.length) Pv ⟨none, none, rfl, fun _ _ q => q⟩ (fun σ H2 hp => ?_) ?_⟩
      · obtain ⟨v2, v3, e, s2⟩ := id hp
        exact ⟨⟨xs, .inl (.inl (s2 _ _ h1)), Nat.le_refl _⟩, after σ H2 hp⟩
      · rintro i σ H2 hi ⟨v2, v3, rfl, s2⟩
        refine ⟨⟨xs, _, .inl (.inl (s2 _ _ h1)), List.getElem?_eq_getElem hi⟩, ?_⟩
        rintro x H' ⟨T, y, rfl, hT, rfl, hy⟩
        exact body _ i T y H2 v2 v3 rfl s2 hT (hy xs (.inl (.inl (s2 _ _ h1))))
end
end L2.K23
end

section
set_option Elab.async false
set_option linter.all false
set_option maxRecDepth 100000
set_option maxHeartbeats 2000000
namespace L2.K23
open PySem PySem.Spec PyProof.Rows L2.Gd

/-! ### a house: its attributes, its list -/
theorem kpd : ¬ (("_places" : Str) = "_deeds") := by decide +kernel
def flds (m : Int) (l : Addr) : List (Str × V) := putF "_deeds" (.ref l) (putF "_places" (.int m) [])
theorem flds_eq (m : Int) (l : Addr) : flds m l = ([("_places", V.int m), ("_deeds", V.ref l)] : List (Str × V)) := by
  show (if ("_places" : Str) = "_deeds" then [(("_places" : Str), V.ref l)] else (("_places" : Str), V.int m) :: putF "_deeds" (V.ref l) []) = ([("_places", V.int m), ("_deeds", V.ref l)] : List (Str × V))
  rw [if_neg kpd]
  all_goals rfl
theorem flds_p (m : Int) (l : Addr) : (flds m l).lookup ("_places" : Str) = some (.int m) := by
  unfold flds
  rw [lookup_putF, if_neg kpd, lookup_putF, if_pos rfl]
theorem flds_d (m : Int) (l : Addr) : (flds m l).lookup ("_deeds" : Str) = some (.ref l) := by
  unfold flds
  rw [lookup_putF, if_pos rfl]
theorem flds_no (m : Int) (l : Addr) {x : Str} (h1 : ¬ x = "_deeds") (h2 : ¬ x = "_places") : (flds m l).lookup x = none := by
  unfold flds
  rw [lookup_putF, if_neg h1, lookup_putF, if_neg h2]
  all_goals rfl
/-- a house at h with m places, its own list of the deeds ds at l -/
structure HouseL (C : Addr) (H : Hp) (h l : Addr) (m : Int) (xs : List V) (ds : List Dd) : Prop where
  ob : ∃ dx, H h = some (.ins C dx (flds m l))
  ls : H l = some (.lst xs)
  dd : DdAll H xs ds
structure WF (m : Int) (ds : List Dd) : Prop where
  m1 : 1 ≤ m
  m16 : m ≤ 16
  ok : ∀ d ∈ ds, d.Ok m
  nd : ds.Nodup
  len : ds.length ≤ 60
theorem WF.wd {m : Int} {ds : List Dd} (w : WF m ds) : ∀ d ∈ ds, d.Wd := fun d hd => (w.ok d hd).wd
theorem HouseL.same {C : Addr} {H H' : Hp} {h l : Addr} {m : Int} {xs : List V} {ds : List Dd} (s : Same H H') (x : HouseL C H h l m xs ds) : HouseL C H' h l m xs ds :=
  ⟨let ⟨dx, e⟩ := x.ob; ⟨dx, s _ _ e⟩, s _ _ x.ls, x.dd.same s⟩
theorem HouseL.lenE {C : Addr} {H : Hp} {h l : Addr} {m : Int} {xs : List V} {ds : List Dd} (x : HouseL C H h l m xs ds) : xs.length = ds.length := Paired.length x.dd

/-- what is known of the class -/
structure ClsT (K : PySem.W.Frag) (mg : Str → Option Value) (C : Addr) : Prop where
  isc : C8.InsC K C
  nP : NoAttr K C "_places"
  nD : NoAttr K C "_deeds"
  mgC : mg "House" = some (.ref C)
section
variable {P : Program} {w : World} {K : PySem.W.Frag} {mg : Str → Option Value} {base : Heap} {C : Addr}

/-! ### __init__ -/
def spInit (K : PySem.W.Frag) (C : Addr) : Sp := fun vs H Q _ => ∃ (x dx a : Addr) (m : Int) (xs : List V) (ds : List Dd), vs = [.ref x, .int m, .ref a] ∧ H x = some (.ins C dx []) ∧
  Seq K H a xs ∧ DdAll H xs ds ∧ WF m ds ∧
  ∀ (l : Addr) (H' : Hp), H l = none → H' x = some (.ins C dx (flds m l)) → H' l = some (.lst xs) → (∀ b o, b ≠ x → H b = some o → H' b = some o) → Q .non H'
theorem scIn : FnScope ["self", "places", "deeds"] ["self", "places", "deeds"] (defScope (cHouse 0)) := ⟨rfl, rfl, rfl, by decide +kernel, rfl, by decide +kernel, by decide +kernel⟩
theorem ok_init {f : Addr} {fd : FuncData} (F : Fun K "__init__" "House.__init__" (cHouse 0) f fd) (n : Nm mg) (T : ClsT K mg C)
    (GI : Fn P w K mg base 1 "is_integer" ["value"] spIsInt) (GC : Fn P w K mg base 4 "check_deeds" ["places", "deeds"] (spCheck K))
    {tk : Tok} (mm : mg "MOST_PLACES" = some (.int 16 tk)) : FnOk P w K mg base CX0 5 f fd ["self", "places", "deeds"] (spInit K C) := by
  refine F.ok scIn (fun vs H Q E h => ?_) (fun cdv A outer s H vs Q E hr h => ?_)
  · obtain ⟨x, dx, a, m, xs, ds, rfl, _⟩ := h
    rfl
  · obtain ⟨x, dx, a, m, xs, ds, rfl, hx, hs, hd, wf, k⟩ := h
    refine ⟨_, pss_cons (ps_if (pw_or (pt_not (pt_val (pe_fn GI (hr.mono (by decide)) (pa_cons (pv 1) pa_nil))))
          (pw_or1 (pt_not (pt_chain op_le op_le pe_int (pv 1) (pe_glob (v := .int 16) (by rfl) mm ⟨_, rfl⟩))))).pt pss_never pss_nil)
      (pss_cons (ps_expr (pe_fn GC hr (pa_cons (pv 1) (pa_cons (pv 2) pa_nil))))
      (pss_cons (ps_fld (pv 0) (pv 1) rfl)
      (pss_one (ps_fld (pv 0) (pe_callTy call_list_of (by rfl) n.list (by decide +kernel) (pa_cons (pv 2) pa_nil)) rfl)))), ?_⟩
    refine ⟨_, rfl, _, rfl, true, rfl, ?_⟩
    refine iteF ?_
    refine ⟨_, rfl, _, _, rfl, rfl, true, congrArg V.bl (decide_eq_true wf.m1), ?_⟩
    refine iteT ?_
    refine ⟨_, _, rfl, rfl, true, congrArg V.bl (decide_eq_true wf.m16), ?_⟩
    refine iteF ?_
    refine ⟨_, rfl, _, rfl, m, a, xs, ds, rfl, hs, hd, wf.ok, wf.nd, wf.len, fun H1 s1 => ?_⟩
    refine ⟨_, rfl, _, rfl, x, C, dx, [], rfl, s1 _ _ hx, T.isc.cl, T.nP, (by show 0 < 1000; decide), ?_⟩
    have nxa : ∀ {b : Addr} {ys : List V}, Seq K H b ys → b ≠ x := fun {b ys} q z => by
      subst z
      rcases q with q | q <;> (rw [hx] at q; exact nomatch q)
    have hs1 : Seq K (upd H1 x (.ins C dx (putF "_places" (.int m) []))) a xs := by
      rcases hs with q | q
      · exact .inl (by rw [upd_ne (nxa (.inl q))]; exact s1 _ _ q)
      · exact .inr (by rw [upd_ne (nxa (.inr q))]; exact s1 _ _ q)
    refine ⟨_, rfl, a, xs, rfl, hs1.len, fun l hl => ?_⟩
    have nl : x ≠ l := ne_of_none upd_same hl
    have hl0 : H l = none := by
      rw [upd_ne nl.symm] at hl
      exact s1.free hl
    refine ⟨_, rfl, x, C, dx, _, rfl, (by rw [upd_ne nl]; exact upd_same), T.isc.cl, T.nD, (by show 1 < 1000; decide), ?_⟩
    refine k l _ hl0 upd_same ?_ ?_
    · rw [upd_ne nl.symm, upd_same]
    · intro b o hb e
      rw [upd_ne hb, upd_ne (ne_of_none e hl0), upd_ne hb]
      exact s1 _ _ e
/-- C(..), a house: what the maker's promise wants -/
theorem init_read {H : Hp} {x dx a : Addr} {m : Int} {xs : List V} {ds : List Dd} {Q : VK} {E : XK} (nx : H x = none) (ndx : H dx = none) (ne : dx ≠ x)
    (hs : Seq K H a xs) (hd : DdAll H xs ds) (wf : WF m ds)
    (k : ∀ (l : Addr) (H' : Hp), H l = none → Same H H' → HouseL C H' x l m xs ds → Q (.ref x) H') :
    spInit K C [.ref x, .int m, .ref a] (upd (upd H dx (.own x)) x (.ins C dx [])) (fun v H2 => v = .non ∧ Q (.ref x) H2) E := by
  have s0 : Same H (upd (upd H dx (.own x)) x (.ins C dx [])) := fun b o e => by
    rw [upd_ne (ne_of_none e nx), upd_ne (ne_of_none e ndx)]
    exact e
  refine ⟨x, dx, a, m, xs, ds, rfl, upd_same, hs.same s0, hd.same s0, wf, fun l H' nl hx hl kp => ⟨rfl, ?_⟩⟩
  have s1 : Same H H' := fun b o e => kp b o (ne_of_none e nx) (s0 b o e)
  exact k l H' (s0.free nl) s1 ⟨⟨dx, hx⟩, hl, hd.same s1⟩
structure MkH (P : Program) (w : World) (K : PySem.W.Frag) (mg : Str → Option Value) (base : Heap) (C : Addr) : Prop where
  ex : ∃ f fd, Mk K C f ∧ Binds K fd ["self", "places", "deeds"] [] ∧ FnOk P w K mg base CX0 5 f fd ["self", "places", "deeds"] (spInit K C)
theorem pe_house {X : Cx} {e : Expr} {es : List Expr} {t : TA} {p pos : Pos} (M : MkH X.prog X.w X.K X.mg X.base C) (T : ClsT X.K X.mg C) (hr : Room 6 X.A) (ha : PA X (e :: es) t)
    (hg : Gl X "House" := by rfl) (he : starEach (e :: es) X.env = (false, eval e X.env) :: starEach es X.env := by rfl)
    (hpl : (backTo pos (starEach es X.env)).any (·.1) = false := by rfl) :
    PE X (.Call (.Name "House" p) (e :: es) [] pos) (tMake C (spInit X.K C) [] E0 t) := by
  obtain ⟨f, fd, mk, b, F⟩ := M.ex
  exact pe_make mk F hr hg T.mgC b .nil pass0 ha (by decide) he hpl

/-! ### places, deeds, len, is_plain -/
def spPlaces (C : Addr) : Sp := fun vs H Q _ => ∃ (h dx l : Addr) (m : Int), vs = [.ref h] ∧ H h = some (.ins C dx (flds m l)) ∧ Q (.int m) H
theorem scPl : FnScope ["self"] ["self"] (defScope (cHouse 1)) := ⟨rfl, rfl, rfl, by decide +kernel, rfl, by decide +kernel, by decide +kernel⟩
theorem ok_places {f : Addr} {fd : FuncData} (F : Fun K "places" "House.places" (cHouse 1) f fd) (T : ClsT K mg C) : FnOk P w K mg base CX0 1 f fd ["self"] (spPlaces C) := by
  refine F.ok scPl (fun vs H Q E h => ?_) (fun cdv A outer s H vs Q E hr h => ?_)
  · obtain ⟨h, dx, l, m, rfl, _⟩ := h
    rfl
  · obtain ⟨h, dx, l, m, rfl, hh, k⟩ := h
    refine ⟨_, pss_one (ps_ret (pe_fld (pv 0) rfl)), ?_⟩
    exact ⟨_, rfl, h, C, dx, _, _, rfl, hh, T.isc.cl, T.nP, flds_p _ _, k⟩
def spDeeds (C : Addr) : Sp := fun vs H Q _ => ∃ (h l : Addr) (m : Int) (xs : List V) (ds : List Dd), vs = [.ref h] ∧ HouseL C H h l m xs ds ∧ ∀ p, H p = none → Q (.ref p) (upd H p (.lst xs))
theorem scDe : FnScope ["self"] ["self"] (defScope (cHouse 3)) := ⟨rfl, rfl, rfl, by decide +kernel, rfl, by decide +kernel, by decide +kernel⟩
theorem ok_deeds {f : Addr} {fd : FuncData} (F : Fun K "deeds" "House.deeds" (cHouse 3) f fd) (n : Nm mg) (T : ClsT K mg C) : FnOk P w K mg base CX0 1 f fd ["self"] (spDeeds C) := by
  refine F.ok scDe (fun vs H Q E h => ?_) (fun cdv A outer s H vs Q E hr h => ?_)
  · obtain ⟨h, l, m, xs, ds, rfl, _⟩ := h
    rfl
  · obtain ⟨h, l, m, xs, ds, rfl, hh, k⟩ := h
    obtain ⟨dx, ob⟩ := hh.ob
    refine ⟨_, pss_one (ps_ret (pe_callTy call_list_of (by rfl) n.list (by decide +kernel) (pa_cons (pe_fld (pv 0) rfl) pa_nil))), ?_⟩
    exact ⟨_, rfl, h, C, dx, _, _, rfl, ob, T.isc.cl, T.nD, flds_d _ _, l, xs, rfl, .inl (.inl (.inl hh.ls)), k⟩
def spLen (C : Addr) : Sp := fun vs H Q _ => ∃ (h l : Addr) (m : Int) (xs : List V) (ds : List Dd), vs = [.ref h] ∧ HouseL C H h l m xs ds ∧ Q (.int ds.length) H
theorem scLe : FnScope ["self"] ["self"] (defScope (cHouse 4)) := ⟨rfl, rfl, rfl, by decide +kernel, rfl, by decide +kernel, by decide +kernel⟩
theorem ok_len {f : Addr} {fd : FuncData} (F : Fun K "__len__" "House.__len__" (cHouse 4) f fd) (n : Nm mg) (T : ClsT K mg C) : FnOk P w K mg base CX0 1 f fd ["self"] (spLen C) := by
  refine F.ok scLe (fun vs H Q E h => ?_) (fun cdv A outer s H vs Q E hr h => ?_)
  · obtain ⟨h, l, m, xs, ds, rfl, _⟩ := h
    rfl
  · obtain ⟨h, l, m, xs, ds, rfl, hh, k⟩ := h
    obtain ⟨dx, ob⟩ := hh.ob
    refine ⟨_, pss_one (ps_ret (pe_callB call_len_seq (by rfl) n.len PySem.boot_len (pa_cons (pe_fld (pv 0) rfl) pa_nil))), ?_⟩
    refine ⟨_, rfl, h, C, dx, _, _, rfl, ob, T.isc.cl, T.nD, flds_d _ _, l, xs, rfl, .inl (.inl (.inl hh.ls)), ?_⟩
    have e : ((xs.length : Nat) : Int) = (ds.length : Int) := by rw [hh.lenE]
    show Q (.int (xs.length : Int)) H
    rw [e]
    exact k
end
end L2.K23
end

section
set_option Elab.async false
set_option linter.all false
set_option maxRecDepth 100000
set_option maxHeartbeats 2000000
/-! [f(x) for x in xs if p(x)], xs a list or a tuple: what is made of each element -/
namespace L2.Gd
open PySem PySem.Spec PyProof.Rows
/-- all that stood, but for the list that is being made -/
def ButD (D : Addr) (H H' : Hp) : Prop := ∀ b o, b ≠ D → H b = some o → H' b = some o
theorem ButD.new {D : Addr} {H H' : Hp} (h : H D = none) (b : ButD D H H') : Same H H' := fun a o e => b a o (ne_of_none e h) e
theorem ButD.put {D : Addr} {H H' : Hp} {o : HO} (b : ButD D H H') : ButD D H (L2.upd H' D o) := fun a u ne e => by
  rw [upd_ne ne]
  exact b a u ne e
theorem ButD.more {D : Addr} {H H' H2 : Hp} (b : ButD D H H') (s : Same H' H2) : ButD D H H2 := fun a u ne e => s _ _ (b a u ne e)
theorem ButD.start {D : Addr} {H : Hp} {o : HO} : ButD D H (L2.upd H D o) := fun a u ne e => by
  rw [upd_ne ne]
  exact e
theorem filt_take {α β : Type} (f : α → Option β) {l : List α} {i : Nat} {x : α} (h : l[i]? = some x) : (l.take (i + 1)).filterMap f = (l.take i).filterMap f ++ (f x).toList := by
  rw [List.take_succ, h, List.filterMap_append]
  congr 1
theorem pair_at {α β : Type} {R : α → β → Prop} : ∀ {xs : List α} {ys : List β} {i : Nat} {x : α}, Paired R xs ys → xs[i]? = some x → ∃ y, ys[i]? = some y ∧ R x y
  | _, _, _, _, .nil, e => by simp at e
  | _, _, 0, _, .cons r _, e => by simp at e; subst e; exact ⟨_, rfl, r⟩
  | _, _, i + 1, x, .cons _ t, e => by
    obtain ⟨u, h1, h2⟩ := pair_at (i := i) (x := x) t (by simpa using e)
    exact ⟨u, by simpa using h1, h2⟩
section
variable {α β : Type} {K : PySem.W.Frag} {a : Addr} {xs : List V} {es : List α} {g : TG} {tt : TT} {te : TE} {vs : List Nat} {σ : L2.St} {H1 : Hp} {D : Addr} {Qd : Hp → Prop}
/-- what is promised of one turn -/
def StepOk (F : Hp → V → α → Prop) (G : Hp → V → β → Prop) (f : α → Option β) (g : TG) (tt : TT) (te : TE) (vs : List Nat) (σ : L2.St) (H1 : Hp) (D : Addr) (es : List α) : Prop :=
  ∀ (x : V) (e : α) (H : Hp) (A : V → Hp → Prop) (B : Hp → Prop), e ∈ es → F H1 x e → ButD D H1 H → (∃ zs, H D = some (.lst zs)) →
    (∀ b y H4, f e = some b → Same H H4 → G H4 y b → A y H4) → (∀ H3, f e = none → Same H H3 → B H3) →
    g x (wipe σ vs) H fun σ2 H2 => wipe σ2 vs = wipe σ vs ∧ tt σ2 H2 fun b H3 => if b = true then te σ2 H3 A else B H3
def Stab (G : Hp → V → β → Prop) (D : Addr) : Prop := ∀ (H H' : Hp) (y : V) (b : β), ButD D H H' → (∃ zs, H D = some (.lst zs)) → G H y b → G H' y b
def LcInv (G : Hp → V → β → Prop) (f : α → Option β) (H1 : Hp) (D : Addr) (es : List α) (i : Nat) (H : Hp) : Prop :=
  ∃ ys, H D = some (.lst ys) ∧ ys.length ≤ i ∧ Paired (G H) ys ((es.take i).filterMap f) ∧ ButD D H1 H
variable {F : Hp → V → α → Prop} {G : Hp → V → β → Prop} {f : α → Option β}
theorem lc_turn (st : Stab G D) (h1000 : xs.length ≤ 1000) (pa : Paired (F H1) xs es) (step : StepOk F G f g tt te vs σ H1 D es) {i : Nat} {x : V} {H : Hp} (hx : xs[i]? = some x) (h : LcInv G f H1 D es i H) :
    g x (wipe σ vs) H fun σ2 H2 => wipe σ2 vs = wipe σ vs ∧ tt σ2 H2 fun b H3 =>
      if b = true then te σ2 H3 fun y H4 => ∃ acc, H4 D = some (.lst acc) ∧ acc.length < sizeLine ∧ LcInv G f H1 D es (i + 1) (L2.upd H4 D (.lst (acc ++ [y]))) else LcInv G f H1 D es (i + 1) H3 := by
  obtain ⟨ys, h1, h2, h3, h4⟩ := h
  obtain ⟨e, he, hF⟩ := pair_at pa hx
  have hi : i < xs.length := (List.getElem?_eq_some_iff.mp hx).1
  refine step x e H _ _ (List.mem_of_getElem? he) hF h4 ⟨ys, h1⟩ (fun b y H4 hf s hg => ?_) (fun H3 hf s => ?_)
  · refine ⟨ys, s _ _ h1, by rw [sizeLine_eq]; omega, ys ++ [y], upd_same, by simp; omega, ?_, (h4.more s).put⟩
    rw [filt_take f he, hf]
    have bt : ButD D H4 (L2.upd H4 D (.lst (ys ++ [y]))) := ButD.start
    have hd : ∃ zs, H4 D = some (.lst zs) := ⟨ys, s _ _ h1⟩
    have o1 : Paired (G (L2.upd H4 D (.lst (ys ++ [y])))) ys ((es.take i).filterMap f) := Paired.mapP h3 fun u v q => st _ _ _ _ (show ButD D H _ from fun c o ne z => bt c o ne (s _ _ z)) ⟨ys, h1⟩ q
    exact PySem.Paired.snoc o1 (st _ _ _ _ bt hd hg)
  · refine ⟨ys, s _ _ h1, by omega, ?_, h4.more s⟩
    rw [filt_take f he, hf]
    simp only [Option.toList, List.append_nil]
    exact Paired.mapP h3 fun u v q => st _ _ _ _ (fun c o _ z => s _ _ z) ⟨ys, h1⟩ q
theorem lc_mapL (st : Stab G D) (hl : H1 a = some (.lst xs)) (hD : H1 D = none) (h1000 : xs.length ≤ 1000) (pa : Paired (F H1) xs es) (step : StepOk F G f g tt te vs σ H1 D es)
    (fin : ∀ ys H, H D = some (.lst ys) → Paired (G H) ys (es.filterMap f) → ButD D H1 H → Qd H) :
    ∃ W : Nat → Nat → Hp → Prop, (∃ m, W 0 m (L2.upd H1 D (.lst []))) ∧ ∀ i m H, W i m H →
      ((Itl K a).stop i H ∧ Qd H) ∨ ((Itl K a).go i H ∧ ∃ Nx : Hp → Prop, (∀ H', Nx H' → ∃ m', m' < m ∧ W (i + 1) m' H') ∧ ∀ x H', (Itl K a).yld i H x H' → g x (wipe σ vs) H' fun σ2 H2 => wipe σ2 vs = wipe σ vs ∧ tt σ2 H2 fun b H3 =>
        if b = true then te σ2 H3 fun y H4 => ∃ acc, H4 D = some (.lst acc) ∧ acc.length < sizeLine ∧ Nx (L2.upd H4 D (.lst (acc ++ [y]))) else Nx H3) := by
  refine lc_list (xs := xs) (LcInv G f H1 D es) ⟨[], upd_same, Nat.le_refl _, .nil, .start⟩ (fun i H _ ⟨ys, _, _, _, h4⟩ => .inl (.inl (h4.new hD _ _ hl))) (fun i x H hx h => lc_turn st h1000 pa step hx h) ?_
  rintro H ⟨ys, h1, _, h3, h4⟩
  rw [PySem.Paired.length pa, List.take_length] at h3
  exact fin ys H h1 h3 h4
theorem lc_mapT (st : Stab G D) (hl : H1 a = some (.tup xs)) (hD : H1 D = none) (h1000 : xs.length ≤ 1000) (pa : Paired (F H1) xs es) (step : StepOk F G f g tt te vs σ H1 D es)
    (fin : ∀ ys H, H D = some (.lst ys) → Paired (G H) ys (es.filterMap f) → ButD D H1 H → Qd H) :
    ∃ W : Nat → Nat → Hp → Prop, (∃ m, W 0 m (L2.upd H1 D (.lst []))) ∧ ∀ i m H, W i m H →
      ((Itt K a).stop i H ∧ Qd H) ∨ ((Itt K a).go i H ∧ ∃ Nx : Hp → Prop, (∀ H', Nx H' → ∃ m', m' < m ∧ W (i + 1) m' H') ∧ ∀ x H', (Itt K a).yld i H x H' → g x (wipe σ vs) H' fun σ2 H2 => wipe σ2 vs = wipe σ vs ∧ tt σ2 H2 fun b H3 =>
        if b = true then te σ2 H3 fun y H4 => ∃ acc, H4 D = some (.lst acc) ∧ acc.length < sizeLine ∧ Nx (L2.upd H4 D (.lst (acc ++ [y]))) else Nx H3) := by
  refine lc_tup (xs := xs) (LcInv G f H1 D es) ⟨[], upd_same, Nat.le_refl _, .nil, .start⟩ (fun i H _ ⟨ys, _, _, _, h4⟩ => .inl (.inl (h4.new hD _ _ hl))) (fun i x H hx h => lc_turn st h1000 pa step hx h) ?_
  rintro H ⟨ys, h1, _, h3, h4⟩
  rw [PySem.Paired.length pa, List.take_length] at h3
  exact fin ys H h1 h3 h4
end
end L2.Gd
end

section
set_option Elab.async false
set_option linter.all false
set_option maxRecDepth 100000
set_option maxHeartbeats 2000000
/-! [f(i) for i in range(..)] -/
namespace L2.Gd
open PySem PySem.Spec PyProof.Rows
def rgI (lo : Int) (n : Nat) : List Int := (List.range n).map fun i : Nat => lo + (i : Int)
theorem rgI_len (lo : Int) (n : Nat) : (rgI lo n).length = n := by unfold rgI; rw [List.length_map, List.length_range]
theorem paired_int : ∀ ns : List Int, Paired (fun v e => v = V.int e) (ns.map V.int) ns
  | [] => .nil
  | n :: r => .cons rfl (paired_int r)
section
variable {β : Type} {lo : Int} {n : Nat} {g : TG} {tt : TT} {te : TE} {vs : List Nat} {σ : L2.St} {H1 : Hp} {D : Addr} {Qd : Hp → Prop} {G : Hp → V → β → Prop} {f : Int → Option β}
theorem lc_mapR (st : Stab G D) (h1000 : n ≤ 1000) (step : StepOk (fun _ v e => v = V.int e) G f g tt te vs σ H1 D (rgI lo n))
    (fin : ∀ ys H, H D = some (.lst ys) → Paired (G H) ys ((rgI lo n).filterMap f) → ButD D H1 H → Qd H) :
    ∃ W : Nat → Nat → Hp → Prop, (∃ m, W 0 m (L2.upd H1 D (.lst []))) ∧ ∀ i m H, W i m H →
      ((Itr lo n).stop i H ∧ Qd H) ∨ ((Itr lo n).go i H ∧ ∃ Nx : Hp → Prop, (∀ H', Nx H' → ∃ m', m' < m ∧ W (i + 1) m' H') ∧ ∀ x H', (Itr lo n).yld i H x H' → g x (wipe σ vs) H' fun σ2 H2 => wipe σ2 vs = wipe σ vs ∧ tt σ2 H2 fun b H3 =>
        if b = true then te σ2 H3 fun y H4 => ∃ acc, H4 D = some (.lst acc) ∧ acc.length < sizeLine ∧ Nx (L2.upd H4 D (.lst (acc ++ [y]))) else Nx H3) := by
  have pa := paired_int (rgI lo n)
  have len : ((rgI lo n).map V.int).length = n := by rw [List.length_map, rgI_len]
  refine lc_range (LcInv G f H1 D (rgI lo n)) ⟨[], upd_same, Nat.le_refl _, .nil, .start⟩ (fun i H hi h => ?_) ?_
  · refine lc_turn (xs := (rgI lo n).map V.int) (F := fun _ v e => v = V.int e) st (by rw [len]; exact h1000) pa step (i := i) (x := .int (lo + i)) ?_ h
    unfold rgI
    rw [List.getElem?_map, List.getElem?_map, List.getElem?_range hi]
    rfl
  · rintro H ⟨ys, h1, _, h3, h4⟩
    rw [List.take_of_length_le (Nat.le_of_eq (rgI_len lo n))] at h3
    exact fin ys H h1 h3 h4
end
end L2.Gd
end

section
set_option Elab.async false
set_option linter.all false
set_option maxRecDepth 100000
set_option maxHeartbeats 2000000
/-! len of an instance of an own class that has a __len__. -/
namespace L2.Gd
open PySem PySem.Spec PyProof.Rows
section
variable {X : Cx} {C f N : Addr} {n : Nat} {fd : FuncData} {ps : List Str} {sp : Sp}
theorem call_lenOwn (hr : Room (n + 1) X.A) (F : FnOk X.prog X.w X.K X.mg X.base CX0 n f fd ps sp) (hb : Binds X.K fd ps [])
    (hs : PySem.W.findIn X.K (.ref C) "__len__" = some (some (.ref f))) (hf : PySem.W.isFn X.K (.ref f) = true) :
    CallR X (.builtin "len") (fun xs H Q => ∃ (a dx : Addr) (fs : List (Str × V)), xs = [.ref a] ∧ H a = some (.ins C dx fs) ∧
      sp [.ref a] H (fun v H' => (∃ k : Nat, v = .int k ∧ k < 1000000) ∧ Q v H') E0) := by
  rintro pins s σ H xs us Q I r ⟨a, dx, fs, rfl, ha, h⟩
  rw [Vals.ref1 r]
  obtain ⟨mA, J, _⟩ := ins_get I.hok ha
  obtain ⟨od, J, _⟩ := J.look
  obtain ⟨m, fr⟩ := I.fr
  refine PySem.W.len_K fr I.ok.mod.kin J hs hf ?_
  refine thn (run_at (us := [.ref a]) (vs := [.ref a]) F hb (A := X.A.in1) ⟨hr.in1, rfl⟩ I (.cons rfl .nil) h) ?_
  rintro r s' ⟨z, H', I', rz, ⟨k, rfl, hk⟩, q⟩
  obtain ⟨tk, rfl⟩ := rz
  exact ⟨⟨by omega, by omega⟩, .int k, H', I'.tok _, ⟨_, rfl⟩, q⟩
end
end L2.Gd
end

section
set_option Elab.async false
set_option linter.all false
set_option maxRecDepth 100000
set_option maxHeartbeats 4000000
namespace L2.K23
open PySem PySem.Spec PyProof.Rows L2.Gd
section
variable {P : Program} {w : World} {K : PySem.W.Frag} {mg : Str → Option Value} {base : Heap} {C : Addr}
theorem small_le {n k : Nat} (h : n ≤ k) (hk : k ≤ 1000 := by decide) : n ≤ sizeLine := by
  rw [sizeLine_eq]
  omega
theorem Paired.app {α β : Type} {R : α → β → Prop} : ∀ {xs xs' : List α} {ys ys' : List β}, Paired R xs ys → Paired R xs' ys' → Paired R (xs ++ xs') (ys ++ ys')
  | _, _, _, _, .nil, h => h
  | _, _, _, _, .cons r t, h => .cons r (Paired.app t h)
theorem cutV_drop (xs : List V) {i : Nat} (h : i ≤ xs.length) : cutV xs (some (i : Int)) none = xs.drop i := by
  have e0 : HT.sIx xs.length 0 (some (i : Int)) = i := by
    simp only [HT.sIx]
    split <;> omega
  have e1 : HT.sIx xs.length xs.length none = xs.length := by simp [HT.sIx]
  unfold cutV
  rw [e0, e1]
  exact List.take_of_length_le (by rw [List.length_drop]; omega)
theorem Paired.dropP {α β : Type} {R : α → β → Prop} : ∀ {xs : List α} {ys : List β} (n : Nat), Paired R xs ys → Paired R (xs.drop n) (ys.drop n)
  | _, _, 0, h => h
  | _, _, _ + 1, .nil => .nil
  | _, _, n + 1, .cons r t => Paired.dropP n t
theorem stabD (D : Addr) : Stab DdAt D := fun H H' y d b ⟨zs, hD⟩ ⟨t, e, ht⟩ => ⟨t, e, b _ _ (fun z => by subst z; rw [hD] at ht; exact nomatch ht) ht⟩
theorem stabF (D : Addr) {H1 H : Hp} {t : Addr} {xs ys : List V} (b : ButD D H1 H) (hD : H D = some (.lst ys)) (h : H1 t = some (.tup xs)) (hD1 : H1 D = none) : H t = some (.tup xs) := b.new hD1 _ _ h
def keepD (p : Dd → Bool) (d : Dd) : Option Dd := if p d = true then some d else none
theorem keepD_filter (p : Dd → Bool) (ds : List Dd) : ds.filterMap (keepD p) = ds.filter p := by
  induction ds with
  | nil => rfl
  | cons d r ih =>
    by_cases h : p d = true
    · rw [List.filterMap_cons_some (show keepD p d = some d from if_pos h), List.filter_cons_of_pos h, ih]
    · rw [List.filterMap_cons_none (show keepD p d = none from if_neg h), List.filter_cons_of_neg h, ih]
theorem mapD (f : Dd → Dd) (ds : List Dd) : ds.filterMap (fun d => some (f d)) = ds.map f := by rw [List.filterMap_eq_map']

structure PrH (P : Program) (w : World) (K : PySem.W.Frag) (mg : Str → Option Value) (base : Heap) (C : Addr) (x : Str) (sp : Sp) : Prop where
  ex : ∃ p g fd, PropOf K C x p g ∧ Binds K fd ["self"] [] ∧ FnOk P w K mg base CX0 1 g fd ["self"] sp
theorem pe_prH {X : Cx} {x : Str} {sp : Sp} {e : Expr} {te : TE} {pos : Pos} (G : PrH X.prog X.w X.K X.mg X.base C x sp) (T : ClsT X.K X.mg C) (hr : Room 2 X.A) (he : PE X e te)
    (hab : attributeBase e x X.env (eval e X.env) = eval e X.env := by rfl) : PE X (.Attribute e x pos) (tProp C sp [] E0 te) := by
  obtain ⟨p, g, fd, hp, b, F⟩ := G.ex
  exact pe_prop he T.isc.cl hp F hr b .nil pass0 hab
theorem mapE {α β : Type} (f : α → β) (ds : List α) : ds.filterMap (fun d => some (f d)) = ds.map f := by rw [List.filterMap_eq_map']
theorem bls_of : ∀ {zs : List V} {bs : List Bool}, Paired (fun v b => v = V.bl b) zs bs → zs = bs.map V.bl
  | _, _, .nil => rfl
  | _, _, .cons h t => by rw [h, bls_of t]; rfl
/-! ### the pot -/
abbrev sPot : Stmt := top 44
abbrev sDraw : Stmt := top 45
def PotAt (H : Hp) (p : Addr) : Prop := ∃ a b : Int, H p = some (.lst [.int a, .int b]) ∧ 0 ≤ a ∧ 0 ≤ b ∧ b < 2147483587
def spPot (K : PySem.W.Frag) : Sp := fun vs H Q _ => ∃ (s : Addr) (k : Nat) (ns : List Int), vs = [.ref s, .int k] ∧ SqL K H s (ns.map V.int) ∧ (ns.length ≤ 100000) ∧
  ∀ p H', H p = none → Same H H' → PotAt H' p → Q (.ref p) H'
theorem scPot : FnScope ["_law_script", "_law_k", "_law_cell"] ["_law_script", "_law_k"] (defScope sPot) := ⟨rfl, rfl, rfl, by decide +kernel, rfl, by decide +kernel, by decide +kernel⟩
def tailPot : TE := tLst (tCons (tCB (fun xs H Q => ∃ i j, xs = [V.int i, V.int j] ∧ Q (.int (if j > i then j else i)) H) (tCons (tC (.int 0)) (tCons (tOp (rI0 fun i j => .int (i - j)) (tVar 2) (tOp (rI CPow fun i j => .int (i ^ j.toNat)) (tC (.int 10)) (tC (.int 18)))) tNil)))
  (tCons (tOp (rI0 fun i j => .int (i + j)) (tOp (rI (fun _ j => 0 < j) fun i j => .int (i % j)) (tCB (fun xs H Q => (∃ i, xs = [V.int i] ∧ Q (.int i) H) ∨ ∃ k, xs = [V.bl k] ∧ Q (.int (if k then 1 else 0)) H) (tCons
    (tOp (rI0 fun i j => .int (i + j)) (tOp (rI0 fun i j => .int (i + j)) (tOp (rI CMul fun i j => .int (i * j)) (tOp (rI (fun _ j => 0 < j) fun i j => .int (i % j)) (tCB (fun xs H Q => (∃ i, xs = [V.int i] ∧ Q (.int i) H) ∨ ∃ k, xs = [V.bl k] ∧ Q (.int (if k then 1 else 0)) H) (tCons (tVar 2) tNil)) (tC (.int 2147483549))) (tC (.int 48271)))
      (tOp (rI CMul fun i j => .int (i * j)) (tC (.int 2003)) (tVar 1))) (tC (.int 59))) tNil)) (tC (.int 2147483563))) (tC (.int 1))) tNil))
theorem ok_pot {f : Addr} {fd : FuncData} (F : Fun K "_law_pot" "_law_pot" sPot f fd) (n : Nm mg) : FnOk P w K mg base CX0 1 f fd ["_law_script", "_law_k"] (spPot K) := by
  refine F.ok scPot (fun vs H Q E h => ?_) (fun cdv A outer s H vs Q E hr h => ?_)
  · obtain ⟨s, k, ns, rfl, _⟩ := h
    rfl
  · obtain ⟨s, k, ns, rfl, hs, hz, q⟩ := h
    have N := scPot.nd
    refine ⟨_, pss_cons (ps_set (i := 2) N rfl (.inl rfl) (pe_op op_add (pe_op op_mul pe_int (pv 1)) pe_int))
      (pss_cons (ps_if (pt_cmpR op_lt (pv 1) (pe_callB call_len_seq (by rfl) n.len PySem.boot_len (pa_cons (pv 0) pa_nil)) (nomark _))
        (pss_one (ps_set (i := 2) N rfl (.inl rfl) (pe_callB call_abs (by rfl) n.abs (by decide +kernel) (pa_cons (pe_ix ix_list (pv 0) (pv 1) (fun _ _ => rfl)) pa_nil)))) pss_nil)
      (pss_one (ps_ret (pe_lst (pa_cons (pe_callB (call_max2 rfl) (by rfl) n.max (by decide +kernel) (pa_cons pe_int (pa_cons (pe_op op_sub (pv 2) (pe_op op_pow pe_int pe_int)) pa_nil)))
        (pa_cons (pe_op op_add (pe_op op_mod (pe_callTy call_int1 (by rfl) n.int (by decide +kernel) (pa_cons (pe_op op_add (pe_op op_add (pe_op op_mul (pe_op op_mod (pe_callTy call_int1 (by rfl) n.int (by decide +kernel) (pa_cons (pv 2) pa_nil)) pe_int) pe_int) (pe_op op_mul pe_int (pv 1))) pe_int) pa_nil)) pe_int) pe_int) pa_nil)))))), ?_⟩
    refine ⟨_, rfl, _, _, rfl, rfl, .inl (by decide), _, _, rfl, rfl, ?_⟩
    have tail : ∀ c : Int, tailPot [some (.ref s), some (.int k), some (.int c)] H Q := by
      intro c
      refine ⟨_, rfl, _, _, rfl, rfl, ⟨by decide, by decide, by decide⟩, _, _, rfl, rfl, _, _, rfl, ?_⟩
      refine ⟨_, rfl, .inl ⟨_, rfl, _, _, rfl, rfl, (by show (0 : Int) < 2147483549; decide), _, _, rfl, rfl, .inr (by decide), _, rfl, _, _, rfl, rfl, .inl (by decide), _, _, rfl, rfl, _, _, rfl, rfl, .inl ⟨_, rfl, ?_⟩⟩⟩
      refine ⟨_, _, rfl, rfl, (by show (0 : Int) < 2147483563; decide), _, _, rfl, rfl, (by show 2 ≤ sizeLine; decide), fun p hp => ?_⟩
      refine q p _ hp (same_upd hp) ⟨_, _, upd_same, ?_, ?_, ?_⟩
      · split <;> omega
      · omega
      · omega
    by_cases hk : k < ns.length
    all_goals
      refine ⟨_, rfl, _, rfl, s, _, rfl, .inl hs, _, _, rfl, rfl, decide ((k : Int) < (ns.map V.int).length), rfl, ?_⟩
      rw [List.length_map]
    · rw [decide_eq_true (by omega)]
      refine iteT ?_
      refine ⟨_, rfl, _, rfl, s, _, _, _, rfl, rfl, hs, atI_nat (by rw [List.getElem?_map, List.getElem?_eq_getElem hk]; rfl), _, rfl, ?_⟩
      exact tail _
    · rw [decide_eq_false (by omega)]
      refine iteF ?_
      exact tail _

/-! ### a digit of the pot -/
theorem PotAt.same {H H' : Hp} {p : Addr} (s : Same H H') (h : PotAt H p) : PotAt H' p := let ⟨a, b, e, r⟩ := h; ⟨a, b, s _ _ e, r⟩
def spDraw : Sp := fun vs H Q _ => ∃ (p : Addr) (n : Int), vs = [.ref p, .int n] ∧ PotAt H p ∧ 1 ≤ n ∧ n < 1000000 ∧ ∀ d H', 0 ≤ d → d < n → PotAt H' p → ButD p H H' → Q (.int d) H'
theorem scDr : FnScope ["_law_pot_here", "_law_many", "_law_digit"] ["_law_pot_here", "_law_many"] (defScope sDraw) := ⟨rfl, rfl, rfl, by decide +kernel, rfl, by decide +kernel, by decide +kernel⟩
theorem ok_draw {f : Addr} {fd : FuncData} (F : Fun K "_law_draw" "_law_draw" sDraw f fd) (n : Nm mg) : FnOk P w K mg base CX0 1 f fd ["_law_pot_here", "_law_many"] spDraw := by
  refine F.ok scDr (fun vs H Q E h => ?_) (fun cdv A outer s H vs Q E hr h => ?_)
  · obtain ⟨p, m, rfl, _⟩ := h
    rfl
  · obtain ⟨p, m, rfl, ⟨a, b, hp, a0, b0, bu⟩, m1, mu, q⟩ := h
    have N := scDr.nd
    refine ⟨_, pss_cons (ps_if (pt_cmpR op_gt (pe_ix ix_list (pv 0) pe_int (fun _ _ => rfl)) pe_int (nomark _))
        (pss_cons (ps_asg (pe_callB call_divmod (by rfl) n.divmod (by decide +kernel) (pa_cons (pe_ix ix_list (pv 0) pe_int (fun _ _ => rfl)) (pa_cons (pv 1) pa_nil)))
            (pg_tup rfl (pgs_cons (pg_sub (pv 0) pe_int set_list) (pgs_cons (pg_name (i := 2) N rfl (.inl rfl)) pgs_nil))))
          (pss_one (ps_ret (pv 2)))) pss_nil)
      (pss_cons (ps_asg (pe_op op_mod (pe_callTy call_int1 (by rfl) n.int (by decide +kernel) (pa_cons (pe_op op_add (pe_op op_mul (pe_ix ix_list (pv 0) pe_int (fun _ _ => rfl)) pe_int) pe_int) pa_nil)) pe_int) (pg_sub (pv 0) pe_int set_list))
      (pss_one (ps_ret (pe_op op_mod (pe_callTy call_int1 (by rfl) n.int (by decide +kernel) (pa_cons (pe_op op_fdiv (pe_op op_mod (pe_callTy call_int1 (by rfl) n.int (by decide +kernel) (pa_cons
        (pe_op op_mul (pe_ix ix_list (pv 0) pe_int (fun _ _ => rfl)) (pe_ix ix_list (pv 0) pe_int (fun _ _ => rfl))) pa_nil)) pe_int) pe_int) pa_nil)) (pv 1))))), ?_⟩
    refine ⟨_, rfl, p, _, _, _, rfl, rfl, .inl (.inl hp), rfl, _, _, rfl, rfl, decide (a > 0), rfl, ?_⟩
    by_cases ha : a > 0
    · rw [decide_eq_true ha]
      refine iteT ?_
      refine ⟨_, rfl, p, _, _, _, rfl, rfl, .inl (.inl hp), rfl, _, rfl, _, _, rfl, ⟨by omega, by omega⟩, fun t ht => ?_⟩
      have hpt : upd H t (.tup [.int (a / m), .int (a % m)]) p = some (.lst [.int a, .int b]) := same_upd ht _ _ hp
      refine ⟨t, _, rfl, .inl (.inl upd_same), rfl, ?_⟩
      refine ⟨_, _, rfl, _, rfl, p, _, _, 0, rfl, rfl, hpt, rfl, _, _, rfl, rfl, ?_⟩
      refine ⟨_, rfl, q _ _ (Int.emod_nonneg _ (by omega)) (Int.emod_lt_of_pos _ (by omega)) ⟨_, _, upd_same, Int.ediv_nonneg a0 (by omega), b0, bu⟩ ?_⟩
      intro c o ne e
      rw [upd_ne ne]
      exact same_upd ht _ _ e
    · rw [decide_eq_false ha]
      refine iteF ?_
      refine ⟨_, rfl, p, _, _, _, rfl, rfl, .inl (.inl hp), rfl, _, _, rfl, rfl, .inr (by decide), _, _, rfl, rfl, .inl ⟨_, rfl, _, _, rfl, rfl, (by show (0 : Int) < 2147483587; decide), ?_⟩⟩
      refine ⟨_, rfl, p, _, _, 1, rfl, rfl, hp, rfl, ?_⟩
      have c0 : 0 ≤ (b * 39373 + 59) % 2147483587 := by omega
      have cu : (b * 39373 + 59) % 2147483587 < 2147483587 := by omega
      have hc : upd H p (.lst ([V.int a, V.int b].set 1 ((fun i j => V.int (i % j)) (b * 39373 + 59) 2147483587))) p = some (.lst [.int a, .int ((b * 39373 + 59) % 2147483587)]) := upd_same
      refine ⟨_, rfl, p, _, _, _, rfl, rfl, .inl (.inl hc), rfl, _, rfl, p, _, _, _, rfl, rfl, .inl (.inl hc), rfl, _, _, rfl, rfl, .inl ⟨by omega, by omega⟩, ?_⟩
      refine .inl ⟨_, rfl, _, _, rfl, rfl, (by show (0 : Int) < 2147483563; decide), _, _, rfl, rfl, ⟨by decide, by decide⟩, .inl ⟨_, rfl, _, rfl, _, _, rfl, rfl, (by show (0 : Int) < m; omega), ?_⟩⟩
      refine q _ _ (Int.emod_nonneg _ (by omega)) (Int.emod_lt_of_pos _ (by omega)) ⟨_, _, hc, a0, c0, cu⟩ ?_
      intro k o ne e
      rw [upd_ne ne]
      exact e
theorem ButD.refl {D : Addr} {H : Hp} : ButD D H H := fun _ _ _ e => e
theorem ButD.trans {D : Addr} {H1 H2 H3 : Hp} (a : ButD D H1 H2) (b : ButD D H2 H3) : ButD D H1 H3 := fun c o ne e => b c o ne (a c o ne e)
theorem Same.but {D : Addr} {H1 H2 : Hp} (a : Same H1 H2) : ButD D H1 H2 := fun c o _ e => a c o e
/-- tuples stay, the pot is a list -/
theorem pot_ne {H : Hp} {p t : Addr} {xs : List V} (hp : PotAt H p) (ht : H t = some (.tup xs)) : t ≠ p := by
  rintro rfl
  obtain ⟨a, b, e, _⟩ := hp
  rw [ht] at e
  exact nomatch e
theorem DdAll.pot {H H' : Hp} {p : Addr} {vs : List V} {ds : List Dd} (hp : PotAt H p) (b : ButD p H H') (h : DdAll H vs ds) : DdAll H' vs ds :=
  Paired.mapP h fun _ _ ⟨t, e, q⟩ => ⟨t, e, b _ _ (pot_ne hp q) q⟩

/-! ### deeds of the pot -/
abbrev sDeeds : Stmt := top 47
def spDeedsL : Sp := fun vs H Q _ => ∃ (p : Addr) (m : Int) (k : Nat), vs = [.ref p, .int m, .int k, .bl true] ∧ PotAt H p ∧ 1 ≤ m ∧ m ≤ 100 ∧ k ≤ 60 ∧
  ∀ l xs ds H', H l = none → H' l = some (.lst xs) → PotAt H' p → ButD p H H' → DdAll H' xs ds → (∀ d ∈ ds, d.Ok m) → ds.Nodup → ds.length ≤ k → (1 ≤ k → ds ≠ []) → Q (.ref l) H'
def NDe : List Str := ["_law_pot_here", "_law_places", "_law_many", "_law_has_empty", "_law_found", "_law_turn", "_law_place", "_law_goal", "_law_deed"]
theorem scDs : FnScope NDe ["_law_pot_here", "_law_places", "_law_many", "_law_has_empty"] (defScope sDeeds) := ⟨rfl, rfl, rfl, by decide +kernel, rfl, by decide +kernel, by decide +kernel⟩
theorem ok_deedsL {f : Addr} {fd : FuncData} (F : Fun K "_law_deeds" "_law_deeds" sDeeds f fd) (n : Nm mg) (GD : Fn P w K mg base 1 "_law_draw" ["_law_pot_here", "_law_many"] spDraw) :
    FnOk P w K mg base CX0 2 f fd ["_law_pot_here", "_law_places", "_law_many", "_law_has_empty"] spDeedsL := by
  refine F.ok scDs (fun vs H Q E h => ?_) (fun cdv A outer s H vs Q E hr h => ?_)
  · obtain ⟨p, m, k, rfl, _⟩ := h
    rfl
  · obtain ⟨p, m, k, rfl, hp, m1, mu, ku, q⟩ := h
    have N := scDs.nd
    refine ⟨_, pss_cons (ps_set (i := 4) N rfl (.inl rfl) (pe_lst pa_nil))
      (pss_cons (ps_for PassesOwn.never rfl (pi_range1 (by rfl) n.range (pa_cons (pv 2) pa_nil)) (pg_name (i := 5) N rfl (.inl rfl))
        (pss_cons (ps_par (i := 6) (j := 7) rfl N rfl rfl (by decide) rfl rfl (pa_cons (pe_fn GD hr (pa_cons (pv 0) (pa_cons (pv 1) pa_nil))) (pa_cons (pe_fn GD hr (pa_cons (pv 0) (pa_cons (pv 1) pa_nil))) pa_nil)) (by rfl))
        (pss_cons (ps_set (i := 8) N rfl (.inl rfl) (pe_tup (pa_cons (pv 6) (pa_cons (pe_op op_sub (pe_fn GD hr (pa_cons (pv 0) (pa_cons pe_int pa_nil))) pe_int) (pa_cons (pv 7) (pa_cons pe_str pa_nil))))))
        (pss_cons (ps_if (pw_and (pt_val (pv 3)) (pw_and1 (pt_cmpR op_eq (pe_fn GD hr (pa_cons (pv 0) (pa_cons pe_int pa_nil))) pe_int (nomark _)))).pt
          (pss_one (ps_set (i := 8) N rfl (.inl rfl) (pe_tup (pa_cons (pv 6) (pa_cons (pe_fn GD hr (pa_cons (pv 0) (pa_cons pe_int pa_nil))) (pa_cons (pv 7) (pa_cons pe_str pa_nil))))))) pss_nil)
        (pss_one (ps_if (pt_cmpR (op_notInD (hu65 hr)) (pv 8) (pv 4) (by rfl))
          (pss_one (ps_expr (pe_bm PySem.F.plainAttrs_list PySem.F.slot_list_append PySem.F.type_list_append mt_append (pv 4) (pa_cons (pv 8) pa_nil)))) pss_nil))))))
      (pss_one (ps_ret (pv 4)))), ?_⟩
    refine ⟨(by show 0 ≤ sizeLine; decide), fun l hl => ?_⟩
    have nlp : l ≠ p := by
      rintro rfl
      obtain ⟨a, b, e, _⟩ := hp
      rw [hl] at e
      exact nomatch e
    refine ⟨_, rfl, k, rfl, by omega, by omega, for_range (lo := 0) (n := (k : Int).toNat) (fun i σ H2 => ∃ (a5 a6 a7 a8 : Option V) (xs : List V) (ds : List Dd),
      σ = [some (.ref p), some (.int m), some (.int k), some (.bl true), some (.ref l), a5, a6, a7, a8] ∧ PotAt H2 p ∧ ButD p H H2 ∧ H2 l = some (.lst xs) ∧ DdAll H2 xs ds ∧ (∀ d ∈ ds, d.Ok m) ∧ ds.Nodup ∧ ds.length ≤ i ∧ (1 ≤ i → ds ≠ []))
      ⟨none, none, none, none, [], [], rfl, hp.same (same_upd hl), Same.but (same_upd hl), upd_same, .nil, (by simp), List.nodup_nil, Nat.le_refl _, (fun h => absurd h (by decide))⟩ ?_ ?_⟩
    · rintro i σ H2 hi ⟨a5, a6, a7, a8, xs, ds, rfl, hp2, b2, hl2, dd, ok, nd, len, nn⟩
      refine ⟨_, rfl, _, rfl, p, m, rfl, hp2, m1, by omega, fun pl H3 pl0 pln hp3 b3 => ?_⟩
      refine ⟨_, rfl, _, rfl, p, m, rfl, hp3, m1, by omega, fun gl H4 gl0 gln hp4 b4 => ⟨_, _, rfl, ?_⟩⟩
      refine ⟨_, rfl, _, rfl, p, 3, rfl, hp4, by decide, by decide, fun ch H5 c0 cn hp5 b5 => ⟨_, _, rfl, rfl, _, rfl, (by show 4 ≤ sizeLine; decide), fun t1 ht1 => ?_⟩⟩
      have s5 := same_upd (o := .tup [.int pl, .int (ch - 1), .int gl, .str "any"]) ht1
      have hp6 := hp5.same s5
      refine ⟨_, rfl, true, rfl, iteT ?_⟩
      refine ⟨_, rfl, p, 4, rfl, hp6, by decide, by decide, fun z H7 z0 zn hp7 b7 => ?_⟩
      have b27 : ButD p H2 H7 := ButD.trans b3 (ButD.trans b4 (ButD.trans b5 (ButD.trans (Same.but s5) b7)))
      have ht7 : H7 t1 = some (.tup [.int pl, .int (ch - 1), .int gl, .str "any"]) := b7 _ _ (pot_ne hp6 upd_same) upd_same
      refine ⟨rfl, decide (V.int z = V.int 0), rfl, ?_⟩
      have e1 : Dd.vs ⟨pl, ch - 1, gl, "any"⟩ = [.int pl, .int (ch - 1), .int gl, .str "any"] := rfl
      by_cases hz : z = 0
      · subst hz
        rw [decide_eq_true rfl]
        refine iteT ?_
        refine ⟨_, rfl, _, rfl, p, 2, rfl, hp7, by decide, by decide, fun c2 H9 c20 c2n hp9 b9 => ⟨_, rfl, (by show 4 ≤ sizeLine; decide), fun t2 ht2 => ?_⟩⟩
        have s9 := same_upd (o := .tup [.int pl, .int c2, .int gl, .str "empty"]) ht2
        have e2 : Dd.vs ⟨pl, c2, gl, "empty"⟩ = [.int pl, .int c2, .int gl, .str "empty"] := rfl
        have okd : Dd.Ok m ⟨pl, c2, gl, "empty"⟩ := ⟨pl0, pln, gl0, gln, .inr ⟨rfl, c20, by show c2 ≤ 1; omega⟩⟩
        have hpn := hp9.same s9
        have bn : ButD p H2 _ := ButD.trans b27 (ButD.trans b9 (Same.but s9))
        have htn : (upd H9 t2 (.tup [.int pl, .int c2, .int gl, .str "empty"])) t2 = some (.tup (Dd.vs ⟨pl, c2, gl, "empty"⟩)) := upd_same
        generalize upd H9 t2 (.tup [.int pl, .int c2, .int gl, .str "empty"]) = Hn at hpn bn htn ⊢
        clear e1 e2
        generalize (⟨pl, c2, gl, "empty"⟩ : Dd) = dn at okd htn ⊢
        have hln := bn _ _ nlp hl2
        have ddn := DdAll.pot hp2 bn dd
        refine ⟨_, rfl, _, rfl, dn.d, ds.map Dd.d, DdAt.dp ⟨_, rfl, htn⟩, .lst (.inl (.inl hln)) ddn.dps, Dd.shaped okd.wd, shapedL (fun x hx => (ok x hx).wd), _, rfl, ?_⟩
        rw [any_in]
        by_cases hin : dn ∈ ds
        · rw [decide_eq_true hin]
          refine iteF ?_
          exact ⟨_, _, _, _, xs, ds, rfl, hpn, ButD.trans b2 bn, hln, ddn, ok, nd, Nat.le_succ_of_le len, fun _ z => by rw [z] at hin; exact absurd hin (by simp)⟩
        · rw [decide_eq_false hin]
          refine iteT ?_
          have xl := Paired.length ddn
          refine ⟨_, rfl, .inl ⟨rfl, _, .inl (.inl hln)⟩, _, rfl, l, _, _, rfl, rfl, hln, by rw [sizeLine_eq]; omega, ?_⟩
          refine ⟨_, _, _, _, xs ++ [.ref t2], ds ++ [dn], rfl, ?_, ?_, upd_same, ?_, ?_, ?_, by simp; omega, fun _ => by simp⟩
          · obtain ⟨a, b, e, r⟩ := hpn
            exact ⟨a, b, by rw [upd_ne nlp.symm]; exact e, r⟩
          · intro c o ne e
            rw [upd_ne (ne_of_none e hl)]
            exact bn _ _ ne (b2 _ _ ne e)
          · have st : ∀ {y d}, DdAt Hn y d → DdAt (upd Hn l (.lst (xs ++ [.ref t2]))) y d := fun {y d} ⟨t, e, q⟩ => ⟨t, e, by
              rw [upd_ne (fun z => by subst z; rw [hln] at q; exact nomatch q)]
              exact q⟩
            exact PySem.Paired.snoc (Paired.mapP ddn fun _ _ q => st q) (st ⟨_, rfl, htn⟩)
          · intro d hd
            rcases List.mem_append.mp hd with hd | hd
            · exact ok d hd
            · rw [List.mem_singleton.mp hd]
              exact okd
          · rw [List.nodup_append]
            exact ⟨nd, by simp, fun a ha b hb => by rw [List.mem_singleton.mp hb]; exact fun z => hin (z ▸ ha)⟩
      · have okd : Dd.Ok m ⟨pl, ch - 1, gl, "any"⟩ := ⟨pl0, pln, gl0, gln, .inl ⟨rfl, by show -1 ≤ ch - 1; omega, by show ch - 1 ≤ 1; omega⟩⟩
        rw [decide_eq_false (by simpa using hz)]
        refine iteF ?_
        have htn : H7 t1 = some (.tup (Dd.vs ⟨pl, ch - 1, gl, "any"⟩)) := ht7
        have hpn := hp7
        have bn := b27
        generalize H7 = Hn at hpn bn htn ⊢
        clear e1
        generalize (⟨pl, ch - 1, gl, "any"⟩ : Dd) = dn at okd htn ⊢
        have hln := bn _ _ nlp hl2
        have ddn := DdAll.pot hp2 bn dd
        refine ⟨_, rfl, _, rfl, dn.d, ds.map Dd.d, DdAt.dp ⟨_, rfl, htn⟩, .lst (.inl (.inl hln)) ddn.dps, Dd.shaped okd.wd, shapedL (fun x hx => (ok x hx).wd), _, rfl, ?_⟩
        rw [any_in]
        by_cases hin : dn ∈ ds
        · rw [decide_eq_true hin]
          refine iteF ?_
          exact ⟨_, _, _, _, xs, ds, rfl, hpn, ButD.trans b2 bn, hln, ddn, ok, nd, Nat.le_succ_of_le len, fun _ z => by rw [z] at hin; exact absurd hin (by simp)⟩
        · rw [decide_eq_false hin]
          refine iteT ?_
          have xl := Paired.length ddn
          refine ⟨_, rfl, .inl ⟨rfl, _, .inl (.inl hln)⟩, _, rfl, l, _, _, rfl, rfl, hln, by rw [sizeLine_eq]; omega, ?_⟩
          refine ⟨_, _, _, _, xs ++ [.ref t1], ds ++ [dn], rfl, ?_, ?_, upd_same, ?_, ?_, ?_, by simp; omega, fun _ => by simp⟩
          · obtain ⟨a, b, e, r⟩ := hpn
            exact ⟨a, b, by rw [upd_ne nlp.symm]; exact e, r⟩
          · intro c o ne e
            rw [upd_ne (ne_of_none e hl)]
            exact bn _ _ ne (b2 _ _ ne e)
          · have st : ∀ {y d}, DdAt Hn y d → DdAt (upd Hn l (.lst (xs ++ [.ref t1]))) y d := fun {y d} ⟨t, e, q⟩ => ⟨t, e, by
              rw [upd_ne (fun z => by subst z; rw [hln] at q; exact nomatch q)]
              exact q⟩
            exact PySem.Paired.snoc (Paired.mapP ddn fun _ _ q => st q) (st ⟨_, rfl, htn⟩)
          · intro d hd
            rcases List.mem_append.mp hd with hd | hd
            · exact ok d hd
            · rw [List.mem_singleton.mp hd]
              exact okd
          · rw [List.nodup_append]
            exact ⟨nd, by simp, fun a ha b hb => by rw [List.mem_singleton.mp hb]; exact fun z => hin (z ▸ ha)⟩
    · rintro σ H2 ⟨a5, a6, a7, a8, xs, ds, rfl, hp2, b2, hl2, dd, ok, nd, len, nn⟩
      have hlk : ds.length ≤ k := by omega
      exact ⟨_, rfl, q l xs ds H2 hl hl2 hp2 b2 dd ok nd hlk (fun h => nn (by omega))⟩

end
end L2.K23
end

section
set_option Elab.async false
set_option linter.all false
set_option maxRecDepth 100000
set_option maxHeartbeats 4000000
namespace L2.K23
open PySem PySem.Spec PyProof.Rows L2.Gd

/-! ### values of any kind (p: the pot, that is none of them) -/
mutual
inductive DV (p : Addr) (H : Hp) : V → PyData → Prop
  | non : DV p H .non .none
  | bl (b : Bool) : DV p H (.bl b) (.bool b)
  | int (i : Int) : DV p H (.int i) (.int i)
  | str (x : Str) : DV p H (.str x) (.str x)
  | lst {a : Addr} {xs : List V} {ds : List PyData} : a ≠ p → H a = some (.lst xs) → DVs p H xs ds → DV p H (.ref a) (.list ds)
  | tup {a : Addr} {xs : List V} {ds : List PyData} : H a = some (.tup xs) → DVs p H xs ds → DV p H (.ref a) (.tuple ds)
  | dct {a : Addr} {kvs : List (Key × V)} : H a = some (.dK kvs) → DV p H (.ref a) (.dict [])
inductive DVs (p : Addr) (H : Hp) : List V → List PyData → Prop
  | nil : DVs p H [] []
  | cons {v : V} {vs : List V} {d : PyData} {ds : List PyData} : DV p H v d → DVs p H vs ds → DVs p H (v :: vs) (d :: ds)
end
mutual
theorem DV.but {p : Addr} {H H' : Hp} (hp : PotAt H p) (b : ButD p H H') : ∀ {v : V} {d : PyData}, DV p H v d → DV p H' v d
  | _, _, .non => .non
  | _, _, .bl b => .bl b
  | _, _, .int i => .int i
  | _, _, .str x => .str x
  | _, _, .lst ne h t => .lst ne (b _ _ ne h) (DVs.but hp b t)
  | _, _, .tup h t => .tup (b _ _ (pot_ne hp h) h) (DVs.but hp b t)
  | _, _, .dct h => .dct (b _ _ (fun z => by
      subst z
      obtain ⟨x, y, e, _⟩ := hp
      rw [h] at e
      exact nomatch e) h)
theorem DVs.but {p : Addr} {H H' : Hp} (hp : PotAt H p) (b : ButD p H H') : ∀ {vs : List V} {ds : List PyData}, DVs p H vs ds → DVs p H' vs ds
  | _, _, .nil => .nil
  | _, _, .cons h t => .cons (DV.but hp b h) (DVs.but hp b t)
end
mutual
theorem DV.same {p : Addr} {H H' : Hp} (s : Same H H') : ∀ {v : V} {d : PyData}, DV p H v d → DV p H' v d
  | _, _, .non => .non
  | _, _, .bl b => .bl b
  | _, _, .int i => .int i
  | _, _, .str x => .str x
  | _, _, .lst ne h t => .lst ne (s _ _ h) (DVs.same s t)
  | _, _, .tup h t => .tup (s _ _ h) (DVs.same s t)
  | _, _, .dct h => .dct (s _ _ h)
theorem DVs.same {p : Addr} {H H' : Hp} (s : Same H H') : ∀ {vs : List V} {ds : List PyData}, DVs p H vs ds → DVs p H' vs ds
  | _, _, .nil => .nil
  | _, _, .cons h t => .cons (DV.same s h) (DVs.same s t)
end
theorem DVs.len {p : Addr} {H : Hp} : ∀ {vs : List V} {ds : List PyData}, DVs p H vs ds → vs.length = ds.length
  | _, _, .nil => rfl
  | _, _, .cons _ t => congrArg Nat.succ (DVs.len t)
theorem DVs.at {p : Addr} {H : Hp} : ∀ {vs : List V} {ds : List PyData} {i : Nat} {v : V}, DVs p H vs ds → vs[i]? = some v → ∃ d, ds[i]? = some d ∧ DV p H v d
  | _, _, _, _, .nil, e => by simp at e
  | _, _, 0, _, .cons h _, e => by simp at e; subst e; exact ⟨_, rfl, h⟩
  | _, _, i + 1, _, .cons _ t, e => by
    obtain ⟨d, h1, h2⟩ := DVs.at (i := i) t (by simpa using e)
    exact ⟨d, by simpa using h1, h2⟩
def kindT : PyData → String
  | .none => "NoneType"
  | .bool _ => "bool"
  | .int _ => "int"
  | .str _ => "str"
  | .list _ => "list"
  | .tuple _ => "tuple"
  | .dict _ => "dict"
theorem DV.ty {K : PySem.W.Frag} {p : Addr} {H : Hp} {v : V} {d : PyData} (h : DV p H v d) : TyX K H v (.type (kindT d)) := by
  cases h with
  | non => exact .base .non
  | bl b => exact .base (.bl _)
  | int i => exact .base (.int _)
  | str x => exact .base (.str _)
  | lst _ e _ => exact .base (.lst e)
  | tup e _ => exact .base (.tup e)
  | dct e => exact .base (.dK e)
def isI : PyData → Bool | .int _ => true | _ => false
def isB : PyData → Bool | .bool _ => true | _ => false
def isT : PyData → Bool | .tuple _ => true | _ => false
def isLT : PyData → Bool | .list _ => true | .tuple _ => true | _ => false
def isC : PyData → Bool | .int i => decide (0 ≤ i) | _ => false
theorem kit_int : ∀ d : PyData, kitB (kindT d) "int" = some (isI d || isB d)
  | .none => (by decide +kernel : kitB "NoneType" "int" = some false)
  | .bool _ => (by decide +kernel : kitB "bool" "int" = some true)
  | .int _ => (by decide +kernel : kitB "int" "int" = some true)
  | .str _ => (by decide +kernel : kitB "str" "int" = some false)
  | .list _ => (by decide +kernel : kitB "list" "int" = some false)
  | .tuple _ => (by decide +kernel : kitB "tuple" "int" = some false)
  | .dict _ => (by decide +kernel : kitB "dict" "int" = some false)
theorem kit_bool : ∀ d : PyData, kitB (kindT d) "bool" = some (isB d)
  | .none => (by decide +kernel : kitB "NoneType" "bool" = some false)
  | .bool _ => (by decide +kernel : kitB "bool" "bool" = some true)
  | .int _ => (by decide +kernel : kitB "int" "bool" = some false)
  | .str _ => (by decide +kernel : kitB "str" "bool" = some false)
  | .list _ => (by decide +kernel : kitB "list" "bool" = some false)
  | .tuple _ => (by decide +kernel : kitB "tuple" "bool" = some false)
  | .dict _ => (by decide +kernel : kitB "dict" "bool" = some false)
theorem kit_tuple : ∀ d : PyData, kitB (kindT d) "tuple" = some (isT d)
  | .none => (by decide +kernel : kitB "NoneType" "tuple" = some false)
  | .bool _ => (by decide +kernel : kitB "bool" "tuple" = some false)
  | .int _ => (by decide +kernel : kitB "int" "tuple" = some false)
  | .str _ => (by decide +kernel : kitB "str" "tuple" = some false)
  | .list _ => (by decide +kernel : kitB "list" "tuple" = some false)
  | .tuple _ => (by decide +kernel : kitB "tuple" "tuple" = some true)
  | .dict _ => (by decide +kernel : kitB "dict" "tuple" = some false)
theorem kit_list : ∀ d : PyData, kitB (kindT d) "list" = some (isLT d && !isT d)
  | .none => (by decide +kernel : kitB "NoneType" "list" = some false)
  | .bool _ => (by decide +kernel : kitB "bool" "list" = some false)
  | .int _ => (by decide +kernel : kitB "int" "list" = some false)
  | .str _ => (by decide +kernel : kitB "str" "list" = some false)
  | .list _ => (by decide +kernel : kitB "list" "list" = some true)
  | .tuple _ => (by decide +kernel : kitB "tuple" "list" = some false)
  | .dict _ => (by decide +kernel : kitB "dict" "list" = some false)
section
variable {P : Program} {w : World} {K : PySem.W.Frag} {mg : Str → Option Value} {base : Heap} {C : Addr}
def spInt2 : Sp := fun vs H Q _ => ∃ (p : Addr) (v : V) (d : PyData), vs = [v] ∧ DV p H v d ∧ Q (.bl (isI d)) H
theorem ok_int2 {f : Addr} {fd : FuncData} (F : Fun K "is_integer" "is_integer" sIsInt f fd) (n : Nm mg) : FnOk P w K mg base CX0 1 f fd ["value"] spInt2 := by
  refine F.ok scI (fun vs H Q E h => ?_) (fun cdv A outer s H vs Q E hr h => ?_)
  · obtain ⟨p, v, d, rfl, _⟩ := h
    rfl
  · obtain ⟨p, v, d, rfl, hd, k⟩ := h
    refine ⟨_, pss_one (ps_ret (pe_and (pe_isInt n (pv 0)) (pe_one (pe_not (pe_isBool n (pv 0)))))), ?_⟩
    refine ⟨_, rfl, isi_mk hd.ty (kit_int d) ⟨_, rfl, ?_⟩⟩
    have e : isI d = ((isI d || isB d) && !isB d) := by cases d <;> rfl
    cases q : (isI d || isB d) with
    | true =>
      refine iteT ⟨_, rfl, isi_mk hd.ty (kit_bool d) ⟨_, rfl, ?_⟩⟩
      rw [q, Bool.true_and] at e
      rw [← e]
      exact k
    | false =>
      rw [q, Bool.false_and] at e
      rw [e] at k
      exact iteF k
def spCnt2 : Sp := fun vs H Q _ => ∃ (p : Addr) (v : V) (d : PyData), vs = [v] ∧ DV p H v d ∧ Q (.bl (isC d)) H
theorem ok_cnt2 {f : Addr} {fd : FuncData} (F : Fun K "is_count" "is_count" sIsCount f fd) (G : Fn P w K mg base 1 "is_integer" ["value"] spInt2) : FnOk P w K mg base CX0 2 f fd ["value"] spCnt2 := by
  refine F.ok scC (fun vs H Q E h => ?_) (fun cdv A outer s H vs Q E hr h => ?_)
  · obtain ⟨p, v, d, rfl, _⟩ := h
    rfl
  · obtain ⟨p, v, d, rfl, hd, k⟩ := h
    refine ⟨_, pss_one (ps_ret (pe_and (pe_fn G hr (pa_cons (pv 0) pa_nil)) (pe_one (pe_cmpR op_ge (pv 0) pe_int (nomark _))))), ?_⟩
    refine ⟨_, rfl, p, v, d, rfl, hd, _, rfl, ?_⟩
    cases hd with
    | int i =>
      refine iteT ⟨_, rfl, _, _, rfl, rfl, ?_⟩
      exact k
    | non => exact iteF k
    | bl b => exact iteF k
    | str x => exact iteF k
    | lst _ _ _ => exact iteF k
    | tup _ _ => exact iteF k
    | dct _ => exact iteF k
def spLst2 : Sp := fun vs H Q _ => ∃ (p : Addr) (v : V) (d : PyData), vs = [v] ∧ DV p H v d ∧ ∀ H', Same H H' → Q (.bl (isLT d)) H'
theorem ok_lst2 {f : Addr} {fd : FuncData} (F : Fun K "is_list" "is_list" sIsList f fd) (n : Nm mg) : FnOk P w K mg base CX0 1 f fd ["value"] spLst2 := by
  refine F.ok scL (fun vs H Q E h => ?_) (fun cdv A outer s H vs Q E hr h => ?_)
  · obtain ⟨p, v, d, rfl, _⟩ := h
    rfl
  · obtain ⟨p, v, d, rfl, hd, k⟩ := h
    refine ⟨_, pss_one (ps_ret (pe_callB call_isiT (by rfl) n.isi (by decide +kernel) (pa_cons (pv 0) (pa_cons (pe_tup (pa_cons (pe_bltn (v := .ty "list") (by rfl) n.list (by decide +kernel) rfl) (pa_cons (pe_bltn (v := .ty "tuple") (by rfl) n.tuple (by decide +kernel) rfl) pa_nil))) pa_nil)))), ?_⟩
    refine ⟨_, rfl, (by show 2 ≤ sizeLine; decide), fun q hq => ?_⟩
    have cs : Paired ClsV [V.ty "list", V.ty "tuple"] [Value.type "list", Value.type "tuple"] := .cons (.ty _) (.cons (.ty _) .nil)
    refine ⟨_, q, _, _, _, isLT d, rfl, upd_same, cs, (hd.same (same_upd hq)).ty, ?_, k _ (same_upd hq)⟩
    refine kitAny_cons (kit_ty (kit_list d)) (fun e1 => kitAny_cons (kit_ty (kit_tuple d)) (fun e2 => ?_) (fun e2 => ?_)) (fun e1 => ?_)
    · have : isLT d = false := by
        cases d <;> first | rfl | exact absurd (show true = false from e1) (by decide) | exact absurd (show true = false from e2) (by decide)
      rw [this]
      rfl
    · cases d <;> first | rfl | exact absurd (show false = true from e2) (by decide)
    · cases d <;> first | rfl | exact absurd (show false = true from e1) (by decide)
end
end L2.K23
end

section
set_option Elab.async false
set_option linter.all false
set_option maxRecDepth 100000
set_option maxHeartbeats 4000000
namespace L2.K23
open PySem PySem.Spec PyProof.Rows L2.Gd
abbrev cCrs (i : Nat) : Stmt := inClass (top 21) i
/-- what is known of a going: where it begins and ends, its deeds, gain and need -/
structure Crs where
  b : Option Int
  f : Option Int
  n : Int
  g : Int
  e : Int
  o : Bool
  v : Bool
def oV : Option Int → V | none => .non | some i => .int i
def cf (c : Crs) : List (Str × V) := putF "vain" (.bl c.v) (putF "only" (.bl c.o) (putF "need" (.int c.e) (putF "gain" (.int c.g) (putF "many" (.int c.n) (putF "finish" (oV c.f) (putF "begin" (oV c.b) []))))))
theorem putF_le {f : Str} {v : V} {l : List (Str × V)} {n : Nat} (h : l.length ≤ n) : (putF f v l).length ≤ n + 1 := Nat.le_trans (length_putF f v l) (Nat.succ_le_succ h)
theorem lt_of20 {l : List (Str × V)} {n : Nat} (h : l.length ≤ n) (hn : n ≤ 20 := by decide) : l.length < 1000 := by omega
theorem cf_b (c : Crs) : (cf c).lookup ("begin" : Str) = some (oV c.b) := by
  unfold cf
  rw [lookup_putF, if_neg (by decide +kernel), lookup_putF, if_neg (by decide +kernel), lookup_putF, if_neg (by decide +kernel), lookup_putF, if_neg (by decide +kernel), lookup_putF, if_neg (by decide +kernel), lookup_putF, if_neg (by decide +kernel), lookup_putF, if_pos rfl]
theorem cf_f (c : Crs) : (cf c).lookup ("finish" : Str) = some (oV c.f) := by
  unfold cf
  rw [lookup_putF, if_neg (by decide +kernel), lookup_putF, if_neg (by decide +kernel), lookup_putF, if_neg (by decide +kernel), lookup_putF, if_neg (by decide +kernel), lookup_putF, if_neg (by decide +kernel), lookup_putF, if_pos rfl]
theorem cf_n (c : Crs) : (cf c).lookup ("many" : Str) = some (.int c.n) := by
  unfold cf
  rw [lookup_putF, if_neg (by decide +kernel), lookup_putF, if_neg (by decide +kernel), lookup_putF, if_neg (by decide +kernel), lookup_putF, if_neg (by decide +kernel), lookup_putF, if_pos rfl]
theorem cf_g (c : Crs) : (cf c).lookup ("gain" : Str) = some (.int c.g) := by
  unfold cf
  rw [lookup_putF, if_neg (by decide +kernel), lookup_putF, if_neg (by decide +kernel), lookup_putF, if_neg (by decide +kernel), lookup_putF, if_pos rfl]
theorem cf_e (c : Crs) : (cf c).lookup ("need" : Str) = some (.int c.e) := by
  unfold cf
  rw [lookup_putF, if_neg (by decide +kernel), lookup_putF, if_neg (by decide +kernel), lookup_putF, if_pos rfl]
theorem cf_o (c : Crs) : (cf c).lookup ("only" : Str) = some (.bl c.o) := by
  unfold cf
  rw [lookup_putF, if_neg (by decide +kernel), lookup_putF, if_pos rfl]
theorem cf_v (c : Crs) : (cf c).lookup ("vain" : Str) = some (.bl c.v) := by
  unfold cf
  rw [lookup_putF, if_pos rfl]
theorem cf_fits (c : Crs) : (cf c).lookup ("fits" : Str) = none := by
  unfold cf
  rw [lookup_putF, if_neg (by decide +kernel), lookup_putF, if_neg (by decide +kernel), lookup_putF, if_neg (by decide +kernel), lookup_putF, if_neg (by decide +kernel), lookup_putF, if_neg (by decide +kernel), lookup_putF, if_neg (by decide +kernel), lookup_putF, if_neg (by decide +kernel)]
  rfl
def CrsAt (C : Addr) (H : Hp) (x : Addr) (c : Crs) : Prop := ∃ dx, H x = some (.ins C dx (cf c))
theorem CrsAt.same {C : Addr} {H H' : Hp} {x : Addr} {c : Crs} (s : Same H H') (h : CrsAt C H x c) : CrsAt C H' x c := let ⟨dx, e⟩ := h; ⟨dx, s _ _ e⟩
structure ClsC (K : PySem.W.Frag) (mg : Str → Option Value) (C : Addr) : Prop where
  cl : Cls K C
  nb : NoAttr K C "begin"
  nf : NoAttr K C "finish"
  nn : NoAttr K C "many"
  ng : NoAttr K C "gain"
  ne : NoAttr K C "need"
  no : NoAttr K C "only"
  nv : NoAttr K C "vain"
  mgC : mg "Course" = some (.ref C)
section
variable {P : Program} {w : World} {K : PySem.W.Frag} {mg : Str → Option Value} {base : Heap} {C : Addr}
def Crs.vs (c : Crs) : List V := [oV c.b, oV c.f, .int c.n, .int c.g, .int c.e, .bl c.o, .bl c.v]
def spCI (C : Addr) : Sp := fun vs H Q _ => ∃ (x dx : Addr) (c : Crs), vs = .ref x :: c.vs ∧ H x = some (.ins C dx []) ∧ ∀ H', H' x = some (.ins C dx (cf c)) → (∀ b o, b ≠ x → H b = some o → H' b = some o) → Q .non H'
def NCi : List Str := ["self", "begin", "finish", "many", "gain", "need", "only", "vain"]
theorem scCi : FnScope NCi NCi (defScope (cCrs 0)) := ⟨rfl, rfl, rfl, by decide +kernel, rfl, by decide +kernel, by decide +kernel⟩
theorem ok_ci {f : Addr} {fd : FuncData} (F : Fun K "__init__" "Course.__init__" (cCrs 0) f fd) (T : ClsC K mg C) : FnOk P w K mg base CX0 1 f fd NCi (spCI C) := by
  refine F.ok scCi (fun vs H Q E h => ?_) (fun cdv A outer s H vs Q E hr h => ?_)
  · obtain ⟨x, dx, c, rfl, _⟩ := h
    rfl
  · obtain ⟨x, dx, c, rfl, hx, k⟩ := h
    refine ⟨_, pss_cons (ps_fld (pv 0) (pv 1) rfl) (pss_cons (ps_fld (pv 0) (pv 2) rfl) (pss_cons (ps_fld (pv 0) (pv 3) rfl) (pss_cons (ps_fld (pv 0) (pv 4) rfl) (pss_cons (ps_fld (pv 0) (pv 5) rfl) (pss_cons (ps_fld (pv 0) (pv 6) rfl) (pss_one (ps_fld (pv 0) (pv 7) rfl))))))), ?_⟩
    refine ⟨_, rfl, _, rfl, x, C, dx, _, rfl, hx, T.cl, T.nb, lt_of20 (show ([] : List (Str × V)).length ≤ 0 from Nat.le_refl _), ?_⟩
    refine ⟨_, rfl, _, rfl, x, C, dx, _, rfl, upd_same, T.cl, T.nf, lt_of20 (putF_le (show ([] : List (Str × V)).length ≤ 0 from Nat.le_refl _)), ?_⟩
    refine ⟨_, rfl, _, rfl, x, C, dx, _, rfl, upd_same, T.cl, T.nn, lt_of20 (putF_le (putF_le (show ([] : List (Str × V)).length ≤ 0 from Nat.le_refl _))), ?_⟩
    refine ⟨_, rfl, _, rfl, x, C, dx, _, rfl, upd_same, T.cl, T.ng, lt_of20 (putF_le (putF_le (putF_le (show ([] : List (Str × V)).length ≤ 0 from Nat.le_refl _)))), ?_⟩
    refine ⟨_, rfl, _, rfl, x, C, dx, _, rfl, upd_same, T.cl, T.ne, lt_of20 (putF_le (putF_le (putF_le (putF_le (show ([] : List (Str × V)).length ≤ 0 from Nat.le_refl _))))), ?_⟩
    refine ⟨_, rfl, _, rfl, x, C, dx, _, rfl, upd_same, T.cl, T.no, lt_of20 (putF_le (putF_le (putF_le (putF_le (putF_le (show ([] : List (Str × V)).length ≤ 0 from Nat.le_refl _)))))), ?_⟩
    refine ⟨_, rfl, _, rfl, x, C, dx, _, rfl, upd_same, T.cl, T.nv, lt_of20 (putF_le (putF_le (putF_le (putF_le (putF_le (putF_le (show ([] : List (Str × V)).length ≤ 0 from Nat.le_refl _))))))), ?_⟩
    refine k _ upd_same fun b o hb e => ?_
    rw [upd_ne hb, upd_ne hb, upd_ne hb, upd_ne hb, upd_ne hb, upd_ne hb, upd_ne hb]
    exact e
/-- Course(..) -/
structure MkC (P : Program) (w : World) (K : PySem.W.Frag) (mg : Str → Option Value) (base : Heap) (C : Addr) : Prop where
  ex : ∃ f fd, Mk K C f ∧ Binds K fd NCi [] ∧ FnOk P w K mg base CX0 1 f fd NCi (spCI C)
theorem pe_crs {X : Cx} {e : Expr} {es : List Expr} {t : TA} {p pos : Pos} (M : MkC X.prog X.w X.K X.mg X.base C) (T : ClsC X.K X.mg C) (hr : Room 2 X.A) (ha : PA X (e :: es) t)
    (hg : Gl X "Course" := by rfl) (he : starEach (e :: es) X.env = (false, eval e X.env) :: starEach es X.env := by rfl)
    (hpl : (backTo pos (starEach es X.env)).any (·.1) = false := by rfl) :
    PE X (.Call (.Name "Course" p) (e :: es) [] pos) (tMake C (spCI C) [] E0 t) := by
  obtain ⟨f, fd, mk, b, F⟩ := M.ex
  exact pe_make mk F hr hg T.mgC b .nil pass0 ha (by decide) he hpl
theorem crs_any {R : Addr → VK} {H : Hp} {E : XK} (c : Crs) (k : ∀ (x : Addr) (H' : Hp), H x = none → Same H H' → CrsAt C H' x c → R x .non H') :
    ∀ x dx, H x = none → H dx = none → dx ≠ x → spCI C (.ref x :: (c.vs ++ [])) (upd (upd H dx (.own x)) x (.ins C dx [])) (R x) E := by
  intro x dx nx ndx ne
  have s0 : Same H (upd (upd H dx (.own x)) x (.ins C dx [])) := fun b o e => by
    rw [upd_ne (ne_of_none e nx), upd_ne (ne_of_none e ndx)]
    exact e
  refine ⟨x, dx, c, by rw [List.append_nil], upd_same, fun H' hx kp => ?_⟩
  exact k x H' nx (fun b o e => kp b o (ne_of_none e nx) (s0 b o e)) ⟨dx, hx⟩

/-! ### fits -/
def fitsC (c : Crs) (p s : Int) : Bool := if c.n = 0 then true else if c.v = true ∨ c.b ≠ some p then false else if c.o = true then decide (s = c.e) else decide (s ≥ c.e)
def spFits (C : Addr) : Sp := fun vs H Q _ => ∃ (x : Addr) (c : Crs) (p s : Int), vs = [.ref x, .int p, .int s] ∧ CrsAt C H x c ∧ Q (.bl (fitsC c p s)) H
theorem scFi : FnScope ["self", "place", "start"] ["self", "place", "start"] (defScope (cCrs 1)) := ⟨rfl, rfl, rfl, by decide +kernel, rfl, by decide +kernel, by decide +kernel⟩
theorem oV_scal (o : Option Int) (p : Int) : scal (oV o) (.int p) = true := by cases o <;> rfl
theorem oV_dec (o : Option Int) (p : Int) : decide (oV o = V.int p) = decide (o = some p) := by
  cases o with
  | none => simp [oV]
  | some i => simp [oV]
theorem ok_fits {f : Addr} {fd : FuncData} (F : Fun K "fits" "Course.fits" (cCrs 1) f fd) (T : ClsC K mg C) : FnOk P w K mg base CX0 1 f fd ["self", "place", "start"] (spFits C) := by
  refine F.ok scFi (fun vs H Q E h => ?_) (fun cdv A outer s H vs Q E hr h => ?_)
  · obtain ⟨x, c, p, s, rfl, _⟩ := h
    rfl
  · obtain ⟨x, c, p, st, rfl, ⟨dx, hx⟩, k⟩ := h
    refine ⟨_, pss_cons (ps_if (pt_cmpR op_eq (pe_fld (pv 0) rfl) pe_int (nomark _)) (pss_one (ps_ret pe_bl)) pss_nil)
      (pss_cons (ps_if (pw_or (pt_val (pe_fld (pv 0) rfl)) (pw_or1 (pt_cmpR op_ne (pe_fld (pv 0) rfl) (pv 1) (nomark _)))).pt (pss_one (ps_ret pe_bl)) pss_nil)
      (pss_one (ps_ret (pe_ifExp (pt_val (pe_fld (pv 0) rfl)) (pe_cmpR op_eq (pv 2) (pe_fld (pv 0) rfl) (nomark _)) (pe_cmpR op_ge (pv 2) (pe_fld (pv 0) rfl) (nomark _)))))), ?_⟩
    refine ⟨_, rfl, x, C, dx, _, _, rfl, hx, T.cl, T.nn, cf_n c, rfl, decide (V.int c.n = V.int 0), rfl, ?_⟩
    unfold fitsC at k
    by_cases h0 : c.n = 0
    · rw [if_pos h0] at k
      rw [decide_eq_true (by rw [h0])]
      exact iteT k
    · rw [if_neg h0] at k
      rw [decide_eq_false (by simpa using h0)]
      refine iteF ?_
      refine ⟨_, rfl, x, C, dx, _, _, rfl, hx, T.cl, T.nv, cf_v c, c.v, rfl, ?_⟩
      cases hv : c.v with
      | true =>
        rw [if_pos (.inl hv)] at k
        exact iteT k
      | false =>
        refine iteF ⟨_, rfl, x, C, dx, _, _, rfl, hx, T.cl, T.nb, cf_b c, _, rfl, oV_scal _ _, !decide (c.b = some p), congrArg (fun b => V.bl (!b)) (oV_dec _ _), ?_⟩
        by_cases hb : c.b = some p
        · rw [if_neg (by rw [hv]; simp [hb])] at k
          rw [decide_eq_true hb]
          refine iteF ⟨_, rfl, x, C, dx, _, _, rfl, hx, T.cl, T.no, cf_o c, c.o, rfl, ?_⟩
          cases ho : c.o with
          | true =>
            rw [if_pos ho] at k
            refine iteT ⟨_, rfl, _, rfl, x, C, dx, _, _, rfl, hx, T.cl, T.ne, cf_e c, rfl, ?_⟩
            have e : decide (V.int st = V.int c.e) = decide (st = c.e) := by simp
            rw [e]
            exact k
          | false =>
            rw [if_neg (by rw [ho]; decide)] at k
            exact iteF ⟨_, rfl, _, rfl, x, C, dx, _, _, rfl, hx, T.cl, T.ne, cf_e c, _, _, rfl, rfl, k⟩
        · rw [if_pos (.inr hb)] at k
          rw [decide_eq_false hb]
          exact iteT k

/-! ### no_course, deed_course -/
def noC : Crs := ⟨none, none, 0, 0, 0, false, false⟩
def deedC (d : Dd) : Crs := ⟨some d.p, some d.g, 1, d.c, if 0 - d.c > 0 then 0 - d.c else 0, decide (d.w = "empty"), false⟩
def spNo (C : Addr) : Sp := fun vs H Q _ => vs = [] ∧ ∀ x H', H x = none → Same H H' → CrsAt C H' x noC → Q (.ref x) H'
theorem scNo : FnScope [] [] (defScope (top 22)) := ⟨rfl, rfl, rfl, by decide +kernel, rfl, by decide +kernel, by decide +kernel⟩
theorem ok_no {f : Addr} {fd : FuncData} (F : Fun K "no_course" "no_course" (top 22) f fd) (T : ClsC K mg C) (M : MkC P w K mg base C) : FnOk P w K mg base CX0 3 f fd [] (spNo C) := by
  refine F.ok scNo (fun vs H Q E h => ?_) (fun cdv A outer s H vs Q E hr h => ?_)
  · obtain ⟨rfl, _⟩ := h
    rfl
  · obtain ⟨rfl, k⟩ := h
    refine ⟨_, pss_one (ps_ret (pe_crs M T hr (pa_cons pe_non (pa_cons pe_non (pa_cons pe_int (pa_cons pe_int (pa_cons pe_int (pa_cons pe_bl (pa_cons pe_bl pa_nil))))))))), ?_⟩
    exact crs_any noC fun x H' nx s hc => ⟨rfl, k x H' nx s hc⟩
def spDC (C : Addr) : Sp := fun vs H Q _ => ∃ (t : Addr) (d : Dd), vs = [.ref t] ∧ H t = some (.tup d.vs) ∧ ∀ x H', H x = none → Same H H' → CrsAt C H' x (deedC d) → Q (.ref x) H'
theorem scDC : FnScope ["deed", "place", "change", "goal", "when"] ["deed"] (defScope (top 23)) := ⟨rfl, rfl, rfl, by decide +kernel, rfl, by decide +kernel, by decide +kernel⟩
theorem ok_dc {f : Addr} {fd : FuncData} (F : Fun K "deed_course" "deed_course" (top 23) f fd) (n : Nm mg) (T : ClsC K mg C) (M : MkC P w K mg base C) : FnOk P w K mg base CX0 3 f fd ["deed"] (spDC C) := by
  refine F.ok scDC (fun vs H Q E h => ?_) (fun cdv A outer s H vs Q E hr h => ?_)
  · obtain ⟨t, d, rfl, _⟩ := h
    rfl
  · obtain ⟨t, d, rfl, ht, k⟩ := h
    have N := scDC.nd
    refine ⟨_, pss_cons (ps_asg (pv 0) (pg_tup rfl (pgs_cons (pg_name (i := 1) N rfl (.inl rfl)) (pgs_cons (pg_name (i := 2) N rfl (.inl rfl)) (pgs_cons (pg_name (i := 3) N rfl (.inl rfl)) (pgs_cons (pg_name (i := 4) N rfl (.inl rfl)) pgs_nil))))))
      (pss_one (ps_ret (pe_crs M T hr (pa_cons (pv 1) (pa_cons (pv 3) (pa_cons pe_int (pa_cons (pv 2) (pa_cons (pe_callB (call_max2 rfl) (by rfl) n.max (by decide +kernel) (pa_cons pe_int (pa_cons (pe_op op_sub pe_int (pv 2)) pa_nil)))
        (pa_cons (pe_cmpR op_eq (pv 4) pe_str (nomark _)) (pa_cons pe_bl pa_nil)))))))))), ?_⟩
    refine ⟨_, rfl, t, _, rfl, .inl (.inl ht), rfl, _, _, rfl, _, _, rfl, _, _, rfl, _, _, rfl, rfl, ?_⟩
    refine ⟨_, rfl, _, rfl, _, rfl, _, rfl, _, _, rfl, rfl, _, _, rfl, _, rfl, rfl, ?_⟩
    have e : decide (V.str d.w = V.str "empty") = decide (d.w = "empty") := by simp
    rw [e]
    exact crs_any (deedC d) fun x H' nx s hc => ⟨rfl, k x H' nx s hc⟩
end
end L2.K23
end

section
set_option Elab.async false
set_option linter.all false
set_option maxRecDepth 100000
set_option maxHeartbeats 4000000
namespace L2.K23
open PySem PySem.Spec PyProof.Rows L2.Gd
section
variable {P : Program} {w : World} {K : PySem.W.Frag} {mg : Str → Option Value} {base : Heap} {C : Addr}

theorem seqV {Good : L2.St → Hp → Prop} {t u : TS} {D : Ends} {σ : L2.St} {H : Hp} (h : ∀ nx : L2.St → Hp → Prop, (∀ σ2 H2, Good σ2 H2 → nx σ2 H2) → t { D with nx := nx } σ H)
    (hk : ∀ σ2 H2, Good σ2 H2 → u D σ2 H2) : tSeq t u D σ H := h (u D) hk
/-! ### one going behind another -/
def vainB (a b : Crs) : Bool := if a.o = true then (if b.o = true then !decide (a.e + a.g = b.e) else decide (a.e + a.g < b.e)) else b.o && decide (b.e - a.g < a.e)
def needB (a b : Crs) : Int := if a.o = true then a.e else if b.o = true then b.e - a.g else if b.e - a.g > a.e then b.e - a.g else a.e
def behC (a b : Crs) : Option Crs := if a.n = 0 then some b else if b.n = 0 then some a else if a.f ≠ b.b then none else
  some ⟨a.b, b.f, a.n + b.n, a.g + b.g, needB a b, a.o || b.o, a.v || (b.v || vainB a b)⟩
def spVB (C : Addr) : Sp := fun vs H Q _ => ∃ (x y : Addr) (a b : Crs), vs = [.ref x, .ref y] ∧ CrsAt C H x a ∧ CrsAt C H y b ∧ Q (.bl (vainB a b)) H
theorem scVB : FnScope ["one", "two", "end"] ["one", "two"] (defScope (top 24)) := ⟨rfl, rfl, rfl, by decide +kernel, rfl, by decide +kernel, by decide +kernel⟩
theorem ok_vb {f : Addr} {fd : FuncData} (F : Fun K "is_vain_behind" "is_vain_behind" (top 24) f fd) (T : ClsC K mg C) : FnOk P w K mg base CX0 1 f fd ["one", "two"] (spVB C) := by
  refine F.ok scVB (fun vs H Q E h => ?_) (fun cdv A outer s H vs Q E hr h => ?_)
  · obtain ⟨x, y, a, b, rfl, _⟩ := h
    rfl
  · obtain ⟨x, y, a, b, rfl, ⟨dx, hx⟩, ⟨dy, hy⟩, k⟩ := h
    have N := scVB.nd
    refine ⟨_, pss_cons (ps_if (pt_not (pt_val (pe_fld (pv 0) rfl))) (pss_one (ps_ret (pe_and (pe_fld (pv 1) rfl) (pe_one (pe_cmpR op_lt (pe_op op_sub (pe_fld (pv 1) rfl) (pe_fld (pv 0) rfl)) (pe_fld (pv 0) rfl) (nomark _)))))) pss_nil)
      (pss_cons (ps_set (i := 2) N rfl (.inl rfl) (pe_op op_add (pe_fld (pv 0) rfl) (pe_fld (pv 0) rfl)))
      (pss_one (ps_ret (pe_ifExp (pt_val (pe_fld (pv 1) rfl)) (pe_cmpR op_ne (pv 2) (pe_fld (pv 1) rfl) (nomark _)) (pe_cmpR op_lt (pv 2) (pe_fld (pv 1) rfl) (nomark _)))))), ?_⟩
    unfold vainB at k
    refine ⟨_, rfl, x, C, dx, _, _, rfl, hx, T.cl, T.no, cf_o a, a.o, rfl, ?_⟩
    cases ho : a.o with
    | false =>
      rw [if_neg (by rw [ho]; decide)] at k
      refine iteT ⟨_, rfl, y, C, dy, _, _, rfl, hy, T.cl, T.no, cf_o b, b.o, rfl, ?_⟩
      cases hb : b.o with
      | true =>
        rw [hb, Bool.true_and] at k
        exact iteT ⟨_, rfl, y, C, dy, _, _, rfl, hy, T.cl, T.ne, cf_e b, _, rfl, x, C, dx, _, _, rfl, hx, T.cl, T.ng, cf_g a, _, _, rfl, rfl, _, rfl, x, C, dx, _, _, rfl, hx, T.cl, T.ne, cf_e a, _, _, rfl, rfl, k⟩
      | false =>
        rw [hb, Bool.false_and] at k
        exact iteF k
    | true =>
      rw [if_pos ho] at k
      refine iteF ⟨_, rfl, x, C, dx, _, _, rfl, hx, T.cl, T.ne, cf_e a, _, rfl, x, C, dx, _, _, rfl, hx, T.cl, T.ng, cf_g a, _, _, rfl, rfl, ?_⟩
      refine ⟨_, rfl, y, C, dy, _, _, rfl, hy, T.cl, T.no, cf_o b, b.o, rfl, ?_⟩
      cases hb : b.o with
      | true =>
        rw [if_pos hb] at k
        refine iteT ⟨_, rfl, _, rfl, y, C, dy, _, _, rfl, hy, T.cl, T.ne, cf_e b, rfl, ?_⟩
        have e : decide (V.int (a.e + a.g) = V.int b.e) = decide (a.e + a.g = b.e) := by simp
        show Q (.bl (!decide (V.int (a.e + a.g) = V.int b.e))) H
        rw [e]
        exact k
      | false =>
        rw [if_neg (by rw [hb]; decide)] at k
        exact iteF ⟨_, rfl, _, rfl, y, C, dy, _, _, rfl, hy, T.cl, T.ne, cf_e b, _, _, rfl, rfl, k⟩
/-- a going or nothing -/
def CV (C : Addr) (H : Hp) : V → Option Crs → Prop
  | v, none => v = .non
  | v, some c => ∃ x, v = .ref x ∧ CrsAt C H x c
theorem CV.same {C : Addr} {H H' : Hp} {v : V} {c : Option Crs} (s : Same H H') (h : CV C H v c) : CV C H' v c := by
  cases c with
  | none => exact h
  | some c => exact let ⟨x, e, q⟩ := h; ⟨x, e, q.same s⟩
/-- where something was done there are a begin and an end -/
def Crs.Wf (c : Crs) : Prop := (c.n = 0 ∧ c.b = none ∧ c.f = none) ∨ (0 < c.n ∧ c.b.isSome = true ∧ c.f.isSome = true)
theorem oV_scal2 {o o' : Option Int} : scal (oV o) (oV o') = true := by cases o <;> cases o' <;> rfl
theorem oV_dec2 (o o' : Option Int) : decide (oV o = oV o') = decide (o = o') := by
  cases o <;> cases o' <;> simp [oV]
def spBA (C : Addr) : Sp := fun vs H Q _ => ∃ (x y : Addr) (a b : Crs), vs = [.ref x, .ref y] ∧ CrsAt C H x a ∧ CrsAt C H y b ∧ ∀ v H', Same H H' → CV C H' v (behC a b) → Q v H'
def NBA : List Str := ["one", "two", "need", "vain"]
theorem scBA : FnScope NBA ["one", "two"] (defScope (top 25)) := ⟨rfl, rfl, rfl, by decide +kernel, rfl, by decide +kernel, by decide +kernel⟩
theorem ok_ba {f : Addr} {fd : FuncData} (F : Fun K "behind_another" "behind_another" (top 25) f fd) (n : Nm mg) (T : ClsC K mg C) (M : MkC P w K mg base C) (GV : Fn P w K mg base 1 "is_vain_behind" ["one", "two"] (spVB C)) :
    FnOk P w K mg base CX0 3 f fd ["one", "two"] (spBA C) := by
  refine F.ok scBA (fun vs H Q E h => ?_) (fun cdv A outer s H vs Q E hr h => ?_)
  · obtain ⟨x, y, a, b, rfl, _⟩ := h
    rfl
  · obtain ⟨x, y, a, b, rfl, ca, cb, k⟩ := h
    obtain ⟨dx, hx⟩ := id ca
    obtain ⟨dy, hy⟩ := id cb
    have N := scBA.nd
    refine ⟨_, pss_cons (ps_if (pw_or (pt_cmpR op_eq (pe_fld (pv 0) rfl) pe_int (nomark _)) (pw_or1 (pt_cmpR op_eq (pe_fld (pv 1) rfl) pe_int (nomark _)))).pt
        (pss_one (ps_ret (pe_ifExp (pt_cmpR op_eq (pe_fld (pv 0) rfl) pe_int (nomark _)) (pv 1) (pv 0)))) pss_nil)
      (pss_cons (ps_if (pt_cmpR op_ne (pe_fld (pv 0) rfl) (pe_fld (pv 1) rfl) (nomark _)) (pss_one (ps_ret pe_non)) pss_nil)
      (pss_cons (ps_set (i := 2) N rfl (.inl rfl) (pe_fld (pv 0) rfl))
      (pss_cons (ps_if (pt_not (pt_val (pe_fld (pv 0) rfl))) (pss_one (ps_set (i := 2) N rfl (.inl rfl) (pe_ifExp (pt_val (pe_fld (pv 1) rfl)) (pe_op op_sub (pe_fld (pv 1) rfl) (pe_fld (pv 0) rfl))
          (pe_callB (call_max2 rfl) (by rfl) n.max (by decide +kernel) (pa_cons (pe_fld (pv 0) rfl) (pa_cons (pe_op op_sub (pe_fld (pv 1) rfl) (pe_fld (pv 0) rfl)) pa_nil)))))) pss_nil)
      (pss_cons (ps_set (i := 3) N rfl (.inl rfl) (pe_or (pe_fld (pv 0) rfl) (pe_or (pe_fld (pv 1) rfl) (pe_one (pe_fn GV (hr.mono (by decide)) (pa_cons (pv 0) (pa_cons (pv 1) pa_nil)))))))
      (pss_one (ps_ret (pe_crs M T hr (pa_cons (pe_fld (pv 0) rfl) (pa_cons (pe_fld (pv 1) rfl) (pa_cons (pe_op op_add (pe_fld (pv 0) rfl) (pe_fld (pv 1) rfl)) (pa_cons (pe_op op_add (pe_fld (pv 0) rfl) (pe_fld (pv 1) rfl)) (pa_cons (pv 2)
        (pa_cons (pe_or (pe_fld (pv 0) rfl) (pe_one (pe_fld (pv 1) rfl))) (pa_cons (pv 3) pa_nil)))))))))))))), ?_⟩
    unfold behC at k
    refine seqV (Good := fun σ2 H2 => a.n ≠ 0 ∧ b.n ≠ 0 ∧ σ2 = [some (.ref x), some (.ref y), none, none] ∧ H = H2) ?_ ?_
    · intro nx hnx
      refine ⟨_, rfl, x, C, dx, _, _, rfl, hx, T.cl, T.nn, cf_n a, rfl, decide (V.int a.n = V.int 0), rfl, ?_⟩
      by_cases ha0 : a.n = 0
      · rw [if_pos ha0] at k
        rw [decide_eq_true (by rw [ha0])]
        refine iteT ⟨_, rfl, x, C, dx, _, _, rfl, hx, T.cl, T.nn, cf_n a, rfl, decide (V.int a.n = V.int 0), rfl, ?_⟩
        rw [decide_eq_true (by rw [ha0])]
        exact iteT ⟨_, rfl, k _ H (fun _ _ z => z) ⟨y, rfl, cb⟩⟩
      · rw [if_neg ha0] at k
        rw [decide_eq_false (by simpa using ha0)]
        refine iteF ⟨_, rfl, y, C, dy, _, _, rfl, hy, T.cl, T.nn, cf_n b, rfl, decide (V.int b.n = V.int 0), rfl, ?_⟩
        by_cases hb0 : b.n = 0
        · rw [if_pos hb0] at k
          rw [decide_eq_true (by rw [hb0])]
          refine iteT ⟨_, rfl, x, C, dx, _, _, rfl, hx, T.cl, T.nn, cf_n a, rfl, decide (V.int a.n = V.int 0), rfl, ?_⟩
          rw [decide_eq_false (by simpa using ha0)]
          exact iteF ⟨_, rfl, k _ H (fun _ _ z => z) ⟨x, rfl, ca⟩⟩
        · rw [decide_eq_false (by simpa using hb0)]
          exact iteF (hnx _ _ ⟨ha0, hb0, rfl, rfl⟩)
    rintro _ _ ⟨ha0, hb0, rfl, rfl⟩
    rw [if_neg ha0, if_neg hb0] at k
    refine seqV (Good := fun σ2 H2 => a.f = b.b ∧ σ2 = [some (.ref x), some (.ref y), none, none] ∧ H = H2) ?_ ?_
    · intro nx hnx
      refine ⟨_, rfl, x, C, dx, _, _, rfl, hx, T.cl, T.nf, cf_f a, _, rfl, y, C, dy, _, _, rfl, hy, T.cl, T.nb, cf_b b, oV_scal2, !decide (a.f = b.b), congrArg (fun b => V.bl (!b)) (oV_dec2 _ _), ?_⟩
      by_cases hf : a.f = b.b
      · rw [decide_eq_true hf]
        exact iteF (hnx _ _ ⟨hf, rfl, rfl⟩)
      · rw [if_pos hf] at k
        rw [decide_eq_false hf]
        exact iteT (k .non H (fun _ _ z => z) rfl)
    rintro _ _ ⟨hf, rfl, rfl⟩
    rw [if_neg (by simpa using hf)] at k
    refine seqV (Good := fun σ2 H2 => σ2 = [some (.ref x), some (.ref y), some (.int a.e), none] ∧ H = H2) (fun nx hnx => ⟨_, rfl, x, C, dx, _, _, rfl, hx, T.cl, T.ne, cf_e a, hnx _ _ ⟨rfl, rfl⟩⟩) ?_
    rintro _ _ ⟨rfl, rfl⟩
    refine seqV (Good := fun σ2 H2 => σ2 = [some (.ref x), some (.ref y), some (.int (needB a b)), none] ∧ H = H2) ?_ ?_
    · intro nx hnx
      refine ⟨_, rfl, x, C, dx, _, _, rfl, hx, T.cl, T.no, cf_o a, a.o, rfl, ?_⟩
      cases ho : a.o with
      | true =>
        have e : needB a b = a.e := by unfold needB; rw [if_pos ho]
        exact iteF (hnx _ _ ⟨by rw [e], rfl⟩)
      | false =>
        refine iteT ⟨_, rfl, y, C, dy, _, _, rfl, hy, T.cl, T.no, cf_o b, b.o, rfl, ?_⟩
        cases hb : b.o with
        | true =>
          have e : needB a b = b.e - a.g := by unfold needB; rw [if_neg (by rw [ho]; decide), if_pos hb]
          exact iteT ⟨_, rfl, y, C, dy, _, _, rfl, hy, T.cl, T.ne, cf_e b, _, rfl, x, C, dx, _, _, rfl, hx, T.cl, T.ng, cf_g a, _, _, rfl, rfl, hnx _ _ ⟨by rw [e]; rfl, rfl⟩⟩
        | false =>
          have e : needB a b = if b.e - a.g > a.e then b.e - a.g else a.e := by unfold needB; rw [if_neg (by rw [ho]; decide), if_neg (by rw [hb]; decide)]
          exact iteF ⟨_, rfl, x, C, dx, _, _, rfl, hx, T.cl, T.ne, cf_e a, _, rfl, y, C, dy, _, _, rfl, hy, T.cl, T.ne, cf_e b, _, rfl, x, C, dx, _, _, rfl, hx, T.cl, T.ng, cf_g a, _, _, rfl, rfl, _, _, rfl, hnx _ _ ⟨by rw [e]; rfl, rfl⟩⟩
    rintro _ _ ⟨rfl, rfl⟩
    refine seqV (Good := fun σ2 H2 => σ2 = [some (.ref x), some (.ref y), some (.int (needB a b)), some (.bl (a.v || (b.v || vainB a b)))] ∧ H = H2) ?_ ?_
    · intro nx hnx
      refine ⟨_, rfl, x, C, dx, _, _, rfl, hx, T.cl, T.nv, cf_v a, a.v, rfl, ?_⟩
      cases hva : a.v with
      | true => exact iteT (hnx _ _ ⟨by rw [hva]; rfl, rfl⟩)
      | false =>
        refine iteF ⟨_, rfl, y, C, dy, _, _, rfl, hy, T.cl, T.nv, cf_v b, b.v, rfl, ?_⟩
        cases hvb : b.v with
        | true => exact iteT (hnx _ _ ⟨by rw [hva, hvb]; rfl, rfl⟩)
        | false => exact iteF ⟨_, rfl, _, rfl, x, y, a, b, rfl, ca, cb, hnx _ _ ⟨by rw [hva, hvb]; rfl, rfl⟩⟩
    rintro _ _ ⟨rfl, rfl⟩
    refine ⟨_, rfl, x, C, dx, _, _, rfl, hx, T.cl, T.nb, cf_b a, _, rfl, y, C, dy, _, _, rfl, hy, T.cl, T.nf, cf_f b, _, rfl, x, C, dx, _, _, rfl, hx, T.cl, T.nn, cf_n a, _, rfl, y, C, dy, _, _, rfl, hy, T.cl, T.nn, cf_n b, _, _, rfl, rfl,
      _, rfl, x, C, dx, _, _, rfl, hx, T.cl, T.ng, cf_g a, _, rfl, y, C, dy, _, _, rfl, hy, T.cl, T.ng, cf_g b, _, _, rfl, rfl, _, rfl, _, rfl, x, C, dx, _, _, rfl, hx, T.cl, T.no, cf_o a, a.o, rfl, ?_⟩
    have fin : ∀ u : Bool, u = (a.o || b.o) → ∀ x2 dx2, H x2 = none → H dx2 = none → dx2 ≠ x2 → spCI C (.ref x2 :: ([oV a.b, oV b.f, .int (a.n + b.n), .int (a.g + b.g), .int (needB a b), .bl u, .bl (a.v || (b.v || vainB a b))] ++ [])) (upd (upd H dx2 (.own x2)) x2 (.ins C dx2 [])) (fun v H3 => v = .non ∧ Q (.ref x2) H3) E0 := by
      rintro _ rfl
      exact crs_any ⟨a.b, b.f, a.n + b.n, a.g + b.g, needB a b, a.o || b.o, a.v || (b.v || vainB a b)⟩ fun x2 H' nx s hc => ⟨rfl, k _ H' s ⟨x2, rfl, hc⟩⟩
    cases ho : a.o with
    | true => exact iteT ⟨_, rfl, fin true (by rw [ho]; rfl)⟩
    | false => exact iteF ⟨_, rfl, y, C, dy, _, _, rfl, hy, T.cl, T.no, cf_o b, _, rfl, fin b.o (by rw [ho]; rfl)⟩

/-! ### done often -/
def oftC (c : Crs) (t : Int) : Option Crs := if t = 1 then some c else if c.b ≠ c.f then none else
  some ⟨c.b, c.f, c.n * t, c.g * t, if c.o = true then c.e else if c.g < 0 then c.e - (t - 1) * c.g else c.e, c.o, if c.o = true then (c.v || !decide (c.g = 0)) else c.v⟩
/-- what fits a product -/
structure BgC (c : Crs) : Prop where
  n : c.n.natAbs < 2 ^ 200
  g : c.g.natAbs < 2 ^ 200
structure OfB (c : Crs) (t : Int) : Prop where
  b : BgC c
  t0 : 0 ≤ t
  t1 : t.natAbs < 2 ^ 99
theorem OfB.mn {c : Crs} {t : Int} (h : OfB c t) : CMulW c.n t := wide_mul h.b.n h.t1 (by decide) (by decide) (by decide)
theorem OfB.mgg {c : Crs} {t : Int} (h : OfB c t) : CMulW c.g t := wide_mul h.b.g h.t1 (by decide) (by decide) (by decide)
theorem OfB.m1 {c : Crs} {t : Int} (h : OfB c t) : CMulW (t - 1) c.g := wide_mul (a := 100) (by
  have h1 := h.t1
  have h0 := h.t0
  have e : (2 : Nat) ^ 100 = 2 * 2 ^ 99 := by decide
  rw [e]
  generalize (2 : Nat) ^ 99 = z at h1
  omega) h.b.g (by decide) (by decide) (by decide)
def spOf (C : Addr) : Sp := fun vs H Q _ => ∃ (x : Addr) (c : Crs) (t : Int), vs = [.ref x, .int t] ∧ CrsAt C H x c ∧ OfB c t ∧ True ∧ ∀ v H', Same H H' → CV C H' v (oftC c t) → Q v H'
def NOf : List Str := ["course", "times", "need", "vain"]
theorem scOf : FnScope NOf ["course", "times"] (defScope (top 26)) := ⟨rfl, rfl, rfl, by decide +kernel, rfl, by decide +kernel, by decide +kernel⟩
theorem ok_of {f : Addr} {fd : FuncData} (F : Fun K "done_often" "done_often" (top 26) f fd) (T : ClsC K mg C) (M : MkC P w K mg base C) : FnOk P w K mg base CX0 3 f fd ["course", "times"] (spOf C) := by
  refine F.ok scOf (fun vs H Q E h => ?_) (fun cdv A outer s H vs Q E hr h => ?_)
  · obtain ⟨x, c, t, rfl, _⟩ := h
    rfl
  · obtain ⟨x, c, t, rfl, cc, t0, t1, k⟩ := h
    obtain ⟨dx, hx⟩ := id cc
    have N := scOf.nd
    refine ⟨_, pss_cons (ps_if (pt_cmpR op_eq (pv 1) pe_int (nomark _)) (pss_one (ps_ret (pv 0))) pss_nil)
      (pss_cons (ps_if (pt_cmpR op_ne (pe_fld (pv 0) rfl) (pe_fld (pv 0) rfl) (nomark _)) (pss_one (ps_ret pe_non)) pss_nil)
      (pss_cons (ps_par (i := 2) (j := 3) rfl N rfl rfl (by decide) rfl rfl (pa_cons (pe_fld (pv 0) rfl) (pa_cons (pe_fld (pv 0) rfl) pa_nil)) (by rfl))
      (pss_cons (ps_if (pt_val (pe_fld (pv 0) rfl)) (pss_one (ps_set (i := 3) N rfl (.inl rfl) (pe_or (pv 3) (pe_one (pe_cmpR op_ne (pe_fld (pv 0) rfl) pe_int (nomark _))))))
        (pss_one (ps_if (pt_cmpR op_lt (pe_fld (pv 0) rfl) pe_int (nomark _)) (pss_one (ps_set (i := 2) N rfl (.inl rfl) (pe_op op_sub (pv 2) (pe_op op_mulW (pe_op op_sub (pv 1) pe_int) (pe_fld (pv 0) rfl))))) pss_nil)))
      (pss_one (ps_ret (pe_crs M T hr (pa_cons (pe_fld (pv 0) rfl) (pa_cons (pe_fld (pv 0) rfl) (pa_cons (pe_op op_mulW (pe_fld (pv 0) rfl) (pv 1)) (pa_cons (pe_op op_mulW (pe_fld (pv 0) rfl) (pv 1)) (pa_cons (pv 2) (pa_cons (pe_fld (pv 0) rfl) (pa_cons (pv 3) pa_nil))))))))))))), ?_⟩
    unfold oftC at k
    refine seqV (Good := fun σ2 H2 => t ≠ 1 ∧ σ2 = [some (.ref x), some (.int t), none, none] ∧ H = H2) ?_ ?_
    · intro nx hnx
      refine ⟨_, rfl, rfl, decide (V.int t = V.int 1), rfl, ?_⟩
      by_cases h1 : t = 1
      · rw [if_pos h1] at k
        rw [decide_eq_true (by rw [h1])]
        exact iteT ⟨_, rfl, k _ H (fun _ _ z => z) ⟨x, rfl, cc⟩⟩
      · rw [decide_eq_false (by simpa using h1)]
        exact iteF (hnx _ _ ⟨h1, rfl, rfl⟩)
    rintro _ _ ⟨h1, rfl, rfl⟩
    rw [if_neg h1] at k
    refine seqV (Good := fun σ2 H2 => c.b = c.f ∧ σ2 = [some (.ref x), some (.int t), none, none] ∧ H = H2) ?_ ?_
    · intro nx hnx
      refine ⟨_, rfl, x, C, dx, _, _, rfl, hx, T.cl, T.nb, cf_b c, _, rfl, x, C, dx, _, _, rfl, hx, T.cl, T.nf, cf_f c, oV_scal2, !decide (c.b = c.f), congrArg (fun b => V.bl (!b)) (oV_dec2 _ _), ?_⟩
      by_cases hf : c.b = c.f
      · rw [decide_eq_true hf]
        exact iteF (hnx _ _ ⟨hf, rfl, rfl⟩)
      · rw [if_pos hf] at k
        rw [decide_eq_false hf]
        exact iteT (k .non H (fun _ _ z => z) rfl)
    rintro _ _ ⟨hf, rfl, rfl⟩
    rw [if_neg (by simpa using hf)] at k
    refine seqV (Good := fun σ2 H2 => σ2 = [some (.ref x), some (.int t), some (.int c.e), some (.bl c.v)] ∧ H = H2)
      (fun nx hnx => ⟨_, rfl, x, C, dx, _, _, rfl, hx, T.cl, T.ne, cf_e c, _, rfl, x, C, dx, _, _, rfl, hx, T.cl, T.nv, cf_v c, _, _, rfl, hnx _ _ ⟨rfl, rfl⟩⟩) ?_
    rintro _ _ ⟨rfl, rfl⟩
    refine seqV (Good := fun σ2 H2 => σ2 = [some (.ref x), some (.int t), some (.int (if c.o = true then c.e else if c.g < 0 then c.e - (t - 1) * c.g else c.e)), some (.bl (if c.o = true then (c.v || !decide (c.g = 0)) else c.v))] ∧ H = H2) ?_ ?_
    · intro nx hnx
      refine ⟨_, rfl, x, C, dx, _, _, rfl, hx, T.cl, T.no, cf_o c, c.o, rfl, ?_⟩
      cases ho : c.o with
      | true =>
        have e1 : (if c.o = true then c.e else if c.g < 0 then c.e - (t - 1) * c.g else c.e) = c.e := if_pos ho
        have e2 : (if c.o = true then (c.v || !decide (c.g = 0)) else c.v) = (c.v || !decide (c.g = 0)) := if_pos ho
        refine iteT ⟨_, rfl, c.v, rfl, ?_⟩
        cases hv : c.v with
        | true => exact iteT (hnx _ _ ⟨by rw [e1, e2, hv]; rfl, rfl⟩)
        | false =>
          refine iteF ⟨_, rfl, x, C, dx, _, _, rfl, hx, T.cl, T.ng, cf_g c, rfl, ?_⟩
          refine hnx _ _ ⟨?_, rfl⟩
          rw [e1, e2, hv]
          show [some (V.ref x), some (V.int t), some (V.int c.e), some (V.bl (!decide (V.int c.g = V.int 0)))] = _
          have e : decide (V.int c.g = V.int 0) = decide (c.g = 0) := by simp
          rw [e, Bool.false_or]
      | false =>
        have e1 : (if c.o = true then c.e else if c.g < 0 then c.e - (t - 1) * c.g else c.e) = if c.g < 0 then c.e - (t - 1) * c.g else c.e := if_neg (by rw [ho]; decide)
        have e2 : (if c.o = true then (c.v || !decide (c.g = 0)) else c.v) = c.v := if_neg (by rw [ho]; decide)
        refine iteF ⟨_, rfl, x, C, dx, _, _, rfl, hx, T.cl, T.ng, cf_g c, _, _, rfl, rfl, decide (c.g < 0), rfl, ?_⟩
        by_cases hg : c.g < 0
        · rw [decide_eq_true hg]
          refine iteT ⟨_, rfl, _, rfl, _, _, rfl, rfl, _, rfl, x, C, dx, _, _, rfl, hx, T.cl, T.ng, cf_g c, _, _, rfl, rfl, t0.m1, _, _, rfl, rfl, ?_⟩
          exact hnx _ _ ⟨by rw [e1, e2, if_pos hg]; rfl, rfl⟩
        · rw [decide_eq_false hg]
          exact iteF (hnx _ _ ⟨by rw [e1, e2, if_neg hg], rfl⟩)
    rintro _ _ ⟨rfl, rfl⟩
    refine ⟨_, rfl, x, C, dx, _, _, rfl, hx, T.cl, T.nb, cf_b c, _, rfl, x, C, dx, _, _, rfl, hx, T.cl, T.nf, cf_f c, _, rfl, x, C, dx, _, _, rfl, hx, T.cl, T.nn, cf_n c, _, rfl, _, _, rfl, rfl, t0.mn,
      _, rfl, x, C, dx, _, _, rfl, hx, T.cl, T.ng, cf_g c, _, rfl, _, _, rfl, rfl, t0.mgg, _, rfl, _, rfl, x, C, dx, _, _, rfl, hx, T.cl, T.no, cf_o c, _, rfl, ?_⟩
    exact crs_any ⟨c.b, c.f, c.n * t, c.g * t, if c.o = true then c.e else if c.g < 0 then c.e - (t - 1) * c.g else c.e, c.o, if c.o = true then (c.v || !decide (c.g = 0)) else c.v⟩ fun x2 H' nx s hc => ⟨rfl, k _ H' s ⟨x2, rfl, hc⟩⟩
end
end L2.K23
end

section
set_option Elab.async false
set_option linter.all false
set_option maxRecDepth 100000
set_option maxHeartbeats 4000000
namespace L2.K23
open PySem PySem.Spec PyProof.Rows L2.Gd
/-! ### the form of a going -/
def itemF (hf : PyData → Bool) (m : Int) : PyData → Bool
  | .tuple [x, y] => isC y && hf x
  | .tuple _ => false
  | .int i => decide (0 ≤ i) && decide (i < m)
  | _ => false
def seqOf : PyData → Option (List PyData)
  | .list ds => some ds
  | .tuple ds => some ds
  | _ => none
def hasF : Nat → Int → PyData → Bool
  | 0, _, _ => false
  | k + 1, m, d => match seqOf d with
    | some ds => ds.all (itemF (hasF k m) m)
    | none => false
section
variable {P : Program} {w : World} {K : PySem.W.Frag} {mg : Str → Option Value} {base : Heap} {C : Addr}
def spHF (k : Nat) : Sp := fun vs H Q _ => ∃ (p : Addr) (m : Int) (v : V) (d : PyData), vs = [.int m, v, .int k] ∧ DV p H v d ∧ ∀ H', Same H H' → Q (.bl (hasF k m d)) H'
def NHf : List Str := ["many", "value", "lists", "item"]
theorem scHf : FnScope NHf ["many", "value", "lists"] (defScope (top 27)) := ⟨rfl, rfl, rfl, by decide +kernel, rfl, by decide +kernel, by decide +kernel⟩
theorem ok_hf0 {f : Addr} {fd : FuncData} (F : Fun K "has_going_form" "has_going_form" (top 27) f fd) (GL : Fn P w K mg base 1 "is_list" ["value"] spLst2) : FnOk P w K mg base CX0 3 f fd ["many", "value", "lists"] (spHF 0) := by
  refine F.ok scHf (fun vs H Q E h => ?_) (fun cdv A outer s H vs Q E hr h => ?_)
  · obtain ⟨p, m, v, d, rfl, _⟩ := h
    rfl
  · obtain ⟨p, m, v, d, rfl, hd, k⟩ := h
    refine ⟨_, pss_cons (ps_if (pw_or (pt_cmpR op_eq (pv 2) pe_int (nomark _)) (pw_or1 (pt_not (pt_val (pe_fn GL (hr.mono (by decide)) (pa_cons (pv 1) pa_nil)))))).pt (pss_one (ps_ret pe_bl)) pss_nil) pss_never, ?_⟩
    refine ⟨_, rfl, rfl, true, rfl, ?_⟩
    exact iteT (k H fun _ _ z => z)
theorem ok_hfS {j : Nat} {f : Addr} {fd : FuncData} (F : Fun K "has_going_form" "has_going_form" (top 27) f fd) (n : Nm mg) (GL : Fn P w K mg base 1 "is_list" ["value"] spLst2) (GC : Fn P w K mg base 2 "is_count" ["value"] spCnt2)
    (GH : Fn P w K mg base (3 + j) "has_going_form" ["many", "value", "lists"] (spHF j)) : FnOk P w K mg base CX0 (3 + j + 1) f fd ["many", "value", "lists"] (spHF (j + 1)) := by
  refine F.ok scHf (fun vs H Q E h => ?_) (fun cdv A outer s H vs Q E hr h => ?_)
  · obtain ⟨p, m, v, d, rfl, _⟩ := h
    rfl
  · obtain ⟨p, m, v, d, rfl, hd, q⟩ := h
    have N := scHf.nd
    have r1 := hr.mono (k := 3 + j) (j := 1) (by omega)
    have r2 := hr.mono (k := 3 + j) (j := 2) (by omega)
    have jn : ¬ ((j : Int) + 1 = 0) := by omega
    have j1 : ((j : Int) + 1) - 1 = j := by omega
    have start_ : ∀ (tb : TS) (D : Ends), True := fun _ _ => trivial
    cases hd with
    | lst nep hx ts =>
      rename_i a xs ds
      refine ⟨_, pss_cons (ps_if (pw_or (pt_cmpR op_eq (pv 2) pe_int (nomark _)) (pw_or1 (pt_not (pt_val (pe_fn GL r1 (pa_cons (pv 1) pa_nil)))))).pt (pss_one (ps_ret pe_bl)) pss_nil)
        (pss_cons (ps_for PassesOwn.never rfl (pi_list (pv 1)) (pg_name (i := 3) N rfl (.inl rfl))
          (pss_one (ps_if (pt_val (pe_isTuple n (pv 3)))
            (pss_one (ps_if (pw_or (pt_cmpR op_ne (pe_callB call_len_seq (by rfl) n.len PySem.boot_len (pa_cons (pv 3) pa_nil)) pe_int (nomark _)) (pw_or (pt_not (pt_val (pe_fn GC r2 (pa_cons (pe_ix ix_tup (pv 3) pe_int (fun _ _ => rfl)) pa_nil))))
              (pw_or1 (pt_not (pt_val (pe_fn GH hr (pa_cons (pv 0) (pa_cons (pe_ix ix_tup (pv 3) pe_int (fun _ _ => rfl)) (pa_cons (pe_op op_sub (pv 2) pe_int) pa_nil))))))))).pt (pss_one (ps_ret pe_bl)) pss_nil))
            (pss_one (ps_if (pw_or (pt_not (pt_val (pe_fn GC r2 (pa_cons (pv 3) pa_nil)))) (pw_or1 (PW.pt (pw_and (pt_cmp (pc_notN (pv 0))) (pw_and1 (pt_cmpR op_ge (pv 3) (pv 0) (nomark _))))))).pt (pss_one (ps_ret pe_bl)) pss_nil)))))
        (pss_one (ps_ret pe_bl))), ?_⟩
      refine ⟨_, rfl, rfl, false, congrArg V.bl (decide_eq_false (by simpa using jn)), ?_⟩
      refine iteF ?_
      refine ⟨_, rfl, p, _, _, rfl, .lst nep hx ts, fun H1 s1 => ⟨true, rfl, ?_⟩⟩
      refine iteF ?_
      have hx1 := s1 _ _ hx
      refine ⟨_, rfl, a, rfl, ⟨_, .inl (.inl hx1)⟩, ?_⟩
      refine loop_of (n := xs.length) (fun i σ H2 => ∃ v3 : Option V, σ = [some (.int m), some (.ref a), some (.int ((j : Int) + 1)), v3] ∧ Same H1 H2 ∧ ∀ i2, i2 < i → ∀ d, ds[i2]? = some d → itemF (hasF j m) m d = true) ⟨none, rfl, fun _ _ z => z, fun i2 h => absurd h (by omega)⟩ ?_ ?_
      · rintro σ H2 ⟨v3, rfl, s2, all⟩
        refine ⟨⟨xs, .inl (.inl (s2 _ _ hx1)), Nat.le_refl _⟩, ?_⟩
        have e : hasF (j + 1) m (.list ds) = true := by
          show ds.all (itemF (hasF j m) m) = true
          rw [List.all_eq_true]
          intro d hd
          obtain ⟨i, hi⟩ := List.mem_iff_getElem?.mp hd
          exact all i (by rw [ts.len]; exact (List.getElem?_eq_some_iff.mp hi).1) d hi
        have := q H2 (s1.trans s2)
        rw [e] at this
        exact this
      · rintro i σ H2 hi ⟨v3, rfl, s2, all⟩
        refine ⟨⟨xs, _, .inl (.inl (s2 _ _ hx1)), List.getElem?_eq_getElem hi⟩, ?_⟩
        rintro x H' ⟨rfl, hy⟩
        have hxi := hy xs (.inl (.inl (s2 _ _ hx1)))
        obtain ⟨d, hdi, hdx⟩ := ts.at hxi
        have hdx2 : DV p H' x d := hdx.same (s1.trans s2)
        have no : itemF (hasF j m) m d = false → ∀ H3, Same H' H3 → Q (.bl false) H3 := fun e H3 s3 => by
          have e2 : hasF (j + 1) m (.list ds) = false := by
            show ds.all (itemF (hasF j m) m) = false
            rw [List.all_eq_false]
            exact ⟨d, List.mem_of_getElem? hdi, by rw [e]; decide⟩
          have := q H3 (s1.trans (s2.trans s3))
          rw [e2] at this
          exact this
        have yes : itemF (hasF j m) m d = true → ∀ i2, i2 < i + 1 → ∀ d, ds[i2]? = some d → itemF (hasF j m) m d = true := fun e i2 h2 d2 h3 => by
          by_cases z : i2 = i
          · subst z
            rw [hdi] at h3
            rw [← Option.some.inj h3]
            exact e
          · exact all i2 (by omega) d2 h3
        refine ⟨_, rfl, isi_mk hdx2.ty (kit_tuple d) ⟨_, rfl, ?_⟩⟩
        cases hT : isT d with
        | false =>
          have eI : itemF (hasF j m) m d = (isC d && (match d with | .int i => decide (i < m) | _ => false)) := by
            cases d <;> first | rfl | exact absurd (show true = false from hT) (by decide)
          refine iteF ?_
          refine ⟨_, rfl, p, x, d, rfl, hdx2, isC d, rfl, ?_⟩
          cases hC : isC d with
          | false => exact iteT (no (by rw [eI, hC]; rfl) _ fun _ _ z => z)
          | true =>
            refine iteF ?_
            cases hdx2 with
            | int z =>
              refine ⟨_, rfl, true, rfl, iteT ⟨_, rfl, _, rfl, _, _, rfl, rfl, decide (z ≥ m), rfl, ?_⟩⟩
              by_cases hz : z ≥ m
              · rw [decide_eq_true hz]
                exact iteT (no (by rw [eI, hC]; exact decide_eq_false (by omega)) _ fun _ _ z => z)
              · rw [decide_eq_false hz]
                exact iteF ⟨_, rfl, s2, yes (by rw [eI, hC]; exact decide_eq_true (by omega))⟩
            | non => exact absurd (show false = true from hC) (by decide)
            | bl b => exact absurd (show false = true from hC) (by decide)
            | str z => exact absurd (show false = true from hC) (by decide)
            | lst _ _ _ => exact absurd (show false = true from hC) (by decide)
            | tup _ _ => exact absurd (show false = true from hC) (by decide)
            | dct _ => exact absurd (show false = true from hC) (by decide)
        | true =>
          refine iteT ?_
          cases hdx2 with
          | tup ht tt =>
            rename_i t ts2 us
            refine ⟨_, rfl, t, ts2, rfl, .inr (.inl (.inl ht)), rfl, !decide (V.int (ts2.length : Int) = V.int 2), rfl, ?_⟩
            by_cases h2 : ts2.length = 2
            · rw [decide_eq_true (by rw [h2]; rfl)]
              refine iteF ?_
              match ts2, us, tt, h2 with
              | [y1, y2], _, .cons (d := d1) k1 (.cons (d := d2) k2 .nil), _ =>
                refine ⟨_, rfl, t, _, _, _, rfl, rfl, .inl (.inl ht), rfl, p, y2, d2, rfl, k2, isC d2, rfl, ?_⟩
                have eI : itemF (hasF j m) m (.tuple [d1, d2]) = (isC d2 && hasF j m d1) := rfl
                cases hC : isC d2 with
                | false => exact iteT (no (by rw [eI, hC]; rfl) _ fun _ _ z => z)
                | true =>
                  refine iteF ?_
                  refine ⟨_, rfl, _, rfl, t, _, _, _, rfl, rfl, .inl (.inl ht), rfl, _, rfl, _, _, rfl, rfl, p, m, y1, d1, by show [V.int m, y1, V.int ((j : Int) + 1 - 1)] ++ [] = _; rw [j1]; rfl, k1, fun H3 s3 => ⟨hasF j m d1, rfl, ?_⟩⟩
                  cases hF : hasF j m d1 with
                  | false => exact iteT (no (by rw [eI, hC, hF]; rfl) _ s3)
                  | true => exact iteF ⟨_, rfl, s2.trans s3, yes (by rw [eI, hC, hF]; rfl)⟩
            · rw [decide_eq_false (by simp; omega)]
              refine iteT (no ?_ _ fun _ _ z => z)
              have l2 := tt.len
              match us, l2 with
              | [], _ => rfl
              | [_], _ => rfl
              | [_, _], l2 => exact absurd l2 h2
              | _ :: _ :: _ :: _, _ => rfl
          | non => exact absurd (show false = true from hT) (by decide)
          | bl b => exact absurd (show false = true from hT) (by decide)
          | int z => exact absurd (show false = true from hT) (by decide)
          | str z => exact absurd (show false = true from hT) (by decide)
          | lst _ _ _ => exact absurd (show false = true from hT) (by decide)
          | dct _ => exact absurd (show false = true from hT) (by decide)
    | tup hx ts =>
      rename_i a xs ds
      refine ⟨_, pss_cons (ps_if (pw_or (pt_cmpR op_eq (pv 2) pe_int (nomark _)) (pw_or1 (pt_not (pt_val (pe_fn GL r1 (pa_cons (pv 1) pa_nil)))))).pt (pss_one (ps_ret pe_bl)) pss_nil)
        (pss_cons (ps_for PassesOwn.never rfl (pi_tup (pv 1)) (pg_name (i := 3) N rfl (.inl rfl))
          (pss_one (ps_if (pt_val (pe_isTuple n (pv 3)))
            (pss_one (ps_if (pw_or (pt_cmpR op_ne (pe_callB call_len_seq (by rfl) n.len PySem.boot_len (pa_cons (pv 3) pa_nil)) pe_int (nomark _)) (pw_or (pt_not (pt_val (pe_fn GC r2 (pa_cons (pe_ix ix_tup (pv 3) pe_int (fun _ _ => rfl)) pa_nil))))
              (pw_or1 (pt_not (pt_val (pe_fn GH hr (pa_cons (pv 0) (pa_cons (pe_ix ix_tup (pv 3) pe_int (fun _ _ => rfl)) (pa_cons (pe_op op_sub (pv 2) pe_int) pa_nil))))))))).pt (pss_one (ps_ret pe_bl)) pss_nil))
            (pss_one (ps_if (pw_or (pt_not (pt_val (pe_fn GC r2 (pa_cons (pv 3) pa_nil)))) (pw_or1 (PW.pt (pw_and (pt_cmp (pc_notN (pv 0))) (pw_and1 (pt_cmpR op_ge (pv 3) (pv 0) (nomark _))))))).pt (pss_one (ps_ret pe_bl)) pss_nil)))))
        (pss_one (ps_ret pe_bl))), ?_⟩
      refine ⟨_, rfl, rfl, false, congrArg V.bl (decide_eq_false (by simpa using jn)), ?_⟩
      refine iteF ?_
      refine ⟨_, rfl, p, _, _, rfl, .tup hx ts, fun H1 s1 => ⟨true, rfl, ?_⟩⟩
      refine iteF ?_
      have hx1 := s1 _ _ hx
      refine ⟨_, rfl, a, rfl, ⟨_, .inl (.inl hx1)⟩, ?_⟩
      refine loop_of (n := xs.length) (fun i σ H2 => ∃ v3 : Option V, σ = [some (.int m), some (.ref a), some (.int ((j : Int) + 1)), v3] ∧ Same H1 H2 ∧ ∀ i2, i2 < i → ∀ d, ds[i2]? = some d → itemF (hasF j m) m d = true) ⟨none, rfl, fun _ _ z => z, fun i2 h => absurd h (by omega)⟩ ?_ ?_
      · rintro σ H2 ⟨v3, rfl, s2, all⟩
        refine ⟨⟨xs, .inl (.inl (s2 _ _ hx1)), Nat.le_refl _⟩, ?_⟩
        have e : hasF (j + 1) m (.tuple ds) = true := by
          show ds.all (itemF (hasF j m) m) = true
          rw [List.all_eq_true]
          intro d hd
          obtain ⟨i, hi⟩ := List.mem_iff_getElem?.mp hd
          exact all i (by rw [ts.len]; exact (List.getElem?_eq_some_iff.mp hi).1) d hi
        have := q H2 (s1.trans s2)
        rw [e] at this
        exact this
      · rintro i σ H2 hi ⟨v3, rfl, s2, all⟩
        refine ⟨⟨xs, _, .inl (.inl (s2 _ _ hx1)), List.getElem?_eq_getElem hi⟩, ?_⟩
        rintro x H' ⟨rfl, hy⟩
        have hxi := hy xs (.inl (.inl (s2 _ _ hx1)))
        obtain ⟨d, hdi, hdx⟩ := ts.at hxi
        have hdx2 : DV p H' x d := hdx.same (s1.trans s2)
        have no : itemF (hasF j m) m d = false → ∀ H3, Same H' H3 → Q (.bl false) H3 := fun e H3 s3 => by
          have e2 : hasF (j + 1) m (.tuple ds) = false := by
            show ds.all (itemF (hasF j m) m) = false
            rw [List.all_eq_false]
            exact ⟨d, List.mem_of_getElem? hdi, by rw [e]; decide⟩
          have := q H3 (s1.trans (s2.trans s3))
          rw [e2] at this
          exact this
        have yes : itemF (hasF j m) m d = true → ∀ i2, i2 < i + 1 → ∀ d, ds[i2]? = some d → itemF (hasF j m) m d = true := fun e i2 h2 d2 h3 => by
          by_cases z : i2 = i
          · subst z
            rw [hdi] at h3
            rw [← Option.some.inj h3]
            exact e
          · exact all i2 (by omega) d2 h3
        refine ⟨_, rfl, isi_mk hdx2.ty (kit_tuple d) ⟨_, rfl, ?_⟩⟩
        cases hT : isT d with
        | false =>
          have eI : itemF (hasF j m) m d = (isC d && (match d with | .int i => decide (i < m) | _ => false)) := by
            cases d <;> first | rfl | exact absurd (show true = false from hT) (by decide)
          refine iteF ?_
          refine ⟨_, rfl, p, x, d, rfl, hdx2, isC d, rfl, ?_⟩
          cases hC : isC d with
          | false => exact iteT (no (by rw [eI, hC]; rfl) _ fun _ _ z => z)
          | true =>
            refine iteF ?_
            cases hdx2 with
            | int z =>
              refine ⟨_, rfl, true, rfl, iteT ⟨_, rfl, _, rfl, _, _, rfl, rfl, decide (z ≥ m), rfl, ?_⟩⟩
              by_cases hz : z ≥ m
              · rw [decide_eq_true hz]
                exact iteT (no (by rw [eI, hC]; exact decide_eq_false (by omega)) _ fun _ _ z => z)
              · rw [decide_eq_false hz]
                exact iteF ⟨_, rfl, s2, yes (by rw [eI, hC]; exact decide_eq_true (by omega))⟩
            | non => exact absurd (show false = true from hC) (by decide)
            | bl b => exact absurd (show false = true from hC) (by decide)
            | str z => exact absurd (show false = true from hC) (by decide)
            | lst _ _ _ => exact absurd (show false = true from hC) (by decide)
            | tup _ _ => exact absurd (show false = true from hC) (by decide)
            | dct _ => exact absurd (show false = true from hC) (by decide)
        | true =>
          refine iteT ?_
          cases hdx2 with
          | tup ht tt =>
            rename_i t ts2 us
            refine ⟨_, rfl, t, ts2, rfl, .inr (.inl (.inl ht)), rfl, !decide (V.int (ts2.length : Int) = V.int 2), rfl, ?_⟩
            by_cases h2 : ts2.length = 2
            · rw [decide_eq_true (by rw [h2]; rfl)]
              refine iteF ?_
              match ts2, us, tt, h2 with
              | [y1, y2], _, .cons (d := d1) k1 (.cons (d := d2) k2 .nil), _ =>
                refine ⟨_, rfl, t, _, _, _, rfl, rfl, .inl (.inl ht), rfl, p, y2, d2, rfl, k2, isC d2, rfl, ?_⟩
                have eI : itemF (hasF j m) m (.tuple [d1, d2]) = (isC d2 && hasF j m d1) := rfl
                cases hC : isC d2 with
                | false => exact iteT (no (by rw [eI, hC]; rfl) _ fun _ _ z => z)
                | true =>
                  refine iteF ?_
                  refine ⟨_, rfl, _, rfl, t, _, _, _, rfl, rfl, .inl (.inl ht), rfl, _, rfl, _, _, rfl, rfl, p, m, y1, d1, by show [V.int m, y1, V.int ((j : Int) + 1 - 1)] ++ [] = _; rw [j1]; rfl, k1, fun H3 s3 => ⟨hasF j m d1, rfl, ?_⟩⟩
                  cases hF : hasF j m d1 with
                  | false => exact iteT (no (by rw [eI, hC, hF]; rfl) _ s3)
                  | true => exact iteF ⟨_, rfl, s2.trans s3, yes (by rw [eI, hC, hF]; rfl)⟩
            · rw [decide_eq_false (by simp; omega)]
              refine iteT (no ?_ _ fun _ _ z => z)
              have l2 := tt.len
              match us, l2 with
              | [], _ => rfl
              | [_], _ => rfl
              | [_, _], l2 => exact absurd l2 h2
              | _ :: _ :: _ :: _, _ => rfl
          | non => exact absurd (show false = true from hT) (by decide)
          | bl b => exact absurd (show false = true from hT) (by decide)
          | int z => exact absurd (show false = true from hT) (by decide)
          | str z => exact absurd (show false = true from hT) (by decide)
          | lst _ _ _ => exact absurd (show false = true from hT) (by decide)
          | dct _ => exact absurd (show false = true from hT) (by decide)
    | non =>
      refine ⟨_, pss_cons (ps_if (pw_or (pt_cmpR op_eq (pv 2) pe_int (nomark _)) (pw_or1 (pt_not (pt_val (pe_fn GL r1 (pa_cons (pv 1) pa_nil)))))).pt (pss_one (ps_ret pe_bl)) pss_nil)
        (pss_cons (ps_for PassesOwn.never rfl (pi_list (pv 1)) (pg_name (i := 3) N rfl (.inl rfl))
          (pss_one (ps_if (pt_val (pe_isTuple n (pv 3)))
            (pss_one (ps_if (pw_or (pt_cmpR op_ne (pe_callB call_len_seq (by rfl) n.len PySem.boot_len (pa_cons (pv 3) pa_nil)) pe_int (nomark _)) (pw_or (pt_not (pt_val (pe_fn GC r2 (pa_cons (pe_ix ix_tup (pv 3) pe_int (fun _ _ => rfl)) pa_nil))))
              (pw_or1 (pt_not (pt_val (pe_fn GH hr (pa_cons (pv 0) (pa_cons (pe_ix ix_tup (pv 3) pe_int (fun _ _ => rfl)) (pa_cons (pe_op op_sub (pv 2) pe_int) pa_nil))))))))).pt (pss_one (ps_ret pe_bl)) pss_nil))
            (pss_one (ps_if (pw_or (pt_not (pt_val (pe_fn GC r2 (pa_cons (pv 3) pa_nil)))) (pw_or1 (PW.pt (pw_and (pt_cmp (pc_notN (pv 0))) (pw_and1 (pt_cmpR op_ge (pv 3) (pv 0) (nomark _))))))).pt (pss_one (ps_ret pe_bl)) pss_nil)))))
        (pss_one (ps_ret pe_bl))), ?_⟩
      refine ⟨_, rfl, rfl, false, congrArg V.bl (decide_eq_false (by simpa using jn)), ?_⟩
      refine iteF ?_
      refine ⟨_, rfl, p, _, _, rfl, .non, fun H1 s1 => ⟨false, rfl, ?_⟩⟩
      exact iteT (q H1 s1)
    | bl b =>
      refine ⟨_, pss_cons (ps_if (pw_or (pt_cmpR op_eq (pv 2) pe_int (nomark _)) (pw_or1 (pt_not (pt_val (pe_fn GL r1 (pa_cons (pv 1) pa_nil)))))).pt (pss_one (ps_ret pe_bl)) pss_nil)
        (pss_cons (ps_for PassesOwn.never rfl (pi_list (pv 1)) (pg_name (i := 3) N rfl (.inl rfl))
          (pss_one (ps_if (pt_val (pe_isTuple n (pv 3)))
            (pss_one (ps_if (pw_or (pt_cmpR op_ne (pe_callB call_len_seq (by rfl) n.len PySem.boot_len (pa_cons (pv 3) pa_nil)) pe_int (nomark _)) (pw_or (pt_not (pt_val (pe_fn GC r2 (pa_cons (pe_ix ix_tup (pv 3) pe_int (fun _ _ => rfl)) pa_nil))))
              (pw_or1 (pt_not (pt_val (pe_fn GH hr (pa_cons (pv 0) (pa_cons (pe_ix ix_tup (pv 3) pe_int (fun _ _ => rfl)) (pa_cons (pe_op op_sub (pv 2) pe_int) pa_nil))))))))).pt (pss_one (ps_ret pe_bl)) pss_nil))
            (pss_one (ps_if (pw_or (pt_not (pt_val (pe_fn GC r2 (pa_cons (pv 3) pa_nil)))) (pw_or1 (PW.pt (pw_and (pt_cmp (pc_notN (pv 0))) (pw_and1 (pt_cmpR op_ge (pv 3) (pv 0) (nomark _))))))).pt (pss_one (ps_ret pe_bl)) pss_nil)))))
        (pss_one (ps_ret pe_bl))), ?_⟩
      refine ⟨_, rfl, rfl, false, congrArg V.bl (decide_eq_false (by simpa using jn)), ?_⟩
      refine iteF ?_
      refine ⟨_, rfl, p, _, _, rfl, .bl b, fun H1 s1 => ⟨false, rfl, ?_⟩⟩
      exact iteT (q H1 s1)
    | int i =>
      refine ⟨_, pss_cons (ps_if (pw_or (pt_cmpR op_eq (pv 2) pe_int (nomark _)) (pw_or1 (pt_not (pt_val (pe_fn GL r1 (pa_cons (pv 1) pa_nil)))))).pt (pss_one (ps_ret pe_bl)) pss_nil)
        (pss_cons (ps_for PassesOwn.never rfl (pi_list (pv 1)) (pg_name (i := 3) N rfl (.inl rfl))
          (pss_one (ps_if (pt_val (pe_isTuple n (pv 3)))
            (pss_one (ps_if (pw_or (pt_cmpR op_ne (pe_callB call_len_seq (by rfl) n.len PySem.boot_len (pa_cons (pv 3) pa_nil)) pe_int (nomark _)) (pw_or (pt_not (pt_val (pe_fn GC r2 (pa_cons (pe_ix ix_tup (pv 3) pe_int (fun _ _ => rfl)) pa_nil))))
              (pw_or1 (pt_not (pt_val (pe_fn GH hr (pa_cons (pv 0) (pa_cons (pe_ix ix_tup (pv 3) pe_int (fun _ _ => rfl)) (pa_cons (pe_op op_sub (pv 2) pe_int) pa_nil))))))))).pt (pss_one (ps_ret pe_bl)) pss_nil))
            (pss_one (ps_if (pw_or (pt_not (pt_val (pe_fn GC r2 (pa_cons (pv 3) pa_nil)))) (pw_or1 (PW.pt (pw_and (pt_cmp (pc_notN (pv 0))) (pw_and1 (pt_cmpR op_ge (pv 3) (pv 0) (nomark _))))))).pt (pss_one (ps_ret pe_bl)) pss_nil)))))
        (pss_one (ps_ret pe_bl))), ?_⟩
      refine ⟨_, rfl, rfl, false, congrArg V.bl (decide_eq_false (by simpa using jn)), ?_⟩
      refine iteF ?_
      refine ⟨_, rfl, p, _, _, rfl, .int i, fun H1 s1 => ⟨false, rfl, ?_⟩⟩
      exact iteT (q H1 s1)
    | str z =>
      refine ⟨_, pss_cons (ps_if (pw_or (pt_cmpR op_eq (pv 2) pe_int (nomark _)) (pw_or1 (pt_not (pt_val (pe_fn GL r1 (pa_cons (pv 1) pa_nil)))))).pt (pss_one (ps_ret pe_bl)) pss_nil)
        (pss_cons (ps_for PassesOwn.never rfl (pi_list (pv 1)) (pg_name (i := 3) N rfl (.inl rfl))
          (pss_one (ps_if (pt_val (pe_isTuple n (pv 3)))
            (pss_one (ps_if (pw_or (pt_cmpR op_ne (pe_callB call_len_seq (by rfl) n.len PySem.boot_len (pa_cons (pv 3) pa_nil)) pe_int (nomark _)) (pw_or (pt_not (pt_val (pe_fn GC r2 (pa_cons (pe_ix ix_tup (pv 3) pe_int (fun _ _ => rfl)) pa_nil))))
              (pw_or1 (pt_not (pt_val (pe_fn GH hr (pa_cons (pv 0) (pa_cons (pe_ix ix_tup (pv 3) pe_int (fun _ _ => rfl)) (pa_cons (pe_op op_sub (pv 2) pe_int) pa_nil))))))))).pt (pss_one (ps_ret pe_bl)) pss_nil))
            (pss_one (ps_if (pw_or (pt_not (pt_val (pe_fn GC r2 (pa_cons (pv 3) pa_nil)))) (pw_or1 (PW.pt (pw_and (pt_cmp (pc_notN (pv 0))) (pw_and1 (pt_cmpR op_ge (pv 3) (pv 0) (nomark _))))))).pt (pss_one (ps_ret pe_bl)) pss_nil)))))
        (pss_one (ps_ret pe_bl))), ?_⟩
      refine ⟨_, rfl, rfl, false, congrArg V.bl (decide_eq_false (by simpa using jn)), ?_⟩
      refine iteF ?_
      refine ⟨_, rfl, p, _, _, rfl, .str z, fun H1 s1 => ⟨false, rfl, ?_⟩⟩
      exact iteT (q H1 s1)
    | dct hx =>
      refine ⟨_, pss_cons (ps_if (pw_or (pt_cmpR op_eq (pv 2) pe_int (nomark _)) (pw_or1 (pt_not (pt_val (pe_fn GL r1 (pa_cons (pv 1) pa_nil)))))).pt (pss_one (ps_ret pe_bl)) pss_nil)
        (pss_cons (ps_for PassesOwn.never rfl (pi_list (pv 1)) (pg_name (i := 3) N rfl (.inl rfl))
          (pss_one (ps_if (pt_val (pe_isTuple n (pv 3)))
            (pss_one (ps_if (pw_or (pt_cmpR op_ne (pe_callB call_len_seq (by rfl) n.len PySem.boot_len (pa_cons (pv 3) pa_nil)) pe_int (nomark _)) (pw_or (pt_not (pt_val (pe_fn GC r2 (pa_cons (pe_ix ix_tup (pv 3) pe_int (fun _ _ => rfl)) pa_nil))))
              (pw_or1 (pt_not (pt_val (pe_fn GH hr (pa_cons (pv 0) (pa_cons (pe_ix ix_tup (pv 3) pe_int (fun _ _ => rfl)) (pa_cons (pe_op op_sub (pv 2) pe_int) pa_nil))))))))).pt (pss_one (ps_ret pe_bl)) pss_nil))
            (pss_one (ps_if (pw_or (pt_not (pt_val (pe_fn GC r2 (pa_cons (pv 3) pa_nil)))) (pw_or1 (PW.pt (pw_and (pt_cmp (pc_notN (pv 0))) (pw_and1 (pt_cmpR op_ge (pv 3) (pv 0) (nomark _))))))).pt (pss_one (ps_ret pe_bl)) pss_nil)))))
        (pss_one (ps_ret pe_bl))), ?_⟩
      refine ⟨_, rfl, rfl, false, congrArg V.bl (decide_eq_false (by simpa using jn)), ?_⟩
      refine iteF ?_
      refine ⟨_, rfl, p, _, _, rfl, .dct hx, fun H1 s1 => ⟨false, rfl, ?_⟩⟩
      exact iteT (q H1 s1)
theorem fn_hf {f : Addr} {fd : FuncData} (F : Fun K "has_going_form" "has_going_form" (top 27) f fd) (m : mg "has_going_form" = some (.ref f)) (b : Binds K fd ["many", "value", "lists"] []) (n : Nm mg) (GL : Fn P w K mg base 1 "is_list" ["value"] spLst2) (GC : Fn P w K mg base 2 "is_count" ["value"] spCnt2) :
    ∀ j : Nat, Fn P w K mg base (3 + j) "has_going_form" ["many", "value", "lists"] (spHF j)
  | 0 => ⟨f, fd, m, F.kp, b, ok_hf0 F GL⟩
  | j + 1 => ⟨f, fd, m, F.kp, b, ok_hfS F n GL GC (fn_hf F m b n GL GC j)⟩
end
end L2.K23
end

section
set_option Elab.async false
set_option linter.all false
set_option maxRecDepth 100000
set_option maxHeartbeats 4000000
namespace L2.K23
open PySem PySem.Spec PyProof.Rows L2.Gd
theorem pe_fn0 {X : Cx} {k : Nat} {x : Str} {sp : Sp} {p pos : Pos}
    (F : Fn X.prog X.w X.K X.mg X.base k x [] sp) (hr : Room k X.A) (gl : Gl X x := by rfl) (hdb : (x == ("__debug__" : Str)) = false := by decide) :
    PE X (.Call (.Name x p) [] [] pos) (tCall sp [] E0 tNil) := by
  obtain ⟨f, fd, m, kp, b, G⟩ := F.ex
  exact pe_call0 G hr gl m kp b .nil pass0 hdb
theorem gn {i : Nat} {v : V} {σ : L2.St} {H : Hp} {Q : L2.St → Hp → Prop} (h : Q (σ.set i (some v)) H) : gName i v σ H Q := h
/-! ### the course of a going -/
def itemC (g : PyData → Option Crs) (ds : List Dd) : PyData → Option Crs
  | .tuple [x, .int t] => (if t > 0 then g x else some noC).bind fun c => oftC c t
  | .int i => (ds[i.toNat]?).map deedC
  | _ => none
def cwL (g : PyData → Option Crs) : List PyData → Crs → Option Crs
  | [], c => some c
  | it :: r, c => match (g it).bind (behC c) with
    | none => none
    | some c' => cwL g r c'
def cwC : Nat → List Dd → PyData → Option Crs
  | 0, _, _ => none
  | k + 1, ds, d => match seqOf d with
    | some its => cwL (itemC (cwC k ds) ds) its noC
    | none => none
/-- no lap is done a million times -/
def few : Nat → List Dd → PyData → Prop
  | 0, _, _ => True
  | k + 1, ds, d => ∀ its, seqOf d = some its → ∀ it ∈ its, ∀ x t, it = .tuple [x, .int t] → t.natAbs < 2 ^ 99 ∧ few k ds x ∧ ∀ c, cwC k ds x = some c → BgC c
theorem few_of {j : Nat} {ds : List Dd} {d1 : PyData} {t0 : Int} {c1 : Crs} (hcw : (if t0 > 0 then cwC j ds d1 else some noC) = some c1) (bg : ∀ c, cwC j ds d1 = some c → BgC c) (t0p : 0 ≤ t0) (tl : t0.natAbs < 2 ^ 99) : OfB c1 t0 := by
  refine ⟨?_, t0p, tl⟩
  split at hcw
  · exact bg _ hcw
  · obtain rfl := Option.some.inj hcw
    exact ⟨by show (0 : Nat) < _; decide, by show (0 : Nat) < _; decide⟩
section
variable {P : Program} {w : World} {K : PySem.W.Frag} {mg : Str → Option Value} {base : Heap} {C : Addr}
def spCW (C : Addr) (k : Nat) : Sp := fun vs H Q _ => ∃ (p D a : Addr) (ys : List V) (ds : List Dd) (d : PyData), vs = [.ref D, .ref a] ∧ H D = some (.lst ys) ∧ DdAll H ys ds ∧ DV p H (.ref a) d ∧ hasF k ds.length d = true ∧ few k ds d ∧
  ∀ v H', Same H H' → CV C H' v (cwC k ds d) → Q v H'
def NCw : List Str := ["deeds", "going", "course", "item", "more"]
theorem scCw : FnScope NCw ["deeds", "going"] (defScope (top 28)) := ⟨rfl, rfl, rfl, by decide +kernel, rfl, by decide +kernel, by decide +kernel⟩
theorem ok_cw0 {f : Addr} {fd : FuncData} (F : Fun K "course_within" "course_within" (top 28) f fd) : FnOk P w K mg base CX0 4 f fd ["deeds", "going"] (spCW C 0) := by
  refine F.ok scCw (fun vs H Q E h => ?_) (fun cdv A outer s H vs Q E hr h => ?_)
  · obtain ⟨p, D, a, ys, ds, d, rfl, _⟩ := h
    rfl
  · obtain ⟨p, D, a, ys, ds, d, rfl, _, _, _, hf, _⟩ := h
    exact absurd (show false = true from hf) (by decide)
theorem ok_cwS {j : Nat} {f : Addr} {fd : FuncData} (F : Fun K "course_within" "course_within" (top 28) f fd) (n : Nm mg) (GN : Fn P w K mg base 3 "no_course" [] (spNo C)) (GD : Fn P w K mg base 3 "deed_course" ["deed"] (spDC C))
    (GO : Fn P w K mg base 3 "done_often" ["course", "times"] (spOf C)) (GB : Fn P w K mg base 3 "behind_another" ["one", "two"] (spBA C))
    (GW : Fn P w K mg base (4 + j) "course_within" ["deeds", "going"] (spCW C j)) : FnOk P w K mg base CX0 (4 + j + 1) f fd ["deeds", "going"] (spCW C (j + 1)) := by
  refine F.ok scCw (fun vs H Q E h => ?_) (fun cdv A outer s H vs Q E hr h => ?_)
  · obtain ⟨p, D, a, ys, ds, d, rfl, _⟩ := h
    rfl
  · obtain ⟨p, D, a, ys, ds, d, rfl, hD, dd, hd, hf, hb, q⟩ := h
    have N := scCw.nd
    have r3 := hr.mono (k := 4 + j) (j := 3) (by omega)
    cases hd with
    | lst nep hx ts =>
      rename_i xs its
      refine ⟨_, pss_cons (ps_set (i := 2) N rfl (.inl rfl) (pe_fn0 GN r3))
        (pss_cons (ps_for PassesOwn.never rfl (pi_list (pv 1)) (pg_name (i := 3) N rfl (.inl rfl))
          (pss_cons (ps_if (pt_val (pe_isTuple n (pv 3)))
            (pss_cons (ps_set (i := 4) N rfl (.inl rfl) (pe_ifExp (pt_cmpR op_gt (pe_ix ix_tup (pv 3) pe_int (fun _ _ => rfl)) pe_int (nomark _)) (pe_fn GW hr (pa_cons (pv 0) (pa_cons (pe_ix ix_tup (pv 3) pe_int (fun _ _ => rfl)) pa_nil))) (pe_fn0 GN r3)))
            (pss_one (ps_set (i := 4) N rfl (.inl rfl) (pe_ifExp (pt_cmp (pc_isN (pv 4))) pe_non (pe_fn GO r3 (pa_cons (pv 4) (pa_cons (pe_ix ix_tup (pv 3) pe_int (fun _ _ => rfl)) pa_nil)))))))
            (pss_one (ps_set (i := 4) N rfl (.inl rfl) (pe_fn GD r3 (pa_cons (pe_ix ix_list (pv 0) (pv 3) (fun _ _ => rfl)) pa_nil)))))
          (pss_cons (ps_set (i := 2) N rfl (.inl rfl) (pe_ifExp (pt_cmp (pc_isN (pv 4))) pe_non (pe_fn GB r3 (pa_cons (pv 2) (pa_cons (pv 4) pa_nil)))))
          (pss_one (ps_if (pt_cmp (pc_isN (pv 2))) (pss_one (ps_ret pe_non)) pss_nil)))))
        (pss_one (ps_ret (pv 2)))), ?_⟩
      refine seqV (Good := fun σ2 H2 => ∃ x, CrsAt C H2 x noC ∧ Same H H2 ∧ σ2 = [some (.ref D), some (.ref a), some (.ref x), none, none])
        (fun nx hnx => ⟨rfl, fun x H2 _ s2 hc => hnx _ _ ⟨x, hc, s2, rfl⟩⟩) ?_
      rintro _ H1 ⟨x0, hc0, s1, rfl⟩
      have hx1 := s1 _ _ hx
      have lts := ts.len
      have whole : cwC (j + 1) ds (.list its) = cwL (itemC (cwC j ds) ds) its noC := rfl
      refine ⟨_, rfl, a, rfl, ⟨_, .inl (.inl hx1)⟩, ?_⟩
      refine loop_of (n := xs.length) (fun i σ H2 => ∃ (v3 v4 : Option V) (x : Addr) (c : Crs), σ = [some (.ref D), some (.ref a), some (.ref x), v3, v4] ∧ CrsAt C H2 x c ∧ Same H1 H2 ∧ cwL (itemC (cwC j ds) ds) (its.drop i) c = cwL (itemC (cwC j ds) ds) its noC)
        ⟨none, none, x0, noC, rfl, hc0, fun _ _ z => z, rfl⟩ ?_ ?_
      · rintro σ H2 ⟨v3, v4, x, c, rfl, hc, s2, e⟩
        refine ⟨⟨xs, .inl (.inl (s2 _ _ hx1)), Nat.le_refl _⟩, ?_⟩
        rw [lts, List.drop_length] at e
        exact ⟨_, rfl, q _ H2 (s1.trans s2) (by rw [whole, ← e]; exact ⟨x, rfl, hc⟩)⟩
      · rintro i σ H2 hi ⟨v3, v4, x, c, rfl, hc, s2, e⟩
        refine ⟨⟨xs, _, .inl (.inl (s2 _ _ hx1)), List.getElem?_eq_getElem hi⟩, ?_⟩
        rintro v H' ⟨rfl, hy⟩
        have hvi := hy xs (.inl (.inl (s2 _ _ hx1)))
        obtain ⟨it, hit, hdx⟩ := ts.at hvi
        have s01 := s1.trans s2
        have hdx2 : DV p H' v it := hdx.same s01
        have hmem := List.mem_of_getElem? hit
        have hiF : itemF (hasF j ds.length) ds.length it = true := List.all_eq_true.mp hf it hmem
        have hfew := hb its rfl it hmem
        have hil : i < its.length := by rw [← lts]; exact hi
        have dr : its.drop i = it :: its.drop (i + 1) := by
          rw [List.drop_eq_getElem_cons hil]
          congr 1
          rw [List.getElem?_eq_getElem hil] at hit
          exact Option.some.inj hit
        rw [dr] at e
        have hD' := s01 _ _ hD
        have dd' := DdAll.same s01 dd
        refine gn ?_
        -- more
        refine seqV (Good := fun σ2 H3 => ∃ vm, CV C H3 vm (itemC (cwC j ds) ds it) ∧ Same H' H3 ∧ σ2 = [some (.ref D), some (.ref a), some (.ref x), some v, some vm]) ?_ ?_
        · intro nx hnx
          refine ⟨_, rfl, isi_mk hdx2.ty (kit_tuple it) ⟨_, rfl, ?_⟩⟩
          cases hdx2 with
          | int z =>
            have zz : (decide (0 ≤ z) && decide (z < (ds.length : Int))) = true := hiF
            rw [Bool.and_eq_true, decide_eq_true_eq, decide_eq_true_eq] at zz
            obtain ⟨k, rfl⟩ : ∃ k : Nat, z = k := ⟨z.toNat, by omega⟩
            have hk : k < ds.length := by omega
            have yl := Paired.length dd'
            have hyk : ys[k]? = some ys[k] := List.getElem?_eq_getElem (by omega)
            obtain ⟨d1, hd1, t, et, ht⟩ := Paired.at dd' hyk
            refine iteF ⟨_, rfl, _, rfl, D, ys, _, _, rfl, rfl, .inl (.inl hD'), atI_nat hyk, t, d1, by rw [et]; rfl, ht, fun x2 H3 _ s3 hc3 => ?_⟩
            exact hnx _ _ ⟨.ref x2, by show CV C H3 (.ref x2) ((ds[((k : Nat) : Int).toNat]?).map deedC); rw [Int.toNat_natCast, hd1]; exact ⟨x2, rfl, hc3⟩, s3, rfl⟩
          | tup ht tt =>
            rename_i t ts2 us
            refine iteT ?_
            match ts2, us, tt with
            | [y1, y2], _, .cons (d := d1) k1 (.cons (d := d2) k2 .nil) =>
              have zz : (isC d2 && hasF j ds.length d1) = true := hiF
              rw [Bool.and_eq_true] at zz
              obtain ⟨zc, zf⟩ := zz
              cases k2 with
              | int t0 =>
                have t0p : 0 ≤ t0 := of_decide_eq_true zc
                obtain ⟨tl, fw, fb⟩ := hfew d1 t0 rfl
                have ra : ∃ a2, y1 = .ref a2 := by
                  cases k1 with
                  | lst _ _ _ => exact ⟨_, rfl⟩
                  | tup _ _ => exact ⟨_, rfl⟩
                  | dct _ => exact ⟨_, rfl⟩
                  | non => cases j <;> exact absurd (show false = true from zf) (by decide)
                  | bl _ => cases j <;> exact absurd (show false = true from zf) (by decide)
                  | int _ => cases j <;> exact absurd (show false = true from zf) (by decide)
                  | str _ => cases j <;> exact absurd (show false = true from zf) (by decide)
                obtain ⟨a2, rfl⟩ := ra
                refine seqV (Good := fun σ2 H3 => ∃ v1, CV C H3 v1 (if t0 > 0 then cwC j ds d1 else some noC) ∧ Same H' H3 ∧ σ2 = [some (.ref D), some (.ref a), some (.ref x), some (.ref t), some v1]) ?_ ?_
                · intro nx2 hnx2
                  refine ⟨_, rfl, t, _, _, _, rfl, rfl, .inl (.inl ht), rfl, _, _, rfl, rfl, decide (t0 > 0), rfl, ?_⟩
                  by_cases hp0 : t0 > 0
                  · rw [decide_eq_true hp0]
                    refine iteT ⟨_, rfl, _, rfl, t, _, _, _, rfl, rfl, .inl (.inl ht), rfl, p, D, a2, ys, ds, d1, rfl, hD', dd', k1, zf, fw, fun v1 H3 s3 cv => ?_⟩
                    exact hnx2 _ _ ⟨v1, by rw [if_pos hp0]; exact cv, s3, rfl⟩
                  · rw [decide_eq_false hp0]
                    exact iteF ⟨rfl, fun x2 H3 _ s3 hc3 => hnx2 _ _ ⟨.ref x2, by rw [if_neg hp0]; exact ⟨x2, rfl, hc3⟩, s3, rfl⟩⟩
                rintro _ H3 ⟨v1, cv1, s3, rfl⟩
                have eI : itemC (cwC j ds) ds (.tuple [d1, .int t0]) = (if t0 > 0 then cwC j ds d1 else some noC).bind fun c => oftC c t0 := rfl
                refine ⟨_, rfl, decide (v1 = .non), rfl, ?_⟩
                cases hcw : (if t0 > 0 then cwC j ds d1 else some noC) with
                | none =>
                  rw [hcw] at cv1 eI
                  obtain rfl : v1 = .non := cv1
                  rw [decide_eq_true rfl]
                  exact iteT (hnx _ _ ⟨.non, by rw [eI]; rfl, s3, rfl⟩)
                | some c1 =>
                  rw [hcw] at cv1 eI
                  obtain ⟨x1, rfl, hc1⟩ := cv1
                  rw [decide_eq_false (by simp)]
                  refine iteF ⟨_, rfl, _, rfl, t, _, _, _, rfl, rfl, .inl (.inl (s3 _ _ ht)), rfl, x1, c1, t0, rfl, hc1, few_of hcw fb t0p tl, trivial, fun v2 H4 s4 cv2 => ?_⟩
                  exact hnx _ _ ⟨v2, by rw [eI]; exact cv2, s3.trans s4, rfl⟩
              | non => exact absurd (show false = true from zc) (by decide)
              | bl _ => exact absurd (show false = true from zc) (by decide)
              | str _ => exact absurd (show false = true from zc) (by decide)
              | lst _ _ _ => exact absurd (show false = true from zc) (by decide)
              | tup _ _ => exact absurd (show false = true from zc) (by decide)
              | dct _ => exact absurd (show false = true from zc) (by decide)
            | [], _, .nil => exact absurd (show false = true from hiF) (by decide)
            | [_], _, .cons _ .nil => exact absurd (show false = true from hiF) (by decide)
            | _ :: _ :: _ :: _, _, .cons _ (.cons _ (.cons _ _)) => exact absurd (show false = true from hiF) (by decide)
          | non => exact absurd (show false = true from hiF) (by decide)
          | bl _ => exact absurd (show false = true from hiF) (by decide)
          | str _ => exact absurd (show false = true from hiF) (by decide)
          | lst _ _ _ => exact absurd (show false = true from hiF) (by decide)
          | dct _ => exact absurd (show false = true from hiF) (by decide)
        rintro _ H3 ⟨vm, cvm, s3, rfl⟩
        have hc3 := hc.same s3
        -- course
        refine seqV (Good := fun σ2 H4 => ∃ vc, CV C H4 vc ((itemC (cwC j ds) ds it).bind (behC c)) ∧ Same H3 H4 ∧ σ2 = [some (.ref D), some (.ref a), some vc, some v, some vm]) ?_ ?_
        · intro nx hnx
          refine ⟨_, rfl, decide (vm = .non), rfl, ?_⟩
          cases hci : itemC (cwC j ds) ds it with
          | none =>
            rw [hci] at cvm
            obtain rfl : vm = .non := cvm
            rw [decide_eq_true rfl]
            exact iteT (hnx _ _ ⟨.non, by rw [hci]; rfl, fun _ _ z => z, rfl⟩)
          | some cm =>
            rw [hci] at cvm
            obtain ⟨xm, rfl, hcm⟩ := cvm
            rw [decide_eq_false (by simp)]
            exact iteF ⟨_, rfl, _, rfl, x, xm, c, cm, rfl, hc3, hcm, fun v2 H4 s4 cv2 => hnx _ _ ⟨v2, by rw [hci]; exact cv2, s4, rfl⟩⟩
        rintro _ H4 ⟨vc, cvc, s4, rfl⟩
        have s04 := s01.trans (s3.trans s4)
        have eL : cwL (itemC (cwC j ds) ds) (it :: its.drop (i + 1)) c = match (itemC (cwC j ds) ds it).bind (behC c) with
            | none => none
            | some c' => cwL (itemC (cwC j ds) ds) (its.drop (i + 1)) c' := rfl
        refine ⟨_, rfl, decide (vc = .non), rfl, ?_⟩
        cases hcb : (itemC (cwC j ds) ds it).bind (behC c) with
        | none =>
          rw [hcb] at cvc eL
          obtain rfl : vc = .non := cvc
          rw [decide_eq_true rfl]
          exact iteT (q .non H4 s04 (by rw [whole, ← e, eL]; rfl))
        | some c' =>
          rw [hcb] at cvc eL
          obtain ⟨xc, rfl, hcc⟩ := cvc
          rw [decide_eq_false (by simp)]
          exact iteF ⟨_, _, xc, c', rfl, hcc, s2.trans (s3.trans s4), by rw [← e, eL]⟩
    | tup hx ts =>
      rename_i xs its
      refine ⟨_, pss_cons (ps_set (i := 2) N rfl (.inl rfl) (pe_fn0 GN r3))
        (pss_cons (ps_for PassesOwn.never rfl (pi_tup (pv 1)) (pg_name (i := 3) N rfl (.inl rfl))
          (pss_cons (ps_if (pt_val (pe_isTuple n (pv 3)))
            (pss_cons (ps_set (i := 4) N rfl (.inl rfl) (pe_ifExp (pt_cmpR op_gt (pe_ix ix_tup (pv 3) pe_int (fun _ _ => rfl)) pe_int (nomark _)) (pe_fn GW hr (pa_cons (pv 0) (pa_cons (pe_ix ix_tup (pv 3) pe_int (fun _ _ => rfl)) pa_nil))) (pe_fn0 GN r3)))
            (pss_one (ps_set (i := 4) N rfl (.inl rfl) (pe_ifExp (pt_cmp (pc_isN (pv 4))) pe_non (pe_fn GO r3 (pa_cons (pv 4) (pa_cons (pe_ix ix_tup (pv 3) pe_int (fun _ _ => rfl)) pa_nil)))))))
            (pss_one (ps_set (i := 4) N rfl (.inl rfl) (pe_fn GD r3 (pa_cons (pe_ix ix_list (pv 0) (pv 3) (fun _ _ => rfl)) pa_nil)))))
          (pss_cons (ps_set (i := 2) N rfl (.inl rfl) (pe_ifExp (pt_cmp (pc_isN (pv 4))) pe_non (pe_fn GB r3 (pa_cons (pv 2) (pa_cons (pv 4) pa_nil)))))
          (pss_one (ps_if (pt_cmp (pc_isN (pv 2))) (pss_one (ps_ret pe_non)) pss_nil)))))
        (pss_one (ps_ret (pv 2)))), ?_⟩
      refine seqV (Good := fun σ2 H2 => ∃ x, CrsAt C H2 x noC ∧ Same H H2 ∧ σ2 = [some (.ref D), some (.ref a), some (.ref x), none, none])
        (fun nx hnx => ⟨rfl, fun x H2 _ s2 hc => hnx _ _ ⟨x, hc, s2, rfl⟩⟩) ?_
      rintro _ H1 ⟨x0, hc0, s1, rfl⟩
      have hx1 := s1 _ _ hx
      have lts := ts.len
      have whole : cwC (j + 1) ds (.tuple its) = cwL (itemC (cwC j ds) ds) its noC := rfl
      refine ⟨_, rfl, a, rfl, ⟨_, .inl (.inl hx1)⟩, ?_⟩
      refine loop_of (n := xs.length) (fun i σ H2 => ∃ (v3 v4 : Option V) (x : Addr) (c : Crs), σ = [some (.ref D), some (.ref a), some (.ref x), v3, v4] ∧ CrsAt C H2 x c ∧ Same H1 H2 ∧ cwL (itemC (cwC j ds) ds) (its.drop i) c = cwL (itemC (cwC j ds) ds) its noC)
        ⟨none, none, x0, noC, rfl, hc0, fun _ _ z => z, rfl⟩ ?_ ?_
      · rintro σ H2 ⟨v3, v4, x, c, rfl, hc, s2, e⟩
        refine ⟨⟨xs, .inl (.inl (s2 _ _ hx1)), Nat.le_refl _⟩, ?_⟩
        rw [lts, List.drop_length] at e
        exact ⟨_, rfl, q _ H2 (s1.trans s2) (by rw [whole, ← e]; exact ⟨x, rfl, hc⟩)⟩
      · rintro i σ H2 hi ⟨v3, v4, x, c, rfl, hc, s2, e⟩
        refine ⟨⟨xs, _, .inl (.inl (s2 _ _ hx1)), List.getElem?_eq_getElem hi⟩, ?_⟩
        rintro v H' ⟨rfl, hy⟩
        have hvi := hy xs (.inl (.inl (s2 _ _ hx1)))
        obtain ⟨it, hit, hdx⟩ := ts.at hvi
        have s01 := s1.trans s2
        have hdx2 : DV p H' v it := hdx.same s01
        have hmem := List.mem_of_getElem? hit
        have hiF : itemF (hasF j ds.length) ds.length it = true := List.all_eq_true.mp hf it hmem
        have hfew := hb its rfl it hmem
        have hil : i < its.length := by rw [← lts]; exact hi
        have dr : its.drop i = it :: its.drop (i + 1) := by
          rw [List.drop_eq_getElem_cons hil]
          congr 1
          rw [List.getElem?_eq_getElem hil] at hit
          exact Option.some.inj hit
        rw [dr] at e
        have hD' := s01 _ _ hD
        have dd' := DdAll.same s01 dd
        refine gn ?_
        -- more
        refine seqV (Good := fun σ2 H3 => ∃ vm, CV C H3 vm (itemC (cwC j ds) ds it) ∧ Same H' H3 ∧ σ2 = [some (.ref D), some (.ref a), some (.ref x), some v, some vm]) ?_ ?_
        · intro nx hnx
          refine ⟨_, rfl, isi_mk hdx2.ty (kit_tuple it) ⟨_, rfl, ?_⟩⟩
          cases hdx2 with
          | int z =>
            have zz : (decide (0 ≤ z) && decide (z < (ds.length : Int))) = true := hiF
            rw [Bool.and_eq_true, decide_eq_true_eq, decide_eq_true_eq] at zz
            obtain ⟨k, rfl⟩ : ∃ k : Nat, z = k := ⟨z.toNat, by omega⟩
            have hk : k < ds.length := by omega
            have yl := Paired.length dd'
            have hyk : ys[k]? = some ys[k] := List.getElem?_eq_getElem (by omega)
            obtain ⟨d1, hd1, t, et, ht⟩ := Paired.at dd' hyk
            refine iteF ⟨_, rfl, _, rfl, D, ys, _, _, rfl, rfl, .inl (.inl hD'), atI_nat hyk, t, d1, by rw [et]; rfl, ht, fun x2 H3 _ s3 hc3 => ?_⟩
            exact hnx _ _ ⟨.ref x2, by show CV C H3 (.ref x2) ((ds[((k : Nat) : Int).toNat]?).map deedC); rw [Int.toNat_natCast, hd1]; exact ⟨x2, rfl, hc3⟩, s3, rfl⟩
          | tup ht tt =>
            rename_i t ts2 us
            refine iteT ?_
            match ts2, us, tt with
            | [y1, y2], _, .cons (d := d1) k1 (.cons (d := d2) k2 .nil) =>
              have zz : (isC d2 && hasF j ds.length d1) = true := hiF
              rw [Bool.and_eq_true] at zz
              obtain ⟨zc, zf⟩ := zz
              cases k2 with
              | int t0 =>
                have t0p : 0 ≤ t0 := of_decide_eq_true zc
                obtain ⟨tl, fw, fb⟩ := hfew d1 t0 rfl
                have ra : ∃ a2, y1 = .ref a2 := by
                  cases k1 with
                  | lst _ _ _ => exact ⟨_, rfl⟩
                  | tup _ _ => exact ⟨_, rfl⟩
                  | dct _ => exact ⟨_, rfl⟩
                  | non => cases j <;> exact absurd (show false = true from zf) (by decide)
                  | bl _ => cases j <;> exact absurd (show false = true from zf) (by decide)
                  | int _ => cases j <;> exact absurd (show false = true from zf) (by decide)
                  | str _ => cases j <;> exact absurd (show false = true from zf) (by decide)
                obtain ⟨a2, rfl⟩ := ra
                refine seqV (Good := fun σ2 H3 => ∃ v1, CV C H3 v1 (if t0 > 0 then cwC j ds d1 else some noC) ∧ Same H' H3 ∧ σ2 = [some (.ref D), some (.ref a), some (.ref x), some (.ref t), some v1]) ?_ ?_
                · intro nx2 hnx2
                  refine ⟨_, rfl, t, _, _, _, rfl, rfl, .inl (.inl ht), rfl, _, _, rfl, rfl, decide (t0 > 0), rfl, ?_⟩
                  by_cases hp0 : t0 > 0
                  · rw [decide_eq_true hp0]
                    refine iteT ⟨_, rfl, _, rfl, t, _, _, _, rfl, rfl, .inl (.inl ht), rfl, p, D, a2, ys, ds, d1, rfl, hD', dd', k1, zf, fw, fun v1 H3 s3 cv => ?_⟩
                    exact hnx2 _ _ ⟨v1, by rw [if_pos hp0]; exact cv, s3, rfl⟩
                  · rw [decide_eq_false hp0]
                    exact iteF ⟨rfl, fun x2 H3 _ s3 hc3 => hnx2 _ _ ⟨.ref x2, by rw [if_neg hp0]; exact ⟨x2, rfl, hc3⟩, s3, rfl⟩⟩
                rintro _ H3 ⟨v1, cv1, s3, rfl⟩
                have eI : itemC (cwC j ds) ds (.tuple [d1, .int t0]) = (if t0 > 0 then cwC j ds d1 else some noC).bind fun c => oftC c t0 := rfl
                refine ⟨_, rfl, decide (v1 = .non), rfl, ?_⟩
                cases hcw : (if t0 > 0 then cwC j ds d1 else some noC) with
                | none =>
                  rw [hcw] at cv1 eI
                  obtain rfl : v1 = .non := cv1
                  rw [decide_eq_true rfl]
                  exact iteT (hnx _ _ ⟨.non, by rw [eI]; rfl, s3, rfl⟩)
                | some c1 =>
                  rw [hcw] at cv1 eI
                  obtain ⟨x1, rfl, hc1⟩ := cv1
                  rw [decide_eq_false (by simp)]
                  refine iteF ⟨_, rfl, _, rfl, t, _, _, _, rfl, rfl, .inl (.inl (s3 _ _ ht)), rfl, x1, c1, t0, rfl, hc1, few_of hcw fb t0p tl, trivial, fun v2 H4 s4 cv2 => ?_⟩
                  exact hnx _ _ ⟨v2, by rw [eI]; exact cv2, s3.trans s4, rfl⟩
              | non => exact absurd (show false = true from zc) (by decide)
              | bl _ => exact absurd (show false = true from zc) (by decide)
              | str _ => exact absurd (show false = true from zc) (by decide)
              | lst _ _ _ => exact absurd (show false = true from zc) (by decide)
              | tup _ _ => exact absurd (show false = true from zc) (by decide)
              | dct _ => exact absurd (show false = true from zc) (by decide)
            | [], _, .nil => exact absurd (show false = true from hiF) (by decide)
            | [_], _, .cons _ .nil => exact absurd (show false = true from hiF) (by decide)
            | _ :: _ :: _ :: _, _, .cons _ (.cons _ (.cons _ _)) => exact absurd (show false = true from hiF) (by decide)
          | non => exact absurd (show false = true from hiF) (by decide)
          | bl _ => exact absurd (show false = true from hiF) (by decide)
          | str _ => exact absurd (show false = true from hiF) (by decide)
          | lst _ _ _ => exact absurd (show false = true from hiF) (by decide)
          | dct _ => exact absurd (show false = true from hiF) (by decide)
        rintro _ H3 ⟨vm, cvm, s3, rfl⟩
        have hc3 := hc.same s3
        -- course
        refine seqV (Good := fun σ2 H4 => ∃ vc, CV C H4 vc ((itemC (cwC j ds) ds it).bind (behC c)) ∧ Same H3 H4 ∧ σ2 = [some (.ref D), some (.ref a), some vc, some v, some vm]) ?_ ?_
        · intro nx hnx
          refine ⟨_, rfl, decide (vm = .non), rfl, ?_⟩
          cases hci : itemC (cwC j ds) ds it with
          | none =>
            rw [hci] at cvm
            obtain rfl : vm = .non := cvm
            rw [decide_eq_true rfl]
            exact iteT (hnx _ _ ⟨.non, by rw [hci]; rfl, fun _ _ z => z, rfl⟩)
          | some cm =>
            rw [hci] at cvm
            obtain ⟨xm, rfl, hcm⟩ := cvm
            rw [decide_eq_false (by simp)]
            exact iteF ⟨_, rfl, _, rfl, x, xm, c, cm, rfl, hc3, hcm, fun v2 H4 s4 cv2 => hnx _ _ ⟨v2, by rw [hci]; exact cv2, s4, rfl⟩⟩
        rintro _ H4 ⟨vc, cvc, s4, rfl⟩
        have s04 := s01.trans (s3.trans s4)
        have eL : cwL (itemC (cwC j ds) ds) (it :: its.drop (i + 1)) c = match (itemC (cwC j ds) ds it).bind (behC c) with
            | none => none
            | some c' => cwL (itemC (cwC j ds) ds) (its.drop (i + 1)) c' := rfl
        refine ⟨_, rfl, decide (vc = .non), rfl, ?_⟩
        cases hcb : (itemC (cwC j ds) ds it).bind (behC c) with
        | none =>
          rw [hcb] at cvc eL
          obtain rfl : vc = .non := cvc
          rw [decide_eq_true rfl]
          exact iteT (q .non H4 s04 (by rw [whole, ← e, eL]; rfl))
        | some c' =>
          rw [hcb] at cvc eL
          obtain ⟨xc, rfl, hcc⟩ := cvc
          rw [decide_eq_false (by simp)]
          exact iteF ⟨_, _, xc, c', rfl, hcc, s2.trans (s3.trans s4), by rw [← e, eL]⟩
    | dct hx => exact absurd (show false = true from hf) (by decide)
end
end L2.K23
end

section
set_option Elab.async false
set_option linter.all false
set_option maxRecDepth 100000
set_option maxHeartbeats 4000000
namespace L2.K23
open PySem PySem.Spec PyProof.Rows L2.Gd
/-- a method -/
structure MeH (P : Program) (w : World) (K : PySem.W.Frag) (mg : Str → Option Value) (base : Heap) (C : Addr) (x : Str) (k : Nat) (ps : List Str) (sp : Sp) : Prop where
  ex : ∃ f fd, Meth K C x f ∧ Binds K fd ps [] ∧ FnOk P w K mg base CX0 k f fd ps sp
section
variable {X : Cx} {C : Addr} {x : Str} {k : Nat} {ps : List Str} {sp : Sp} {o : Expr} {ta : TE} {apos pos : Pos}
theorem pe_mH0 {pl : Sem Bool} (M : MeH X.prog X.w X.K X.mg X.base C x k ps sp) (T : Cls X.K C) (hr : Room k X.A) (he : PE X o ta)
    (ht : eval (.Call (.Attribute o x apos) [] [] pos) X.env = (do
      let ov ← eval o X.env
      standAt apos.atName
      let (f, first) ← holding [ov] (getMethod ov x pl)
      callWith pos f first (backTo pos (starEach [] X.env)) (backToKw pos (keywordEach [] X.env))) := by rfl) :
    PE X (.Call (.Attribute o x apos) [] [] pos) (tMeth C x sp [] E0 ta tNil) := by
  obtain ⟨f, fd, hm, b, F⟩ := M.ex
  exact pe_meth0 he T hm F hr b .nil pass0 ht
end
section
variable {X : Cx} {C : Addr} {x : Str} {k : Nat} {ps : List Str} {sp : Sp} {o e : Expr} {es : List Expr} {ta : TE} {t : TA} {apos pos : Pos}
theorem pe_mH {pl : Sem Bool} (M : MeH X.prog X.w X.K X.mg X.base C x k ps sp) (T : Cls X.K C) (hr : Room k X.A) (he : PE X o ta) (ha : PA X (e :: es) t)
    (hst : starEach (e :: es) X.env = (false, eval e X.env) :: starEach es X.env := by rfl) (hpl : (backTo pos (starEach es X.env)).any (·.1) = false := by rfl)
    (ht : eval (.Call (.Attribute o x apos) (e :: es) [] pos) X.env = (do
      let ov ← eval o X.env
      standAt apos.atName
      let (f, first) ← holding [ov] (getMethod ov x pl)
      callWith pos f first (backTo pos (starEach (e :: es) X.env)) (backToKw pos (keywordEach [] X.env))) := by rfl) :
    PE X (.Call (.Attribute o x apos) (e :: es) [] pos) (tMeth C x sp [] E0 ta t) := by
  obtain ⟨f, fd, hm, b, F⟩ := M.ex
  exact pe_meth he T hm F hr b .nil pass0 ha hst hpl ht
end
structure LenH (P : Program) (w : World) (K : PySem.W.Frag) (mg : Str → Option Value) (base : Heap) (C : Addr) : Prop where
  ex : ∃ f fd, PySem.W.findIn K (.ref C) "__len__" = some (some (.ref f)) ∧ PySem.W.isFn K (.ref f) = true ∧ Binds K fd ["self"] [] ∧ FnOk P w K mg base CX0 1 f fd ["self"] (spLen C)
theorem call_lenH {X : Cx} {C : Addr} (L : LenH X.prog X.w X.K X.mg X.base C) (hr : Room 2 X.A) : CallR X (.builtin "len") (fun xs H Q => ∃ (h l : Addr) (m : Int) (ys : List V) (ds : List Dd), xs = [.ref h] ∧ HouseL C H h l m ys ds ∧ ds.length ≤ 60 ∧ Q (.int ds.length) H) := by
  obtain ⟨f, fd, hs, hf, b, F⟩ := L.ex
  rintro pins s σ H xs us Q I r ⟨h, l, m, ys, ds, rfl, hh, h60, q⟩
  obtain ⟨dx, ob⟩ := hh.ob
  exact call_lenOwn hr F b hs hf pins s σ H _ us Q I r ⟨h, dx, _, rfl, ob, h, l, m, ys, ds, rfl, hh, ⟨ds.length, rfl, by omega⟩, q⟩
section
variable {P : Program} {w : World} {K : PySem.W.Frag} {mg : Str → Option Value} {base : Heap} {C C2 : Addr}
theorem fn_cw {f : Addr} {fd : FuncData} (F : Fun K "course_within" "course_within" (top 28) f fd) (m : mg "course_within" = some (.ref f)) (b : Binds K fd ["deeds", "going"] []) (n : Nm mg) (GN : Fn P w K mg base 3 "no_course" [] (spNo C)) (GD : Fn P w K mg base 3 "deed_course" ["deed"] (spDC C))
    (GO : Fn P w K mg base 3 "done_often" ["course", "times"] (spOf C)) (GB : Fn P w K mg base 3 "behind_another" ["one", "two"] (spBA C)) :
    ∀ j : Nat, Fn P w K mg base (4 + j) "course_within" ["deeds", "going"] (spCW C j)
  | 0 => ⟨f, fd, m, F.kp, b, ok_cw0 F⟩
  | j + 1 => ⟨f, fd, m, F.kp, b, ok_cwS F n GN GD GO GB (fn_cw F m b n GN GD GO GB j)⟩
/-! ### checks -/
def spCP (C2 : Addr) : Sp := fun vs H Q _ => ∃ (h l : Addr) (m p : Int) (xs : List V) (ds : List Dd), vs = [.ref h, .int p] ∧ HouseL C2 H h l m xs ds ∧ 0 ≤ p ∧ p < m ∧ Q .non H
theorem scCP : FnScope ["house", "place"] ["house", "place"] (defScope (top 18)) := ⟨rfl, rfl, rfl, by decide +kernel, rfl, by decide +kernel, by decide +kernel⟩
theorem ok_cp {f : Addr} {fd : FuncData} (F : Fun K "check_place" "check_place" (top 18) f fd) (T : ClsT K mg C2) (GC : Fn P w K mg base 2 "is_count" ["value"] spIsCount) (PL : PrH P w K mg base C2 "places" (spPlaces C2)) : FnOk P w K mg base CX0 3 f fd ["house", "place"] (spCP C2) := by
  refine F.ok scCP (fun vs H Q E h => ?_) (fun cdv A outer s H vs Q E hr h => ?_)
  · obtain ⟨h, l, m, p, xs, ds, rfl, _⟩ := h
    rfl
  · obtain ⟨h, l, m, p, xs, ds, rfl, hh, p0, pm, k⟩ := h
    obtain ⟨dx, ob⟩ := hh.ob
    refine ⟨_, pss_one (ps_if (pw_or (pt_not (pt_val (pe_fn GC hr (pa_cons (pv 1) pa_nil)))) (pw_or1 (pt_cmpR op_ge (pv 1) (pe_prH PL T hr (pv 0)) (nomark _)))).pt pss_never pss_nil), ?_⟩
    refine ⟨_, rfl, p, rfl, p0, true, rfl, iteF ?_⟩
    refine ⟨_, rfl, _, rfl, h, dx, _, rfl, ob, h, dx, l, m, rfl, ob, _, _, rfl, rfl, false, congrArg V.bl (decide_eq_false (by omega)), ?_⟩
    exact iteF k
def spCM : Sp := fun vs H Q _ => ∃ p : Int, vs = [.int p] ∧ 0 ≤ p ∧ Q .non H
theorem scCM : FnScope ["many"] ["many"] (defScope (top 17)) := ⟨rfl, rfl, rfl, by decide +kernel, rfl, by decide +kernel, by decide +kernel⟩
theorem ok_cm {f : Addr} {fd : FuncData} (F : Fun K "check_many" "check_many" (top 17) f fd) (GC : Fn P w K mg base 2 "is_count" ["value"] spIsCount) : FnOk P w K mg base CX0 3 f fd ["many"] spCM := by
  refine F.ok scCM (fun vs H Q E h => ?_) (fun cdv A outer s H vs Q E hr h => ?_)
  · obtain ⟨p, rfl, _⟩ := h
    rfl
  · obtain ⟨p, rfl, p0, k⟩ := h
    refine ⟨_, pss_one (ps_if (pt_not (pt_val (pe_fn GC hr (pa_cons (pv 0) pa_nil)))) pss_never pss_nil), ?_⟩
    exact ⟨_, rfl, p, rfl, p0, true, rfl, iteF k⟩
/-! ### is_going -/
def wholeC (ds : List Dd) (d : PyData) : Option Crs := if hasF 4 ds.length d = true then cwC 4 ds d else none
def goingB (ds : List Dd) (p s : Int) (d : PyData) : Bool := match wholeC ds d with
  | some c => fitsC c p s
  | none => false
def spCN (C C2 : Addr) : Sp := fun vs H Q _ => ∃ (q h l : Addr) (m : Int) (xs : List V) (ds : List Dd) (v : V) (d : PyData), vs = [.ref h, v] ∧ HouseL C2 H h l m xs ds ∧ ds.length ≤ 60 ∧ DV q H v d ∧ (hasF 4 ds.length d = true → few 4 ds d) ∧
  ∀ v' H', Same H H' → CV C H' v' (wholeC ds d) → Q v' H'
theorem scCN : FnScope ["house", "value"] ["house", "value"] (defScope (top 29)) := ⟨rfl, rfl, rfl, by decide +kernel, rfl, by decide +kernel, by decide +kernel⟩
theorem hasF_ref {p : Addr} {H : Hp} {v : V} {d : PyData} {j : Nat} {m : Int} (h : DV p H v d) (e : hasF j m d = true) : ∃ a, v = .ref a := by
  cases h with
  | lst _ _ _ => exact ⟨_, rfl⟩
  | tup _ _ => exact ⟨_, rfl⟩
  | dct _ => exact ⟨_, rfl⟩
  | non => cases j <;> exact absurd (show false = true from e) (by decide)
  | bl _ => cases j <;> exact absurd (show false = true from e) (by decide)
  | int _ => cases j <;> exact absurd (show false = true from e) (by decide)
  | str _ => cases j <;> exact absurd (show false = true from e) (by decide)
theorem ok_cn {f : Addr} {fd : FuncData} {tk : Tok} (F : Fun K "course_or_none" "course_or_none" (top 29) f fd) (n : Nm mg) (T : ClsT K mg C2) (m4 : mg "MOST_LISTS" = some (.int 4 tk)) (L : LenH P w K mg base C2) (DE : MeH P w K mg base C2 "deeds" 1 ["self"] (spDeeds C2))
    (GH : Fn P w K mg base 7 "has_going_form" ["many", "value", "lists"] (spHF 4)) (GW : Fn P w K mg base 8 "course_within" ["deeds", "going"] (spCW C 4)) : FnOk P w K mg base CX0 9 f fd ["house", "value"] (spCN C C2) := by
  refine F.ok scCN (fun vs H Q E h => ?_) (fun cdv A outer s H vs Q E hr h => ?_)
  · obtain ⟨q, h, l, m, xs, ds, v, d, rfl, _⟩ := h
    rfl
  · obtain ⟨p, h, l, m, xs, ds, v, d, rfl, hh, h60, hd, hf, q⟩ := h
    have r1 := hr.mono (k := 8) (j := 1) (by decide)
    have r2 := hr.mono (k := 8) (j := 2) (by decide)
    have r7 := hr.mono (k := 8) (j := 7) (by decide)
    refine ⟨_, pss_cons (ps_if (pt_not (pt_val (pe_fn GH r7 (pa_cons (pe_callB (call_lenH L r2) (by rfl) n.len PySem.boot_len (pa_cons (pv 0) pa_nil)) (pa_cons (pv 1) (pa_cons (pe_glob (v := .int 4) (by rfl) m4 ⟨_, rfl⟩) pa_nil)))))) (pss_one (ps_ret pe_non)) pss_nil)
      (pss_one (ps_ret (pe_fn GW hr (pa_cons (pe_mH0 DE T.isc.cl r1 (pv 0)) (pa_cons (pv 1) pa_nil))))), ?_⟩
    refine ⟨_, rfl, h, l, m, xs, ds, rfl, hh, h60, _, rfl, p, (ds.length : Int), v, d, rfl, hd, fun H1 s1 => ⟨hasF 4 ds.length d, rfl, ?_⟩⟩
    cases hF : hasF 4 ds.length d with
    | false =>
      have e : wholeC ds d = none := if_neg (by rw [hF]; decide)
      exact iteT (q .non H1 s1 (by rw [e]; rfl))
    | true =>
      have e : wholeC ds d = cwC 4 ds d := if_pos hF
      refine iteF ?_
      obtain ⟨a, rfl⟩ := hasF_ref hd hF
      have hh1 := hh.same s1
      obtain ⟨dx, ob⟩ := hh1.ob
      refine ⟨_, rfl, h, dx, _, rfl, ob, flds_no _ _ (by decide +kernel) (by decide +kernel), h, l, m, xs, ds, rfl, hh1, fun D hD => ?_⟩
      have s2 := same_upd (o := .lst xs) hD
      exact ⟨_, rfl, p, D, a, xs, ds, d, rfl, upd_same, (hh1.same s2).dd, hd.same (s1.trans s2), hF, hf hF, fun v' H' s3 cv => q v' H' (s1.trans (s2.trans s3)) (by rw [e]; exact cv)⟩
def spIG (C2 : Addr) : Sp := fun vs H Q _ => ∃ (q h l : Addr) (m p s : Int) (xs : List V) (ds : List Dd) (v : V) (d : PyData), vs = [.ref h, .int p, .int s, v] ∧ HouseL C2 H h l m xs ds ∧ ds.length ≤ 60 ∧ DV q H v d ∧ (hasF 4 ds.length d = true → few 4 ds d) ∧ 0 ≤ p ∧ p < m ∧ 0 ≤ s ∧
  ∀ H', Same H H' → Q (.bl (goingB ds p s d)) H'
def NIg : List Str := ["house", "place", "start", "value", "course"]
theorem scIG : FnScope NIg ["house", "place", "start", "value"] (defScope (top 32)) := ⟨rfl, rfl, rfl, by decide +kernel, rfl, by decide +kernel, by decide +kernel⟩
theorem ok_ig {f : Addr} {fd : FuncData} (F : Fun K "is_going" "is_going" (top 32) f fd) (T2 : ClsC K mg C) (GP : Fn P w K mg base 3 "check_place" ["house", "place"] (spCP C2)) (GM : Fn P w K mg base 3 "check_many" ["many"] spCM)
    (GN : Fn P w K mg base 9 "course_or_none" ["house", "value"] (spCN C C2)) (FI : MeH P w K mg base C "fits" 1 ["self", "place", "start"] (spFits C)) : FnOk P w K mg base CX0 10 f fd ["house", "place", "start", "value"] (spIG C2) := by
  refine F.ok scIG (fun vs H Q E h => ?_) (fun cdv A outer s H vs Q E hr h => ?_)
  · obtain ⟨q, h, l, m, p, s, xs, ds, v, d, rfl, _⟩ := h
    rfl
  · obtain ⟨q, h, l, m, p, st, xs, ds, v, d, rfl, hh, h60, hd, hf, p0, pm, s0, k⟩ := h
    have N := scIG.nd
    have r1 := hr.mono (k := 9) (j := 1) (by decide)
    have r3 := hr.mono (k := 9) (j := 3) (by decide)
    refine ⟨_, pss_cons (ps_expr (pe_fn GP r3 (pa_cons (pv 0) (pa_cons (pv 1) pa_nil)))) (pss_cons (ps_expr (pe_fn GM r3 (pa_cons (pv 2) pa_nil)))
      (pss_cons (ps_set (i := 4) N rfl (.inl rfl) (pe_fn GN hr (pa_cons (pv 0) (pa_cons (pv 3) pa_nil))))
      (pss_one (ps_ret (pe_and (pe_cmp (pc_notN (pv 4)) rfl) (pe_one (pe_mH FI T2.cl r1 (pv 4) (pa_cons (pv 1) (pa_cons (pv 2) pa_nil))))))))), ?_⟩
    refine ⟨_, rfl, _, rfl, h, l, m, p, xs, ds, rfl, hh, p0, pm, ?_⟩
    refine ⟨_, rfl, st, rfl, s0, ?_⟩
    refine ⟨_, rfl, _, rfl, q, h, l, m, xs, ds, v, d, rfl, hh, h60, hd, hf, fun v' H1 s1 cv => ?_⟩
    refine ⟨_, rfl, !decide (v' = .non), rfl, ?_⟩
    have kk := k
    unfold goingB at kk
    cases hw : wholeC ds d with
    | none =>
      rw [hw] at cv
      obtain rfl : v' = .non := cv
      rw [decide_eq_true rfl]
      refine iteF ?_
      have := kk H1 s1
      rw [hw] at this
      exact this
    | some c =>
      rw [hw] at cv
      obtain ⟨x, rfl, dx, hx⟩ := cv
      rw [decide_eq_false (by simp)]
      refine iteT ⟨_, rfl, x, dx, _, rfl, hx, cf_fits c, _, rfl, _, rfl, x, c, p, st, rfl, ⟨dx, hx⟩, ?_⟩
      have := kk H1 s1
      rw [hw] at this
      exact this
end
end L2.K23
end

section
set_option Elab.async false
set_option linter.all false
set_option maxRecDepth 100000
set_option maxHeartbeats 4000000
namespace L2.K23
open PySem PySem.Spec PyProof.Rows L2.Gd
/-! ### deed by deed -/
def runD : List Dd → Int → Int → Option (Int × Int)
  | [], p, s => some (p, s)
  | d :: r, p, s => if d.p ≠ p ∨ s + d.c < 0 ∨ (d.w = "empty" ∧ s ≠ 0) then none else runD r d.g (s + d.c)
theorem runD_app : ∀ (r r' : List Dd) (p s : Int), runD (r ++ r') p s = (runD r p s).bind fun x => runD r' x.1 x.2
  | [], _, _, _ => rfl
  | d :: r, r', p, s => by
    show (if _ then none else runD (r ++ r') d.g (s + d.c)) = (if _ then none else runD r d.g (s + d.c)).bind _
    split
    · rfl
    · exact runD_app r r' _ _
theorem runD_nn : ∀ (r : List Dd) (p s p' s' : Int), 0 ≤ s → runD r p s = some (p', s') → 0 ≤ s'
  | [], _, _, _, _, h, e => by
    have := Option.some.inj e
    rw [← (Prod.mk.inj this).2]
    exact h
  | d :: r, p, s, p', s', h, e => by
    unfold runD at e
    split at e
    · exact nomatch e
    · rename_i q
      refine runD_nn r _ _ _ _ ?_ e
      have : ¬ s + d.c < 0 := fun z => q (.inr (.inl z))
      omega
/-- where it may be done -/
def may (c : Crs) (s : Int) : Prop := c.v = false ∧ (if c.o = true then s = c.e else s ≥ c.e)
instance (c : Crs) (s : Int) : Decidable (may c s) := by unfold may; exact inferInstance
def SpecC (c : Crs) (r : List Dd) : Prop := c.n = r.length ∧ (r = [] → c.b = none ∧ c.f = none) ∧
  (r ≠ [] → ∃ b f : Int, c.b = some b ∧ c.f = some f ∧ ∀ p s, 0 ≤ s → runD r p s = if p = b ∧ may c s then some (f, s + c.g) else none)
def SpecO : Option Crs → List Dd → Prop
  | none, r => ∀ p s, 0 ≤ s → runD r p s = none
  | some c, r => SpecC c r
theorem spec_no : SpecC noC [] := ⟨rfl, fun _ => ⟨rfl, rfl⟩, fun h => absurd rfl h⟩
theorem spec_deed {m : Int} {d : Dd} (ok : d.Ok m) : SpecC (deedC d) [d] := by
  refine ⟨rfl, (fun h => absurd h (by simp)), fun _ => ⟨d.p, d.g, rfl, rfl, fun p s hs => ?_⟩⟩
  have ne : ¬ (("any" : Str) = "empty") := by decide +kernel
  show (if d.p ≠ p ∨ s + d.c < 0 ∨ (d.w = "empty" ∧ s ≠ 0) then none else some (d.g, s + d.c)) = _
  have key : (d.p ≠ p ∨ s + d.c < 0 ∨ (d.w = "empty" ∧ s ≠ 0)) ↔ ¬ (p = d.p ∧ may (deedC d) s) := by
    unfold may deedC
    rcases ok.w with ⟨w, c1, c2⟩ | ⟨w, c1, c2⟩
    · have w2 : ¬ d.w = "empty" := fun z => ne (w.symm.trans z)
      have dw : decide (d.w = "empty") = false := decide_eq_false w2
      simp only [dw]
      by_cases hc : 0 - d.c > 0
      · simp only [hc, if_true]
        constructor
        · rintro (h | h | h) ⟨h1, _, h2⟩
          · exact h h1.symm
          · have h2 : s ≥ 0 - d.c := h2
            omega
          · exact w2 h.1
        · intro h
          by_cases h1 : d.p = p
          · by_cases h2 : s + d.c < 0
            · exact .inr (.inl h2)
            · exact absurd ⟨h1.symm, trivial, (by show s ≥ 0 - d.c; omega)⟩ h
          · exact .inl h1
      · simp only [hc, if_false]
        constructor
        · rintro (h | h | h) ⟨h1, _, h2⟩
          · exact h h1.symm
          · omega
          · exact w2 h.1
        · intro h
          by_cases h1 : d.p = p
          · exact absurd ⟨h1.symm, trivial, (by show s ≥ 0; omega)⟩ h
          · exact .inl h1
    · have dw : decide (d.w = "empty") = true := decide_eq_true w
      simp only [dw, if_true]
      rw [if_neg (show ¬ (0 - d.c > 0) by omega)]
      constructor
      · rintro (h | h | h) ⟨h1, _, h2⟩
        · exact h h1.symm
        · omega
        · exact h.2 h2
      · intro h
        by_cases h1 : d.p = p
        · by_cases h2 : s = 0
          · exact absurd ⟨h1.symm, trivial, h2⟩ h
          · exact .inr (.inr ⟨w, h2⟩)
        · exact .inl h1
  by_cases h : p = d.p ∧ may (deedC d) s
  · rw [if_pos h, if_neg (fun z => key.mp z h)]
    rfl
  · rw [if_neg h, if_pos (key.mpr h)]
theorem spec_beh {a b : Crs} {r r' : List Dd} (ha : SpecC a r) (hb : SpecC b r') : SpecO (behC a b) (r ++ r') := by
  obtain ⟨an, a0, a1⟩ := ha
  obtain ⟨bn, b0, b1⟩ := hb
  unfold behC
  by_cases hr : r = []
  · subst hr
    rw [if_pos (by rw [an]; rfl)]
    exact ⟨bn, b0, b1⟩
  · have hrn : ¬ a.n = 0 := by
      rw [an]
      intro z
      exact hr (List.eq_nil_of_length_eq_zero (by omega))
    rw [if_neg hrn]
    by_cases hr' : r' = []
    · subst hr'
      rw [if_pos (by rw [bn]; rfl), List.append_nil]
      exact ⟨an, a0, a1⟩
    · have hrn' : ¬ b.n = 0 := by
        rw [bn]
        intro z
        exact hr' (List.eq_nil_of_length_eq_zero (by omega))
      rw [if_neg hrn']
      obtain ⟨ab, af, eab, eaf, ra⟩ := a1 hr
      obtain ⟨bb, bf, ebb, ebf, rb⟩ := b1 hr'
      by_cases hf : a.f ≠ b.b
      · rw [if_pos hf]
        intro p s hs
        rw [runD_app, ra p s hs]
        split
        · rename_i h
          have nn := runD_nn r p s af (s + a.g) hs (by rw [ra p s hs, if_pos h])
          show runD r' af (s + a.g) = none
          rw [rb _ _ nn, if_neg]
          rintro ⟨z, _⟩
          exact hf (by rw [eaf, ebb, z])
        · rfl
      · rw [if_neg hf]
        have hfb : af = bb := by
          have : a.f = b.b := Classical.not_not.mp hf
          rw [eaf, ebb] at this
          exact Option.some.inj this
        subst hfb
        refine ⟨by show a.n + b.n = _; rw [an, bn, List.length_append]; omega, fun z => absurd (List.append_eq_nil_iff.mp z).1 hr, fun _ => ⟨ab, bf, eab, ebf, fun p s hs => ?_⟩⟩
        rw [runD_app, ra p s hs]
        have key : may ⟨a.b, b.f, a.n + b.n, a.g + b.g, needB a b, a.o || b.o, a.v || (b.v || vainB a b)⟩ s ↔ (may a s ∧ may b (s + a.g)) := by
          unfold may needB vainB
          cases hao : a.o <;> cases hbo : b.o <;> cases hav : a.v <;> cases hbv : b.v <;> simp <;> (try split) <;> omega
        by_cases h : p = ab ∧ may a s
        · rw [if_pos h]
          have nn := runD_nn r p s af (s + a.g) hs (by rw [ra p s hs, if_pos h])
          show runD r' af (s + a.g) = _
          rw [rb _ _ nn]
          by_cases h2 : may b (s + a.g)
          · rw [if_pos ⟨rfl, h2⟩, if_pos ⟨h.1, key.mpr ⟨h.2, h2⟩⟩]
            show some (bf, s + a.g + b.g) = some (bf, s + (a.g + b.g))
            rw [Int.add_assoc]
          · rw [if_neg (fun z => h2 z.2), if_neg (fun z => h2 (key.mp z.2).2)]
        · rw [if_neg h, if_neg (fun z => h ⟨z.1, (key.mp z.2).1⟩)]
          rfl
end L2.K23
end

section
set_option Elab.async false
set_option linter.all false
set_option maxRecDepth 100000
set_option maxHeartbeats 4000000
namespace L2.K23
open PySem PySem.Spec PyProof.Rows L2.Gd
/-- done t times, a closed one -/
def oft (c : Crs) (t : Nat) : Crs := ⟨c.b, c.f, c.n * t, c.g * t, if c.o = true then c.e else if c.g < 0 then c.e - ((t : Int) - 1) * c.g else c.e, c.o, if c.o = true then (c.v || (decide (2 ≤ t) && !decide (c.g = 0))) else c.v⟩
def rep (t : Nat) (r : List Dd) : List Dd := (List.replicate t r).flatten
theorem rep_succ (t : Nat) (r : List Dd) : rep (t + 1) r = r ++ rep t r := by
  unfold rep
  rw [List.replicate_succ, List.flatten_cons]
theorem rep_nil (t : Nat) : rep t [] = [] := by
  unfold rep
  induction t with
  | zero => rfl
  | succ t ih => rw [List.replicate_succ, List.flatten_cons, ih]; rfl
theorem may_oft {c : Crs} {t : Nat} {s : Int} (ht : 1 ≤ t) : may (oft c (t + 1)) s ↔ (may c s ∧ may (oft c t) (s + c.g)) := by
  unfold may oft
  simp only
  cases ho : c.o with
  | true =>
    simp only [if_true]
    have d2 : decide (2 ≤ t + 1) = true := decide_eq_true (by omega)
    rw [d2, Bool.true_and]
    by_cases hg : c.g = 0
    · simp only [hg, decide_true, Bool.not_true, Bool.or_false, Bool.and_false, Int.add_zero]
      constructor
      · intro h; exact ⟨h, h⟩
      · intro h; exact h.1
    · have dg : decide (c.g = 0) = false := decide_eq_false hg
      rw [dg]
      simp only [Bool.not_false, Bool.or_true, Bool.and_true]
      constructor
      · rintro ⟨h, _⟩; exact nomatch h
      · rintro ⟨⟨_, h1⟩, ⟨_, h2⟩⟩
        omega
  | false =>
    simp only [Bool.false_eq_true, if_false]
    by_cases hg : c.g < 0
    · simp only [hg, if_true]
      have e : (((t + 1 : Nat) : Int) - 1) * c.g = ((t : Int) - 1) * c.g + c.g := by
        have : (((t + 1 : Nat) : Int) - 1) = ((t : Int) - 1) + 1 := by omega
        rw [this, Int.add_mul, Int.one_mul]
      rw [e]
      have h0 : ((t : Int) - 1) * c.g ≤ 0 := Int.mul_nonpos_of_nonneg_of_nonpos (by omega) (by omega)
      generalize ((t : Int) - 1) * c.g = z at h0
      constructor
      · rintro ⟨h1, h2⟩
        exact ⟨⟨h1, by omega⟩, h1, by omega⟩
      · rintro ⟨⟨h1, _⟩, _, h2⟩
        exact ⟨h1, by omega⟩
    · simp only [hg, if_false]
      constructor
      · rintro ⟨h1, h2⟩
        exact ⟨⟨h1, h2⟩, h1, by omega⟩
      · rintro ⟨⟨h1, h2⟩, _⟩
        exact ⟨h1, h2⟩
theorem run_rep {c : Crs} {r : List Dd} {b : Int} (h : ∀ p s, 0 ≤ s → runD r p s = if p = b ∧ may c s then some (b, s + c.g) else none) :
    ∀ t : Nat, 1 ≤ t → ∀ p s, 0 ≤ s → runD (rep t r) p s = if p = b ∧ may (oft c t) s then some (b, s + c.g * t) else none
  | 1, _, p, s, hs => by
    have e : rep 1 r = r := by rw [rep_succ]; unfold rep; simp
    have m : may (oft c 1) s ↔ may c s := by
      unfold may oft
      have d2 : decide (2 ≤ 1) = false := rfl
      simp only [d2, Bool.false_and, Bool.or_false, Int.natCast_one, Int.sub_self, Int.zero_mul, Int.sub_zero]
      cases c.o <;> simp
    rw [e, h p s hs]
    by_cases q : p = b ∧ may c s
    · rw [if_pos q, if_pos ⟨q.1, m.mpr q.2⟩]
      simp
    · rw [if_neg q, if_neg (fun z => q ⟨z.1, m.mp z.2⟩)]
  | t + 2, _, p, s, hs => by
    rw [rep_succ, runD_app, h p s hs]
    have k := may_oft (c := c) (t := t + 1) (s := s) (by omega)
    by_cases q : p = b ∧ may c s
    · rw [if_pos q]
      have nn := runD_nn r p s b (s + c.g) hs (by rw [h p s hs, if_pos q])
      show runD (rep (t + 1) r) b (s + c.g) = _
      rw [run_rep h (t + 1) (by omega) _ _ nn]
      by_cases q2 : may (oft c (t + 1)) (s + c.g)
      · rw [if_pos ⟨rfl, q2⟩, if_pos ⟨q.1, k.mpr ⟨q.2, q2⟩⟩]
        have : c.g * ((t + 1 + 1 : Nat) : Int) = c.g + c.g * ((t + 1 : Nat) : Int) := by
          rw [show ((t + 1 + 1 : Nat) : Int) = 1 + ((t + 1 : Nat) : Int) by omega, Int.mul_add, Int.mul_one]
        rw [this, Int.add_assoc]
      · rw [if_neg (fun z => q2 z.2), if_neg (fun z => q2 (k.mp z.2).2)]
    · rw [if_neg q, if_neg (fun z => q ⟨z.1, (k.mp z.2).1⟩)]
      rfl
theorem spec_oft {c : Crs} {r : List Dd} (hc : SpecC c r) {t : Nat} (ht : 1 ≤ t) : SpecO (oftC c t) (rep t r) := by
  obtain ⟨cn, c0, c1⟩ := hc
  unfold oftC
  by_cases h1 : (t : Int) = 1
  · rw [if_pos h1]
    obtain rfl : t = 1 := by omega
    have e : rep 1 r = r := by rw [rep_succ]; unfold rep; simp
    rw [e]
    exact ⟨cn, c0, c1⟩
  · rw [if_neg h1]
    by_cases hr : r = []
    · subst hr
      obtain ⟨e1, e2⟩ := c0 rfl
      rw [if_neg (by rw [e1, e2]; simp), rep_nil]
      refine ⟨?_, fun _ => ⟨e1, e2⟩, fun z => absurd rfl z⟩
      show c.n * (t : Int) = _
      rw [cn]
      simp
    · obtain ⟨b, f, eb, ef, run⟩ := c1 hr
      by_cases hbf : c.b ≠ c.f
      · rw [if_pos hbf]
        intro p s hs
        obtain ⟨k, rfl⟩ : ∃ k, t = k + 2 := ⟨t - 2, by omega⟩
        rw [rep_succ, rep_succ, runD_app, run p s hs]
        split
        · rename_i q
          have nn := runD_nn r p s f (s + c.g) hs (by rw [run p s hs, if_pos q])
          show runD (r ++ rep k r) f (s + c.g) = none
          rw [runD_app, run _ _ nn, if_neg]
          · rfl
          · rintro ⟨z, _⟩
            exact hbf (by rw [eb, ef, z])
        · rfl
      · rw [if_neg hbf]
        have fb : f = b := by
          have : c.b = c.f := Classical.not_not.mp hbf
          rw [eb, ef] at this
          exact (Option.some.inj this).symm
        subst fb
        have e : (⟨c.b, c.f, c.n * t, c.g * t, if c.o = true then c.e else if c.g < 0 then c.e - ((t : Int) - 1) * c.g else c.e, c.o, if c.o = true then (c.v || !decide (c.g = 0)) else c.v⟩ : Crs) = oft c t := by
          unfold oft
          have d2 : decide (2 ≤ t) = true := decide_eq_true (by omega)
          rw [d2, Bool.true_and]
        show SpecC _ _
        rw [e]
        refine ⟨?_, fun z => ?_, fun _ => ⟨f, f, eb, ef, run_rep run t ht⟩⟩
        · show c.n * (t : Int) = ((rep t r).length : Int)
          have : (rep t r).length = r.length * t := by
            unfold rep
            rw [List.length_flatten, List.map_replicate, List.sum_replicate_nat, Nat.mul_comm]
          rw [this, cn]
          simp
        · exfalso
          obtain ⟨k, rfl⟩ : ∃ k, t = k + 1 := ⟨t - 1, by omega⟩
          rw [rep_succ] at z
          exact hr (List.append_eq_nil_iff.mp z).1
end L2.K23
end

section
set_option Elab.async false
set_option linter.all false
set_option maxRecDepth 100000
set_option maxHeartbeats 4000000
namespace L2.K23
open PySem PySem.Spec PyProof.Rows L2.Gd
/-! ### a going deed by deed, and its course -/
def itemU (g : PyData → Option (List Nat)) (m : Int) : PyData → Option (List Nat)
  | .int i => if 0 ≤ i ∧ i < m then some [i.toNat] else none
  | .tuple [x, .int t] => if t < 0 then none else (g x).map fun r => (List.replicate t.toNat r).flatten
  | _ => none
def unrL (g : PyData → Option (List Nat)) (m : Int) : List PyData → Option (List Nat)
  | [] => some []
  | it :: r => match itemU g m it, unrL g m r with
    | some a, some b => some (a ++ b)
    | _, _ => none
def unr : Nat → Int → PyData → Option (List Nat)
  | 0, _, _ => none
  | k + 1, m, d => match seqOf d with
    | some its => unrL (unr k m) m its
    | none => none
def rowD (ds : List Dd) (r : List Nat) : List Dd := r.map fun i => ds.getD i d00
where d00 : Dd := ⟨0, 0, 0, "any"⟩
def dueB (ds : List Dd) (p s : Int) (d : PyData) : Bool := match unr 4 ds.length d with
  | some r => (runD (rowD ds r) p s).isSome
  | none => false
theorem item_form {k : Nat} {m : Int} (ih : ∀ d, hasF k m d = (unr k m d).isSome) (d : PyData) : itemF (hasF k m) m d = (itemU (unr k m) m d).isSome := by
  match d with
  | .none => rfl
  | .bool _ => rfl
  | .str _ => rfl
  | .list _ => rfl
  | .dict _ => rfl
  | .int i =>
    show (decide (0 ≤ i) && decide (i < m)) = (if 0 ≤ i ∧ i < m then some [i.toNat] else none : Option (List Nat)).isSome
    by_cases h : 0 ≤ i ∧ i < m
    · rw [if_pos h, decide_eq_true h.1, decide_eq_true h.2]
      rfl
    · rw [if_neg h]
      by_cases h1 : 0 ≤ i
      · rw [decide_eq_true h1, decide_eq_false (fun z => h ⟨h1, z⟩)]
        rfl
      · rw [decide_eq_false h1]
        rfl
  | .tuple [] => rfl
  | .tuple [_] => rfl
  | .tuple (_ :: b :: _ :: _) => cases b <;> rfl
  | .tuple [x, .none] => rfl
  | .tuple [x, .bool _] => rfl
  | .tuple [x, .str _] => rfl
  | .tuple [x, .list _] => rfl
  | .tuple [x, .tuple _] => rfl
  | .tuple [x, .dict _] => rfl
  | .tuple [x, .int t] =>
    show (decide (0 ≤ t) && hasF k m x) = (if t < 0 then none else (unr k m x).map fun r => (List.replicate t.toNat r).flatten).isSome
    by_cases h : t < 0
    · rw [if_pos h, decide_eq_false (by omega)]
      rfl
    · rw [if_neg h, decide_eq_true (by omega), Bool.true_and, ih, Option.isSome_map]
theorem has_unr : ∀ (k : Nat) (m : Int) (d : PyData), hasF k m d = (unr k m d).isSome
  | 0, _, _ => rfl
  | k + 1, m, d => by
    unfold hasF unr
    cases seqOf d with
    | none => rfl
    | some its =>
      show its.all (itemF (hasF k m) m) = (unrL (unr k m) m its).isSome
      induction its with
      | nil => rfl
      | cons it r ihr =>
        rw [List.all_cons, ihr, item_form (has_unr k m)]
        show _ = (match itemU (unr k m) m it, unrL (unr k m) m r with | some a, some b => some (a ++ b) | _, _ => none : Option (List Nat)).isSome
        cases itemU (unr k m) m it <;> cases unrL (unr k m) m r <;> rfl
theorem rowD_app (ds : List Dd) (a b : List Nat) : rowD ds (a ++ b) = rowD ds a ++ rowD ds b := by unfold rowD; exact List.map_append
theorem rowD_rep (ds : List Dd) (t : Nat) (a : List Nat) : rowD ds (List.replicate t a).flatten = rep t (rowD ds a) := by
  unfold rowD rep
  rw [List.map_flatten, List.map_replicate]
theorem spec_none_app {r : List Dd} (h : SpecO none r) (r' : List Dd) : SpecO none (r ++ r') := fun p s hs => by
  rw [runD_app, h p s hs]
  rfl
/-- a part that leads nowhere, behind one that has a course -/
theorem spec_some_none {c : Crs} {r r' : List Dd} (hc : SpecC c r) (h : SpecO none r') : SpecO none (r ++ r') := fun p s hs => by
  rw [runD_app]
  cases e : runD r p s with
  | none => rfl
  | some x => exact h _ _ (runD_nn r p s x.1 x.2 hs e)
section
variable {m : Int} {ds : List Dd}
theorem spec_item (ok : ∀ d ∈ ds, d.Ok m) {k : Nat} (ih : ∀ d r, unr k ds.length d = some r → SpecO (cwC k ds d) (rowD ds r)) {d : PyData} {r : List Nat} (e : itemU (unr k ds.length) ds.length d = some r) :
    SpecO (itemC (cwC k ds) ds d) (rowD ds r) := by
  match d, e with
  | .int i, e =>
    have e' : (if 0 ≤ i ∧ i < (ds.length : Int) then some [i.toNat] else none : Option (List Nat)) = some r := e
    by_cases h : 0 ≤ i ∧ i < (ds.length : Int)
    · rw [if_pos h] at e'
      obtain rfl := Option.some.inj e'
      have lt : i.toNat < ds.length := by omega
      have e1 : rowD ds [i.toNat] = [ds[i.toNat]] := by
        unfold rowD
        rw [List.map_cons, List.map_nil, List.getD_eq_getElem?_getD, List.getElem?_eq_getElem lt]
        rfl
      rw [e1]
      show SpecO ((ds[i.toNat]?).map deedC) _
      rw [List.getElem?_eq_getElem lt]
      exact spec_deed (ok _ (List.getElem_mem lt))
    · rw [if_neg h] at e'
      exact nomatch e'
  | .tuple [x, .int t], e =>
    have e' : (if t < 0 then none else (unr k ds.length x).map fun r => (List.replicate t.toNat r).flatten) = some r := e
    by_cases h : t < 0
    · rw [if_pos h] at e'
      exact nomatch e'
    · rw [if_neg h] at e'
      obtain ⟨a, ea, rfl⟩ := Option.map_eq_some_iff.mp e'
      rw [rowD_rep]
      show SpecO ((if t > 0 then cwC k ds x else some noC).bind fun c => oftC c t) _
      by_cases h0 : t > 0
      · rw [if_pos h0]
        have := ih x a ea
        obtain ⟨n, rfl⟩ : ∃ n : Nat, t = n := ⟨t.toNat, by omega⟩
        rw [Int.toNat_natCast]
        cases hc : cwC k ds x with
        | none =>
          rw [hc] at this
          obtain ⟨j, rfl⟩ : ∃ j, n = j + 1 := ⟨n - 1, by omega⟩
          rw [rep_succ]
          exact spec_none_app this _
        | some c =>
          rw [hc] at this
          exact spec_oft this (by omega)
      · rw [if_neg h0]
        obtain rfl : t = 0 := by omega
        exact spec_no
theorem spec_list (ok : ∀ d ∈ ds, d.Ok m) {k : Nat} (ih : ∀ d r, unr k ds.length d = some r → SpecO (cwC k ds d) (rowD ds r)) :
    ∀ (its : List PyData) (c : Crs) (r0 : List Dd) (r : List Nat), SpecC c r0 → unrL (unr k ds.length) ds.length its = some r → SpecO (cwL (itemC (cwC k ds) ds) its c) (r0 ++ rowD ds r)
  | [], c, r0, r, hc, e => by
    obtain rfl := (Option.some.inj e).symm
    show SpecC c (r0 ++ [])
    rw [List.append_nil]
    exact hc
  | it :: its, c, r0, r, hc, e => by
    have e' : (match itemU (unr k ds.length) ds.length it, unrL (unr k ds.length) ds.length its with | some a, some b => some (a ++ b) | _, _ => none : Option (List Nat)) = some r := e
    cases h1 : itemU (unr k ds.length) ds.length it with
    | none => rw [h1] at e'; exact nomatch e'
    | some a =>
      cases h2 : unrL (unr k ds.length) ds.length its with
      | none => rw [h1, h2] at e'; exact nomatch e'
      | some b =>
        rw [h1, h2] at e'
        obtain rfl := (Option.some.inj e').symm
        rw [rowD_app, ← List.append_assoc]
        have si := spec_item ok ih h1
        show SpecO (match (itemC (cwC k ds) ds it).bind (behC c) with | none => none | some c' => cwL (itemC (cwC k ds) ds) its c') _
        cases hi : itemC (cwC k ds) ds it with
        | none =>
          rw [hi] at si
          exact spec_none_app (spec_some_none hc si) _
        | some ci =>
          rw [hi] at si
          have sb := spec_beh hc si
          show SpecO (match behC c ci with | none => none | some c' => cwL (itemC (cwC k ds) ds) its c') _
          cases hb : behC c ci with
          | none =>
            rw [hb] at sb
            exact spec_none_app sb _
          | some c' =>
            rw [hb] at sb
            exact spec_list ok ih its c' _ b sb h2
theorem spec_cw (ok : ∀ d ∈ ds, d.Ok m) : ∀ (k : Nat) (d : PyData) (r : List Nat), unr k ds.length d = some r → SpecO (cwC k ds d) (rowD ds r)
  | 0, _, _, e => nomatch e
  | k + 1, d, r, e => by
    unfold unr at e
    unfold cwC
    cases hs : seqOf d with
    | none => rw [hs] at e; exact nomatch e
    | some its =>
      rw [hs] at e
      exact spec_list ok (spec_cw ok k) its noC [] r spec_no e
/-- the judge says what the single deeds say -/
theorem going_due (ok : ∀ d ∈ ds, d.Ok m) {p s : Int} (hs : 0 ≤ s) (d : PyData) : goingB ds p s d = dueB ds p s d := by
  unfold goingB dueB wholeC
  have hu := has_unr 4 ds.length d
  cases e : unr 4 ds.length d with
  | none =>
    rw [e] at hu
    rw [if_neg (by rw [hu]; decide)]
  | some r =>
    rw [e] at hu
    rw [if_pos (by rw [hu]; rfl)]
    have sp := spec_cw ok 4 d r e
    cases hc : cwC 4 ds d with
    | none =>
      rw [hc] at sp
      show false = (runD (rowD ds r) p s).isSome
      rw [sp p s hs]
      rfl
    | some c =>
      rw [hc] at sp
      obtain ⟨cn, c0, c1⟩ := sp
      show fitsC c p s = (runD (rowD ds r) p s).isSome
      unfold fitsC
      by_cases hr : rowD ds r = []
      · rw [hr] at cn ⊢
        rw [if_pos (by rw [cn]; rfl)]
        rfl
      · have hn : ¬ c.n = 0 := by
          rw [cn]
          intro z
          exact hr (List.eq_nil_of_length_eq_zero (by omega))
        rw [if_neg hn]
        obtain ⟨b, f, eb, ef, run⟩ := c1 hr
        rw [run p s hs]
        by_cases hv : c.v = true ∨ c.b ≠ some p
        · rw [if_pos hv, if_neg]
          · rfl
          · rintro ⟨z, mv, _⟩
            rcases hv with h | h
            · rw [mv] at h
              exact nomatch h
            · exact h (by rw [eb, z])
        · rw [if_neg hv]
          have v0 : c.v = false := by
            cases h : c.v with
            | true => exact absurd (.inl h) hv
            | false => rfl
          have pb : p = b := by
            have : c.b = some p := Classical.not_not.mp fun z => hv (.inr z)
            rw [eb] at this
            exact (Option.some.inj this).symm
          by_cases ho : c.o = true
          · rw [if_pos ho]
            by_cases hse : s = c.e
            · rw [decide_eq_true hse, if_pos ⟨pb, v0, by rw [if_pos ho]; exact hse⟩]
              rfl
            · rw [decide_eq_false hse, if_neg]
              · rfl
              · rintro ⟨_, _, z⟩
                rw [if_pos ho] at z
                exact hse z
          · rw [if_neg ho]
            by_cases hse : s ≥ c.e
            · rw [decide_eq_true hse, if_pos ⟨pb, v0, by rw [if_neg ho]; exact hse⟩]
              rfl
            · rw [decide_eq_false hse, if_neg]
              · rfl
              · rintro ⟨_, _, z⟩
                rw [if_neg ho] at z
                exact hse z
end
end L2.K23
end

section
set_option Elab.async false
set_option linter.all false
set_option maxRecDepth 100000
set_option maxHeartbeats 4000000
namespace L2.K23
open PySem PySem.Spec PyProof.Rows L2.Gd
/-! ### the law's own unrolling -/
def itemW (g : PyData → Nat) : PyData → Nat
  | .tuple [x, .int t] => (t.toNat + 1) * (g x + 1)
  | _ => 1
def wt : Nat → PyData → Nat
  | 0, _ => 0
  | k + 1, d => match seqOf d with
    | some its => (its.map (itemW (wt k))).sum
    | none => 0
def iV (r : List Nat) : List V := r.map fun i : Nat => V.int (i : Int)
def UV (H : Hp) : V → Option (List Nat) → Prop
  | v, none => v = .non
  | v, some r => ∃ u, v = .ref u ∧ H u = some (.lst (iV r))
theorem UV.same {H H' : Hp} {v : V} {o : Option (List Nat)} (s : Same H H') (h : UV H v o) : UV H' v o := by
  cases o with
  | none => exact h
  | some r => exact let ⟨u, e, q⟩ := h; ⟨u, e, s _ _ q⟩
theorem kit_lt {K : PySem.W.Frag} (d : PyData) : PySem.W.kitAny K (.type (kindT d)) [Value.type "list", Value.type "tuple"] = some (isLT d) := by
  refine kitAny_cons (kit_ty (kit_list d)) (fun e1 => kitAny_cons (kit_ty (kit_tuple d)) (fun e2 => ?_) (fun e2 => ?_)) (fun e1 => ?_)
  · have : isLT d = false := by
      cases d <;> first | rfl | exact absurd (show true = false from e1) (by decide) | exact absurd (show true = false from e2) (by decide)
    rw [this]
    rfl
  · cases d <;> first | rfl | exact absurd (show false = true from e2) (by decide)
  · cases d <;> first | rfl | exact absurd (show false = true from e1) (by decide)
theorem itemU_len {k : Nat} {m : Int} (ih : ∀ d r, unr k m d = some r → r.length ≤ wt k d) {d : PyData} {r : List Nat} (e : itemU (unr k m) m d = some r) : r.length ≤ itemW (wt k) d := by
  match d, e with
  | .int i, e =>
    have e' : (if 0 ≤ i ∧ i < m then some [i.toNat] else none : Option (List Nat)) = some r := e
    split at e'
    · obtain rfl := Option.some.inj e'
      exact Nat.le_refl 1
    · exact nomatch e'
  | .tuple [x, .int t], e =>
    have e' : (if t < 0 then none else (unr k m x).map fun r => (List.replicate t.toNat r).flatten) = some r := e
    split at e'
    · exact nomatch e'
    · obtain ⟨a, ea, rfl⟩ := Option.map_eq_some_iff.mp e'
      rw [List.length_flatten, List.map_replicate, List.sum_replicate_nat]
      show t.toNat * a.length ≤ (t.toNat + 1) * (wt k x + 1)
      exact Nat.mul_le_mul (Nat.le_succ _) (Nat.le_succ_of_le (ih x a ea))
theorem unrL_len {k : Nat} {m : Int} (ih : ∀ d r, unr k m d = some r → r.length ≤ wt k d) : ∀ (its : List PyData) (r : List Nat), unrL (unr k m) m its = some r → r.length ≤ (its.map (itemW (wt k))).sum
  | [], r, e => by
    obtain rfl := (Option.some.inj e).symm
    exact Nat.zero_le _
  | it :: its, r, e => by
    have e' : (match itemU (unr k m) m it, unrL (unr k m) m its with | some a, some b => some (a ++ b) | _, _ => none : Option (List Nat)) = some r := e
    cases h1 : itemU (unr k m) m it with
    | none => rw [h1] at e'; exact nomatch e'
    | some a =>
      cases h2 : unrL (unr k m) m its with
      | none => rw [h1, h2] at e'; exact nomatch e'
      | some b =>
        rw [h1, h2] at e'
        obtain rfl := (Option.some.inj e').symm
        rw [List.length_append, List.map_cons, List.sum_cons]
        exact Nat.add_le_add (itemU_len ih h1) (unrL_len ih its b h2)
theorem unr_len : ∀ (k : Nat) (m : Int) (d : PyData) (r : List Nat), unr k m d = some r → r.length ≤ wt k d
  | 0, _, _, _, e => nomatch e
  | k + 1, m, d, r, e => by
    unfold unr at e
    unfold wt
    cases hs : seqOf d with
    | none => rw [hs] at e; exact nomatch e
    | some its =>
      rw [hs] at e
      exact unrL_len (unr_len k m) its r e
section
variable {P : Program} {w : World} {K : PySem.W.Frag} {mg : Str → Option Value} {base : Heap} {C : Addr}
def spIW : Sp := spInt2
theorem scIW : FnScope ["_law_value"] ["_law_value"] (defScope (top 48)) := ⟨rfl, rfl, rfl, by decide +kernel, rfl, by decide +kernel, by decide +kernel⟩
theorem ok_iw {f : Addr} {fd : FuncData} (F : Fun K "_law_is_whole" "_law_is_whole" (top 48) f fd) (n : Nm mg) : FnOk P w K mg base CX0 1 f fd ["_law_value"] spInt2 := by
  refine F.ok scIW (fun vs H Q E h => ?_) (fun cdv A outer s H vs Q E hr h => ?_)
  · obtain ⟨p, v, d, rfl, _⟩ := h
    rfl
  · obtain ⟨p, v, d, rfl, hd, k⟩ := h
    refine ⟨_, pss_one (ps_ret (pe_and (pe_isInt n (pv 0)) (pe_one (pe_not (pe_isBool n (pv 0)))))), ?_⟩
    refine ⟨_, rfl, isi_mk hd.ty (kit_int d) ⟨_, rfl, ?_⟩⟩
    have e : isI d = ((isI d || isB d) && !isB d) := by cases d <;> rfl
    cases q : (isI d || isB d) with
    | true =>
      refine iteT ⟨_, rfl, isi_mk hd.ty (kit_bool d) ⟨_, rfl, ?_⟩⟩
      rw [q, Bool.true_and] at e
      rw [← e]
      exact k
    | false =>
      rw [q, Bool.false_and] at e
      rw [e] at k
      exact iteF k
def spUn (k : Nat) : Sp := fun vs H Q _ => ∃ (p : Addr) (m : Int) (v : V) (d : PyData), vs = [v, .int m, .int k] ∧ DV p H v d ∧ wt k d ≤ 100000 ∧ ∀ v' H', Same H H' → UV H' v' (unr k m d) → Q v' H'
def NUn : List Str := ["_law_value", "_law_many", "_law_lists", "_law_found", "_law_item", "_law_inner", "_law_turn"]
theorem scUn : FnScope NUn ["_law_value", "_law_many", "_law_lists"] (defScope (top 49)) := ⟨rfl, rfl, rfl, by decide +kernel, rfl, by decide +kernel, by decide +kernel⟩
theorem ok_unS {j : Nat} {f : Addr} {fd : FuncData} (F : Fun K "_law_unrolled" "_law_unrolled" (top 49) f fd) (n : Nm mg) (GI : Fn P w K mg base 1 "_law_is_whole" ["_law_value"] spInt2)
    (GU : Fn P w K mg base (2 + j) "_law_unrolled" ["_law_value", "_law_many", "_law_lists"] (spUn j)) : FnOk P w K mg base CX0 (2 + j + 1) f fd ["_law_value", "_law_many", "_law_lists"] (spUn (j + 1)) := by
  refine F.ok scUn (fun vs H Q E h => ?_) (fun cdv A outer s H vs Q E hr h => ?_)
  · obtain ⟨p, m, v, d, rfl, _⟩ := h
    rfl
  · obtain ⟨p, m, v, d, rfl, hd, hw, q⟩ := h
    have N := scUn.nd
    have r1 := hr.mono (k := 2 + j) (j := 1) (by omega)
    have jn : ¬ ((j : Int) + 1 = 0) := by omega
    have j1 : ((j : Int) + 1) - 1 = j := by omega
    have cs : Paired ClsV [V.ty "list", V.ty "tuple"] [Value.type "list", Value.type "tuple"] := .cons (.ty _) (.cons (.ty _) .nil)
    cases hd with
    | lst nep hx ts =>
      rename_i a xs its
      refine ⟨_, pss_cons (ps_if (pw_or (pt_not (pt_val (pe_callB call_isiT (by rfl) n.isi (by decide +kernel) (pa_cons (pv 0) (pa_cons (pe_tup (pa_cons (pe_bltn (v := .ty "list") (by rfl) n.list (by decide +kernel) rfl) (pa_cons (pe_bltn (v := .ty "tuple") (by rfl) n.tuple (by decide +kernel) rfl) pa_nil))) pa_nil)))))
          (pw_or1 (pt_cmpR op_eq (pv 2) pe_int (nomark _)))).pt (pss_one (ps_ret pe_non)) pss_nil)
        (pss_cons (ps_set (i := 3) N rfl (.inl rfl) (pe_lst pa_nil))
        (pss_cons (ps_for PassesOwn.never rfl (pi_list (pv 0)) (pg_name (i := 4) N rfl (.inl rfl))
          (pss_one (ps_if (pt_val (pe_fn GI r1 (pa_cons (pv 4) pa_nil)))
            (pss_cons (ps_if (pt_not (pt_chain op_le op_lt pe_int (pv 4) (pv 1))) (pss_one (ps_ret pe_non)) pss_nil)
            (pss_one (ps_expr (pe_bm PySem.F.plainAttrs_list PySem.F.slot_list_append PySem.F.type_list_append mt_append (pv 3) (pa_cons (pv 4) pa_nil)))))
            (pss_cons (ps_if (pw_or (pt_not (pt_val (pe_isTuple n (pv 4)))) (pw_or (pt_cmpR op_ne (pe_callB call_len_seq (by rfl) n.len PySem.boot_len (pa_cons (pv 4) pa_nil)) pe_int (nomark _)) (pw_or (pt_not (pt_val (pe_fn GI r1 (pa_cons (pe_ix ix_tup (pv 4) pe_int (fun _ _ => rfl)) pa_nil)))) (pw_or1 (pt_cmpR op_lt (pe_ix ix_tup (pv 4) pe_int (fun _ _ => rfl)) pe_int (nomark _)))))).pt (pss_one (ps_ret pe_non)) pss_nil)
            (pss_cons (ps_set (i := 5) N rfl (.inl rfl) (pe_fn GU hr (pa_cons (pe_ix ix_tup (pv 4) pe_int (fun _ _ => rfl)) (pa_cons (pv 1) (pa_cons (pe_op op_sub (pv 2) pe_int) pa_nil)))))
            (pss_cons (ps_if (pt_cmp (pc_isN (pv 5))) (pss_one (ps_ret pe_non)) pss_nil)
            (pss_one (ps_for PassesOwn.never rfl (pi_range1 (by rfl) n.range (pa_cons (pe_ix ix_tup (pv 4) pe_int (fun _ _ => rfl)) pa_nil)) (pg_name (i := 6) N rfl (.inl rfl)) (pss_one (ps_set (i := 3) N rfl (.inl rfl) (pe_op op_cat (pv 3) (pv 5))))))))))))
        (pss_one (ps_ret (pv 3))))), ?_⟩
      refine seqV (Good := fun σ2 H2 => Same H H2 ∧ σ2 = [some (.ref a), some (.int m), some (.int ((j : Int) + 1)), none, none, none, none]) ?_ ?_
      · intro nx hnx
        refine ⟨_, rfl, (by show 2 ≤ sizeLine; decide), fun t ht => ?_⟩
        refine ⟨_, t, _, _, _, _, rfl, upd_same, cs, (DV.same (p := p) (same_upd ht) (.lst nep hx ts)).ty, kit_lt _, true, rfl, ?_⟩
        refine iteF ?_
        refine ⟨_, rfl, rfl, false, congrArg V.bl (decide_eq_false (by simpa using jn)), ?_⟩
        exact iteF (hnx _ _ ⟨same_upd ht, rfl⟩)
      rintro _ H0 ⟨s0, rfl⟩
      refine seqV (Good := fun σ2 H2 => ∃ fo, H fo = none ∧ H2 fo = some (.lst []) ∧ Same H H2 ∧ σ2 = [some (.ref a), some (.int m), some (.int ((j : Int) + 1)), some (.ref fo), none, none, none])
        (fun nx hnx => ⟨(by show 0 ≤ sizeLine; decide), fun fo hfo => hnx _ _ ⟨fo, s0.free hfo, upd_same, s0.trans (same_upd hfo), rfl⟩⟩) ?_
      rintro _ H1 ⟨fo, fo0, hfo, s1, rfl⟩
      have hx1 := s1 _ _ hx
      have lts := ts.len
      have whole : unr (j + 1) m (.list its) = unrL (unr j m) m its := rfl
      have hw' : (its.map (itemW (wt j))).sum ≤ 100000 := hw
      refine ⟨_, rfl, a, rfl, ⟨_, .inl (.inl hx1)⟩, ?_⟩
      refine loop_of (n := xs.length) (fun i σ H2 => ∃ (v4 v5 v6 : Option V) (fo : Addr) (acc : List Nat), σ = [some (.ref a), some (.int m), some (.int ((j : Int) + 1)), some (.ref fo), v4, v5, v6] ∧ H fo = none ∧ H2 fo = some (.lst (iV acc)) ∧ Same H H2 ∧
          unrL (unr j m) m its = (unrL (unr j m) m (its.drop i)).map (acc ++ ·) ∧ acc.length ≤ ((its.take i).map (itemW (wt j))).sum)
        ⟨none, none, none, fo, [], rfl, fo0, hfo, s1, by simp, by simp⟩ ?_ ?_
      · rintro σ H2 ⟨v4, v5, v6, fo, acc, rfl, fo0, hfo, s2, e, _⟩
        refine ⟨⟨xs, .inl (.inl (s2 _ _ hx)), Nat.le_refl _⟩, ?_⟩
        rw [lts, List.drop_length] at e
        have e2 : unrL (unr j m) m its = some acc := by rw [e]; show some (acc ++ []) = _; rw [List.append_nil]
        exact ⟨_, rfl, q _ H2 s2 (by rw [whole, e2]; exact ⟨fo, rfl, hfo⟩)⟩
      · rintro i σ H2 hi ⟨v4, v5, v6, fo, acc, rfl, fo0, hfo, s2, e, hacc⟩
        refine ⟨⟨xs, _, .inl (.inl (s2 _ _ hx)), List.getElem?_eq_getElem hi⟩, ?_⟩
        rintro v H' ⟨rfl, hy⟩
        have hvi := hy xs (.inl (.inl (s2 _ _ hx)))
        obtain ⟨it, hit, hdx⟩ := ts.at hvi
        have hdx2 : DV p H' v it := hdx.same s2
        have hil : i < its.length := by rw [← lts]; exact hi
        have dr : its.drop i = it :: its.drop (i + 1) := by
          rw [List.drop_eq_getElem_cons hil]
          congr 1
          rw [List.getElem?_eq_getElem hil] at hit
          exact Option.some.inj hit
        have tk : ((its.take (i + 1)).map (itemW (wt j))).sum = ((its.take i).map (itemW (wt j))).sum + itemW (wt j) it := by
          rw [List.take_succ, hit, List.map_append, List.sum_append]
          simp
        have tle : ((its.take (i + 1)).map (itemW (wt j))).sum ≤ 100000 := by
          refine Nat.le_trans ?_ hw'
          conv => rhs; rw [← List.take_append_drop (i + 1) its, List.map_append, List.sum_append]
          exact Nat.le_add_right _ _
        rw [tk] at tle
        have eU : unrL (unr j m) m (its.drop i) = match itemU (unr j m) m it, unrL (unr j m) m (its.drop (i + 1)) with | some a, some b => some (a ++ b) | _, _ => none := by
          rw [dr]
          rfl
        have bad : itemU (unr j m) m it = none → ∀ H3, Same H' H3 → Q .non H3 := fun z H3 s3 => by
          refine q .non H3 (s2.trans s3) ?_
          rw [whole, e, eU, z]
          rfl
        have good : ∀ r, itemU (unr j m) m it = some r → unrL (unr j m) m its = (unrL (unr j m) m (its.drop (i + 1))).map ((acc ++ r) ++ ·) := fun r z => by
          rw [e, eU, z]
          cases unrL (unr j m) m (its.drop (i + 1)) with
          | none => rfl
          | some b => show some (acc ++ (r ++ b)) = some (acc ++ r ++ b); rw [List.append_assoc]
        refine gn ?_
        refine ⟨_, rfl, p, v, it, rfl, hdx2, isI it, rfl, ?_⟩
        have sl := sizeLine_eq
        have hty : TyX K H' v (.type (kindT it)) := hdx2.ty
        cases hdx2 with
        | int z =>
          refine iteT ?_
          have eI : itemU (unr j m) m (.int z) = if 0 ≤ z ∧ z < m then some [z.toNat] else none := rfl
          refine seqV (Good := fun σ2 H3 => 0 ≤ z ∧ z < m ∧ H' = H3 ∧ σ2 = [some (.ref a), some (.int m), some (.int ((j : Int) + 1)), some (.ref fo), some (.int z), v5, v6]) ?_ ?_
          · intro nx hnx
            refine ⟨_, rfl, _, _, rfl, rfl, decide (0 ≤ z), rfl, ?_⟩
            by_cases h0 : 0 ≤ z
            · rw [decide_eq_true h0]
              refine iteT ⟨_, rfl, _, _, rfl, rfl, decide (z < m), rfl, ?_⟩
              by_cases h1 : z < m
              · rw [decide_eq_true h1]
                exact iteF (hnx _ _ ⟨h0, h1, rfl, rfl⟩)
              · rw [decide_eq_false h1]
                exact iteT (bad (by rw [eI, if_neg (fun w => h1 w.2)]) _ fun _ _ w => w)
            · rw [decide_eq_false h0]
              exact iteF ⟨false, rfl, iteT (bad (by rw [eI, if_neg (fun w => h0 w.1)]) _ fun _ _ w => w)⟩
          rintro _ _ ⟨h0, h1, rfl, rfl⟩
          have iW : itemW (wt j) (.int z) = 1 := rfl
          rw [iW] at tle tk
          refine ⟨_, rfl, .inl ⟨rfl, _, .inl (.inl hfo)⟩, _, rfl, fo, _, _, rfl, rfl, hfo, by unfold iV; rw [List.length_map]; omega, ?_⟩
          refine ⟨_, _, _, fo, acc ++ [z.toNat], rfl, fo0, ?_, fun b o w => by rw [upd_ne (ne_of_none w fo0)]; exact s2 _ _ w, good [z.toNat] (by rw [eI, if_pos ⟨h0, h1⟩]), ?_⟩
          · rw [upd_same]
            show _ = some (HO.lst (iV (acc ++ [z.toNat])))
            unfold iV
            rw [List.map_append]
            show some (HO.lst (_ ++ [V.int z])) = some (HO.lst (_ ++ [V.int ((z.toNat : Nat) : Int)]))
            rw [show ((z.toNat : Nat) : Int) = z by omega]
          · rw [tk, List.length_append]
            exact Nat.add_le_add hacc (Nat.le_refl 1)
        | tup ht tt =>
          rename_i t ts2 us
          refine iteF ?_
          have l2 := tt.len
          refine seqV (Good := fun σ2 H3 => ∃ (y1 : V) (d1 : PyData) (t0 : Int), 0 ≤ t0 ∧ ts2 = [y1, .int t0] ∧ us = [d1, .int t0] ∧ DV p H' y1 d1 ∧ H' = H3 ∧ σ2 = [some (.ref a), some (.int m), some (.int ((j : Int) + 1)), some (.ref fo), some (.ref t), v5, v6]) ?_ ?_
          · intro nx hnx
            refine ⟨_, rfl, isi_mk hty (kit_tuple _) ⟨true, rfl, iteF ?_⟩⟩
            refine ⟨_, rfl, t, ts2, rfl, .inr (.inl (.inl ht)), rfl, !decide (V.int (ts2.length : Int) = V.int 2), rfl, ?_⟩
            by_cases h2 : ts2.length = 2
            · rw [decide_eq_true (by rw [h2]; rfl)]
              refine iteF ?_
              match ts2, us, tt, h2, ht with
              | [y1, y2], _, .cons (d := d1) k1 (.cons (d := d2) k2 .nil), _, ht =>
                refine ⟨_, rfl, t, _, _, _, rfl, rfl, .inl (.inl ht), rfl, p, y2, d2, rfl, k2, isI d2, rfl, ?_⟩
                cases k2 with
                | int t0 =>
                  refine iteF ⟨_, rfl, t, _, _, _, rfl, rfl, .inl (.inl ht), rfl, _, _, rfl, rfl, decide (t0 < 0), rfl, ?_⟩
                  by_cases h0 : t0 < 0
                  · rw [decide_eq_true h0]
                    refine iteT (bad ?_ _ fun _ _ w => w)
                    show (if t0 < 0 then none else _) = none
                    rw [if_pos h0]
                  · rw [decide_eq_false h0]
                    exact iteF (hnx _ _ ⟨y1, d1, t0, by omega, rfl, rfl, k1, rfl, rfl⟩)
                | non => exact iteT (bad rfl _ fun _ _ w => w)
                | bl b => exact iteT (bad rfl _ fun _ _ w => w)
                | str _ => exact iteT (bad rfl _ fun _ _ w => w)
                | lst _ _ _ => exact iteT (bad rfl _ fun _ _ w => w)
                | tup _ _ => exact iteT (bad rfl _ fun _ _ w => w)
                | dct _ => exact iteT (bad rfl _ fun _ _ w => w)
            · rw [decide_eq_false (by simp; omega)]
              refine iteT (bad ?_ _ fun _ _ w => w)
              match us, l2 with
              | [], _ => rfl
              | [_], _ => rfl
              | [_, _], l2 => exact absurd l2 h2
              | _ :: b :: _ :: _, _ => cases b <;> rfl
          rintro _ _ ⟨y1, d1, t0, t00, rfl, rfl, k1, rfl, rfl⟩
          obtain ⟨n0, rfl⟩ : ∃ n0 : Nat, t0 = n0 := ⟨t0.toNat, by omega⟩
          have iW : itemW (wt j) (.tuple [d1, .int (n0 : Int)]) = (n0 + 1) * (wt j d1 + 1) := rfl
          have eI : itemU (unr j m) m (.tuple [d1, .int (n0 : Int)]) = (unr j m d1).map fun r => (List.replicate n0 r).flatten := by
            show (if (n0 : Int) < 0 then none else (unr j m d1).map fun r => (List.replicate (n0 : Int).toNat r).flatten) = _
            rw [if_neg (by omega), Int.toNat_natCast]
          rw [iW] at tle tk
          have w1 : wt j d1 + 1 ≤ (n0 + 1) * (wt j d1 + 1) := Nat.le_mul_of_pos_left _ (Nat.succ_pos _)
          have w2 : n0 + 1 ≤ (n0 + 1) * (wt j d1 + 1) := Nat.le_mul_of_pos_right _ (Nat.succ_pos _)
          -- inner
          refine seqV (Good := fun σ2 H3 => ∃ vi, UV H3 vi (unr j m d1) ∧ Same H' H3 ∧ σ2 = [some (.ref a), some (.int m), some (.int ((j : Int) + 1)), some (.ref fo), some (.ref t), some vi, v6])
            (fun nx hnx => ⟨_, rfl, t, _, _, _, rfl, rfl, .inl (.inl ht), rfl, _, rfl, _, rfl, _, _, rfl, rfl, p, m, y1, d1, by show [y1, V.int m, V.int ((j : Int) + 1 - 1)] ++ [] = _; rw [j1]; rfl, k1, by omega, fun vi H3 s3 uv => hnx _ _ ⟨vi, uv, s3, rfl⟩⟩) ?_
          rintro _ H3 ⟨vi, uv, s3, rfl⟩
          refine seqV (Good := fun σ2 H4 => ∃ (u : Addr) (r : List Nat), unr j m d1 = some r ∧ H3 u = some (.lst (iV r)) ∧ H3 = H4 ∧ σ2 = [some (.ref a), some (.int m), some (.int ((j : Int) + 1)), some (.ref fo), some (.ref t), some (.ref u), v6]) ?_ ?_
          · intro nx hnx
            refine ⟨_, rfl, decide (vi = .non), rfl, ?_⟩
            cases hr : unr j m d1 with
            | none =>
              rw [hr] at uv
              obtain rfl : vi = .non := uv
              rw [decide_eq_true rfl]
              exact iteT (bad (by rw [eI, hr]; rfl) _ s3)
            | some r =>
              rw [hr] at uv
              obtain ⟨u, rfl, hu⟩ := uv
              rw [decide_eq_false (by simp)]
              exact iteF (hnx _ _ ⟨u, r, hr, hu, rfl, rfl⟩)
          rintro _ _ ⟨u, r, hr, hu, rfl, rfl⟩
          have rl := unr_len j m d1 r hr
          have eR : itemU (unr j m) m (.tuple [d1, .int (n0 : Int)]) = some (List.replicate n0 r).flatten := by rw [eI, hr]; rfl
          have fl : ∀ k, ((List.replicate k r).flatten).length = k * r.length := fun k => by
            rw [List.length_flatten, List.map_replicate, List.sum_replicate_nat]
          refine ⟨_, rfl, t, _, _, _, rfl, rfl, .inl (.inl (s3 _ _ ht)), rfl, _, rfl, by omega, by omega, ?_⟩
          refine for_range (lo := 0) (n := (n0 : Int).toNat) (fun k σ2 H4 => ∃ (fo2 : Addr) (v6 : Option V), σ2 = [some (.ref a), some (.int m), some (.int ((j : Int) + 1)), some (.ref fo2), some (.ref t), some (.ref u), v6] ∧ H fo2 = none ∧ H4 fo2 = some (.lst (iV (acc ++ (List.replicate k r).flatten))) ∧ Same H3 H4)
            ⟨fo, v6, rfl, fo0, by rw [show (List.replicate 0 r).flatten = ([] : List Nat) from rfl, List.append_nil]; exact s3 _ _ hfo, fun _ _ w => w⟩ ?_ ?_
          · rintro k σ2 H4 hk ⟨fo2, v6, rfl, f0, hf2, s4⟩
            have kn : k < n0 := by omega
            have km : k * r.length ≤ n0 * (wt j d1 + 1) := Nat.mul_le_mul (by omega) (by omega)
            have nm : (n0 + 1) * (wt j d1 + 1) = n0 * (wt j d1 + 1) + (wt j d1 + 1) := Nat.succ_mul _ _
            refine ⟨_, rfl, _, rfl, fo2, u, _, _, rfl, rfl, hf2, s4 _ _ hu, ?_, fun p2 hp2 => ?_⟩
            · unfold iV
              rw [List.length_map, List.length_map, List.length_append, fl]
              omega
            · have s5 := same_upd (o := .lst (iV (acc ++ (List.replicate k r).flatten) ++ iV r)) hp2
              refine ⟨p2, _, rfl, (s2.trans (s3.trans s4)).free hp2, ?_, s4.trans s5⟩
              rw [upd_same]
              unfold iV
              rw [← List.map_append, List.append_assoc]
              congr 4
              rw [List.replicate_succ', List.flatten_append]
              simp
          · rintro σ2 H4 ⟨fo2, v6, rfl, f0, hf2, s4⟩
            rw [Int.toNat_natCast] at hf2
            refine ⟨_, _, _, fo2, acc ++ (List.replicate n0 r).flatten, rfl, f0, hf2, s2.trans (s3.trans s4), good _ eR, ?_⟩
            rw [tk, List.length_append, fl]
            have : n0 * r.length ≤ (n0 + 1) * (wt j d1 + 1) := Nat.mul_le_mul (Nat.le_succ _) (by omega)
            omega
        | non => exact iteF ⟨_, rfl, isi_mk hty (kit_tuple _) ⟨false, rfl, iteT (bad rfl _ fun _ _ w => w)⟩⟩
        | bl b => exact iteF ⟨_, rfl, isi_mk hty (kit_tuple _) ⟨false, rfl, iteT (bad rfl _ fun _ _ w => w)⟩⟩
        | str _ => exact iteF ⟨_, rfl, isi_mk hty (kit_tuple _) ⟨false, rfl, iteT (bad rfl _ fun _ _ w => w)⟩⟩
        | lst _ _ _ => exact iteF ⟨_, rfl, isi_mk hty (kit_tuple _) ⟨false, rfl, iteT (bad rfl _ fun _ _ w => w)⟩⟩
        | dct _ => exact iteF ⟨_, rfl, isi_mk hty (kit_tuple _) ⟨false, rfl, iteT (bad rfl _ fun _ _ w => w)⟩⟩
    | tup hx ts =>
      rename_i a xs its
      refine ⟨_, pss_cons (ps_if (pw_or (pt_not (pt_val (pe_callB call_isiT (by rfl) n.isi (by decide +kernel) (pa_cons (pv 0) (pa_cons (pe_tup (pa_cons (pe_bltn (v := .ty "list") (by rfl) n.list (by decide +kernel) rfl) (pa_cons (pe_bltn (v := .ty "tuple") (by rfl) n.tuple (by decide +kernel) rfl) pa_nil))) pa_nil)))))
          (pw_or1 (pt_cmpR op_eq (pv 2) pe_int (nomark _)))).pt (pss_one (ps_ret pe_non)) pss_nil)
        (pss_cons (ps_set (i := 3) N rfl (.inl rfl) (pe_lst pa_nil))
        (pss_cons (ps_for PassesOwn.never rfl (pi_tup (pv 0)) (pg_name (i := 4) N rfl (.inl rfl))
          (pss_one (ps_if (pt_val (pe_fn GI r1 (pa_cons (pv 4) pa_nil)))
            (pss_cons (ps_if (pt_not (pt_chain op_le op_lt pe_int (pv 4) (pv 1))) (pss_one (ps_ret pe_non)) pss_nil)
            (pss_one (ps_expr (pe_bm PySem.F.plainAttrs_list PySem.F.slot_list_append PySem.F.type_list_append mt_append (pv 3) (pa_cons (pv 4) pa_nil)))))
            (pss_cons (ps_if (pw_or (pt_not (pt_val (pe_isTuple n (pv 4)))) (pw_or (pt_cmpR op_ne (pe_callB call_len_seq (by rfl) n.len PySem.boot_len (pa_cons (pv 4) pa_nil)) pe_int (nomark _)) (pw_or (pt_not (pt_val (pe_fn GI r1 (pa_cons (pe_ix ix_tup (pv 4) pe_int (fun _ _ => rfl)) pa_nil)))) (pw_or1 (pt_cmpR op_lt (pe_ix ix_tup (pv 4) pe_int (fun _ _ => rfl)) pe_int (nomark _)))))).pt (pss_one (ps_ret pe_non)) pss_nil)
            (pss_cons (ps_set (i := 5) N rfl (.inl rfl) (pe_fn GU hr (pa_cons (pe_ix ix_tup (pv 4) pe_int (fun _ _ => rfl)) (pa_cons (pv 1) (pa_cons (pe_op op_sub (pv 2) pe_int) pa_nil)))))
            (pss_cons (ps_if (pt_cmp (pc_isN (pv 5))) (pss_one (ps_ret pe_non)) pss_nil)
            (pss_one (ps_for PassesOwn.never rfl (pi_range1 (by rfl) n.range (pa_cons (pe_ix ix_tup (pv 4) pe_int (fun _ _ => rfl)) pa_nil)) (pg_name (i := 6) N rfl (.inl rfl)) (pss_one (ps_set (i := 3) N rfl (.inl rfl) (pe_op op_cat (pv 3) (pv 5))))))))))))
        (pss_one (ps_ret (pv 3))))), ?_⟩
      refine seqV (Good := fun σ2 H2 => Same H H2 ∧ σ2 = [some (.ref a), some (.int m), some (.int ((j : Int) + 1)), none, none, none, none]) ?_ ?_
      · intro nx hnx
        refine ⟨_, rfl, (by show 2 ≤ sizeLine; decide), fun t ht => ?_⟩
        refine ⟨_, t, _, _, _, _, rfl, upd_same, cs, (DV.same (p := p) (same_upd ht) (.tup hx ts)).ty, kit_lt _, true, rfl, ?_⟩
        refine iteF ?_
        refine ⟨_, rfl, rfl, false, congrArg V.bl (decide_eq_false (by simpa using jn)), ?_⟩
        exact iteF (hnx _ _ ⟨same_upd ht, rfl⟩)
      rintro _ H0 ⟨s0, rfl⟩
      refine seqV (Good := fun σ2 H2 => ∃ fo, H fo = none ∧ H2 fo = some (.lst []) ∧ Same H H2 ∧ σ2 = [some (.ref a), some (.int m), some (.int ((j : Int) + 1)), some (.ref fo), none, none, none])
        (fun nx hnx => ⟨(by show 0 ≤ sizeLine; decide), fun fo hfo => hnx _ _ ⟨fo, s0.free hfo, upd_same, s0.trans (same_upd hfo), rfl⟩⟩) ?_
      rintro _ H1 ⟨fo, fo0, hfo, s1, rfl⟩
      have hx1 := s1 _ _ hx
      have lts := ts.len
      have whole : unr (j + 1) m (.tuple its) = unrL (unr j m) m its := rfl
      have hw' : (its.map (itemW (wt j))).sum ≤ 100000 := hw
      refine ⟨_, rfl, a, rfl, ⟨_, .inl (.inl hx1)⟩, ?_⟩
      refine loop_of (n := xs.length) (fun i σ H2 => ∃ (v4 v5 v6 : Option V) (fo : Addr) (acc : List Nat), σ = [some (.ref a), some (.int m), some (.int ((j : Int) + 1)), some (.ref fo), v4, v5, v6] ∧ H fo = none ∧ H2 fo = some (.lst (iV acc)) ∧ Same H H2 ∧
          unrL (unr j m) m its = (unrL (unr j m) m (its.drop i)).map (acc ++ ·) ∧ acc.length ≤ ((its.take i).map (itemW (wt j))).sum)
        ⟨none, none, none, fo, [], rfl, fo0, hfo, s1, by simp, by simp⟩ ?_ ?_
      · rintro σ H2 ⟨v4, v5, v6, fo, acc, rfl, fo0, hfo, s2, e, _⟩
        refine ⟨⟨xs, .inl (.inl (s2 _ _ hx)), Nat.le_refl _⟩, ?_⟩
        rw [lts, List.drop_length] at e
        have e2 : unrL (unr j m) m its = some acc := by rw [e]; show some (acc ++ []) = _; rw [List.append_nil]
        exact ⟨_, rfl, q _ H2 s2 (by rw [whole, e2]; exact ⟨fo, rfl, hfo⟩)⟩
      · rintro i σ H2 hi ⟨v4, v5, v6, fo, acc, rfl, fo0, hfo, s2, e, hacc⟩
        refine ⟨⟨xs, _, .inl (.inl (s2 _ _ hx)), List.getElem?_eq_getElem hi⟩, ?_⟩
        rintro v H' ⟨rfl, hy⟩
        have hvi := hy xs (.inl (.inl (s2 _ _ hx)))
        obtain ⟨it, hit, hdx⟩ := ts.at hvi
        have hdx2 : DV p H' v it := hdx.same s2
        have hil : i < its.length := by rw [← lts]; exact hi
        have dr : its.drop i = it :: its.drop (i + 1) := by
          rw [List.drop_eq_getElem_cons hil]
          congr 1
          rw [List.getElem?_eq_getElem hil] at hit
          exact Option.some.inj hit
        have tk : ((its.take (i + 1)).map (itemW (wt j))).sum = ((its.take i).map (itemW (wt j))).sum + itemW (wt j) it := by
          rw [List.take_succ, hit, List.map_append, List.sum_append]
          simp
        have tle : ((its.take (i + 1)).map (itemW (wt j))).sum ≤ 100000 := by
          refine Nat.le_trans ?_ hw'
          conv => rhs; rw [← List.take_append_drop (i + 1) its, List.map_append, List.sum_append]
          exact Nat.le_add_right _ _
        rw [tk] at tle
        have eU : unrL (unr j m) m (its.drop i) = match itemU (unr j m) m it, unrL (unr j m) m (its.drop (i + 1)) with | some a, some b => some (a ++ b) | _, _ => none := by
          rw [dr]
          rfl
        have bad : itemU (unr j m) m it = none → ∀ H3, Same H' H3 → Q .non H3 := fun z H3 s3 => by
          refine q .non H3 (s2.trans s3) ?_
          rw [whole, e, eU, z]
          rfl
        have good : ∀ r, itemU (unr j m) m it = some r → unrL (unr j m) m its = (unrL (unr j m) m (its.drop (i + 1))).map ((acc ++ r) ++ ·) := fun r z => by
          rw [e, eU, z]
          cases unrL (unr j m) m (its.drop (i + 1)) with
          | none => rfl
          | some b => show some (acc ++ (r ++ b)) = some (acc ++ r ++ b); rw [List.append_assoc]
        refine gn ?_
        refine ⟨_, rfl, p, v, it, rfl, hdx2, isI it, rfl, ?_⟩
        have sl := sizeLine_eq
        have hty : TyX K H' v (.type (kindT it)) := hdx2.ty
        cases hdx2 with
        | int z =>
          refine iteT ?_
          have eI : itemU (unr j m) m (.int z) = if 0 ≤ z ∧ z < m then some [z.toNat] else none := rfl
          refine seqV (Good := fun σ2 H3 => 0 ≤ z ∧ z < m ∧ H' = H3 ∧ σ2 = [some (.ref a), some (.int m), some (.int ((j : Int) + 1)), some (.ref fo), some (.int z), v5, v6]) ?_ ?_
          · intro nx hnx
            refine ⟨_, rfl, _, _, rfl, rfl, decide (0 ≤ z), rfl, ?_⟩
            by_cases h0 : 0 ≤ z
            · rw [decide_eq_true h0]
              refine iteT ⟨_, rfl, _, _, rfl, rfl, decide (z < m), rfl, ?_⟩
              by_cases h1 : z < m
              · rw [decide_eq_true h1]
                exact iteF (hnx _ _ ⟨h0, h1, rfl, rfl⟩)
              · rw [decide_eq_false h1]
                exact iteT (bad (by rw [eI, if_neg (fun w => h1 w.2)]) _ fun _ _ w => w)
            · rw [decide_eq_false h0]
              exact iteF ⟨false, rfl, iteT (bad (by rw [eI, if_neg (fun w => h0 w.1)]) _ fun _ _ w => w)⟩
          rintro _ _ ⟨h0, h1, rfl, rfl⟩
          have iW : itemW (wt j) (.int z) = 1 := rfl
          rw [iW] at tle tk
          refine ⟨_, rfl, .inl ⟨rfl, _, .inl (.inl hfo)⟩, _, rfl, fo, _, _, rfl, rfl, hfo, by unfold iV; rw [List.length_map]; omega, ?_⟩
          refine ⟨_, _, _, fo, acc ++ [z.toNat], rfl, fo0, ?_, fun b o w => by rw [upd_ne (ne_of_none w fo0)]; exact s2 _ _ w, good [z.toNat] (by rw [eI, if_pos ⟨h0, h1⟩]), ?_⟩
          · rw [upd_same]
            show _ = some (HO.lst (iV (acc ++ [z.toNat])))
            unfold iV
            rw [List.map_append]
            show some (HO.lst (_ ++ [V.int z])) = some (HO.lst (_ ++ [V.int ((z.toNat : Nat) : Int)]))
            rw [show ((z.toNat : Nat) : Int) = z by omega]
          · rw [tk, List.length_append]
            exact Nat.add_le_add hacc (Nat.le_refl 1)
        | tup ht tt =>
          rename_i t ts2 us
          refine iteF ?_
          have l2 := tt.len
          refine seqV (Good := fun σ2 H3 => ∃ (y1 : V) (d1 : PyData) (t0 : Int), 0 ≤ t0 ∧ ts2 = [y1, .int t0] ∧ us = [d1, .int t0] ∧ DV p H' y1 d1 ∧ H' = H3 ∧ σ2 = [some (.ref a), some (.int m), some (.int ((j : Int) + 1)), some (.ref fo), some (.ref t), v5, v6]) ?_ ?_
          · intro nx hnx
            refine ⟨_, rfl, isi_mk hty (kit_tuple _) ⟨true, rfl, iteF ?_⟩⟩
            refine ⟨_, rfl, t, ts2, rfl, .inr (.inl (.inl ht)), rfl, !decide (V.int (ts2.length : Int) = V.int 2), rfl, ?_⟩
            by_cases h2 : ts2.length = 2
            · rw [decide_eq_true (by rw [h2]; rfl)]
              refine iteF ?_
              match ts2, us, tt, h2, ht with
              | [y1, y2], _, .cons (d := d1) k1 (.cons (d := d2) k2 .nil), _, ht =>
                refine ⟨_, rfl, t, _, _, _, rfl, rfl, .inl (.inl ht), rfl, p, y2, d2, rfl, k2, isI d2, rfl, ?_⟩
                cases k2 with
                | int t0 =>
                  refine iteF ⟨_, rfl, t, _, _, _, rfl, rfl, .inl (.inl ht), rfl, _, _, rfl, rfl, decide (t0 < 0), rfl, ?_⟩
                  by_cases h0 : t0 < 0
                  · rw [decide_eq_true h0]
                    refine iteT (bad ?_ _ fun _ _ w => w)
                    show (if t0 < 0 then none else _) = none
                    rw [if_pos h0]
                  · rw [decide_eq_false h0]
                    exact iteF (hnx _ _ ⟨y1, d1, t0, by omega, rfl, rfl, k1, rfl, rfl⟩)
                | non => exact iteT (bad rfl _ fun _ _ w => w)
                | bl b => exact iteT (bad rfl _ fun _ _ w => w)
                | str _ => exact iteT (bad rfl _ fun _ _ w => w)
                | lst _ _ _ => exact iteT (bad rfl _ fun _ _ w => w)
                | tup _ _ => exact iteT (bad rfl _ fun _ _ w => w)
                | dct _ => exact iteT (bad rfl _ fun _ _ w => w)
            · rw [decide_eq_false (by simp; omega)]
              refine iteT (bad ?_ _ fun _ _ w => w)
              match us, l2 with
              | [], _ => rfl
              | [_], _ => rfl
              | [_, _], l2 => exact absurd l2 h2
              | _ :: b :: _ :: _, _ => cases b <;> rfl
          rintro _ _ ⟨y1, d1, t0, t00, rfl, rfl, k1, rfl, rfl⟩
          obtain ⟨n0, rfl⟩ : ∃ n0 : Nat, t0 = n0 := ⟨t0.toNat, by omega⟩
          have iW : itemW (wt j) (.tuple [d1, .int (n0 : Int)]) = (n0 + 1) * (wt j d1 + 1) := rfl
          have eI : itemU (unr j m) m (.tuple [d1, .int (n0 : Int)]) = (unr j m d1).map fun r => (List.replicate n0 r).flatten := by
            show (if (n0 : Int) < 0 then none else (unr j m d1).map fun r => (List.replicate (n0 : Int).toNat r).flatten) = _
            rw [if_neg (by omega), Int.toNat_natCast]
          rw [iW] at tle tk
          have w1 : wt j d1 + 1 ≤ (n0 + 1) * (wt j d1 + 1) := Nat.le_mul_of_pos_left _ (Nat.succ_pos _)
          have w2 : n0 + 1 ≤ (n0 + 1) * (wt j d1 + 1) := Nat.le_mul_of_pos_right _ (Nat.succ_pos _)
          -- inner
          refine seqV (Good := fun σ2 H3 => ∃ vi, UV H3 vi (unr j m d1) ∧ Same H' H3 ∧ σ2 = [some (.ref a), some (.int m), some (.int ((j : Int) + 1)), some (.ref fo), some (.ref t), some vi, v6])
            (fun nx hnx => ⟨_, rfl, t, _, _, _, rfl, rfl, .inl (.inl ht), rfl, _, rfl, _, rfl, _, _, rfl, rfl, p, m, y1, d1, by show [y1, V.int m, V.int ((j : Int) + 1 - 1)] ++ [] = _; rw [j1]; rfl, k1, by omega, fun vi H3 s3 uv => hnx _ _ ⟨vi, uv, s3, rfl⟩⟩) ?_
          rintro _ H3 ⟨vi, uv, s3, rfl⟩
          refine seqV (Good := fun σ2 H4 => ∃ (u : Addr) (r : List Nat), unr j m d1 = some r ∧ H3 u = some (.lst (iV r)) ∧ H3 = H4 ∧ σ2 = [some (.ref a), some (.int m), some (.int ((j : Int) + 1)), some (.ref fo), some (.ref t), some (.ref u), v6]) ?_ ?_
          · intro nx hnx
            refine ⟨_, rfl, decide (vi = .non), rfl, ?_⟩
            cases hr : unr j m d1 with
            | none =>
              rw [hr] at uv
              obtain rfl : vi = .non := uv
              rw [decide_eq_true rfl]
              exact iteT (bad (by rw [eI, hr]; rfl) _ s3)
            | some r =>
              rw [hr] at uv
              obtain ⟨u, rfl, hu⟩ := uv
              rw [decide_eq_false (by simp)]
              exact iteF (hnx _ _ ⟨u, r, hr, hu, rfl, rfl⟩)
          rintro _ _ ⟨u, r, hr, hu, rfl, rfl⟩
          have rl := unr_len j m d1 r hr
          have eR : itemU (unr j m) m (.tuple [d1, .int (n0 : Int)]) = some (List.replicate n0 r).flatten := by rw [eI, hr]; rfl
          have fl : ∀ k, ((List.replicate k r).flatten).length = k * r.length := fun k => by
            rw [List.length_flatten, List.map_replicate, List.sum_replicate_nat]
          refine ⟨_, rfl, t, _, _, _, rfl, rfl, .inl (.inl (s3 _ _ ht)), rfl, _, rfl, by omega, by omega, ?_⟩
          refine for_range (lo := 0) (n := (n0 : Int).toNat) (fun k σ2 H4 => ∃ (fo2 : Addr) (v6 : Option V), σ2 = [some (.ref a), some (.int m), some (.int ((j : Int) + 1)), some (.ref fo2), some (.ref t), some (.ref u), v6] ∧ H fo2 = none ∧ H4 fo2 = some (.lst (iV (acc ++ (List.replicate k r).flatten))) ∧ Same H3 H4)
            ⟨fo, v6, rfl, fo0, by rw [show (List.replicate 0 r).flatten = ([] : List Nat) from rfl, List.append_nil]; exact s3 _ _ hfo, fun _ _ w => w⟩ ?_ ?_
          · rintro k σ2 H4 hk ⟨fo2, v6, rfl, f0, hf2, s4⟩
            have kn : k < n0 := by omega
            have km : k * r.length ≤ n0 * (wt j d1 + 1) := Nat.mul_le_mul (by omega) (by omega)
            have nm : (n0 + 1) * (wt j d1 + 1) = n0 * (wt j d1 + 1) + (wt j d1 + 1) := Nat.succ_mul _ _
            refine ⟨_, rfl, _, rfl, fo2, u, _, _, rfl, rfl, hf2, s4 _ _ hu, ?_, fun p2 hp2 => ?_⟩
            · unfold iV
              rw [List.length_map, List.length_map, List.length_append, fl]
              omega
            · have s5 := same_upd (o := .lst (iV (acc ++ (List.replicate k r).flatten) ++ iV r)) hp2
              refine ⟨p2, _, rfl, (s2.trans (s3.trans s4)).free hp2, ?_, s4.trans s5⟩
              rw [upd_same]
              unfold iV
              rw [← List.map_append, List.append_assoc]
              congr 4
              rw [List.replicate_succ', List.flatten_append]
              simp
          · rintro σ2 H4 ⟨fo2, v6, rfl, f0, hf2, s4⟩
            rw [Int.toNat_natCast] at hf2
            refine ⟨_, _, _, fo2, acc ++ (List.replicate n0 r).flatten, rfl, f0, hf2, s2.trans (s3.trans s4), good _ eR, ?_⟩
            rw [tk, List.length_append, fl]
            have : n0 * r.length ≤ (n0 + 1) * (wt j d1 + 1) := Nat.mul_le_mul (Nat.le_succ _) (by omega)
            omega
        | non => exact iteF ⟨_, rfl, isi_mk hty (kit_tuple _) ⟨false, rfl, iteT (bad rfl _ fun _ _ w => w)⟩⟩
        | bl b => exact iteF ⟨_, rfl, isi_mk hty (kit_tuple _) ⟨false, rfl, iteT (bad rfl _ fun _ _ w => w)⟩⟩
        | str _ => exact iteF ⟨_, rfl, isi_mk hty (kit_tuple _) ⟨false, rfl, iteT (bad rfl _ fun _ _ w => w)⟩⟩
        | lst _ _ _ => exact iteF ⟨_, rfl, isi_mk hty (kit_tuple _) ⟨false, rfl, iteT (bad rfl _ fun _ _ w => w)⟩⟩
        | dct _ => exact iteF ⟨_, rfl, isi_mk hty (kit_tuple _) ⟨false, rfl, iteT (bad rfl _ fun _ _ w => w)⟩⟩
    | non =>
      refine ⟨_, pss_cons (ps_if (pw_or (pt_not (pt_val (pe_callB call_isiT (by rfl) n.isi (by decide +kernel) (pa_cons (pv 0) (pa_cons (pe_tup (pa_cons (pe_bltn (v := .ty "list") (by rfl) n.list (by decide +kernel) rfl) (pa_cons (pe_bltn (v := .ty "tuple") (by rfl) n.tuple (by decide +kernel) rfl) pa_nil))) pa_nil)))))
          (pw_or1 (pt_cmpR op_eq (pv 2) pe_int (nomark _)))).pt (pss_one (ps_ret pe_non)) pss_nil)
        (pss_cons (ps_set (i := 3) N rfl (.inl rfl) (pe_lst pa_nil))
        (pss_cons (ps_for PassesOwn.never rfl (pi_list (pv 0)) (pg_name (i := 4) N rfl (.inl rfl))
          (pss_one (ps_if (pt_val (pe_fn GI r1 (pa_cons (pv 4) pa_nil)))
            (pss_cons (ps_if (pt_not (pt_chain op_le op_lt pe_int (pv 4) (pv 1))) (pss_one (ps_ret pe_non)) pss_nil)
            (pss_one (ps_expr (pe_bm PySem.F.plainAttrs_list PySem.F.slot_list_append PySem.F.type_list_append mt_append (pv 3) (pa_cons (pv 4) pa_nil)))))
            (pss_cons (ps_if (pw_or (pt_not (pt_val (pe_isTuple n (pv 4)))) (pw_or (pt_cmpR op_ne (pe_callB call_len_seq (by rfl) n.len PySem.boot_len (pa_cons (pv 4) pa_nil)) pe_int (nomark _)) (pw_or (pt_not (pt_val (pe_fn GI r1 (pa_cons (pe_ix ix_tup (pv 4) pe_int (fun _ _ => rfl)) pa_nil)))) (pw_or1 (pt_cmpR op_lt (pe_ix ix_tup (pv 4) pe_int (fun _ _ => rfl)) pe_int (nomark _)))))).pt (pss_one (ps_ret pe_non)) pss_nil)
            (pss_cons (ps_set (i := 5) N rfl (.inl rfl) (pe_fn GU hr (pa_cons (pe_ix ix_tup (pv 4) pe_int (fun _ _ => rfl)) (pa_cons (pv 1) (pa_cons (pe_op op_sub (pv 2) pe_int) pa_nil)))))
            (pss_cons (ps_if (pt_cmp (pc_isN (pv 5))) (pss_one (ps_ret pe_non)) pss_nil)
            (pss_one (ps_for PassesOwn.never rfl (pi_range1 (by rfl) n.range (pa_cons (pe_ix ix_tup (pv 4) pe_int (fun _ _ => rfl)) pa_nil)) (pg_name (i := 6) N rfl (.inl rfl)) (pss_one (ps_set (i := 3) N rfl (.inl rfl) (pe_op op_cat (pv 3) (pv 5))))))))))))
        (pss_one (ps_ret (pv 3))))), ?_⟩
      refine ⟨_, rfl, (by show 2 ≤ sizeLine; decide), fun t ht => ?_⟩
      refine ⟨_, t, _, _, _, _, rfl, upd_same, cs, (DV.same (p := p) (same_upd ht) (.non)).ty, kit_lt _, false, rfl, ?_⟩
      exact iteT (q .non _ (same_upd ht) rfl)
    | bl b =>
      refine ⟨_, pss_cons (ps_if (pw_or (pt_not (pt_val (pe_callB call_isiT (by rfl) n.isi (by decide +kernel) (pa_cons (pv 0) (pa_cons (pe_tup (pa_cons (pe_bltn (v := .ty "list") (by rfl) n.list (by decide +kernel) rfl) (pa_cons (pe_bltn (v := .ty "tuple") (by rfl) n.tuple (by decide +kernel) rfl) pa_nil))) pa_nil)))))
          (pw_or1 (pt_cmpR op_eq (pv 2) pe_int (nomark _)))).pt (pss_one (ps_ret pe_non)) pss_nil)
        (pss_cons (ps_set (i := 3) N rfl (.inl rfl) (pe_lst pa_nil))
        (pss_cons (ps_for PassesOwn.never rfl (pi_list (pv 0)) (pg_name (i := 4) N rfl (.inl rfl))
          (pss_one (ps_if (pt_val (pe_fn GI r1 (pa_cons (pv 4) pa_nil)))
            (pss_cons (ps_if (pt_not (pt_chain op_le op_lt pe_int (pv 4) (pv 1))) (pss_one (ps_ret pe_non)) pss_nil)
            (pss_one (ps_expr (pe_bm PySem.F.plainAttrs_list PySem.F.slot_list_append PySem.F.type_list_append mt_append (pv 3) (pa_cons (pv 4) pa_nil)))))
            (pss_cons (ps_if (pw_or (pt_not (pt_val (pe_isTuple n (pv 4)))) (pw_or (pt_cmpR op_ne (pe_callB call_len_seq (by rfl) n.len PySem.boot_len (pa_cons (pv 4) pa_nil)) pe_int (nomark _)) (pw_or (pt_not (pt_val (pe_fn GI r1 (pa_cons (pe_ix ix_tup (pv 4) pe_int (fun _ _ => rfl)) pa_nil)))) (pw_or1 (pt_cmpR op_lt (pe_ix ix_tup (pv 4) pe_int (fun _ _ => rfl)) pe_int (nomark _)))))).pt (pss_one (ps_ret pe_non)) pss_nil)
            (pss_cons (ps_set (i := 5) N rfl (.inl rfl) (pe_fn GU hr (pa_cons (pe_ix ix_tup (pv 4) pe_int (fun _ _ => rfl)) (pa_cons (pv 1) (pa_cons (pe_op op_sub (pv 2) pe_int) pa_nil)))))
            (pss_cons (ps_if (pt_cmp (pc_isN (pv 5))) (pss_one (ps_ret pe_non)) pss_nil)
            (pss_one (ps_for PassesOwn.never rfl (pi_range1 (by rfl) n.range (pa_cons (pe_ix ix_tup (pv 4) pe_int (fun _ _ => rfl)) pa_nil)) (pg_name (i := 6) N rfl (.inl rfl)) (pss_one (ps_set (i := 3) N rfl (.inl rfl) (pe_op op_cat (pv 3) (pv 5))))))))))))
        (pss_one (ps_ret (pv 3))))), ?_⟩
      refine ⟨_, rfl, (by show 2 ≤ sizeLine; decide), fun t ht => ?_⟩
      refine ⟨_, t, _, _, _, _, rfl, upd_same, cs, (DV.same (p := p) (same_upd ht) (.bl b)).ty, kit_lt _, false, rfl, ?_⟩
      exact iteT (q .non _ (same_upd ht) rfl)
    | int i =>
      refine ⟨_, pss_cons (ps_if (pw_or (pt_not (pt_val (pe_callB call_isiT (by rfl) n.isi (by decide +kernel) (pa_cons (pv 0) (pa_cons (pe_tup (pa_cons (pe_bltn (v := .ty "list") (by rfl) n.list (by decide +kernel) rfl) (pa_cons (pe_bltn (v := .ty "tuple") (by rfl) n.tuple (by decide +kernel) rfl) pa_nil))) pa_nil)))))
          (pw_or1 (pt_cmpR op_eq (pv 2) pe_int (nomark _)))).pt (pss_one (ps_ret pe_non)) pss_nil)
        (pss_cons (ps_set (i := 3) N rfl (.inl rfl) (pe_lst pa_nil))
        (pss_cons (ps_for PassesOwn.never rfl (pi_list (pv 0)) (pg_name (i := 4) N rfl (.inl rfl))
          (pss_one (ps_if (pt_val (pe_fn GI r1 (pa_cons (pv 4) pa_nil)))
            (pss_cons (ps_if (pt_not (pt_chain op_le op_lt pe_int (pv 4) (pv 1))) (pss_one (ps_ret pe_non)) pss_nil)
            (pss_one (ps_expr (pe_bm PySem.F.plainAttrs_list PySem.F.slot_list_append PySem.F.type_list_append mt_append (pv 3) (pa_cons (pv 4) pa_nil)))))
            (pss_cons (ps_if (pw_or (pt_not (pt_val (pe_isTuple n (pv 4)))) (pw_or (pt_cmpR op_ne (pe_callB call_len_seq (by rfl) n.len PySem.boot_len (pa_cons (pv 4) pa_nil)) pe_int (nomark _)) (pw_or (pt_not (pt_val (pe_fn GI r1 (pa_cons (pe_ix ix_tup (pv 4) pe_int (fun _ _ => rfl)) pa_nil)))) (pw_or1 (pt_cmpR op_lt (pe_ix ix_tup (pv 4) pe_int (fun _ _ => rfl)) pe_int (nomark _)))))).pt (pss_one (ps_ret pe_non)) pss_nil)
            (pss_cons (ps_set (i := 5) N rfl (.inl rfl) (pe_fn GU hr (pa_cons (pe_ix ix_tup (pv 4) pe_int (fun _ _ => rfl)) (pa_cons (pv 1) (pa_cons (pe_op op_sub (pv 2) pe_int) pa_nil)))))
            (pss_cons (ps_if (pt_cmp (pc_isN (pv 5))) (pss_one (ps_ret pe_non)) pss_nil)
            (pss_one (ps_for PassesOwn.never rfl (pi_range1 (by rfl) n.range (pa_cons (pe_ix ix_tup (pv 4) pe_int (fun _ _ => rfl)) pa_nil)) (pg_name (i := 6) N rfl (.inl rfl)) (pss_one (ps_set (i := 3) N rfl (.inl rfl) (pe_op op_cat (pv 3) (pv 5))))))))))))
        (pss_one (ps_ret (pv 3))))), ?_⟩
      refine ⟨_, rfl, (by show 2 ≤ sizeLine; decide), fun t ht => ?_⟩
      refine ⟨_, t, _, _, _, _, rfl, upd_same, cs, (DV.same (p := p) (same_upd ht) (.int i)).ty, kit_lt _, false, rfl, ?_⟩
      exact iteT (q .non _ (same_upd ht) rfl)
    | str z =>
      refine ⟨_, pss_cons (ps_if (pw_or (pt_not (pt_val (pe_callB call_isiT (by rfl) n.isi (by decide +kernel) (pa_cons (pv 0) (pa_cons (pe_tup (pa_cons (pe_bltn (v := .ty "list") (by rfl) n.list (by decide +kernel) rfl) (pa_cons (pe_bltn (v := .ty "tuple") (by rfl) n.tuple (by decide +kernel) rfl) pa_nil))) pa_nil)))))
          (pw_or1 (pt_cmpR op_eq (pv 2) pe_int (nomark _)))).pt (pss_one (ps_ret pe_non)) pss_nil)
        (pss_cons (ps_set (i := 3) N rfl (.inl rfl) (pe_lst pa_nil))
        (pss_cons (ps_for PassesOwn.never rfl (pi_list (pv 0)) (pg_name (i := 4) N rfl (.inl rfl))
          (pss_one (ps_if (pt_val (pe_fn GI r1 (pa_cons (pv 4) pa_nil)))
            (pss_cons (ps_if (pt_not (pt_chain op_le op_lt pe_int (pv 4) (pv 1))) (pss_one (ps_ret pe_non)) pss_nil)
            (pss_one (ps_expr (pe_bm PySem.F.plainAttrs_list PySem.F.slot_list_append PySem.F.type_list_append mt_append (pv 3) (pa_cons (pv 4) pa_nil)))))
            (pss_cons (ps_if (pw_or (pt_not (pt_val (pe_isTuple n (pv 4)))) (pw_or (pt_cmpR op_ne (pe_callB call_len_seq (by rfl) n.len PySem.boot_len (pa_cons (pv 4) pa_nil)) pe_int (nomark _)) (pw_or (pt_not (pt_val (pe_fn GI r1 (pa_cons (pe_ix ix_tup (pv 4) pe_int (fun _ _ => rfl)) pa_nil)))) (pw_or1 (pt_cmpR op_lt (pe_ix ix_tup (pv 4) pe_int (fun _ _ => rfl)) pe_int (nomark _)))))).pt (pss_one (ps_ret pe_non)) pss_nil)
            (pss_cons (ps_set (i := 5) N rfl (.inl rfl) (pe_fn GU hr (pa_cons (pe_ix ix_tup (pv 4) pe_int (fun _ _ => rfl)) (pa_cons (pv 1) (pa_cons (pe_op op_sub (pv 2) pe_int) pa_nil)))))
            (pss_cons (ps_if (pt_cmp (pc_isN (pv 5))) (pss_one (ps_ret pe_non)) pss_nil)
            (pss_one (ps_for PassesOwn.never rfl (pi_range1 (by rfl) n.range (pa_cons (pe_ix ix_tup (pv 4) pe_int (fun _ _ => rfl)) pa_nil)) (pg_name (i := 6) N rfl (.inl rfl)) (pss_one (ps_set (i := 3) N rfl (.inl rfl) (pe_op op_cat (pv 3) (pv 5))))))))))))
        (pss_one (ps_ret (pv 3))))), ?_⟩
      refine ⟨_, rfl, (by show 2 ≤ sizeLine; decide), fun t ht => ?_⟩
      refine ⟨_, t, _, _, _, _, rfl, upd_same, cs, (DV.same (p := p) (same_upd ht) (.str z)).ty, kit_lt _, false, rfl, ?_⟩
      exact iteT (q .non _ (same_upd ht) rfl)
    | dct hx =>
      refine ⟨_, pss_cons (ps_if (pw_or (pt_not (pt_val (pe_callB call_isiT (by rfl) n.isi (by decide +kernel) (pa_cons (pv 0) (pa_cons (pe_tup (pa_cons (pe_bltn (v := .ty "list") (by rfl) n.list (by decide +kernel) rfl) (pa_cons (pe_bltn (v := .ty "tuple") (by rfl) n.tuple (by decide +kernel) rfl) pa_nil))) pa_nil)))))
          (pw_or1 (pt_cmpR op_eq (pv 2) pe_int (nomark _)))).pt (pss_one (ps_ret pe_non)) pss_nil)
        (pss_cons (ps_set (i := 3) N rfl (.inl rfl) (pe_lst pa_nil))
        (pss_cons (ps_for PassesOwn.never rfl (pi_list (pv 0)) (pg_name (i := 4) N rfl (.inl rfl))
          (pss_one (ps_if (pt_val (pe_fn GI r1 (pa_cons (pv 4) pa_nil)))
            (pss_cons (ps_if (pt_not (pt_chain op_le op_lt pe_int (pv 4) (pv 1))) (pss_one (ps_ret pe_non)) pss_nil)
            (pss_one (ps_expr (pe_bm PySem.F.plainAttrs_list PySem.F.slot_list_append PySem.F.type_list_append mt_append (pv 3) (pa_cons (pv 4) pa_nil)))))
            (pss_cons (ps_if (pw_or (pt_not (pt_val (pe_isTuple n (pv 4)))) (pw_or (pt_cmpR op_ne (pe_callB call_len_seq (by rfl) n.len PySem.boot_len (pa_cons (pv 4) pa_nil)) pe_int (nomark _)) (pw_or (pt_not (pt_val (pe_fn GI r1 (pa_cons (pe_ix ix_tup (pv 4) pe_int (fun _ _ => rfl)) pa_nil)))) (pw_or1 (pt_cmpR op_lt (pe_ix ix_tup (pv 4) pe_int (fun _ _ => rfl)) pe_int (nomark _)))))).pt (pss_one (ps_ret pe_non)) pss_nil)
            (pss_cons (ps_set (i := 5) N rfl (.inl rfl) (pe_fn GU hr (pa_cons (pe_ix ix_tup (pv 4) pe_int (fun _ _ => rfl)) (pa_cons (pv 1) (pa_cons (pe_op op_sub (pv 2) pe_int) pa_nil)))))
            (pss_cons (ps_if (pt_cmp (pc_isN (pv 5))) (pss_one (ps_ret pe_non)) pss_nil)
            (pss_one (ps_for PassesOwn.never rfl (pi_range1 (by rfl) n.range (pa_cons (pe_ix ix_tup (pv 4) pe_int (fun _ _ => rfl)) pa_nil)) (pg_name (i := 6) N rfl (.inl rfl)) (pss_one (ps_set (i := 3) N rfl (.inl rfl) (pe_op op_cat (pv 3) (pv 5))))))))))))
        (pss_one (ps_ret (pv 3))))), ?_⟩
      refine ⟨_, rfl, (by show 2 ≤ sizeLine; decide), fun t ht => ?_⟩
      refine ⟨_, t, _, _, _, _, rfl, upd_same, cs, (DV.same (p := p) (same_upd ht) (.dct hx)).ty, kit_lt _, false, rfl, ?_⟩
      exact iteT (q .non _ (same_upd ht) rfl)
end
end L2.K23
end

section
set_option Elab.async false
set_option linter.all false
set_option maxRecDepth 100000
set_option maxHeartbeats 4000000
namespace L2.K23
open PySem PySem.Spec PyProof.Rows L2.Gd
theorem itemU_lt {k : Nat} {m : Int} (ih : ∀ d r, unr k m d = some r → ∀ i ∈ r, ((i : Nat) : Int) < m) {d : PyData} {r : List Nat} (e : itemU (unr k m) m d = some r) : ∀ i ∈ r, ((i : Nat) : Int) < m := by
  match d, e with
  | .int i, e =>
    have e' : (if 0 ≤ i ∧ i < m then some [i.toNat] else none : Option (List Nat)) = some r := e
    split at e'
    · rename_i h
      obtain rfl := Option.some.inj e'
      intro x hx
      rw [List.mem_singleton.mp hx]
      omega
    · exact nomatch e'
  | .tuple [x, .int t], e =>
    have e' : (if t < 0 then none else (unr k m x).map fun r => (List.replicate t.toNat r).flatten) = some r := e
    split at e'
    · exact nomatch e'
    · obtain ⟨a, ea, rfl⟩ := Option.map_eq_some_iff.mp e'
      intro i hi
      obtain ⟨l, hl, hil⟩ := List.mem_flatten.mp hi
      rw [(List.mem_replicate.mp hl).2] at hil
      exact ih x a ea i hil
theorem unrL_lt {k : Nat} {m : Int} (ih : ∀ d r, unr k m d = some r → ∀ i ∈ r, ((i : Nat) : Int) < m) : ∀ (its : List PyData) (r : List Nat), unrL (unr k m) m its = some r → ∀ i ∈ r, ((i : Nat) : Int) < m
  | [], r, e => by
    obtain rfl := (Option.some.inj e).symm
    exact fun i hi => absurd hi (by simp)
  | it :: its, r, e => by
    have e' : (match itemU (unr k m) m it, unrL (unr k m) m its with | some a, some b => some (a ++ b) | _, _ => none : Option (List Nat)) = some r := e
    cases h1 : itemU (unr k m) m it with
    | none => rw [h1] at e'; exact nomatch e'
    | some a =>
      cases h2 : unrL (unr k m) m its with
      | none => rw [h1, h2] at e'; exact nomatch e'
      | some b =>
        rw [h1, h2] at e'
        obtain rfl := (Option.some.inj e').symm
        intro i hi
        rcases List.mem_append.mp hi with hi | hi
        · exact itemU_lt ih h1 i hi
        · exact unrL_lt ih its b h2 i hi
theorem unr_lt : ∀ (k : Nat) (m : Int) (d : PyData) (r : List Nat), unr k m d = some r → ∀ i ∈ r, ((i : Nat) : Int) < m
  | 0, _, _, _, e => nomatch e
  | k + 1, m, d, r, e => by
    unfold unr at e
    cases hs : seqOf d with
    | none => rw [hs] at e; exact nomatch e
    | some its =>
      rw [hs] at e
      exact unrL_lt (unr_lt k m) its r e
def dAt (ds : List Dd) (i : Nat) : Dd := ds.getD i ⟨0, 0, 0, "any"⟩
section
variable {P : Program} {w : World} {K : PySem.W.Frag} {mg : Str → Option Value} {base : Heap} {C : Addr}
theorem ok_un0 {f : Addr} {fd : FuncData} (F : Fun K "_law_unrolled" "_law_unrolled" (top 49) f fd) (n : Nm mg) : FnOk P w K mg base CX0 2 f fd ["_law_value", "_law_many", "_law_lists"] (spUn 0) := by
  refine F.ok scUn (fun vs H Q E h => ?_) (fun cdv A outer s H vs Q E hr h => ?_)
  · obtain ⟨p, m, v, d, rfl, _⟩ := h
    rfl
  · obtain ⟨p, m, v, d, rfl, hd, hw, q⟩ := h
    have cs : Paired ClsV [V.ty "list", V.ty "tuple"] [Value.type "list", Value.type "tuple"] := .cons (.ty _) (.cons (.ty _) .nil)
    refine ⟨_, pss_cons (ps_if (pw_or (pt_not (pt_val (pe_callB call_isiT (by rfl) n.isi (by decide +kernel) (pa_cons (pv 0) (pa_cons (pe_tup (pa_cons (pe_bltn (v := .ty "list") (by rfl) n.list (by decide +kernel) rfl) (pa_cons (pe_bltn (v := .ty "tuple") (by rfl) n.tuple (by decide +kernel) rfl) pa_nil))) pa_nil)))))
          (pw_or1 (pt_cmpR op_eq (pv 2) pe_int (nomark _)))).pt (pss_one (ps_ret pe_non)) pss_nil) pss_never, ?_⟩
    refine ⟨_, rfl, (by show 2 ≤ sizeLine; decide), fun t ht => ?_⟩
    refine ⟨_, t, _, _, _, _, rfl, upd_same, cs, (DV.same (p := p) (same_upd ht) hd).ty, kit_lt _, isLT d, rfl, ?_⟩
    cases isLT d with
    | false => exact iteT (q .non _ (same_upd ht) rfl)
    | true =>
      refine iteF ⟨_, rfl, rfl, true, rfl, ?_⟩
      exact iteT (q .non _ (same_upd ht) rfl)
theorem fn_un {f : Addr} {fd : FuncData} (F : Fun K "_law_unrolled" "_law_unrolled" (top 49) f fd) (m : mg "_law_unrolled" = some (.ref f)) (b : Binds K fd ["_law_value", "_law_many", "_law_lists"] []) (n : Nm mg) (GI : Fn P w K mg base 1 "_law_is_whole" ["_law_value"] spInt2) :
    ∀ j : Nat, Fn P w K mg base (2 + j) "_law_unrolled" ["_law_value", "_law_many", "_law_lists"] (spUn j)
  | 0 => ⟨f, fd, m, F.kp, b, ok_un0 F n⟩
  | j + 1 => ⟨f, fd, m, F.kp, b, ok_unS F n GI (fn_un F m b n GI j)⟩

/-! ### whether a row can be walked -/
def spWk : Sp := fun vs H Q _ => ∃ (D a : Addr) (ys : List V) (ds : List Dd) (r : List Nat) (p s : Int), vs = [.ref D, .ref a, .int p, .int s] ∧ H D = some (.lst ys) ∧ DdAll H ys ds ∧ H a = some (.lst (iV r)) ∧ (∀ i ∈ r, i < ds.length) ∧
  ∀ v' H', Same H H' → (match runD (rowD ds r) p s with | none => v' = .non | some x => ∃ u, v' = .ref u ∧ H' u = some (.tup [.int x.1, .int x.2])) → Q v' H'
def NWk : List Str := ["_law_deeds_here", "_law_row", "_law_place", "_law_start", "_law_at", "_law_origin", "_law_change", "_law_goal", "_law_when"]
theorem scWk : FnScope NWk ["_law_deeds_here", "_law_row", "_law_place", "_law_start"] (defScope (top 51)) := ⟨rfl, rfl, rfl, by decide +kernel, rfl, by decide +kernel, by decide +kernel⟩
theorem ok_wk {f : Addr} {fd : FuncData} (F : Fun K "_law_walked" "_law_walked" (top 51) f fd) : FnOk P w K mg base CX0 1 f fd ["_law_deeds_here", "_law_row", "_law_place", "_law_start"] spWk := by
  refine F.ok scWk (fun vs H Q E h => ?_) (fun cdv A outer s H vs Q E hr h => ?_)
  · obtain ⟨D, a, ys, ds, r, p, s, rfl, _⟩ := h
    rfl
  · obtain ⟨D, a, ys, ds, r, p, st, rfl, hD, dd, ha, lt, q⟩ := h
    have N := scWk.nd
    have yl := Paired.length dd
    refine ⟨_, pss_cons (ps_for PassesOwn.never rfl (pi_list (pv 1)) (pg_name (i := 4) N rfl (.inl rfl))
        (pss_cons (ps_asg (pe_ix ix_list (pv 0) (pv 4) (fun _ _ => rfl)) (pg_tup rfl (pgs_cons (pg_name (i := 5) N rfl (.inl rfl)) (pgs_cons (pg_name (i := 6) N rfl (.inl rfl)) (pgs_cons (pg_name (i := 7) N rfl (.inl rfl)) (pgs_cons (pg_name (i := 8) N rfl (.inl rfl)) pgs_nil))))))
        (pss_cons (ps_if (pw_or (pt_cmpR op_ne (pv 5) (pv 2) (nomark _)) (pw_or (pt_cmpR op_lt (pe_op op_add (pv 3) (pv 6)) pe_int (nomark _)) (pw_or1 (pw_and (pt_cmpR op_eq (pv 8) pe_str (nomark _)) (pw_and1 (pt_cmpR op_ne (pv 3) pe_int (nomark _)))).pt))).pt (pss_one (ps_ret pe_non)) pss_nil)
        (pss_one (ps_par (i := 2) (j := 3) rfl N rfl rfl (by decide) rfl rfl (pa_cons (pv 7) (pa_cons (pe_op op_add (pv 3) (pv 6)) pa_nil)) (by rfl))))))
      (pss_one (ps_ret (pe_tup (pa_cons (pv 2) (pa_cons (pv 3) pa_nil))))), ?_⟩
    have ivl : (iV r).length = r.length := List.length_map _
    refine ⟨_, rfl, a, rfl, ⟨_, .inl (.inl ha)⟩, ?_⟩
    refine loop_of (n := (iV r).length) (fun i σ H2 => ∃ (v4 v5 v6 v7 v8 : Option V) (p2 s2 : Int), σ = [some (.ref D), some (.ref a), some (.int p2), some (.int s2), v4, v5, v6, v7, v8] ∧ H = H2 ∧ runD (rowD ds (r.drop i)) p2 s2 = runD (rowD ds r) p st)
      ⟨none, none, none, none, none, p, st, rfl, rfl, rfl⟩ ?_ ?_
    · rintro σ _ ⟨v4, v5, v6, v7, v8, p2, s2, rfl, rfl, e⟩
      refine ⟨⟨_, .inl (.inl ha), Nat.le_refl _⟩, ?_⟩
      rw [ivl, List.drop_length] at e
      refine ⟨_, rfl, _, rfl, (by show 2 ≤ sizeLine; decide), fun t ht => ?_⟩
      refine q _ _ (same_upd ht) ?_
      rw [← e]
      exact ⟨t, rfl, upd_same⟩
    · rintro i σ _ hi ⟨v4, v5, v6, v7, v8, p2, s2, rfl, rfl, e⟩
      have hir : i < r.length := by rw [← ivl]; exact hi
      refine ⟨⟨_, _, .inl (.inl ha), List.getElem?_eq_getElem hi⟩, ?_⟩
      rintro v H' ⟨rfl, hy⟩
      have hvi := hy _ (.inl (.inl ha))
      have hv : v = .int ((r[i] : Nat) : Int) := by
        unfold iV at hvi
        rw [List.getElem?_map, List.getElem?_eq_getElem hir] at hvi
        exact (Option.some.inj hvi).symm
      subst hv
      have hlt : r[i] < ds.length := lt _ (List.getElem_mem hir)
      have hyk : ys[r[i]]? = some ys[r[i]] := List.getElem?_eq_getElem (by omega)
      obtain ⟨d, hd, t, et, ht⟩ := Paired.at dd hyk
      have dr : rowD ds (r.drop i) = d :: rowD ds (r.drop (i + 1)) := by
        rw [List.drop_eq_getElem_cons hir]
        show ds.getD r[i] _ :: _ = _
        rw [List.getD_eq_getElem?_getD, hd]
        rfl
      rw [dr] at e
      have eR : runD (d :: rowD ds (r.drop (i + 1))) p2 s2 = if d.p ≠ p2 ∨ s2 + d.c < 0 ∨ (d.w = "empty" ∧ s2 ≠ 0) then none else runD (rowD ds (r.drop (i + 1))) d.g (s2 + d.c) := rfl
      have out : (d.p ≠ p2 ∨ s2 + d.c < 0 ∨ (d.w = "empty" ∧ s2 ≠ 0)) → Q .non H' := fun z => by
        refine q .non H' (fun _ _ w => w) ?_
        rw [← e, eR, if_pos z]
      refine gn ?_
      refine seqV (Good := fun σ2 H2 => H' = H2 ∧ σ2 = [some (.ref D), some (.ref a), some (.int p2), some (.int s2), some (.int ((r[i] : Nat) : Int)), some (.int d.p), some (.int d.c), some (.int d.g), some (.str d.w)])
        (fun nx hnx => ⟨_, rfl, _, rfl, D, ys, _, _, rfl, rfl, .inl (.inl hD), atI_nat hyk, t, _, et, .inl (.inl ht), rfl, _, _, rfl, _, _, rfl, _, _, rfl, _, _, rfl, rfl, hnx _ _ ⟨rfl, rfl⟩⟩) ?_
      rintro _ _ ⟨rfl, rfl⟩
      refine seqV (Good := fun σ2 H2 => ¬ (d.p ≠ p2 ∨ s2 + d.c < 0 ∨ (d.w = "empty" ∧ s2 ≠ 0)) ∧ H' = H2 ∧ σ2 = [some (.ref D), some (.ref a), some (.int p2), some (.int s2), some (.int ((r[i] : Nat) : Int)), some (.int d.p), some (.int d.c), some (.int d.g), some (.str d.w)]) ?_ ?_
      · intro nx hnx
        refine ⟨_, rfl, _, rfl, rfl, !decide (V.int d.p = V.int p2), rfl, ?_⟩
        by_cases h1 : d.p = p2
        · rw [decide_eq_true (by rw [h1])]
          refine iteF ⟨_, rfl, _, rfl, _, _, rfl, rfl, _, _, rfl, rfl, decide (s2 + d.c < 0), rfl, ?_⟩
          by_cases h2 : s2 + d.c < 0
          · rw [decide_eq_true h2]
            exact iteT (out (.inr (.inl h2)))
          · rw [decide_eq_false h2]
            refine iteF ⟨_, rfl, rfl, decide (V.str d.w = V.str "empty"), rfl, ?_⟩
            by_cases h3 : d.w = "empty"
            · rw [decide_eq_true (by rw [h3])]
              refine iteT ⟨_, rfl, rfl, !decide (V.int s2 = V.int 0), rfl, ?_⟩
              by_cases h4 : s2 = 0
              · rw [decide_eq_true (by rw [h4])]
                exact iteF (hnx _ _ ⟨fun z => by rcases z with z | z | z; exact z h1; exact h2 z; exact z.2 h4, rfl, rfl⟩)
              · rw [decide_eq_false (by simpa using h4)]
                exact iteT (out (.inr (.inr ⟨h3, h4⟩)))
            · rw [decide_eq_false (by simpa using h3)]
              exact iteF (iteF (hnx _ _ ⟨fun z => by rcases z with z | z | z; exact z h1; exact h2 z; exact h3 z.1, rfl, rfl⟩))
        · rw [decide_eq_false (by simpa using h1)]
          exact iteT (out (.inl h1))
      rintro _ _ ⟨hn, rfl, rfl⟩
      rw [eR, if_neg hn] at e
      exact ⟨_, rfl, _, rfl, _, rfl, _, _, rfl, rfl, _, _, rfl, _, _, _, _, _, d.g, s2 + d.c, rfl, rfl, e⟩
end
end L2.K23
end

section
set_option Elab.async false
set_option linter.all false
set_option maxRecDepth 100000
set_option maxHeartbeats 2000000
/-! a comprehension by an invariant, whatever is walked -/
namespace L2.Gd
open PySem PySem.Spec PyProof.Rows
theorem lc_gen {J : It} {n : Nat} {g : TG} {tt : TT} {te : TE} {vs : List Nat} {σ : L2.St} {H1 : Hp} {D : Addr} {Qd : Hp → Prop} (Iv : Nat → Hp → Prop) (h0 : Iv 0 (L2.upd H1 D (.lst []))) (hd : ∀ H, Iv n H → J.stop n H ∧ Qd H)
    (hs : ∀ i H, i < n → Iv i H → J.go i H ∧ ∀ x H', J.yld i H x H' → g x (wipe σ vs) H' fun σ2 H2 => wipe σ2 vs = wipe σ vs ∧ tt σ2 H2 fun b H3 =>
      if b = true then te σ2 H3 fun y H4 => ∃ acc, H4 D = some (.lst acc) ∧ acc.length < sizeLine ∧ Iv (i + 1) (L2.upd H4 D (.lst (acc ++ [y]))) else Iv (i + 1) H3) :
    ∃ W : Nat → Nat → Hp → Prop, (∃ m, W 0 m (L2.upd H1 D (.lst []))) ∧ ∀ i m H, W i m H →
      (J.stop i H ∧ Qd H) ∨ (J.go i H ∧ ∃ Nx : Hp → Prop, (∀ H', Nx H' → ∃ m', m' < m ∧ W (i + 1) m' H') ∧ ∀ x H', J.yld i H x H' → g x (wipe σ vs) H' fun σ2 H2 => wipe σ2 vs = wipe σ vs ∧ tt σ2 H2 fun b H3 =>
        if b = true then te σ2 H3 fun y H4 => ∃ acc, H4 D = some (.lst acc) ∧ acc.length < sizeLine ∧ Nx (L2.upd H4 D (.lst (acc ++ [y]))) else Nx H3) := by
  refine ⟨fun i m H => m = n - i ∧ i ≤ n ∧ Iv i H, ⟨n, by simp, Nat.zero_le _, h0⟩, ?_⟩
  rintro i m H ⟨rfl, hi, hp⟩
  by_cases e : i < n
  · obtain ⟨go, k⟩ := hs i H e hp
    exact .inr ⟨go, Iv (i + 1), fun H' q => ⟨n - (i + 1), by omega, rfl, e, q⟩, k⟩
  · obtain rfl : i = n := by omega
    exact .inl (hd H hp)
/-! ### [f(i) for i in range(..)], long ones -/
section
variable {β : Type} {lo : Int} {n : Nat} {g : TG} {tt : TT} {te : TE} {vs : List Nat} {σ : L2.St} {H1 : Hp} {D : Addr} {Qd : Hp → Prop} {G : Hp → V → β → Prop} {f : Int → Option β}
theorem lc_mapRL (st : Stab G D) (hn : n ≤ 1000000) (step : StepOk (fun _ v e => v = V.int e) G f g tt te vs σ H1 D (rgI lo n))
    (fin : ∀ ys H, H D = some (.lst ys) → Paired (G H) ys ((rgI lo n).filterMap f) → ButD D H1 H → Qd H) :
    ∃ W : Nat → Nat → Hp → Prop, (∃ m, W 0 m (L2.upd H1 D (.lst []))) ∧ ∀ i m H, W i m H →
      ((Itr lo n).stop i H ∧ Qd H) ∨ ((Itr lo n).go i H ∧ ∃ Nx : Hp → Prop, (∀ H', Nx H' → ∃ m', m' < m ∧ W (i + 1) m' H') ∧ ∀ x H', (Itr lo n).yld i H x H' → g x (wipe σ vs) H' fun σ2 H2 => wipe σ2 vs = wipe σ vs ∧ tt σ2 H2 fun b H3 =>
        if b = true then te σ2 H3 fun y H4 => ∃ acc, H4 D = some (.lst acc) ∧ acc.length < sizeLine ∧ Nx (L2.upd H4 D (.lst (acc ++ [y]))) else Nx H3) := by
  refine lc_range (LcInv G f H1 D (rgI lo n)) ⟨[], upd_same, Nat.le_refl _, .nil, .start⟩ (fun i H hi h => ?_) ?_
  · obtain ⟨ys, h1, h2, h3, h4⟩ := h
    have he : (rgI lo n)[i]? = some (lo + (i : Int)) := by
      unfold rgI
      rw [List.getElem?_map, List.getElem?_range hi]
      rfl
    refine step (.int (lo + i)) (lo + i) H _ _ (List.mem_of_getElem? he) rfl h4 ⟨ys, h1⟩ (fun b y H4 hf s hg => ?_) (fun H3 hf s => ?_)
    · refine ⟨ys, s _ _ h1, by rw [sizeLine_eq]; omega, ys ++ [y], upd_same, by simp; omega, ?_, (h4.more s).put⟩
      rw [filt_take f he, hf]
      have bt : ButD D H4 (L2.upd H4 D (.lst (ys ++ [y]))) := ButD.start
      have hd : ∃ zs, H4 D = some (.lst zs) := ⟨ys, s _ _ h1⟩
      have o1 : Paired (G (L2.upd H4 D (.lst (ys ++ [y])))) ys (((rgI lo n).take i).filterMap f) := Paired.mapP h3 fun u v q => st _ _ _ _ (show ButD D H _ from fun c o ne z => bt c o ne (s _ _ z)) ⟨ys, h1⟩ q
      exact PySem.Paired.snoc o1 (st _ _ _ _ bt hd hg)
    · refine ⟨ys, s _ _ h1, by omega, ?_, h4.more s⟩
      rw [filt_take f he, hf]
      simp only [Option.toList, List.append_nil]
      exact Paired.mapP h3 fun u v q => st _ _ _ _ (fun c o _ z => s _ _ z) ⟨ys, h1⟩ q
  · rintro H ⟨ys, h1, _, h3, h4⟩
    rw [List.take_of_length_le (Nat.le_of_eq (rgI_len lo n))] at h3
    exact fin ys H h1 h3 h4
end
end L2.Gd
end

section
set_option Elab.async false
set_option linter.all false
set_option maxRecDepth 100000
set_option maxHeartbeats 4000000
namespace L2.K23
open PySem PySem.Spec PyProof.Rows L2.Gd
/-! ### whether a row hangs together -/
def partAt (ds : List Dd) (r : List Nat) (i : Nat) : Prop := (dAt ds (r.getD (i - 1) 0)).g ≠ (dAt ds (r.getD i 0)).p
instance (ds : List Dd) (r : List Nat) (i : Nat) : Decidable (partAt ds r i) := by unfold partAt; exact inferInstance
def partF (ds : List Dd) (r : List Nat) (i : Int) : Option Int := if partAt ds r i.toNat then some i else none
def hangsB (ds : List Dd) (r : List Nat) : Bool := decide ((rgI 1 (r.length - 1)).filterMap (partF ds r) = [])
theorem run_hangs : ∀ (ds : List Dd) (r : List Nat) (p s : Int), (runD (rowD ds r) p s).isSome = true → ∀ i, i + 1 < r.length → (dAt ds (r.getD i 0)).g = (dAt ds (r.getD (i + 1) 0)).p
  | _, [], _, _, _, i, h => absurd h (by simp)
  | _, [_], _, _, _, i, h => absurd h (by simp)
  | ds, a :: b :: r, p, s, e, i, h => by
    have e1 : runD (rowD ds (a :: b :: r)) p s = if (dAt ds a).p ≠ p ∨ s + (dAt ds a).c < 0 ∨ ((dAt ds a).w = "empty" ∧ s ≠ 0) then none else runD (rowD ds (b :: r)) (dAt ds a).g (s + (dAt ds a).c) := rfl
    rw [e1] at e
    split at e
    · exact absurd e (by simp)
    · match i with
      | i + 1 => exact run_hangs ds (b :: r) _ _ e i (by simpa using h)
      | 0 =>
        have e2 : runD (rowD ds (b :: r)) (dAt ds a).g (s + (dAt ds a).c) = if (dAt ds b).p ≠ (dAt ds a).g ∨ s + (dAt ds a).c + (dAt ds b).c < 0 ∨ ((dAt ds b).w = "empty" ∧ s + (dAt ds a).c ≠ 0) then none else runD (rowD ds r) (dAt ds b).g (s + (dAt ds a).c + (dAt ds b).c) := rfl
        rw [e2] at e
        split at e
        · exact absurd e (by simp)
        · rename_i q
          show (dAt ds a).g = (dAt ds b).p
          exact (Classical.not_not.mp fun z => q (.inl z)).symm
theorem run_hangsB {ds : List Dd} {r : List Nat} {p s : Int} (e : (runD (rowD ds r) p s).isSome = true) : hangsB ds r = true := by
  refine decide_eq_true (List.filterMap_eq_nil_iff.mpr fun x hx => ?_)
  unfold rgI at hx
  obtain ⟨i, hi, rfl⟩ := List.mem_map.mp hx
  have hi2 := List.mem_range.mp hi
  have := run_hangs ds r p s e i (by omega)
  unfold partF
  rw [if_neg]
  unfold partAt
  rw [show ((1 : Int) + (i : Int)).toNat = i + 1 by omega]
  show ¬ (dAt ds (r.getD (i + 1 - 1) 0)).g ≠ _
  rw [Nat.add_sub_cancel]
  exact fun z => z this
section
variable {P : Program} {w : World} {K : PySem.W.Frag} {mg : Str → Option Value} {base : Heap} {C : Addr}
def spHg : Sp := fun vs H Q _ => ∃ (D a : Addr) (ys : List V) (ds : List Dd) (r : List Nat), vs = [.ref D, .ref a] ∧ H D = some (.lst ys) ∧ DdAll H ys ds ∧ H a = some (.lst (iV r)) ∧ (∀ i ∈ r, i < ds.length) ∧ r.length ≤ 100000 ∧
  ∀ H', Same H H' → Q (.bl (hangsB ds r)) H'
def NHg : List Str := ["_law_deeds_here", "_law_row", "_law_at"]
theorem scHg : FnScope NHg ["_law_deeds_here", "_law_row"] (defScope (top 50)) := ⟨rfl, rfl, rfl, by decide +kernel, rfl, by decide +kernel, by decide +kernel⟩
theorem dps_ints {H : Hp} : ∀ ns : List Int, DpAll K H (ns.map V.int) (ns.map PyData.int)
  | [] => .nil
  | n :: r => .cons (.int n) (dps_ints r)
theorem ints_lay : ∀ ns : List Int, PyData.canLayAll0 (ns.map PyData.int) = true
  | [] => by simp [PyData.canLayAll0]
  | x :: r => by simp [PyData.canLayAll0, PyData.canLay0, ints_lay r]
theorem ints_dep : ∀ ns : List Int, PyData.depthAll (ns.map PyData.int) = 0
  | [] => by simp [PyData.depthAll]
  | x :: r => by simp [PyData.depthAll, PyData.depth, ints_dep r]
theorem ints_shaped (ns : List Int) : SeqAt.shaped (.list (ns.map PyData.int)) = true := by
  show (PyData.canLay0 (.list (ns.map PyData.int)) && decide (PyData.depth (.list (ns.map PyData.int)) ≤ 64)) = true
  rw [Bool.and_eq_true]
  refine ⟨by simp only [PyData.canLay0]; exact ints_lay ns, decide_eq_true ?_⟩
  simp only [PyData.depth, ints_dep]
  decide
theorem ints_nil (ns : List Int) : PyData.eqv (.list (ns.map PyData.int)) (.list []) = decide (ns = []) := by
  cases ns with
  | nil => simp [PyData.eqv, PyData.eqvAll]
  | cons x r => simp [PyData.eqv, PyData.eqvAll]
theorem ints_of : ∀ {zs : List V} {bs : List Int}, Paired (fun v b => v = V.int b) zs bs → zs = bs.map V.int
  | _, _, .nil => rfl
  | _, _, .cons h t => by rw [h, ints_of t]; rfl
theorem iV_at {r : List Nat} {i : Nat} (h : i < r.length) : (iV r)[i]? = some (V.int ((r.getD i 0 : Nat) : Int)) := by
  unfold iV
  rw [List.getElem?_map, List.getElem?_eq_getElem h, List.getD_eq_getElem?_getD, List.getElem?_eq_getElem h]
  rfl
theorem getD_lt {r : List Nat} {ds : List Dd} (lt : ∀ i ∈ r, i < ds.length) {i : Nat} (h : i < r.length) : r.getD i 0 < ds.length := by
  rw [List.getD_eq_getElem?_getD, List.getElem?_eq_getElem h]
  exact lt _ (List.getElem_mem h)
theorem dd_at {H : Hp} {ys : List V} {ds : List Dd} (dd : DdAll H ys ds) {i : Nat} (h : i < ds.length) : ∃ t, ys[i]? = some (.ref t) ∧ H t = some (.tup (dAt ds i).vs) := by
  have yl := Paired.length dd
  have hyk : ys[i]? = some ys[i] := List.getElem?_eq_getElem (by omega)
  obtain ⟨d, hd, t, et, ht⟩ := Paired.at dd hyk
  refine ⟨t, by rw [hyk, et], ?_⟩
  unfold dAt
  rw [List.getD_eq_getElem?_getD, hd]
  exact ht
theorem ok_hg {f : Addr} {fd : FuncData} (F : Fun K "_law_hangs" "_law_hangs" (top 50) f fd) (n : Nm mg) : FnOk P w K mg base CX0 1 f fd ["_law_deeds_here", "_law_row"] spHg := by
  refine F.ok scHg (fun vs H Q E h => ?_) (fun cdv A outer s H vs Q E hr h => ?_)
  · obtain ⟨D, a, ys, ds, r, rfl, _⟩ := h
    rfl
  · obtain ⟨D, a, ys, ds, r, rfl, hD, dd, ha, lt, r1000, q⟩ := h
    have N := scHg.nd
    refine ⟨_, pss_one (ps_ret (pe_cmpR (op_eqD hr.units)
      (pe_lc (own := [("_law_at", 2)]) (g := gName 2) rfl N (pi_range2 (by rfl) n.range (pa_cons pe_int (pa_cons (pe_callB call_len_seq (by rfl) n.len PySem.boot_len (pa_cons (pv 1) pa_nil)) pa_nil)))
        (blkOk_by (N := NHg) (sc := defScope (top 50)) (by decide +kernel)) (fun _ _ _ _ _ => pg_name (i := 2) N rfl (.inl rfl))
        (fun _ _ _ _ _ => pts_one (pt_cmpR op_ne (pe_ix (r := rIxT K) ix_tup (pe_ix (r := rIxL K) ix_list (pv 0) (pe_ix (r := rIxL K) ix_list (pv 1) (pe_op op_sub (pv 2) pe_int) (fun _ _ => rfl)) (fun _ _ => rfl)) pe_int (fun _ _ => rfl))
          (pe_ix (r := rIxT K) ix_tup (pe_ix (r := rIxL K) ix_list (pv 0) (pe_ix (r := rIxL K) ix_list (pv 1) (pv 2) (fun _ _ => rfl)) (fun _ _ => rfl)) pe_int (fun _ _ => rfl)) (nomark _)))
        (fun _ _ _ _ _ => pv 2)) (pe_lst pa_nil) (nomark _))), ?_⟩
    have ivl : (iV r).length = r.length := List.length_map _
    refine ⟨_, rfl, a, _, rfl, .inl (.inl (.inl ha)), 1, ((iV r).length : Int), rfl, ⟨by decide, by decide, by omega, by omega⟩, fun L hL => ?_⟩
    have en : (((iV r).length : Int) - 1).toNat = r.length - 1 := by omega
    rw [en]
    refine lc_mapRL (lo := 1) (n := r.length - 1) (G := fun _ v b => v = V.int b) (f := partF ds r) (fun _ _ _ _ _ _ z => z) (by omega) ?_ ?_
    · rintro x e H2 A B he rfl b ⟨zs, hz⟩ hA hB
      unfold rgI at he
      obtain ⟨i, hi, rfl⟩ := List.mem_map.mp he
      have hi2 := List.mem_range.mp hi
      have s2 := b.new hL
      have ha2 := s2 _ _ ha
      have hD2 := s2 _ _ hD
      have dd2 := DdAll.same s2 dd
      obtain ⟨t1, y1, h1⟩ := dd_at dd2 (getD_lt lt (i := i) (by omega))
      obtain ⟨t2, y2, h2⟩ := dd_at dd2 (getD_lt lt (i := i + 1) (by omega))
      have a1 : atI (iV r) (1 + (i : Int) - 1) = some (V.int ((r.getD i 0 : Nat) : Int)) := by
        rw [show (1 + (i : Int) - 1) = (i : Int) by omega]
        exact atI_nat (iV_at (by omega))
      have a2 : atI (iV r) (1 + (i : Int)) = some (V.int ((r.getD (i + 1) 0 : Nat) : Int)) := by
        rw [show (1 + (i : Int)) = ((i + 1 : Nat) : Int) by omega]
        exact atI_nat (iV_at (by omega))
      have tn : (1 + (i : Int)).toNat = i + 1 := by omega
      have efN : (dAt ds (r.getD i 0)).g = (dAt ds (r.getD (i + 1) 0)).p → partF ds r (1 + (i : Int)) = none := fun z => if_neg (by
        rw [tn]
        unfold partAt
        rw [Nat.add_sub_cancel]
        exact fun w => w z)
      have efY : (dAt ds (r.getD i 0)).g ≠ (dAt ds (r.getD (i + 1) 0)).p → partF ds r (1 + (i : Int)) = some (1 + (i : Int)) := fun z => if_pos (by
        rw [tn]
        unfold partAt
        rw [Nat.add_sub_cancel]
        exact z)
      refine ⟨rfl, _, rfl, _, rfl, _, rfl, _, _, rfl, rfl, a, _, _, _, rfl, rfl, .inl (.inl ha2), a1, D, ys, _, _, rfl, rfl, .inl (.inl hD2), atI_nat y1, t1, _, _, _, rfl, rfl, .inl (.inl h1), rfl, ?_⟩
      refine ⟨_, rfl, _, rfl, _, rfl, a, _, _, _, rfl, rfl, .inl (.inl ha2), a2, D, ys, _, _, rfl, rfl, .inl (.inl hD2), atI_nat y2, t2, _, _, _, rfl, rfl, .inl (.inl h2), rfl, ?_⟩
      refine ⟨rfl, !decide (V.int (dAt ds (r.getD i 0)).g = V.int (dAt ds (r.getD (i + 1) 0)).p), rfl, ?_⟩
      by_cases hp : (dAt ds (r.getD i 0)).g = (dAt ds (r.getD (i + 1) 0)).p
      · rw [decide_eq_true (by rw [hp])]
        exact iteF (hB H2 (efN hp) fun _ _ z => z)
      · rw [decide_eq_false (by simpa using hp)]
        exact iteT ⟨_, rfl, hA _ _ H2 (efY hp) (fun _ _ z => z) rfl⟩
    · intro zs H2 h1 h2 h3
      rw [ints_of h2] at h1
      have s2 := h3.new hL
      refine ⟨(by show 0 ≤ sizeLine; decide), fun e he => ?_⟩
      have s3 := same_upd (o := .lst []) he
      refine ⟨_, .list [], .lst (.inl (.inl (s3 _ _ h1))) (dps_ints _), .lst (.inl (.inl upd_same)) .nil, ints_shaped _, by decide +kernel, ?_⟩
      show Q (.bl (PyData.eqv (.list (((rgI 1 (r.length - 1)).filterMap (partF ds r)).map PyData.int)) (.list []))) _
      rw [ints_nil]
      exact q _ (s2.trans s3)
end
end L2.K23
end

section
set_option Elab.async false
set_option linter.all false
set_option maxRecDepth 100000
set_option maxHeartbeats 1000000
namespace L2.K23
open PySem PySem.Spec PyProof.Rows L2.Gd
/-! ### the law's blocks, and the program's courses -/
structure Blk where
  b : Option Int
  f : Option Int
  n : Int
  g : Int
  e : Int
  fo : Option Int
def noB : Blk := ⟨none, none, 0, 0, 0, none⟩
/-- never -/
def nev : Int := -(10 : Int) ^ 60
theorem nev_neg : nev < 0 := by decide
def fo1 (a b : Blk) : Option Int := match b.fo with
  | none => a.fo
  | some y => match a.fo with
    | none => some (y - a.g)
    | some x => some (if x = y - a.g then y - a.g else nev)
def mx (i j : Int) : Int := if j > i then j else i
theorem mx_max (i j : Int) : mx i j = max i j := by unfold mx; split <;> omega
def joinB (a b : Blk) : Option Blk := if a.n = 0 then some b else if b.n = 0 then some a else if a.f ≠ b.b then none else
  some ⟨a.b, b.f, a.n + b.n, a.g + b.g, mx a.e (b.e - a.g), fo1 a b⟩
def fo2 (a : Blk) : Option Int := match a.fo with
  | none => none
  | some x => some (if a.g = 0 then x else nev)
def timesB (o : Option Blk) (t : Int) : Option Blk := if t = 0 then some noB else match o with
  | none => none
  | some a => if t = 1 ∨ a.n = 0 then some a else if a.b ≠ a.f then none else
    some ⟨a.b, a.f, a.n * t, a.g * t, if a.g ≥ 0 then a.e else a.e - (t - 1) * a.g, fo2 a⟩
def deedB (d : Dd) : Blk := ⟨some d.p, some d.g, 1, d.c, mx 0 (0 - d.c), if d.w = "empty" then some 0 else none⟩
def itemB (g : PyData → Option Blk) (ds : List Dd) : PyData → Option Blk
  | .tuple [x, .int t] => timesB (g x) t
  | .int i => (ds[i.toNat]?).map deedB
  | _ => none
def blL (g : PyData → Option Blk) : List PyData → Blk → Option Blk
  | [], a => some a
  | it :: r, a => match (g it).bind (joinB a) with
    | none => none
    | some a' => blL g r a'
def blC : Nat → List Dd → PyData → Option Blk
  | 0, _, _ => none
  | k + 1, ds, d => match seqOf d with
    | some its => blL (itemB (blC k ds) ds) its noB
    | none => none
/-- where it may be done -/
def mayB (a : Blk) (s : Int) : Prop := a.e ≤ s ∧ ∀ x, a.fo = some x → s = x
structure Rel (c : Crs) (a : Blk) : Prop where
  n : a.n = c.n
  g : a.g = c.g
  b : a.b = c.b
  f : a.f = c.f
  n0 : 0 ≤ c.n
  o : c.o = true ↔ a.fo ≠ none
  e : c.o = false → a.e = c.e
  ov : c.v = true → c.o = true
  e0 : 0 ≤ a.e
  z : c.n = 0 → c = noC ∧ a = noB
  mm : c.n ≠ 0 → ∀ s, 0 ≤ s → (may c s ↔ mayB a s)
  nn : c.n ≠ 0 → ∀ s, 0 ≤ s → mayB a s → 0 ≤ s + c.g
def RelO : Option Crs → Option Blk → Prop
  | none, none => True
  | some c, some a => Rel c a
  | _, _ => False
theorem rel_no : Rel noC noB := ⟨rfl, rfl, rfl, rfl, Int.le_refl _, by decide, fun _ => rfl, (fun h => nomatch h), Int.le_refl _, fun _ => ⟨rfl, rfl⟩, fun h => absurd rfl h, fun h => absurd rfl h⟩
theorem rel_deed {m : Int} {d : Dd} (ok : d.Ok m) : Rel (deedC d) (deedB d) := by
  have ne : ¬ (("any" : Str) = "empty") := by decide +kernel
  rcases ok.w with ⟨w, c1, c2⟩ | ⟨w, c1, c2⟩
  · have w2 : ¬ d.w = "empty" := fun z => ne (w.symm.trans z)
    have dw : decide (d.w = "empty") = false := decide_eq_false w2
    have eo : (deedC d).o = false := dw
    have ev : (deedC d).v = false := rfl
    have ef : (deedB d).fo = none := if_neg w2
    have ee : (deedC d).e = (deedB d).e := rfl
    have eb : (deedB d).e = mx 0 (0 - d.c) := rfl
    have m0 := mx_max 0 (0 - d.c)
    refine ⟨rfl, rfl, rfl, rfl, by show (0 : Int) ≤ 1; decide, ?_, fun _ => rfl, fun h => (by rw [ev] at h; exact nomatch h), by omega, fun h => absurd h (by show ¬ (1 : Int) = 0; decide), fun _ s hs => ?_, fun _ s hs h => ?_⟩
    · rw [eo, ef]
      simp
    · unfold may mayB
      rw [eo, ev, ef, ee]
      simp
    · have := h.1
      show 0 ≤ s + d.c
      omega
  · have dw : decide (d.w = "empty") = true := decide_eq_true w
    have eo : (deedC d).o = true := dw
    have ev : (deedC d).v = false := rfl
    have ef : (deedB d).fo = some 0 := if_pos w
    have eb : (deedB d).e = mx 0 (0 - d.c) := rfl
    have ee : (deedC d).e = (deedB d).e := rfl
    have m0 := mx_max 0 (0 - d.c)
    refine ⟨rfl, rfl, rfl, rfl, by show (0 : Int) ≤ 1; decide, ?_, fun h => (by rw [eo] at h; exact nomatch h), fun _ => eo, by omega, fun h => absurd h (by show ¬ (1 : Int) = 0; decide), fun _ s hs => ?_, fun _ s hs h => ?_⟩
    · rw [eo, ef]
      simp
    · unfold may mayB
      rw [eo, ev, ef, ee, eb, m0]
      simp
      omega
    · show 0 ≤ s + d.c
      omega
theorem may_beh {a b : Crs} (av : a.v = true → a.o = true) (bv : b.v = true → b.o = true) (s : Int) : may ⟨a.b, b.f, a.n + b.n, a.g + b.g, needB a b, a.o || b.o, a.v || (b.v || vainB a b)⟩ s ↔ (may a s ∧ may b (s + a.g)) := by
  unfold may needB vainB
  cases hao : a.o <;> cases hbo : b.o <;> cases hav : a.v <;> cases hbv : b.v <;> simp <;> (try split) <;> omega
theorem may_join (a b : Blk) (s : Int) (h : 0 ≤ s) (nn : a.e ≤ s → (∀ x, a.fo = some x → s = x) → 0 ≤ s + a.g) : (mx a.e (b.e - a.g) ≤ s ∧ ∀ x, fo1 a b = some x → s = x) ↔ (mayB a s ∧ mayB b (s + a.g)) := by
  have nv := nev_neg
  have m0 := mx_max a.e (b.e - a.g)
  unfold mayB
  rw [m0]
  unfold fo1
  cases hb : b.fo with
  | none =>
    simp only
    constructor
    · rintro ⟨h1, h2⟩
      exact ⟨⟨by omega, h2⟩, by omega, fun x z => nomatch z⟩
    · rintro ⟨⟨h1, h2⟩, h3, _⟩
      exact ⟨by omega, h2⟩
  | some y =>
    cases ha : a.fo with
    | none =>
      simp only
      constructor
      · rintro ⟨h1, h2⟩
        have := h2 _ rfl
        exact ⟨⟨by omega, fun x z => nomatch z⟩, by omega, fun x z => by cases z; omega⟩
      · rintro ⟨⟨h1, h2⟩, h3, h4⟩
        have := h4 _ rfl
        exact ⟨by omega, fun x z => by cases z; omega⟩
    | some x0 =>
      simp only
      constructor
      · rintro ⟨h1, h2⟩
        have h3 := h2 _ rfl
        split at h3
        · exact ⟨⟨by omega, fun x z => by cases z; omega⟩, by omega, fun x z => by cases z; omega⟩
        · omega
      · rintro ⟨⟨h1, h2⟩, h3, h4⟩
        have h5 := h2 _ rfl
        have h6 := h4 _ rfl
        refine ⟨by omega, fun x z => ?_⟩
        cases z
        rw [if_pos (by omega)]
        omega
theorem fo1_none (a b : Blk) : fo1 a b ≠ none ↔ (a.fo ≠ none ∨ b.fo ≠ none) := by
  unfold fo1
  cases b.fo <;> cases a.fo <;> simp
theorem rel_beh {c c' : Crs} {a a' : Blk} (h : Rel c a) (h' : Rel c' a') : RelO (behC c c') (joinB a a') := by
  unfold behC joinB
  rw [h.n, h'.n]
  by_cases z : c.n = 0
  · rw [if_pos z, if_pos z]
    exact h'
  · rw [if_neg z, if_neg z]
    by_cases z' : c'.n = 0
    · rw [if_pos z', if_pos z']
      exact h
    · rw [if_neg z', if_neg z', h.f, h'.b]
      by_cases q : c.f ≠ c'.b
      · rw [if_pos q, if_pos q]
        trivial
      · rw [if_neg q, if_neg q]
        have hn := h.n0
        have hn' := h'.n0
        have ho := h.o
        have ho' := h'.o
        have mb := may_beh h.ov h'.ov
        have mj : ∀ s : Int, 0 ≤ s → ((mx a.e (a'.e - a.g) ≤ s ∧ ∀ x, fo1 a a' = some x → s = x) ↔ (mayB a s ∧ mayB a' (s + a.g))) := fun s hs => may_join a a' s hs fun h1 h2 => by rw [h.g]; exact h.nn z s hs ⟨h1, h2⟩
        have m0 := mx_max a.e (a'.e - a.g)
        have e0 := h.e0
        refine ⟨rfl, by show a.g + a'.g = _; rw [h.g, h'.g], h.b, h'.f, by show 0 ≤ c.n + c'.n; omega, ?_, fun ho0 => ?_, fun hv => ?_, by show 0 ≤ mx a.e (a'.e - a.g); omega, fun zz => ?_, fun _ s hs => ?_, fun _ s hs hm => ?_⟩
        · show (c.o || c'.o) = true ↔ fo1 a a' ≠ none
          rw [fo1_none, Bool.or_eq_true, ho, ho']
        · have ho0 : (c.o || c'.o) = false := ho0
          obtain ⟨o1, o2⟩ := Bool.or_eq_false_iff.mp ho0
          have e1 := h.e o1
          have e2 := h'.e o2
          show mx a.e (a'.e - a.g) = needB c c'
          unfold needB
          rw [o1, o2, e1, e2, h.g]
          rfl
        · have hv : (c.v || (c'.v || vainB c c')) = true := hv
          show (c.o || c'.o) = true
          cases hc : c.o with
          | true => rfl
          | false =>
            cases hc' : c'.o with
            | true => rfl
            | false =>
              have v1 : c.v = false := by
                cases w : c.v with
                | false => rfl
                | true => rw [h.ov w] at hc; exact nomatch hc
              have v2 : c'.v = false := by
                cases w : c'.v with
                | false => rfl
                | true => rw [h'.ov w] at hc'; exact nomatch hc'
              unfold vainB at hv
              rw [v1, v2, hc, hc'] at hv
              simp at hv
        · have zz : c.n + c'.n = 0 := zz
          omega
        · have k1 := mb s
          have k2 := mj s hs
          have k3 := h.mm z s hs
          refine k1.trans (Iff.trans ?_ k2.symm)
          rw [k3]
          constructor
          · rintro ⟨p1, p2⟩
            have nn := h.nn z s hs p1
            rw [h.g]
            exact ⟨p1, (h'.mm z' _ nn).mp p2⟩
          · rintro ⟨p1, p2⟩
            have nn := h.nn z s hs p1
            rw [h.g] at p2
            exact ⟨p1, (h'.mm z' _ nn).mpr p2⟩
        · obtain ⟨p1, p2⟩ := (mj s hs).mp hm
          have nn := h.nn z s hs p1
          rw [h.g] at p2
          have := h'.nn z' _ nn p2
          show 0 ≤ s + (c.g + c'.g)
          omega
theorem rel_oft {c : Crs} {a : Blk} (h : Rel c a) {t : Int} (ht : 1 ≤ t) : RelO (oftC c t) (timesB (some a) t) := by
  unfold oftC timesB
  rw [if_neg (show ¬ t = 0 by omega)]
  by_cases t1 : t = 1
  · rw [if_pos t1]
    show RelO (some c) (if t = 1 ∨ a.n = 0 then some a else _)
    rw [if_pos (.inl t1)]
    exact h
  · rw [if_neg t1]
    show RelO _ (if t = 1 ∨ a.n = 0 then some a else _)
    by_cases z : c.n = 0
    · have zz : t = 1 ∨ a.n = 0 := .inr (by rw [h.n]; exact z)
      rw [show (if t = 1 ∨ a.n = 0 then some a else if a.b ≠ a.f then none else some (⟨a.b, a.f, a.n * t, a.g * t, if a.g ≥ 0 then a.e else a.e - (t - 1) * a.g, fo2 a⟩ : Blk)) = some a from if_pos zz]
      obtain ⟨rfl, rfl⟩ := h.z z
      have e0 : (if noC.b ≠ noC.f then none else some (⟨noC.b, noC.f, noC.n * t, noC.g * t, if noC.o = true then noC.e else if noC.g < 0 then noC.e - (t - 1) * noC.g else noC.e, noC.o, if noC.o = true then (noC.v || !decide (noC.g = 0)) else noC.v⟩ : Crs)) = some noC := by
        rw [if_neg (show ¬ noC.b ≠ noC.f from fun q => q rfl)]
        show some (⟨none, none, 0 * t, 0 * t, 0, false, false⟩ : Crs) = some ⟨none, none, 0, 0, 0, false, false⟩
        rw [Int.zero_mul]
      rw [e0]
      exact rel_no
    · rw [if_neg (show ¬ (t = 1 ∨ a.n = 0) by rw [h.n]; omega), h.b, h.f]
      by_cases q : c.b ≠ c.f
      · rw [if_pos q, if_pos q]
        trivial
      · rw [if_neg q, if_neg q, h.n, h.g]
        have hn := h.n0
        have e0 := h.e0
        have pn : 0 < c.n * t := Int.mul_pos (by omega) (by omega)
        have nv := nev_neg
        -- the gain of all but one
        have eg : c.g * t = c.g + (t - 1) * c.g := by
          rw [Int.mul_comm c.g t, Int.sub_mul, Int.one_mul]
          omega
        have key : ∀ s, 0 ≤ s → (may ⟨c.b, c.f, c.n * t, c.g * t, if c.o = true then c.e else if c.g < 0 then c.e - (t - 1) * c.g else c.e, c.o, if c.o = true then (c.v || !decide (c.g = 0)) else c.v⟩ s ↔
            mayB ⟨c.b, c.f, c.n * t, c.g * t, if c.g ≥ 0 then a.e else a.e - (t - 1) * c.g, fo2 a⟩ s) := fun s hs => by
          have mm := h.mm z s hs
          unfold may mayB at mm ⊢
          unfold fo2
          rw [h.g]
          cases hc : c.o with
          | true =>
            have hf := h.o.mp hc
            cases ha : a.fo with
            | none => exact absurd ha hf
            | some x =>
              rw [hc, ha] at mm
              simp only [if_true, Bool.or_eq_false_iff] at mm ⊢
              by_cases g0 : c.g = 0
              · rw [decide_eq_true g0, if_pos (by omega), if_pos g0]
                simp only [Bool.not_true, and_true]
                exact mm
              · rw [decide_eq_false g0, if_neg g0]
                simp only [Bool.not_false, Bool.true_eq_false, and_false, false_and, false_iff]
                rintro ⟨_, h2⟩
                have := h2 _ rfl
                omega
          | false =>
            have hf : a.fo = none := by
              cases ha : a.fo with
              | none => rfl
              | some x =>
                have := h.o.mpr (by rw [ha]; simp)
                rw [hc] at this
                exact nomatch this
            have ee := h.e hc
            have hv : c.v = false := by
              cases w : c.v with
              | false => rfl
              | true => rw [h.ov w] at hc; exact nomatch hc
            rw [hf, hv, ee]
            simp only [Bool.false_eq_true, if_false, true_and]
            by_cases g0 : c.g < 0
            · rw [if_pos g0, if_neg (by omega)]
              exact ⟨fun h => ⟨h, fun x z => nomatch z⟩, fun h => h.1⟩
            · rw [if_neg g0, if_pos (by omega)]
              exact ⟨fun h => ⟨h, fun x z => nomatch z⟩, fun h => h.1⟩
        have g2 : c.g < 0 → (t - 1) * c.g ≤ 0 := fun g0 => Int.mul_nonpos_of_nonneg_of_nonpos (by omega) (by omega)
        have g3 : 0 ≤ c.g → 0 ≤ (t - 1) * c.g := fun g0 => Int.mul_nonneg (by omega) g0
        refine ⟨rfl, rfl, rfl, rfl, by show 0 ≤ c.n * t; omega, ?_, fun ho => ?_, fun hv => ?_, ?_, fun zz => absurd zz (by show ¬ c.n * t = 0; omega), fun _ => key, fun _ s hs hm => ?_⟩
        · show c.o = true ↔ fo2 a ≠ none
          rw [h.o]
          unfold fo2
          cases a.fo <;> simp
        · have ho : c.o = false := ho
          show (if c.g ≥ 0 then a.e else a.e - (t - 1) * c.g) = if c.o = true then c.e else if c.g < 0 then c.e - (t - 1) * c.g else c.e
          rw [h.e ho, ho]
          simp only [Bool.false_eq_true, if_false]
          by_cases g0 : c.g < 0
          · rw [if_pos g0, if_neg (by omega)]
          · rw [if_neg g0, if_pos (by omega)]
        · have hv : (if c.o = true then (c.v || !decide (c.g = 0)) else c.v) = true := hv
          show c.o = true
          cases hc : c.o with
          | true => rfl
          | false =>
            rw [hc] at hv
            have := h.ov hv
            rw [hc] at this
            exact nomatch this
        · show 0 ≤ if c.g ≥ 0 then a.e else a.e - (t - 1) * c.g
          split
          · exact e0
          · have := g2 (by omega)
            omega
        · have hm0 : (if c.g ≥ 0 then a.e else a.e - (t - 1) * c.g) ≤ s ∧ ∀ x, fo2 a = some x → s = x := hm
          obtain ⟨h1, h2⟩ := hm0
          show 0 ≤ s + c.g * t
          rw [eg]
          by_cases g0 : c.g ≥ 0
          · have := g3 g0
            omega
          · rw [if_neg g0] at h1
            cases ha : a.fo with
            | none =>
              have nn := h.nn z (s + (t - 1) * c.g) (by omega) ⟨by omega, fun x y => by rw [ha] at y; exact nomatch y⟩
              omega
            | some x =>
              unfold fo2 at h2
              rw [ha] at h2
              have := h2 _ rfl
              rw [if_neg (by rw [h.g]; omega)] at this
              omega
theorem itemF_of {hf : PyData → Bool} {m : Int} : ∀ {d : PyData}, itemF hf m d = true → (∃ i, d = .int i ∧ 0 ≤ i ∧ i < m) ∨ ∃ x t, d = .tuple [x, .int t] ∧ 0 ≤ t ∧ hf x = true
  | .none, h => nomatch h
  | .bool _, h => nomatch h
  | .str _, h => nomatch h
  | .list _, h => nomatch h
  | .dict _, h => nomatch h
  | .int i, h => by
    have h : (decide (0 ≤ i) && decide (i < m)) = true := h
    obtain ⟨h0, h1⟩ := Bool.and_eq_true_iff.mp h
    exact .inl ⟨i, rfl, of_decide_eq_true h0, of_decide_eq_true h1⟩
  | .tuple [], h => nomatch h
  | .tuple [_], h => nomatch h
  | .tuple (_ :: _ :: _ :: _), h => nomatch h
  | .tuple [x, .none], h => nomatch h
  | .tuple [x, .bool _], h => nomatch h
  | .tuple [x, .str _], h => nomatch h
  | .tuple [x, .list _], h => nomatch h
  | .tuple [x, .tuple _], h => nomatch h
  | .tuple [x, .dict _], h => nomatch h
  | .tuple [x, .int t], h => by
    have h : (decide (0 ≤ t) && hf x) = true := h
    obtain ⟨h0, h1⟩ := Bool.and_eq_true_iff.mp h
    exact .inr ⟨x, t, rfl, of_decide_eq_true h0, h1⟩
section
variable {m : Int} {ds : List Dd}
theorem rel_item (ok : ∀ d ∈ ds, d.Ok m) {k : Nat} (ih : ∀ d, hasF k ds.length d = true → RelO (cwC k ds d) (blC k ds d)) {d : PyData} (hf : itemF (hasF k ds.length) ds.length d = true) : RelO (itemC (cwC k ds) ds d) (itemB (blC k ds) ds d) := by
  rcases itemF_of hf with ⟨i, rfl, h0, h1⟩ | ⟨x, t, rfl, h0, hx⟩
  · have lt : i.toNat < ds.length := by omega
    show RelO ((ds[i.toNat]?).map deedC) ((ds[i.toNat]?).map deedB)
    rw [List.getElem?_eq_getElem lt]
    exact rel_deed (ok _ (List.getElem_mem lt))
  · show RelO ((if t > 0 then cwC k ds x else some noC).bind fun c => oftC c t) (timesB (blC k ds x) t)
    by_cases tp : t > 0
    · rw [if_pos tp]
      have r := ih x hx
      cases hc : cwC k ds x with
      | none =>
        cases hb : blC k ds x with
        | none =>
          show RelO none (timesB none t)
          unfold timesB
          rw [if_neg (by omega)]
          trivial
        | some a => rw [hc, hb] at r; exact r.elim
      | some c =>
        cases hb : blC k ds x with
        | none => rw [hc, hb] at r; exact r.elim
        | some a =>
          rw [hc, hb] at r
          exact rel_oft r (by omega)
    · obtain rfl : t = 0 := by omega
      rw [if_neg tp]
      unfold timesB
      rw [if_pos rfl]
      exact rel_no
theorem rel_list (ok : ∀ d ∈ ds, d.Ok m) {k : Nat} (ih : ∀ d, hasF k ds.length d = true → RelO (cwC k ds d) (blC k ds d)) : ∀ (its : List PyData) (c : Crs) (a : Blk), Rel c a → (∀ d ∈ its, itemF (hasF k ds.length) ds.length d = true) → RelO (cwL (itemC (cwC k ds) ds) its c) (blL (itemB (blC k ds) ds) its a)
  | [], c, a, h, _ => h
  | it :: its, c, a, h, hf => by
    have r := rel_item ok ih (hf it List.mem_cons_self)
    show RelO (match (itemC (cwC k ds) ds it).bind (behC c) with | none => none | some c' => cwL (itemC (cwC k ds) ds) its c') (match (itemB (blC k ds) ds it).bind (joinB a) with | none => none | some a' => blL (itemB (blC k ds) ds) its a')
    cases hc : itemC (cwC k ds) ds it with
    | none =>
      cases hb : itemB (blC k ds) ds it with
      | none => trivial
      | some a => rw [hc, hb] at r; exact r.elim
    | some c1 =>
      cases hb : itemB (blC k ds) ds it with
      | none => rw [hc, hb] at r; exact r.elim
      | some a1 =>
        rw [hc, hb] at r
        have r2 := rel_beh h r
        show RelO (match behC c c1 with | none => none | some c' => cwL (itemC (cwC k ds) ds) its c') (match joinB a a1 with | none => none | some a' => blL (itemB (blC k ds) ds) its a')
        cases hc2 : behC c c1 with
        | none =>
          cases hb2 : joinB a a1 with
          | none => trivial
          | some a => rw [hc2, hb2] at r2; exact r2.elim
        | some c2 =>
          cases hb2 : joinB a a1 with
          | none => rw [hc2, hb2] at r2; exact r2.elim
          | some a2 =>
            rw [hc2, hb2] at r2
            exact rel_list ok ih its c2 a2 r2 fun d hd => hf d (List.mem_cons_of_mem _ hd)
theorem rel_cw (ok : ∀ d ∈ ds, d.Ok m) : ∀ (k : Nat) (d : PyData), hasF k ds.length d = true → RelO (cwC k ds d) (blC k ds d)
  | 0, _, h => nomatch h
  | k + 1, d, h => by
    unfold hasF at h
    unfold cwC blC
    cases hs : seqOf d with
    | none => rw [hs] at h; exact nomatch h
    | some its =>
      rw [hs] at h
      exact rel_list ok (rel_cw ok k) its noC noB rel_no fun x hx => List.all_eq_true.mp h x hx
end
end L2.K23
end

section
set_option Elab.async false
set_option linter.all false
set_option maxRecDepth 100000
set_option maxHeartbeats 1000000
namespace L2.K23
open PySem PySem.Spec PyProof.Rows L2.Gd
/-! ### what hangs together has a course -/
def Hg : List Dd → Prop
  | [] => True
  | [_] => True
  | d :: e :: r => d.g = e.p ∧ Hg (e :: r)
def fsP (r : List Dd) : Option Int := r.head?.map (·.p)
def lsG (r : List Dd) : Option Int := r.getLast?.map (·.g)
theorem hg_app : ∀ (a b : List Dd), Hg (a ++ b) ↔ (Hg a ∧ Hg b ∧ ∀ x y, lsG a = some x → fsP b = some y → x = y)
  | [], b => by simp [Hg, lsG]
  | [d], [] => by simp [Hg, fsP]
  | [d], e :: b => by
    show (d.g = e.p ∧ Hg (e :: b)) ↔ (True ∧ Hg (e :: b) ∧ ∀ x y, lsG [d] = some x → fsP (e :: b) = some y → x = y)
    constructor
    · rintro ⟨h, k⟩
      refine ⟨trivial, k, fun x y hx hy => ?_⟩
      cases hx
      cases hy
      exact h
    · rintro ⟨_, k, h⟩
      exact ⟨h _ _ rfl rfl, k⟩
  | d :: e :: a, b => by
    show (d.g = e.p ∧ Hg ((e :: a) ++ b)) ↔ ((d.g = e.p ∧ Hg (e :: a)) ∧ Hg b ∧ ∀ x y, lsG (d :: e :: a) = some x → fsP b = some y → x = y)
    rw [hg_app (e :: a) b]
    have el : lsG (d :: e :: a) = lsG (e :: a) := by unfold lsG; rw [List.getLast?_cons_cons]
    rw [el]
    constructor
    · rintro ⟨h, k, l, m⟩
      exact ⟨⟨h, k⟩, l, m⟩
    · rintro ⟨⟨h, k⟩, l, m⟩
      exact ⟨h, k, l, m⟩
structure HgC (c : Crs) (r : List Dd) : Prop where
  h : Hg r
  b : c.b = fsP r
  f : c.f = lsG r
  n : c.n = r.length
def HgO : Option Crs → List Dd → Prop
  | none, r => ¬ Hg r
  | some c, r => HgC c r
theorem fsP_app {a b : List Dd} (h : a ≠ []) : fsP (a ++ b) = fsP a := by
  cases a with
  | nil => exact absurd rfl h
  | cons d r => rfl
theorem lsG_app {a b : List Dd} (h : b ≠ []) : lsG (a ++ b) = lsG b := by
  unfold lsG
  rw [List.getLast?_append]
  cases hb : b.getLast? with
  | none => exact absurd (List.getLast?_eq_none_iff.mp hb) h
  | some x => rfl
theorem fsP_some {a : List Dd} (h : a ≠ []) : ∃ x, fsP a = some x := by
  cases a with
  | nil => exact absurd rfl h
  | cons d r => exact ⟨d.p, rfl⟩
theorem lsG_some {a : List Dd} (h : a ≠ []) : ∃ x, lsG a = some x := by
  unfold lsG
  cases hb : a.getLast? with
  | none => exact absurd (List.getLast?_eq_none_iff.mp hb) h
  | some x => exact ⟨x.g, rfl⟩
theorem hg_no : HgC noC [] := ⟨trivial, rfl, rfl, rfl⟩
theorem hg_beh {a b : Crs} {r r' : List Dd} (ha : HgC a r) (hb : HgC b r') : HgO (behC a b) (r ++ r') := by
  unfold behC
  by_cases hr : r = []
  · subst hr
    rw [if_pos (by rw [ha.n]; rfl)]
    exact hb
  · rw [if_neg (by rw [ha.n]; intro z; exact hr (List.eq_nil_of_length_eq_zero (by omega)))]
    by_cases hr' : r' = []
    · subst hr'
      rw [if_pos (by rw [hb.n]; rfl), List.append_nil]
      exact ha
    · rw [if_neg (by rw [hb.n]; intro z; exact hr' (List.eq_nil_of_length_eq_zero (by omega)))]
      obtain ⟨x, ex⟩ := lsG_some hr
      obtain ⟨y, ey⟩ := fsP_some hr'
      by_cases q : a.f ≠ b.b
      · rw [if_pos q]
        intro h
        have := ((hg_app r r').mp h).2.2 x y ex ey
        exact q (by rw [ha.f, hb.b, ex, ey, this])
      · rw [if_neg q]
        have e : x = y := by
          have : a.f = b.b := Classical.not_not.mp q
          rw [ha.f, hb.b, ex, ey] at this
          exact Option.some.inj this
        refine ⟨(hg_app r r').mpr ⟨ha.h, hb.h, fun x' y' h1 h2 => ?_⟩, ?_, ?_, ?_⟩
        · rw [ex] at h1
          rw [ey] at h2
          cases h1
          cases h2
          exact e
        · rw [fsP_app hr]
          exact ha.b
        · rw [lsG_app hr']
          exact hb.f
        · show a.n + b.n = _
          rw [ha.n, hb.n, List.length_append]
          omega
theorem rep_ne {r : List Dd} (h : r ≠ []) (t : Nat) : rep (t + 1) r ≠ [] := by
  rw [rep_succ]
  intro z
  exact h (List.append_eq_nil_iff.mp z).1
theorem fsP_rep {r : List Dd} (t : Nat) (h : r ≠ []) : fsP (rep (t + 1) r) = fsP r := by rw [rep_succ, fsP_app h]
theorem lsG_rep {r : List Dd} (h : r ≠ []) : ∀ t, lsG (rep (t + 1) r) = lsG r
  | 0 => by
    rw [rep_succ]
    show lsG (r ++ []) = _
    rw [List.append_nil]
  | t + 1 => by rw [rep_succ, lsG_app (rep_ne h t), lsG_rep h t]
theorem hg_rep {r : List Dd} (hr : r ≠ []) (h : Hg r) (e : lsG r = fsP r) : ∀ t, Hg (rep t r)
  | 0 => trivial
  | t + 1 => by
    rw [rep_succ]
    refine (hg_app _ _).mpr ⟨h, hg_rep hr h e t, fun x y h1 h2 => ?_⟩
    cases t with
    | zero => exact nomatch h2
    | succ t =>
      rw [fsP_rep t hr, ← e, h1] at h2
      exact Option.some.inj h2
theorem hg_oft {c : Crs} {r : List Dd} (hc : HgC c r) {t : Nat} (ht : 1 ≤ t) : HgO (oftC c t) (rep t r) := by
  unfold oftC
  by_cases h1 : (t : Int) = 1
  · rw [if_pos h1]
    obtain rfl : t = 1 := by omega
    have e : rep 1 r = r := by rw [rep_succ]; unfold rep; simp
    rw [e]
    exact hc
  · rw [if_neg h1]
    have len : (rep t r).length = r.length * t := by
      unfold rep
      rw [List.length_flatten, List.map_replicate, List.sum_replicate_nat, Nat.mul_comm]
    by_cases hr : r = []
    · subst hr
      have eb : c.b = none := hc.b
      have ef : c.f = none := hc.f
      rw [if_neg (by rw [eb, ef]; simp), rep_nil]
      refine ⟨trivial, eb, ef, ?_⟩
      show c.n * (t : Int) = _
      rw [hc.n]
      simp
    · by_cases q : c.b ≠ c.f
      · rw [if_pos q]
        obtain ⟨k, rfl⟩ : ∃ k, t = k + 2 := ⟨t - 2, by omega⟩
        rw [rep_succ]
        intro h
        obtain ⟨x, ex⟩ := lsG_some hr
        obtain ⟨y, ey⟩ := fsP_some hr
        have := ((hg_app _ _).mp h).2.2 x y ex (by rw [fsP_rep k hr]; exact ey)
        exact q (by rw [hc.b, hc.f, ex, ey, this])
      · rw [if_neg q]
        have e : lsG r = fsP r := by
          have : c.b = c.f := Classical.not_not.mp q
          rw [hc.b, hc.f] at this
          exact this.symm
        obtain ⟨k, rfl⟩ : ∃ k, t = k + 1 := ⟨t - 1, by omega⟩
        refine ⟨hg_rep hr hc.h e _, ?_, ?_, ?_⟩
        · rw [fsP_rep k hr]
          exact hc.b
        · rw [lsG_rep hr k]
          exact hc.f
        · show c.n * ((k + 1 : Nat) : Int) = _
          rw [len, hc.n]
          exact (Int.natCast_mul _ _).symm
theorem nh_left {a b : List Dd} (h : ¬ Hg a) : ¬ Hg (a ++ b) := fun z => h ((hg_app a b).mp z).1
theorem nh_right {a b : List Dd} (h : ¬ Hg b) : ¬ Hg (a ++ b) := fun z => h ((hg_app a b).mp z).2.1
section
variable {m : Int} {ds : List Dd}
theorem hg_item {k : Nat} (ih : ∀ d r, unr k ds.length d = some r → HgO (cwC k ds d) (rowD ds r)) {d : PyData} {r : List Nat} (e : itemU (unr k ds.length) ds.length d = some r) :
    HgO (itemC (cwC k ds) ds d) (rowD ds r) := by
  match d, e with
  | .int i, e =>
    have e' : (if 0 ≤ i ∧ i < (ds.length : Int) then some [i.toNat] else none : Option (List Nat)) = some r := e
    by_cases h : 0 ≤ i ∧ i < (ds.length : Int)
    · rw [if_pos h] at e'
      obtain rfl := Option.some.inj e'
      have lt : i.toNat < ds.length := by omega
      have e1 : rowD ds [i.toNat] = [ds[i.toNat]] := by
        unfold rowD
        rw [List.map_cons, List.map_nil, List.getD_eq_getElem?_getD, List.getElem?_eq_getElem lt]
        rfl
      rw [e1]
      show HgO ((ds[i.toNat]?).map deedC) _
      rw [List.getElem?_eq_getElem lt]
      exact ⟨trivial, rfl, rfl, rfl⟩
    · rw [if_neg h] at e'
      exact nomatch e'
  | .tuple [x, .int t], e =>
    have e' : (if t < 0 then none else (unr k ds.length x).map fun r => (List.replicate t.toNat r).flatten) = some r := e
    by_cases h : t < 0
    · rw [if_pos h] at e'
      exact nomatch e'
    · rw [if_neg h] at e'
      obtain ⟨a, ea, rfl⟩ := Option.map_eq_some_iff.mp e'
      rw [rowD_rep]
      show HgO ((if t > 0 then cwC k ds x else some noC).bind fun c => oftC c t) _
      by_cases h0 : t > 0
      · rw [if_pos h0]
        have := ih x a ea
        obtain ⟨n, rfl⟩ : ∃ n : Nat, t = n := ⟨t.toNat, by omega⟩
        rw [Int.toNat_natCast]
        cases hc : cwC k ds x with
        | none =>
          rw [hc] at this
          obtain ⟨j, rfl⟩ : ∃ j, n = j + 1 := ⟨n - 1, by omega⟩
          rw [rep_succ]
          exact nh_left this
        | some c =>
          rw [hc] at this
          exact hg_oft this (by omega)
      · rw [if_neg h0]
        obtain rfl : t = 0 := by omega
        exact hg_no
theorem hg_list {k : Nat} (ih : ∀ d r, unr k ds.length d = some r → HgO (cwC k ds d) (rowD ds r)) :
    ∀ (its : List PyData) (c : Crs) (r0 : List Dd) (r : List Nat), HgC c r0 → unrL (unr k ds.length) ds.length its = some r → HgO (cwL (itemC (cwC k ds) ds) its c) (r0 ++ rowD ds r)
  | [], c, r0, r, hc, e => by
    obtain rfl := (Option.some.inj e).symm
    show HgC c (r0 ++ [])
    rw [List.append_nil]
    exact hc
  | it :: its, c, r0, r, hc, e => by
    have e' : (match itemU (unr k ds.length) ds.length it, unrL (unr k ds.length) ds.length its with | some a, some b => some (a ++ b) | _, _ => none : Option (List Nat)) = some r := e
    cases h1 : itemU (unr k ds.length) ds.length it with
    | none => rw [h1] at e'; exact nomatch e'
    | some a =>
      cases h2 : unrL (unr k ds.length) ds.length its with
      | none => rw [h1, h2] at e'; exact nomatch e'
      | some b =>
        rw [h1, h2] at e'
        obtain rfl := (Option.some.inj e').symm
        rw [rowD_app, ← List.append_assoc]
        have si := hg_item ih h1
        show HgO (match (itemC (cwC k ds) ds it).bind (behC c) with | none => none | some c' => cwL (itemC (cwC k ds) ds) its c') _
        cases hi : itemC (cwC k ds) ds it with
        | none =>
          rw [hi] at si
          exact nh_left (nh_right si)
        | some ci =>
          rw [hi] at si
          have sb := hg_beh hc si
          show HgO (match behC c ci with | none => none | some c' => cwL (itemC (cwC k ds) ds) its c') _
          cases hb : behC c ci with
          | none =>
            rw [hb] at sb
            exact nh_left sb
          | some c' =>
            rw [hb] at sb
            exact hg_list ih its c' _ b sb h2
theorem hg_cw : ∀ (k : Nat) (d : PyData) (r : List Nat), unr k ds.length d = some r → HgO (cwC k ds d) (rowD ds r)
  | 0, _, _, e => nomatch e
  | k + 1, d, r, e => by
    unfold unr at e
    unfold cwC
    cases hs : seqOf d with
    | none => rw [hs] at e; exact nomatch e
    | some its =>
      rw [hs] at e
      exact hg_list (hg_cw k) its noC [] r hg_no e
/-! the law's own look -/
theorem hg_at (z : Dd) : ∀ (l : List Dd), Hg l ↔ ∀ i, i + 1 < l.length → (l.getD i z).g = (l.getD (i + 1) z).p
  | [] => by simp [Hg]
  | [d] => by
    constructor
    · intro _ i h
      have h : i + 1 < 1 := h
      omega
    · exact fun _ => trivial
  | d :: e :: r => by
    show (d.g = e.p ∧ Hg (e :: r)) ↔ _
    rw [hg_at z (e :: r)]
    constructor
    · rintro ⟨h, k⟩ i hi
      cases i with
      | zero => exact h
      | succ i => exact k i (by have : i + 1 + 1 < (e :: r).length + 1 := hi; omega)
    · intro h
      exact ⟨h 0 (by show 0 + 1 < (e :: r).length + 1; rw [List.length_cons]; omega), fun i hi => h (i + 1) (by show i + 1 + 1 < (e :: r).length + 1; omega)⟩
theorem hangs_hg (ds : List Dd) (r : List Nat) : hangsB ds r = true ↔ Hg (rowD ds r) := by
  unfold hangsB
  rw [decide_eq_true_eq, hg_at rowD.d00]
  have len : (rowD ds r).length = r.length := List.length_map _
  have at_ : ∀ i, i < r.length → (rowD ds r).getD i rowD.d00 = dAt ds (r.getD i 0) := fun i hi => by
    have h1 : r.getD i 0 = r[i] := by rw [List.getD_eq_getElem?_getD, List.getElem?_eq_getElem hi]; rfl
    have h2 : (rowD ds r).getD i rowD.d00 = (rowD ds r)[i]'(by rw [len]; exact hi) := by rw [List.getD_eq_getElem?_getD, List.getElem?_eq_getElem (by rw [len]; exact hi)]; rfl
    rw [h1, h2]
    unfold rowD
    rw [List.getElem_map]
    rfl
  rw [len]
  have mem : ∀ x : Int, x ∈ rgI 1 (r.length - 1) ↔ ∃ i : Nat, i < r.length - 1 ∧ x = 1 + (i : Int) := fun x => by
    unfold rgI
    simp only [List.mem_map, List.mem_range]
    constructor
    · rintro ⟨i, h, e⟩
      exact ⟨i, h, e.symm⟩
    · rintro ⟨i, h, e⟩
      exact ⟨i, h, e.symm⟩
  rw [List.filterMap_eq_nil_iff]
  constructor
  · intro h i hi
    have := h (1 + (i : Int)) ((mem _).mpr ⟨i, by omega, rfl⟩)
    unfold partF at this
    have e1 : (1 + (i : Int)).toNat = i + 1 := by omega
    rw [e1] at this
    split at this
    · exact nomatch this
    · rename_i q
      unfold partAt at q
      rw [at_ i (by omega), at_ (i + 1) (by omega)]
      exact Classical.not_not.mp q
  · intro h x hx
    obtain ⟨i, hi, rfl⟩ := (mem x).mp hx
    have := h i (by omega)
    rw [at_ i (by omega), at_ (i + 1) (by omega)] at this
    unfold partF
    have e1 : (1 + (i : Int)).toNat = i + 1 := by omega
    rw [e1, if_neg]
    unfold partAt
    exact fun q => q this
/-! ### how great they are -/
structure Bd (c : Crs) (W : Nat) : Prop where
  n : c.n.natAbs ≤ W
  g : c.g.natAbs ≤ W
theorem bd_beh {a b c : Crs} {W W' : Nat} (ha : Bd a W) (hb : Bd b W') (e : behC a b = some c) : Bd c (W + W') := by
  have h1 := ha.n
  have h2 := ha.g
  have h3 := hb.n
  have h4 := hb.g
  unfold behC at e
  split at e
  · obtain rfl := Option.some.inj e
    exact ⟨by omega, by omega⟩
  · split at e
    · obtain rfl := Option.some.inj e
      exact ⟨by omega, by omega⟩
    · split at e
      · exact nomatch e
      · obtain rfl := Option.some.inj e
        exact ⟨by show (a.n + b.n).natAbs ≤ _; omega, by show (a.g + b.g).natAbs ≤ _; omega⟩
theorem bd_oft {a c : Crs} {W : Nat} {t : Int} (ha : Bd a W) (t0 : 0 ≤ t) (e : oftC a t = some c) : Bd c ((t.toNat + 1) * (W + 1)) := by
  have h1 := ha.n
  have h2 := ha.g
  have k : W * t.toNat ≤ (t.toNat + 1) * (W + 1) := by
    rw [Nat.mul_comm W]
    exact Nat.mul_le_mul (Nat.le_succ _) (Nat.le_succ _)
  have k1 : W ≤ (t.toNat + 1) * (W + 1) := Nat.le_trans (Nat.le_succ W) (Nat.le_mul_of_pos_left _ (Nat.succ_pos _))
  have ab : ∀ x : Int, x.natAbs ≤ W → (x * t).natAbs ≤ (t.toNat + 1) * (W + 1) := fun x hx => by
    rw [Int.natAbs_mul]
    have : t.natAbs = t.toNat := by omega
    rw [this]
    exact Nat.le_trans (Nat.mul_le_mul_right _ hx) k
  unfold oftC at e
  split at e
  · obtain rfl := Option.some.inj e
    exact ⟨by omega, by omega⟩
  · split at e
    · exact nomatch e
    · obtain rfl := Option.some.inj e
      exact ⟨ab _ h1, ab _ h2⟩
theorem bd_mono {c : Crs} {W W' : Nat} (h : Bd c W) (l : W ≤ W') : Bd c W' := ⟨Nat.le_trans h.n l, Nat.le_trans h.g l⟩
theorem bd_item (ok : ∀ d ∈ ds, d.Ok m) {k : Nat} (ih : ∀ d c, hasF k ds.length d = true → cwC k ds d = some c → Bd c (wt k d)) {d : PyData} (hf : itemF (hasF k ds.length) ds.length d = true) {c : Crs} (e : itemC (cwC k ds) ds d = some c) : Bd c (itemW (wt k) d) := by
  rcases itemF_of hf with ⟨i, rfl, h0, h1⟩ | ⟨x, t, rfl, h0, hx⟩
  · have lt : i.toNat < ds.length := by omega
    have e : (ds[i.toNat]?).map deedC = some c := e
    rw [List.getElem?_eq_getElem lt] at e
    obtain rfl := Option.some.inj e
    have o := ok _ (List.getElem_mem lt)
    refine ⟨by show (1 : Int).natAbs ≤ 1; decide, ?_⟩
    show (ds[i.toNat].c).natAbs ≤ 1
    rcases o.w with ⟨_, a, b⟩ | ⟨_, a, b⟩ <;> omega
  · have e : ((if t > 0 then cwC k ds x else some noC).bind fun c => oftC c t) = some c := e
    obtain ⟨c0, hc0, e2⟩ := Option.bind_eq_some_iff.mp e
    show Bd c ((t.toNat + 1) * (wt k x + 1))
    split at hc0
    · exact bd_oft (ih x c0 hx hc0) h0 e2
    · obtain rfl := Option.some.inj hc0
      exact bd_oft (bd_mono ⟨Nat.le_refl 0, Nat.le_refl 0⟩ (Nat.zero_le _)) h0 e2
theorem bd_list (ok : ∀ d ∈ ds, d.Ok m) {k : Nat} (ih : ∀ d c, hasF k ds.length d = true → cwC k ds d = some c → Bd c (wt k d)) : ∀ (its : List PyData) (a : Crs) (W : Nat) (c : Crs), Bd a W → (∀ d ∈ its, itemF (hasF k ds.length) ds.length d = true) → cwL (itemC (cwC k ds) ds) its a = some c → Bd c (W + (its.map (itemW (wt k))).sum)
  | [], a, W, c, h, _, e => by
    obtain rfl := Option.some.inj e
    exact bd_mono h (Nat.le_add_right _ _)
  | it :: its, a, W, c, h, hf, e => by
    have e : (match (itemC (cwC k ds) ds it).bind (behC a) with | none => none | some c' => cwL (itemC (cwC k ds) ds) its c') = some c := e
    cases hc : itemC (cwC k ds) ds it with
    | none => rw [hc] at e; exact nomatch e
    | some c1 =>
      rw [hc] at e
      have e : (match behC a c1 with | none => none | some c' => cwL (itemC (cwC k ds) ds) its c') = some c := e
      cases hb : behC a c1 with
      | none => rw [hb] at e; exact nomatch e
      | some c2 =>
        rw [hb] at e
        have b1 := bd_item ok ih (hf it List.mem_cons_self) hc
        have := bd_list ok ih its c2 _ c (bd_beh h b1 hb) (fun d hd => hf d (List.mem_cons_of_mem _ hd)) e
        rw [List.map_cons, List.sum_cons, ← Nat.add_assoc]
        exact this
theorem bd_cw (ok : ∀ d ∈ ds, d.Ok m) : ∀ (k : Nat) (d : PyData) (c : Crs), hasF k ds.length d = true → cwC k ds d = some c → Bd c (wt k d)
  | 0, _, _, h, _ => nomatch h
  | k + 1, d, c, h, e => by
    unfold hasF at h
    unfold cwC at e
    unfold wt
    cases hs : seqOf d with
    | none => rw [hs] at h; exact nomatch h
    | some its =>
      rw [hs] at h e
      have := bd_list ok (bd_cw ok k) its noC 0 c ⟨Nat.le_refl 0, Nat.le_refl 0⟩ (fun x hx => List.all_eq_true.mp h x hx) e
      rw [Nat.zero_add] at this
      exact this
theorem bgC_of {c : Crs} {W : Nat} (h : Bd c W) (l : W < 2 ^ 99) : BgC c := by
  have e : (2 : Nat) ^ 99 ≤ 2 ^ 200 := Nat.pow_le_pow_right (by decide) (by decide)
  exact ⟨Nat.lt_of_le_of_lt h.n (Nat.lt_of_lt_of_le l e), Nat.lt_of_le_of_lt h.g (Nat.lt_of_lt_of_le l e)⟩
theorem wt_mem {k : Nat} {its : List PyData} {x : PyData} {t : Int} (h : .tuple [x, .int t] ∈ its) : (t.toNat + 1) * (wt k x + 1) ≤ (its.map (itemW (wt k))).sum := by
  have : itemW (wt k) (.tuple [x, .int t]) ≤ (its.map (itemW (wt k))).sum := by
    induction its with
    | nil => exact nomatch h
    | cons a r ih =>
      rw [List.map_cons, List.sum_cons]
      rcases List.mem_cons.mp h with rfl | h
      · exact Nat.le_add_right _ _
      · exact Nat.le_trans (ih h) (Nat.le_add_left _ _)
  exact this
theorem few_wt (ok : ∀ d ∈ ds, d.Ok m) : ∀ (k : Nat) (d : PyData), hasF k ds.length d = true → wt k d < 2 ^ 99 → few k ds d
  | 0, _, _, _ => trivial
  | k + 1, d, h, l => by
    intro its hs it hit x t e
    subst e
    unfold hasF at h
    unfold wt at l
    rw [hs] at h l
    have h : its.all (itemF (hasF k ds.length) ds.length) = true := h
    have l : (its.map (itemW (wt k))).sum < 2 ^ 99 := l
    have hf := List.all_eq_true.mp h _ hit
    rcases itemF_of hf with ⟨i, e, _⟩ | ⟨x', t', e, h0, hx⟩
    · exact nomatch e
    · cases e
      have w := wt_mem (k := k) hit
      have k1 : wt k x ≤ (t.toNat + 1) * (wt k x + 1) := Nat.le_trans (Nat.le_succ _) (Nat.le_mul_of_pos_left _ (Nat.succ_pos _))
      have k2 : t.toNat ≤ (t.toNat + 1) * (wt k x + 1) := Nat.le_trans (Nat.le_succ _) (Nat.le_mul_of_pos_right _ (Nat.succ_pos _))
      have lx : wt k x < 2 ^ 99 := Nat.lt_of_le_of_lt (Nat.le_trans k1 w) l
      refine ⟨?_, few_wt ok k x hx lx, fun c hc => bgC_of (bd_cw ok k x c hx hc) lx⟩
      have : t.natAbs = t.toNat := by omega
      rw [this]
      exact Nat.lt_of_le_of_lt (Nat.le_trans k2 w) l
end
end L2.K23
end

section
set_option Elab.async false
set_option linter.all false
set_option maxRecDepth 100000
set_option maxHeartbeats 2000000
namespace L2.K23
open PySem PySem.Spec PyProof.Rows L2.Gd
/-! ### a def that may raise -/
structure FnX (P : Program) (w : World) (K : PySem.W.Frag) (mg : Str → Option Value) (base : Heap) (k : Nat) (x : Str) (ps : List Str) (sp : Sp) : Prop where
  ex : ∃ f fd, mg x = some (.ref f) ∧ PySem.W.keepIn K (.ref f) = true ∧ Binds K fd ps [] ∧ FnOk P w K mg base (L2.CX P w) k f fd ps sp
theorem pe_fnX {X : Cx} {k : Nat} {x : Str} {ps : List Str} {sp : Sp} {e : Expr} {es : List Expr} {t : TA} {W : WX} {p pos : Pos}
    (F : FnX X.prog X.w X.K X.mg X.base k x ps sp) (hr : Room k X.A) (tk : Takes X W) (ha : PA X (e :: es) t) (gl : Gl X x := by rfl) (hdb : (x == ("__debug__" : Str)) = false := by decide)
    (he : starEach (e :: es) X.env = (false, eval e X.env) :: starEach es X.env := by rfl)
    (hpl : (backTo pos (starEach es X.env)).any (·.1) = false := by rfl) :
    PE X (.Call (.Name x p) (e :: es) [] pos) (tCallS sp (WE W) t) := by
  obtain ⟨f, fd, m, kp, b, G⟩ := F.ex
  exact pe_callS G hr gl m kp b (fun σ => passAt tk σ) ha hdb he hpl
/-- asked where it raises nothing -/
theorem FnOk.calm {P : Program} {w : World} {K : PySem.W.Frag} {mg : Str → Option Value} {base : Heap} {k : Nat} {f : Addr} {fd : FuncData} {ps : List Str} {sp sp' : Sp} (F : FnOk P w K mg base (L2.CX P w) k f fd ps sp) (h : ∀ vs H Q E, sp' vs H Q E → sp vs H Q (fun _ _ _ => False)) :
    FnOk P w K mg base CX0 k f fd ps sp' :=
  ⟨fun vs H Q E x => F.len vs H Q _ (h _ _ _ _ x), fun A outer s H args us vs Q E hr e0 hb r x => codeAny_mono (F.run A outer s H args us vs Q _ hr e0 hb r (h _ _ _ _ x)) fun r s' hq => by
    cases r with
    | ok fl => cases fl <;> exact hq
    | error e =>
      obtain ⟨_, _, _, _, _, _, _, _, _, _, _, _, z⟩ := hq
      exact z.elim⟩
/-! ### InvalidGoing, NotPlain -/
structure GoX (P : Program) (w : World) (K : PySem.W.Frag) (mg : Str → Option Value) (base : Heap) (CG : Addr) (spI : Sp) : Prop where
  T : OexC K CG
  X : XfC K CG
  no : PySem.W.findIn K (.ref CG) "value" = some none
  g : mg "InvalidGoing" = some (.ref CG)
  te : PySem.W.exmOne K (.ref CG) (.ref CG) = some true
  ini : ∃ fI fd, PySem.W.findIn K (.ref CG) "__init__" = some (some (.ref fI)) ∧ PySem.W.typeIn K (.ref fI) = some (.type "function") ∧ Binds K fd ["self", "value"] [] ∧ FnOk P w K mg base CX0 1 fI fd ["self", "value"] spI
structure PlX (K : PySem.W.Frag) (mg : Str → Option Value) (CN : Addr) : Prop where
  q : PySem.W.excIn K CN [.type "RuntimeError", .type "Exception", .type "BaseException", .type "object"] "RuntimeError.__new__" = true
  g : mg "NotPlain" = some (.ref CN)
  k : PySem.W.keepIn K (.ref CN) = true
  ex : PySem.W.subIn K (.ref CN) (.type "BaseException") = some true
  ty : PySem.W.typeIn K (.ref CN) = some (.type "type")
  te : PySem.W.exmOne K (.ref CN) (.ref CN) = some true
def spGI (CG : Addr) : Sp := fun vs H Q _ => ∃ (a : Addr) (v : V), vs = [.ref a, v] ∧ H a = some (exo a CG none) ∧ ∀ dx, H dx = none → dx ≠ a → Q .non (upd (upd H dx (exd dx [(("value" : Str), v)])) a (exo a CG (some dx)))
theorem scGI : FnScope ["self", "value"] ["self", "value"] (defScope (inClass (top 9) 0)) := ⟨rfl, rfl, rfl, by decide +kernel, rfl, by decide +kernel, by decide +kernel⟩
section
variable {P : Program} {w : World} {K : PySem.W.Frag} {mg : Str → Option Value} {base : Heap} {C C2 CG CN : Addr}
theorem ok_gi {f : Addr} {fd : FuncData} (F : Fun K "__init__" "InvalidGoing.__init__" (inClass (top 9) 0) f fd) (T : OexC K CG) (no : PySem.W.findIn K (.ref CG) "value" = some none) : FnOk P w K mg base CX0 1 f fd ["self", "value"] (spGI CG) := by
  refine F.ok scGI (fun vs H Q E h => ?_) (fun cdv A outer s H vs Q E hr h => ?_)
  · obtain ⟨a, v, rfl, _⟩ := h
    rfl
  · obtain ⟨a, v, rfl, ha, q⟩ := h
    refine ⟨_, pss_one (ps_ost (pv 0) (pv 1)), ?_⟩
    exact ⟨_, rfl, _, rfl, a, CG, rfl, T, no, .inl ⟨ha, fun dx n ne => q dx n ne⟩⟩
end
/-- what a made InvalidGoing leaves -/
theorem made_go {CG : Addr} {H : Hp} {v : V} {Q : XK} (q : ∀ dx H', Same H H' → H' dx = some (.xd [(("value" : Str), v)]) → Q (.ref CG) (some dx) H') (a : Addr) (ha : H a = none) :
    spGI CG (.ref a :: ([v] ++ [])) (upd H a (exo a CG none)) (fun v' H2 => v' = .non ∧ ∃ (d : Addr) (fs : List (Str × V)), H2 a = some (exo a CG (some d)) ∧ H2 d = some (exd d fs) ∧ H d = none ∧ Q (.ref CG) (some d) (upd (del H2 a) d (.xd fs))) (fun _ _ _ => False) := by
  refine ⟨a, v, rfl, upd_same, fun dx n ne => ⟨rfl, dx, [(("value" : Str), v)], upd_same, ?_, ?_, ?_⟩⟩
  · rw [upd_ne ne, upd_same]
  · rw [upd_ne ne] at n
    exact n
  · have n' : H dx = none := by
      rw [upd_ne ne] at n
      exact n
    refine q dx _ (fun b u e => ?_) upd_same
    have nb : b ≠ dx := ne_of_none e n'
    have na : b ≠ a := ne_of_none e ha
    rw [upd_ne nb, del_ne na, upd_ne na, upd_ne nb, upd_ne na]
    exact e
section
variable {X : Cx} {C : Addr} {bmB : List Value} {B newId initId : String} {x : Str} {p pos : Pos}
/-- X(), X an own exception class without own __init__ -/
theorem pmk_own0 (F : ExcBaseFacts B newId initId bmB) (q : PySem.W.excIn X.K C bmB newId = true) (gC : X.mg x = some (.ref C)) (kC : PySem.W.keepIn X.K (.ref C) = true) (r : Raises X (.ref C)) (hg : Gl X x) (hdb : (x == ("__debug__" : Str)) = false := by decide) :
    PMk X (.Call (.Name x p) [] [] pos) (fun _ H Q => Q (.ref C) none H) := by
  intro pins s σ H Q I h
  refine wpAny_Call_Name_kw (ld_glob I hg gC ?_ hdb)
  refine PySem.W.callWith_K0 (first := []) I.kIn kC ?_
  show wpAny _ _ (call (.ref C) []) _ _ _
  obtain ⟨bm, N, nm, qn, bs, hdct, sn, sub, ab, col, dd, k0, k1, k2, k3, k5, mN, hC, hN, hni, T⟩ := exc_obj I.kIn q
  refine wpAny_call_exc_subT F T hC hN hni (fun h' e hm => ?_) (Nat.zero_le _)
  exact mk_of I hm r h (I.hok.gone hm.new)
end
/-! ### course_of, gain_of, deeds_in, need_of, behind -/
/-- a house, and a value that is a going in form -/
structure GvAt (C2 : Addr) (q : Addr) (H : Hp) (h l : Addr) (m : Int) (xs : List V) (ds : List Dd) (v : V) (d : PyData) : Prop where
  hh : HouseL C2 H h l m xs ds
  n60 : ds.length ≤ 60
  dv : DV q H v d
  fw : hasF 4 ds.length d = true → few 4 ds d
theorem GvAt.same {C2 q h l : Addr} {H H' : Hp} {m : Int} {xs : List V} {ds : List Dd} {v : V} {d : PyData} (s : Same H H') (g : GvAt C2 q H h l m xs ds v d) : GvAt C2 q H' h l m xs ds v d := ⟨g.hh.same s, g.n60, g.dv.same s, g.fw⟩
/-- InvalidGoing(v) leaves -/
def Out (CG : Addr) (H : Hp) (v : V) (E : XK) : Prop := ∀ dx H', Same H H' → H' dx = some (.xd [(("value" : Str), v)]) → E (.ref CG) (some dx) H'
def spCO (C C2 CG : Addr) : Sp := fun vs H Q E => ∃ (q h l : Addr) (m : Int) (xs : List V) (ds : List Dd) (v : V) (d : PyData), vs = [.ref h, v] ∧ GvAt C2 q H h l m xs ds v d ∧
  match wholeC ds d with
  | some c => ∀ y H', Same H H' → CrsAt C H' y c → Q (.ref y) H'
  | none => Out CG H v E
def spFl (C2 CG : Addr) (g : Crs → Int) : Sp := fun vs H Q E => ∃ (q h l : Addr) (m : Int) (xs : List V) (ds : List Dd) (v : V) (d : PyData), vs = [.ref h, v] ∧ GvAt C2 q H h l m xs ds v d ∧
  match wholeC ds d with
  | some c => ∀ H', Same H H' → Q (.int (g c)) H'
  | none => Out CG H v E
def spNd (C2 CG CN : Addr) : Sp := fun vs H Q E => ∃ (q h l : Addr) (m : Int) (xs : List V) (ds : List Dd) (v : V) (d : PyData), vs = [.ref h, v] ∧ GvAt C2 q H h l m xs ds v d ∧
  match wholeC ds d with
  | some c => ∀ H', Same H H' → if c.o = true then E (.ref CN) none H' else Q (.int c.e) H'
  | none => Out CG H v E
def spBh (C2 CG : Addr) : Sp := fun vs H Q E => ∃ (q h l : Addr) (m p s : Int) (xs : List V) (ds : List Dd) (v : V) (d : PyData), vs = [.ref h, .int p, .int s, v] ∧ GvAt C2 q H h l m xs ds v d ∧ 0 ≤ p ∧ p < m ∧ 0 ≤ s ∧
  match wholeC ds d with
  | some c => (c.n ≠ 0 → ∃ f, c.f = some f) ∧ if fitsC c p s = true then ∀ t H', Same H H' → H' t = some (.tup [.int (if c.n = 0 then p else c.f.getD 0), .int (s + c.g)]) → Q (.ref t) H' else Out CG H v E
  | none => Out CG H v E
abbrev P2 : List Str := ["house", "going"]
theorem scCO : FnScope ["house", "going", "course"] P2 (defScope (top 30)) := ⟨rfl, rfl, rfl, by decide +kernel, rfl, by decide +kernel, by decide +kernel⟩
theorem scGa : FnScope P2 P2 (defScope (top 34)) := ⟨rfl, rfl, rfl, by decide +kernel, rfl, by decide +kernel, by decide +kernel⟩
theorem scNe : FnScope ["house", "going", "course"] P2 (defScope (top 35)) := ⟨rfl, rfl, rfl, by decide +kernel, rfl, by decide +kernel, by decide +kernel⟩
theorem scDI : FnScope P2 P2 (defScope (top 36)) := ⟨rfl, rfl, rfl, by decide +kernel, rfl, by decide +kernel, by decide +kernel⟩
abbrev P4 : List Str := ["house", "place", "start", "going"]
theorem scBh : FnScope ["house", "place", "start", "going", "course"] P4 (defScope (top 33)) := ⟨rfl, rfl, rfl, by decide +kernel, rfl, by decide +kernel, by decide +kernel⟩
section
variable {P : Program} {w : World} {K : PySem.W.Frag} {mg : Str → Option Value} {base : Heap} {C C2 CG CN : Addr}
theorem ok_co {f : Addr} {fd : FuncData} (F : Fun K "course_of" "course_of" (top 30) f fd) (G : GoX P w K mg base CG (spGI CG)) (CNo : Fn P w K mg base 9 "course_or_none" ["house", "value"] (spCN C C2)) : FnOk P w K mg base (L2.CX P w) 10 f fd P2 (spCO C C2 CG) := by
  refine F.okX scCO (fun vs H Q E h => ?_) (fun cdv A outer s H vs Q E hr h => ?_)
  · obtain ⟨q, h, l, m, xs, ds, v, d, rfl, _⟩ := h
    rfl
  · obtain ⟨q, h, l, m, xs, ds, v, d, rfl, g, k⟩ := h
    have N := scCO.nd
    obtain ⟨fI, fdI, iC, tI, bI, FI⟩ := G.ini
    have r2 := hr.mono (k := 9) (j := 2) (by decide)
    refine ⟨_, pss_cons (ps_set (i := 2) N rfl (.inl rfl) (pe_fn CNo hr (pa_cons (pv 0) (pa_cons (pv 1) pa_nil))))
      (pss_cons (ps_if (pt_cmp (pc_isN (pv 2))) (pss_one (ps_raise rfl (takes_of rfl rfl rfl rfl) (pmk_oex G.T iC tI FI r2 bI .nil pass0 rfl G.g (pa_cons (pv 1) pa_nil)))) pss_nil)
      (pss_one (ps_ret (pv 2)))), ?_⟩
    refine ⟨_, rfl, _, rfl, q, h, l, m, xs, ds, v, d, rfl, g.hh, g.n60, g.dv, g.fw, fun y H1 s1 cv => ?_⟩
    cases hc : wholeC ds d with
    | none =>
      rw [hc] at cv k
      obtain rfl : y = .non := cv
      refine ⟨_, rfl, true, rfl, iteT ⟨_, rfl, (by show 1 ≤ 1000; decide), fun a ha => ?_⟩⟩
      exact made_go (fun dx H' s2 hx => k dx H' (s1.trans s2) hx) a ha
    | some c =>
      rw [hc] at cv k
      obtain ⟨y, rfl, cv⟩ := cv
      exact ⟨_, rfl, false, rfl, iteF ⟨_, rfl, k y H1 s1 cv⟩⟩
theorem ok_ga {f : Addr} {fd : FuncData} (F : Fun K "gain_of" "gain_of" (top 34) f fd) (T : ClsC K mg C) (CO : FnX P w K mg base 10 "course_of" P2 (spCO C C2 CG)) : FnOk P w K mg base (L2.CX P w) 11 f fd P2 (spFl C2 CG Crs.g) := by
  refine F.okX scGa (fun vs H Q E h => ?_) (fun cdv A outer s H vs Q E hr h => ?_)
  · obtain ⟨q, h, l, m, xs, ds, v, d, rfl, _⟩ := h
    rfl
  · obtain ⟨q, h, l, m, xs, ds, v, d, rfl, g, k⟩ := h
    refine ⟨_, pss_one (ps_ret (pe_fld (pe_fnX CO hr (takes_of rfl rfl rfl rfl) (pa_cons (pv 0) (pa_cons (pv 1) pa_nil))) rfl)), ?_⟩
    refine ⟨_, rfl, _, rfl, q, h, l, m, xs, ds, v, d, rfl, g, ?_⟩
    cases hc : wholeC ds d with
    | none =>
      rw [hc] at k
      exact k
    | some c =>
      rw [hc] at k
      intro y H1 s1 cv
      obtain ⟨dx, hx⟩ := cv
      exact ⟨y, C, dx, _, _, rfl, hx, T.cl, T.ng, cf_g c, k H1 s1⟩
theorem ok_di {f : Addr} {fd : FuncData} (F : Fun K "deeds_in" "deeds_in" (top 36) f fd) (T : ClsC K mg C) (CO : FnX P w K mg base 10 "course_of" P2 (spCO C C2 CG)) : FnOk P w K mg base (L2.CX P w) 11 f fd P2 (spFl C2 CG Crs.n) := by
  refine F.okX scDI (fun vs H Q E h => ?_) (fun cdv A outer s H vs Q E hr h => ?_)
  · obtain ⟨q, h, l, m, xs, ds, v, d, rfl, _⟩ := h
    rfl
  · obtain ⟨q, h, l, m, xs, ds, v, d, rfl, g, k⟩ := h
    refine ⟨_, pss_one (ps_ret (pe_fld (pe_fnX CO hr (takes_of rfl rfl rfl rfl) (pa_cons (pv 0) (pa_cons (pv 1) pa_nil))) rfl)), ?_⟩
    refine ⟨_, rfl, _, rfl, q, h, l, m, xs, ds, v, d, rfl, g, ?_⟩
    cases hc : wholeC ds d with
    | none =>
      rw [hc] at k
      exact k
    | some c =>
      rw [hc] at k
      intro y H1 s1 cv
      obtain ⟨dx, hx⟩ := cv
      exact ⟨y, C, dx, _, _, rfl, hx, T.cl, T.nn, cf_n c, k H1 s1⟩
theorem ok_nd {f : Addr} {fd : FuncData} (F : Fun K "need_of" "need_of" (top 35) f fd) (T : ClsC K mg C) (NP : PlX K mg CN) (CO : FnX P w K mg base 10 "course_of" P2 (spCO C C2 CG)) : FnOk P w K mg base (L2.CX P w) 11 f fd P2 (spNd C2 CG CN) := by
  refine F.okX scNe (fun vs H Q E h => ?_) (fun cdv A outer s H vs Q E hr h => ?_)
  · obtain ⟨q, h, l, m, xs, ds, v, d, rfl, _⟩ := h
    rfl
  · obtain ⟨q, h, l, m, xs, ds, v, d, rfl, g, k⟩ := h
    have N := scNe.nd
    refine ⟨_, pss_cons (ps_set (i := 2) N rfl (.inl rfl) (pe_fnX CO hr (takes_of rfl rfl rfl rfl) (pa_cons (pv 0) (pa_cons (pv 1) pa_nil))))
      (pss_cons (ps_if (pt_val (pe_fld (pv 2) rfl)) (pss_one (ps_raise rfl (takes_of rfl rfl rfl rfl) (pmk_own0 PySem.F.excBase_RuntimeError NP.q NP.g NP.k (raises_own NP.ex NP.ty) rfl))) pss_nil)
      (pss_one (ps_ret (pe_fld (pv 2) rfl)))), ?_⟩
    refine ⟨_, rfl, _, rfl, q, h, l, m, xs, ds, v, d, rfl, g, ?_⟩
    cases hc : wholeC ds d with
    | none =>
      rw [hc] at k
      exact k
    | some c =>
      rw [hc] at k
      intro y H1 s1 cv
      obtain ⟨dx, hx⟩ := cv
      have k := k H1 s1
      refine ⟨_, rfl, y, C, dx, _, _, rfl, hx, T.cl, T.no, cf_o c, c.o, rfl, ?_⟩
      cases ho : c.o with
      | true =>
        rw [ho, if_pos rfl] at k
        exact iteT k
      | false =>
        rw [ho, if_neg (by decide)] at k
        exact iteF ⟨_, rfl, y, C, dx, _, _, rfl, hx, T.cl, T.ne, cf_e c, k⟩
theorem ok_bh {f : Addr} {fd : FuncData} (F : Fun K "behind" "behind" (top 33) f fd) (T : ClsC K mg C) (G : GoX P w K mg base CG (spGI CG)) (CP : Fn P w K mg base 3 "check_place" ["house", "place"] (spCP C2)) (CM : Fn P w K mg base 3 "check_many" ["many"] spCM)
    (CO : FnX P w K mg base 10 "course_of" P2 (spCO C C2 CG)) (FT : MeH P w K mg base C "fits" 1 ["self", "place", "start"] (spFits C)) : FnOk P w K mg base (L2.CX P w) 11 f fd P4 (spBh C2 CG) := by
  refine F.okX scBh (fun vs H Q E h => ?_) (fun cdv A outer s H vs Q E hr h => ?_)
  · obtain ⟨q, h, l, m, p, s, xs, ds, v, d, rfl, _⟩ := h
    rfl
  · obtain ⟨q, h, l, m, p, st, xs, ds, v, d, rfl, g, p0, pm, s0, k⟩ := h
    have N := scBh.nd
    obtain ⟨fI, fdI, iC, tI, bI, FI⟩ := G.ini
    have r1 := hr.mono (k := 10) (j := 1) (by decide)
    have r2 := hr.mono (k := 10) (j := 2) (by decide)
    have r3 := hr.mono (k := 10) (j := 3) (by decide)
    refine ⟨_, pss_cons (ps_expr (pe_fn CP r3 (pa_cons (pv 0) (pa_cons (pv 1) pa_nil)))) (pss_cons (ps_expr (pe_fn CM r3 (pa_cons (pv 2) pa_nil)))
      (pss_cons (ps_set (i := 4) N rfl (.inl rfl) (pe_fnX CO hr (takes_of rfl rfl rfl rfl) (pa_cons (pv 0) (pa_cons (pv 3) pa_nil))))
      (pss_cons (ps_if (pt_not (pt_val (pe_mH FT T.cl r1 (pv 4) (pa_cons (pv 1) (pa_cons (pv 2) pa_nil))))) (pss_one (ps_raise rfl (takes_of rfl rfl rfl rfl) (pmk_oex G.T iC tI FI r2 bI .nil pass0 rfl G.g (pa_cons (pv 3) pa_nil)))) pss_nil)
      (pss_one (ps_ret (pe_tup (pa_cons (pe_ifExp (pt_cmpR op_eq (pe_fld (pv 4) rfl) pe_int (nomark _)) (pv 1) (pe_fld (pv 4) rfl)) (pa_cons (pe_op op_add (pv 2) (pe_fld (pv 4) rfl)) pa_nil)))))))), ?_⟩
    refine ⟨_, rfl, _, rfl, h, l, m, p, xs, ds, rfl, g.hh, p0, pm, ?_⟩
    refine ⟨_, rfl, st, rfl, s0, ?_⟩
    refine ⟨_, rfl, _, rfl, q, h, l, m, xs, ds, v, d, rfl, g, ?_⟩
    cases hc : wholeC ds d with
    | none =>
      rw [hc] at k
      exact k
    | some c =>
      rw [hc] at k
      intro y H1 s1 cv
      obtain ⟨k1, k2⟩ := k
      obtain ⟨dx, hx⟩ := cv
      refine ⟨_, rfl, y, dx, _, rfl, hx, cf_fits c, _, rfl, _, rfl, y, c, p, st, rfl, ⟨dx, hx⟩, fitsC c p st, rfl, ?_⟩
      cases hf : fitsC c p st with
      | false =>
        rw [hf, if_neg (by decide)] at k2
        refine iteT ⟨_, rfl, (by show 1 ≤ 1000; decide), fun a ha => ?_⟩
        exact made_go (fun dx H' s2 hx => k2 dx H' (s1.trans s2) hx) a ha
      | true =>
        rw [hf, if_pos rfl] at k2
        refine iteF ?_
        refine ⟨_, rfl, y, C, dx, _, _, rfl, hx, T.cl, T.nn, cf_n c, rfl, decide (V.int c.n = V.int 0), rfl, ?_⟩
        by_cases c0 : c.n = 0
        · rw [decide_eq_true (by rw [c0])]
          refine iteT ⟨_, rfl, _, rfl, _, rfl, y, C, dx, _, _, rfl, hx, T.cl, T.ng, cf_g c, _, _, rfl, rfl, (by show 2 ≤ sizeLine; decide), fun t ht => k2 t _ (s1.trans (same_upd ht)) ?_⟩
          rw [if_pos c0]
          exact upd_same
        · rw [decide_eq_false (fun z => c0 (V.int.inj z))]
          obtain ⟨gg, hg⟩ := k1 c0
          refine iteF ⟨_, rfl, y, C, dx, _, _, rfl, hx, T.cl, T.nf, cf_f c, _, rfl, _, rfl, y, C, dx, _, _, rfl, hx, T.cl, T.ng, cf_g c, _, _, rfl, rfl, (by show 2 ≤ sizeLine; decide), fun t ht => k2 t _ (s1.trans (same_upd ht)) ?_⟩
          rw [if_neg c0, hg]
          exact upd_same
end
end L2.K23
end

section
set_option Elab.async false
set_option linter.all false
set_option maxRecDepth 100000
set_option maxHeartbeats 1000000
namespace L2.Tw
open PySem PySem.Spec PyProof.Rows
/-! try: .. except x1 as n: .. except x2: .., where one of both clauses takes whatever the body lets out -/
def wTwo (K : PySem.W.Frag) (N : List Str) (c1 : Value) (i : Nat) (ts1 : Addr → Value → Option Addr → TS) (c2 : Value) (ts2 : Addr → Value → Option Addr → TS) (D : Ends) : WX := fun cls d σ H =>
  (PySem.W.exmOne K cls c1 = some true ∧ (σ.length = N.length → ∀ a, H a = none → ts1 a cls d { nx := fun σ' H' => D.nx (σ'.set i none) H', rt := D.rt, bk := fun σ' H' => D.bk (σ'.set i none) H', ct := fun σ' H' => D.ct (σ'.set i none) H' } (σ.set i (some (.ref a))) H)) ∨
    (PySem.W.exmOne K cls c1 = some false ∧ PySem.W.exmOne K cls c2 = some true ∧ ∀ a, H a = none → ts2 a cls d D σ H)
variable {X : Cx} {x1 x2 n : Str} {c1 c2 : Value} {i : Nat} {body su1 su2 : List Stmt} {b1 b2 : Stmt} {np1 np2 pos q1 q2 : Pos} {tb : WX → TS} {ts1 ts2 : Addr → Value → Option Addr → TS}
/-- how a body or a suite that came to its end is told outside -/
theorem sp_map {X Y : Cx} {P1 P2 : List (Addr × Obj)} {D : Ends} {fl : Flow} {s : Shared} (g : ∀ {σ : L2.St} {H : Hp}, Inv Y P1 σ H s → Inv X P2 σ H s) (h : SP Y P1 D fl s) : SP X P2 D fl s := by
  cases fl with
  | ret u => exact let ⟨v, σ, H, I, r, q⟩ := h; ⟨v, σ, H, g I, r, q⟩
  | next => exact let ⟨σ, H, I, q⟩ := h; ⟨σ, H, g I, q⟩
  | brk => exact let ⟨σ, H, I, q⟩ := h; ⟨σ, H, g I, q⟩
  | cont => exact let ⟨σ, H, I, q⟩ := h; ⟨σ, H, g I, q⟩
theorem ps_try_two (hst : X.stack = X.env :: X.outer) (hfr : X.env.frame = some X.env.locals) (hN : X.N.Nodup) (hi : X.N[i]? = some n) (hln : X.env.kindOf n = some .local) (hc1 : Names X x1 c1) (hc2 : Names X x2 c2)
    (hb : ∀ (W : WX) (pn : List (Addr × Obj)) (xe : Value → Shared → Prop), Takes (X.tr pn xe) W → PassesOwn (model X.prog X.w) X.A X.env xe → PSs (X.tr pn xe) body (tb W))
    (h1 : ∀ (a : Addr) (oe : Obj) (cls : Value) (d : Option Addr) (pn : List (Addr × Obj)), Zc cls d oe → (∃ vs, oe.data = .fields vs) → PSs (X.suite a ((a, oe) :: pn)) (b1 :: su1) (ts1 a cls d))
    (h2 : ∀ (a : Addr) (oe : Obj) (cls : Value) (d : Option Addr) (pn : List (Addr × Obj)), Zc cls d oe → (∃ vs, oe.data = .fields vs) → PSs (X.suite a ((a, oe) :: pn)) (b2 :: su2) (ts2 a cls d)) :
    PS X (.Try body [.ExceptHandler (some (.Name x1 np1)) (some n) (b1 :: su1) q1, .ExceptHandler (some (.Name x2 np2)) none (b2 :: su2) q2] [] [] pos) (fun D σ H => tb (wTwo X.K X.N c1 i ts1 c2 ts2 D) D σ H) := by
  refine ⟨fun pins s σ H D I h => wpAny_Try_except ?_⟩
  have okX := I.ok
  have frX : X.A.frames = some (X.env :: X.outer) := okX.frames.trans (congrArg some hst)
  let F : Value → Shared → Prop := fun e s1 => wpAny (model X.prog X.w) X.A (noteFrame e X.env) (fun _ s2 => wpAny (model X.prog X.w) X.A (setFlight e none) (fun _ s3 =>
      wpAny (model X.prog X.w) X.A (handleBy e X.env [.ExceptHandler (some (.Name x1 np1)) (some n) (b1 :: su1) q1, .ExceptHandler (some (.Name x2 np2)) none (b2 :: su2) q2]) (SP X pins D) X.xe s3) X.xe s2) X.xe s1
  suffices takes : Takes (X.tr (X.pn ++ pins) F) (wTwo X.K X.N c1 i ts1 c2 ts2 D) by
    refine wpAny_mono ((hb _ (X.pn ++ pins) F takes PassesOwn.looking).run [] s σ H D (I.toTry F) h) (fun fl s1 hsp => ?_) fun e s1 he => he
    have hsp' : SP X pins D fl s1 := sp_map (fun J => J.ofTry okX) hsp
    cases fl with
    | next => exact wpAny_execs_nil hsp'
    | brk => exact hsp'
    | cont => exact hsp'
    | ret u => exact hsp'
  intro u s1 xx
  show wpAny (model X.prog X.w) X.A (noteFrame u X.env) _ _ _
  obtain ⟨a, B, sI, pins', σ1, H1, cls, d, rfl, J0, nb, up, sky, na, os, ag, way⟩ := xx
  have J : Inv X pins σ1 H1 sI := J0.ofTry okX
  have sky1 : Sky B (X.env :: X.outer) a (Zc cls d) X.env.locals s1.heap := hst ▸ sky
  refine Sky.land Zc.steady frX hfr sky1 fun g1 fly1 up1 => ?_
  have J1 : Inv X pins σ1 H1 { s1 with heap := g1 } := J.landed nb fly1.1 (up.trans up1) os ag
  obtain ⟨o1, vs1, e1, z1, d1⟩ := fly1.there
  have nf : a ∉ frs (X.env :: X.outer) := fun hm => by
    obtain ⟨_, o', e', hnf⟩ := fly1.2.2.1.mem hm
    cases e1.symm.trans e'
    exact hnf _ d1
  have nL : a ≠ X.env.locals := fun z => nf (List.mem_filterMap.mpr ⟨X.env, List.mem_cons_self, hfr.trans (congrArg some z.symm)⟩)
  have nF : a ∉ X.fs := fun hm => by
    obtain ⟨e, he, q⟩ := List.mem_filterMap.mp hm
    exact nf (List.mem_filterMap.mpr ⟨e, List.mem_cons_of_mem _ he, q⟩)
  have S1 := J1.suite e1 d1 na nL nF
  have looks : PySem.W.Looks (model X.prog X.w) g1 (typeOf (.ref a)) cls := fun A Q E s k q => wpAny_typeOf_ref (k _ _ e1) (z1.1 ▸ q)
  -- the class that a clause names
  have named : ∀ {x : Str} {np : Pos} {c : Value} {Q : Value → Shared → Prop} {E : Value → Shared → Prop}, Names X x c → Q c { s1 with heap := g1 } → wpAny (model X.prog X.w) (X.A.mark (some (.ref a))) (eval (.Name x np) X.env) Q E { s1 with heap := g1 } := fun {x np c Q E} hc q => by
    obtain ⟨hg, hdb, hm | ⟨hm, hv, hnn⟩⟩ := hc
    · exact ld_glob (X := X.suite a ((a, o1) :: (X.pn ++ pins))) S1 hg hm q hdb
    · exact ld_blt (X := X.suite a ((a, o1) :: (X.pn ++ pins))) S1 hg hm hv q hnn hdb
  refine wpAny_handleBy_cons (codeAny_handlers_test ?_) (by intro q; cases q)
  rcases way with ⟨m1, go⟩ | ⟨m1, m2, go⟩
  · refine named hc1 ((PySem.W.exm_one (M := model X.prog X.w) J1.kIn looks m1).here ?_)
    refine codeAny_handlers_suite_as (HandSPX.lands_againZ fly1 fun g2 fly2 up2 => ?_)
    have J2 : Inv X pins σ1 H1 { s1 with heap := g2 } := J.landed nb fly2.1 ((up.trans up1).trans up2) os ag
    obtain ⟨o2, vs2, e2, z2, d2⟩ := fly2.there
    refine store_ok (X := X.suite a ((a, o2) :: (X.pn ++ pins))) (v := .ref a) (J2.suite e2 d2 na nL nF) hN hi (.inl hln) rfl (fun s5 S5 => ?_) (.inr hln)
    refine wpAny_mono ((h1 a o2 cls d (X.pn ++ pins) z2 ⟨_, d2⟩).run [] s5 _ H1 _ S5 (go J.len a na)) (fun fl s6 hsp => ?_) fun _ _ z => False.elim z
    have behind : ∀ {σ6 : L2.St} {H6 : Hp} {Q : Shared → Prop}, Inv (X.suite a ((a, o2) :: (X.pn ++ pins))) [] σ6 H6 s6 → (∀ s7, Inv X pins (σ6.set i none) H6 s7 → Q s7) →
        wpAny (model X.prog X.w) X.A (do bindName X.env n .none; unbindBehindTheSuite X.env n q1) (fun _ s7 => Q s7) X.xe s6 := fun S6 hq => gone_ok (S6.unsuite okX) hN hi hln hq
    cases fl with
    | ret u => exact let ⟨v, σ6, H6, S6, r, q⟩ := hsp; behind S6 fun s7 J7 => ⟨v, _, _, J7, r, q⟩
    | next => exact let ⟨σ6, H6, S6, q⟩ := hsp; behind S6 fun s7 J7 => ⟨_, _, J7, q⟩
    | brk => exact let ⟨σ6, H6, S6, q⟩ := hsp; behind S6 fun s7 J7 => ⟨_, _, J7, q⟩
    | cont => exact let ⟨σ6, H6, S6, q⟩ := hsp; behind S6 fun s7 J7 => ⟨_, _, J7, q⟩
  · refine named hc1 ((PySem.W.exm_one (M := model X.prog X.w) J1.kIn looks m1).here ?_)
    refine wpAny_handleBy_cons (codeAny_handlers_test ?_) (by intro q; cases q)
    refine named hc2 ((PySem.W.exm_one (M := model X.prog X.w) J1.kIn looks m2).here ?_)
    refine codeAny_handlers_suite (HandSPX.lands_againZ fly1 fun g2 fly2 up2 => ?_)
    have J2 : Inv X pins σ1 H1 { s1 with heap := g2 } := J.landed nb fly2.1 ((up.trans up1).trans up2) os ag
    obtain ⟨o2, vs2, e2, z2, d2⟩ := fly2.there
    refine wpAny_mono ((h2 a o2 cls d (X.pn ++ pins) z2 ⟨_, d2⟩).run [] _ _ H1 _ (J2.suite e2 d2 na nL nF) (go a na)) (fun fl s6 hsp => ?_) fun _ _ z => False.elim z
    exact sp_map (fun S6 => S6.unsuite okX) hsp
end L2.Tw
end

section
set_option Elab.async false
set_option linter.all false
set_option maxRecDepth 100000
set_option maxHeartbeats 1000000
namespace L2.K23
open PySem PySem.Spec PyProof.Rows L2.Gd L2.Tw LamX
/-! ### _law_heard(lambda: ..) -/
def NHe : List Str := ["_law_call", "e"]
theorem scHe : FnScope NHe ["_law_call"] (defScope (top 58)) := ⟨rfl, rfl, rfl, by decide +kernel, rfl, by decide +kernel, by decide +kernel⟩
/-- what is heard of a call that lets InvalidGoing, or NotPlain, out -/
def EH (CG CN : Addr) (Q : VK) : XK := fun cls d H' => (cls = .ref CG ∧ ∃ (dd : Addr) (v : V), d = some dd ∧ H' dd = some (.xd [(("value" : Str), v)]) ∧ ∀ l, H' l = none → Q (.ref l) (upd H' l (.lst [.str "going", v]))) ∨ (cls = .ref CN ∧ Q (.str "not plain") H')
def TTh (CG CN : Addr) : (XK → Hp → VK → Prop) → Hp → VK → Prop := fun tl H Q => tl (EH CG CN Q) H Q
theorem heard_gives {X : Cx} {CG CN g : Addr} {cdg : Value} {q : Str} {spI : Sp} (G : GoX X.prog X.w X.K X.mg X.base CG spI) (NP : PlX X.K X.mg CN) (tn : PySem.W.exmOne X.K (.ref CN) (.ref CG) = some false) :
    GivesTo X NHe "_law_heard" (defScope (top 58)) g cdg (defBody (top 58)) "_law_call" q (TTh CG CN) := by
  intro f c' s H Q tl act hc h
  have N := scHe.nd
  refine ⟨_, pss_one (ps_try_two (X := (cxOf C8.CX0 X.prog X.w X.K X.mg X.base NHe "_law_heard" (defScope (top 58)) g cdg X.A X.stack s H C8.E0).nox) (i := 1) (n := "e") (c1 := .ref CG) (c2 := .ref CN)
      (tb := fun W D σ H => ∃ Ech : XK, (∀ cls d σ' H', Ech cls d H' → W cls d σ' H') ∧ σ[0]? = some (some (.ref f)) ∧ H c' = some (CodeO c' q) ∧ tl Ech H D.rt)
      rfl rfl N rfl rfl ⟨rfl, by decide, .inl G.g⟩ ⟨rfl, by decide, .inl NP.g⟩ (fun W pn xe tk _ => ?_)
      (fun a oe cls d pn hz hf => pss_one (ps_ret (pe_lst (pa_cons pe_str (pa_cons (pe_xf G.X G.no hz hf (pv 1)) pa_nil)))))
      (fun a oe cls d pn hz hf => pss_one (ps_ret pe_str))), ?_⟩
  · refine ⟨fun pins s' σ H' D I h' => ?_⟩
    obtain ⟨Ech, hW, h1, h2, h3⟩ := h'
    exact (pss_one (ps_ret (act W pn xe Ech _ _ tk hW))).run pins s' σ H' D I ⟨h1, h2, h3⟩
  · refine ⟨EH CG CN Q, fun cls d σ' H' z => ?_, rfl, hc, h⟩
    rcases z with ⟨rfl, dd, v, rfl, hd, k⟩ | ⟨rfl, k⟩
    · refine .inl ⟨G.te, fun hl a _ => ?_⟩
      have two : ∃ p q : Option V, σ' = [p, q] := by
        have hl : σ'.length = 2 := hl
        match σ', hl with
        | [p, q], _ => exact ⟨p, q, rfl⟩
      obtain ⟨p, q, rfl⟩ := two
      exact ⟨.ref a, rfl, rfl, rfl, dd, _, v, rfl, hd, rfl, (by show 2 ≤ sizeLine; decide), fun l hl => k l hl⟩
    · exact .inr ⟨tn, NP.te, fun a _ => k⟩
end L2.K23
end

section
set_option Elab.async false
set_option linter.all false
set_option maxRecDepth 100000
set_option maxHeartbeats 2000000
namespace L2.K23
open PySem PySem.Spec PyProof.Rows L2.Gd
/-! ### blocks in the law -/
def Blk.vs (a : Blk) : List V := [oV a.b, oV a.f, .int a.n, .int a.g, .int a.e, oV a.fo]
def BkV (H : Hp) : V → Option Blk → Prop
  | v, none => v = .non
  | v, some a => ∃ t, v = .ref t ∧ H t = some (.tup a.vs)
theorem BkV.same {H H' : Hp} {v : V} {o : Option Blk} (s : Same H H') (h : BkV H v o) : BkV H' v o := by
  cases o with
  | none => exact h
  | some a => exact let ⟨t, e, q⟩ := h; ⟨t, e, s _ _ q⟩
theorem BkV.isn {H : Hp} {v : V} {o : Option Blk} (h : BkV H v o) : decide (v = .non) = o.isNone := by
  cases o with
  | none =>
    obtain rfl : v = .non := h
    exact decide_eq_true rfl
  | some a =>
    obtain ⟨t, rfl, _⟩ := h
    exact decide_eq_false (by simp)
def BgB (a : Blk) : Prop := a.n.natAbs < 2 ^ 200 ∧ a.g.natAbs < 2 ^ 200
def spJo : Sp := fun vs H Q _ => ∃ (t : Addr) (y : V) (a : Blk) (ob : Option Blk), vs = [.ref t, y] ∧ H t = some (.tup a.vs) ∧ BkV H y ob ∧ ∀ v H', Same H H' → BkV H' v (ob.bind (joinB a)) → Q v H'
def spTi : Sp := fun vs H Q _ => ∃ (x : V) (o : Option Blk) (t : Int), vs = [x, .int t] ∧ BkV H x o ∧ 0 ≤ t ∧ t.natAbs < 2 ^ 99 ∧ (∀ a, o = some a → BgB a) ∧ ∀ v H', Same H H' → BkV H' v (timesB o t) → Q v H'
def NJo : List Str := ["_law_one", "_law_other", "_law_need", "_law_forced", "_law_number"]
theorem scJo : FnScope NJo ["_law_one", "_law_other"] (defScope (top 54)) := ⟨rfl, rfl, rfl, by decide +kernel, rfl, by decide +kernel, by decide +kernel⟩
def NTi : List Str := ["_law_block_here", "_law_times_here", "_law_need", "_law_forced"]
theorem scTi : FnScope NTi ["_law_block_here", "_law_times_here"] (defScope (top 55)) := ⟨rfl, rfl, rfl, by decide +kernel, rfl, by decide +kernel, by decide +kernel⟩
theorem tup_pos {a : Blk} : ∀ {k : Nat} {v : V}, a.vs[k]? = some v → a.vs[k]? = some v := fun h => h
theorem pow60 : (10 : Int) ^ (60 : Int).toNat = (10 : Int) ^ 60 := rfl
section
variable {P : Program} {w : World} {K : PySem.W.Frag} {mg : Str → Option Value} {base : Heap} {C : Addr}
theorem ok_jo {f : Addr} {fd : FuncData} (F : Fun K "_law_joined" "_law_joined" (top 54) f fd) (n : Nm mg) : FnOk P w K mg base CX0 1 f fd ["_law_one", "_law_other"] spJo := by
  refine F.ok scJo (fun vs H Q E h => ?_) (fun cdv A outer s H vs Q E hr h => ?_)
  · obtain ⟨t, y, a, ob, rfl, _⟩ := h
    rfl
  · obtain ⟨t, y, a, ob, rfl, ht, hb, k⟩ := h
    have N := scJo.nd
    refine ⟨_, pss_cons (ps_if (pw_or (pt_cmp (pc_isN (pv 0))) (pw_or (pt_cmp (pc_isN (pv 1))) (pw_or (pt_cmpR op_eq (pe_ix ix_tup (pv 0) pe_int (fun _ _ => rfl)) pe_int (nomark _)) (pw_or1 (pt_cmpR op_eq (pe_ix ix_tup (pv 1) pe_int (fun _ _ => rfl)) pe_int (nomark _)))))).pt
        (pss_one (ps_ret (pe_ifExp (pw_and (pt_cmp (pc_notN (pv 0))) (pw_and1 (pt_cmpR op_eq (pe_ix ix_tup (pv 0) pe_int (fun _ _ => rfl)) pe_int (nomark _)))).pt (pv 1) (pe_ifExp (pt_cmp (pc_notN (pv 1))) (pv 0) pe_non)))) pss_nil)
      (pss_cons (ps_if (pt_cmpR op_ne (pe_ix ix_tup (pv 0) pe_int (fun _ _ => rfl)) (pe_ix ix_tup (pv 1) pe_int (fun _ _ => rfl)) (nomark _)) (pss_one (ps_ret pe_non)) pss_nil)
      (pss_cons (ps_par (i := 2) (j := 3) rfl N rfl rfl (by decide) rfl rfl (pa_cons (pe_callB (call_max2 rfl) (by rfl) n.max (by decide +kernel) (pa_cons (pe_ix ix_tup (pv 0) pe_int (fun _ _ => rfl)) (pa_cons (pe_op op_sub (pe_ix ix_tup (pv 1) pe_int (fun _ _ => rfl)) (pe_ix ix_tup (pv 0) pe_int (fun _ _ => rfl))) pa_nil)))
          (pa_cons (pe_ix ix_tup (pv 0) pe_int (fun _ _ => rfl)) pa_nil)) (by rfl))
      (pss_cons (ps_if (pt_cmp (pc_notN (pe_ix ix_tup (pv 1) pe_int (fun _ _ => rfl))))
          (pss_cons (ps_set (i := 4) N rfl (.inl rfl) (pe_op op_sub (pe_ix ix_tup (pv 1) pe_int (fun _ _ => rfl)) (pe_ix ix_tup (pv 0) pe_int (fun _ _ => rfl))))
          (pss_one (ps_set (i := 3) N rfl (.inl rfl) (pe_ifExp (pw_or (pt_cmp (pc_isN (pv 3))) (pw_or1 (pt_cmpR op_eq (pv 3) (pv 4) (nomark _)))).pt (pv 4) (pe_un un_neg (pe_op op_pow pe_int pe_int)))))) pss_nil)
      (pss_one (ps_ret (pe_tup (pa_cons (pe_ix ix_tup (pv 0) pe_int (fun _ _ => rfl)) (pa_cons (pe_ix ix_tup (pv 1) pe_int (fun _ _ => rfl)) (pa_cons (pe_op op_add (pe_ix ix_tup (pv 0) pe_int (fun _ _ => rfl)) (pe_ix ix_tup (pv 1) pe_int (fun _ _ => rfl)))
        (pa_cons (pe_op op_add (pe_ix ix_tup (pv 0) pe_int (fun _ _ => rfl)) (pe_ix ix_tup (pv 1) pe_int (fun _ _ => rfl))) (pa_cons (pv 2) (pa_cons (pv 3) pa_nil)))))))))))), ?_⟩
    have cn : ∀ z : Int, decide (V.int z = V.int 0) = decide (z = 0) := fun z => by simp
    -- whether there is something on both sides
    refine seqV (Good := fun σ2 H2 => ∃ (u : Addr) (b : Blk), y = .ref u ∧ H u = some (.tup b.vs) ∧ ob = some b ∧ a.n ≠ 0 ∧ b.n ≠ 0 ∧ H = H2 ∧ σ2 = [some (.ref t), some y, none, none, none]) ?_ ?_
    · intro nx hnx
      cases ob with
      | none =>
        obtain rfl : y = .non := hb
        refine ⟨_, rfl, false, rfl, iteF ⟨_, rfl, true, rfl, iteT ?_⟩⟩
        refine ⟨_, rfl, true, rfl, iteT ⟨_, rfl, t, _, _, _, rfl, rfl, .inl (.inl ht), rfl, rfl, decide (a.n = 0), congrArg V.bl (cn _), ?_⟩⟩
        by_cases z : a.n = 0
        · rw [decide_eq_true z]
          exact iteT ⟨_, rfl, k .non H (fun _ _ z => z) rfl⟩
        · rw [decide_eq_false z]
          exact iteF ⟨_, rfl, false, rfl, iteF (k .non H (fun _ _ z => z) rfl)⟩
      | some b =>
        obtain ⟨u, rfl, hu⟩ := hb
        refine ⟨_, rfl, false, rfl, iteF ⟨_, rfl, false, rfl, iteF ⟨_, rfl, t, _, _, _, rfl, rfl, .inl (.inl ht), rfl, rfl, decide (a.n = 0), congrArg V.bl (cn _), ?_⟩⟩⟩
        by_cases z : a.n = 0
        · rw [decide_eq_true z]
          refine iteT ⟨_, rfl, true, rfl, iteT ⟨_, rfl, t, _, _, _, rfl, rfl, .inl (.inl ht), rfl, rfl, decide (a.n = 0), congrArg V.bl (cn _), ?_⟩⟩
          rw [decide_eq_true z]
          refine iteT ⟨_, rfl, k _ H (fun _ _ z => z) ?_⟩
          show BkV H (.ref u) (joinB a b)
          rw [show joinB a b = some b from if_pos z]
          exact ⟨u, rfl, hu⟩
        · rw [decide_eq_false z]
          refine iteF ⟨_, rfl, u, _, _, _, rfl, rfl, .inl (.inl hu), rfl, rfl, decide (b.n = 0), congrArg V.bl (cn _), ?_⟩
          by_cases z' : b.n = 0
          · rw [decide_eq_true z']
            refine iteT ⟨_, rfl, true, rfl, iteT ⟨_, rfl, t, _, _, _, rfl, rfl, .inl (.inl ht), rfl, rfl, decide (a.n = 0), congrArg V.bl (cn _), ?_⟩⟩
            rw [decide_eq_false z]
            refine iteF ⟨_, rfl, true, rfl, iteT ⟨_, rfl, k _ H (fun _ _ z => z) ?_⟩⟩
            show BkV H (.ref t) (joinB a b)
            rw [show joinB a b = some a by unfold joinB; rw [if_neg z, if_pos z']]
            exact ⟨t, rfl, ht⟩
          · rw [decide_eq_false z']
            exact iteF (hnx _ _ ⟨u, b, rfl, hu, rfl, z, z', rfl, rfl⟩)
    rintro _ _ ⟨u, b, rfl, hu, rfl, z, z', rfl, rfl⟩
    have k : ∀ v H', Same H H' → BkV H' v (joinB a b) → Q v H' := k
    unfold joinB at k
    rw [if_neg z, if_neg z'] at k
    refine seqV (Good := fun σ2 H2 => a.f = b.b ∧ H = H2 ∧ σ2 = [some (.ref t), some (.ref u), none, none, none]) ?_ ?_
    · intro nx hnx
      refine ⟨_, rfl, t, _, _, _, rfl, rfl, .inl (.inl ht), rfl, _, rfl, u, _, _, _, rfl, rfl, .inl (.inl hu), rfl, oV_scal2, !decide (a.f = b.b), congrArg (fun b => V.bl (!b)) (oV_dec2 _ _), ?_⟩
      by_cases hf : a.f = b.b
      · rw [decide_eq_true hf]
        exact iteF (hnx _ _ ⟨hf, rfl, rfl⟩)
      · rw [if_pos hf] at k
        rw [decide_eq_false hf]
        exact iteT (k .non H (fun _ _ z => z) rfl)
    rintro _ _ ⟨hf, rfl, rfl⟩
    rw [if_neg (fun q => q hf)] at k
    refine seqV (Good := fun σ2 H2 => H = H2 ∧ σ2 = [some (.ref t), some (.ref u), some (.int (mx a.e (b.e - a.g))), some (oV a.fo), none]) ?_ ?_
    · intro nx hnx
      refine ⟨_, rfl, t, _, _, _, rfl, rfl, .inl (.inl ht), rfl, _, rfl, u, _, _, _, rfl, rfl, .inl (.inl hu), rfl, _, rfl, t, _, _, _, rfl, rfl, .inl (.inl ht), rfl, _, _, rfl, rfl, _, _, rfl, ?_⟩
      exact ⟨_, rfl, t, _, _, _, rfl, rfl, .inl (.inl ht), rfl, _, _, rfl, hnx _ _ ⟨rfl, rfl⟩⟩
    rintro _ _ ⟨rfl, rfl⟩
    refine seqV (Good := fun σ2 H2 => ∃ x4, H = H2 ∧ σ2 = [some (.ref t), some (.ref u), some (.int (mx a.e (b.e - a.g))), some (oV (fo1 a b)), x4]) ?_ ?_
    · intro nx hnx
      refine ⟨_, rfl, u, _, _, _, rfl, rfl, .inl (.inl hu), rfl, ?_⟩
      have ef : fo1 a b = match b.fo with
        | none => a.fo
        | some y => match a.fo with
          | none => some (y - a.g)
          | some x => some (if x = y - a.g then y - a.g else nev) := rfl
      cases hbf : b.fo with
      | none =>
        rw [hbf] at ef
        refine ⟨false, by simp [oV], iteF (hnx _ _ ⟨none, rfl, by rw [ef]⟩)⟩
      | some z0 =>
        rw [hbf] at ef
        have eo : b.vs[5]? = some (V.int z0) := by show some (oV b.fo) = _; rw [hbf]; rfl
        refine ⟨true, by simp [oV], iteT ?_⟩
        refine ⟨_, rfl, u, _, _, V.int z0, rfl, rfl, .inl (.inl hu), eo, _, rfl, t, _, _, _, rfl, rfl, .inl (.inl ht), rfl, _, _, rfl, rfl, ?_⟩
        cases haf : a.fo with
        | none =>
          rw [haf] at ef
          refine ⟨_, rfl, true, rfl, iteT ⟨_, rfl, hnx _ _ ⟨some (.int (z0 - a.g)), rfl, ?_⟩⟩⟩
          rw [ef]
          rfl
        | some x0 =>
          rw [haf] at ef
          have ef : fo1 a b = some (if x0 = z0 - a.g then z0 - a.g else nev) := ef
          have en : (-(10 : Int) ^ (60 : Int).toNat) = nev := rfl
          refine ⟨_, rfl, false, rfl, iteF ⟨_, rfl, _, rfl, rfl, decide (x0 = z0 - a.g), congrArg V.bl (by simp [oV]), ?_⟩⟩
          by_cases e : x0 = z0 - a.g
          · rw [decide_eq_true e]
            refine iteT ⟨_, rfl, hnx _ _ ⟨some (.int (z0 - a.g)), rfl, ?_⟩⟩
            rw [ef, if_pos e]
            rfl
          · rw [decide_eq_false e]
            refine iteF ⟨_, _, rfl, rfl, ⟨by decide, by decide, by decide⟩, _, rfl, hnx _ _ ⟨some (.int (z0 - a.g)), rfl, ?_⟩⟩
            rw [ef, if_neg e, ← en]
            rfl
    rintro _ _ ⟨x4, rfl, rfl⟩
    refine ⟨_, rfl, t, _, _, _, rfl, rfl, .inl (.inl ht), rfl, _, rfl, u, _, _, _, rfl, rfl, .inl (.inl hu), rfl, _, rfl, t, _, _, _, rfl, rfl, .inl (.inl ht), rfl, _, rfl, u, _, _, _, rfl, rfl, .inl (.inl hu), rfl, _, _, rfl, rfl,
      _, rfl, t, _, _, _, rfl, rfl, .inl (.inl ht), rfl, _, rfl, u, _, _, _, rfl, rfl, .inl (.inl hu), rfl, _, _, rfl, rfl, _, rfl, _, rfl, (by show 6 ≤ sizeLine; decide), fun o ho => ?_⟩
    exact k _ _ (same_upd ho) ⟨o, rfl, upd_same⟩
theorem ok_ti {f : Addr} {fd : FuncData} (F : Fun K "_law_times" "_law_times" (top 55) f fd) : FnOk P w K mg base CX0 1 f fd ["_law_block_here", "_law_times_here"] spTi := by
  refine F.ok scTi (fun vs H Q E h => ?_) (fun cdv A outer s H vs Q E hr h => ?_)
  · obtain ⟨x, o, t, rfl, _⟩ := h
    rfl
  · obtain ⟨x, o, t, rfl, hb, t0, t99, bg, k⟩ := h
    have N := scTi.nd
    refine ⟨_, pss_cons (ps_if (pt_cmpR op_eq (pv 1) pe_int (nomark _)) (pss_one (ps_ret (pe_tup (pa_cons pe_non (pa_cons pe_non (pa_cons pe_int (pa_cons pe_int (pa_cons pe_int (pa_cons pe_non pa_nil))))))))) pss_nil)
      (pss_cons (ps_if (pw_or (pt_cmp (pc_isN (pv 0))) (pw_or (pt_cmpR op_eq (pv 1) pe_int (nomark _)) (pw_or1 (pt_cmpR op_eq (pe_ix ix_tup (pv 0) pe_int (fun _ _ => rfl)) pe_int (nomark _))))).pt (pss_one (ps_ret (pv 0))) pss_nil)
      (pss_cons (ps_if (pt_cmpR op_ne (pe_ix ix_tup (pv 0) pe_int (fun _ _ => rfl)) (pe_ix ix_tup (pv 0) pe_int (fun _ _ => rfl)) (nomark _)) (pss_one (ps_ret pe_non)) pss_nil)
      (pss_cons (ps_set (i := 2) N rfl (.inl rfl) (pe_ifExp (pt_cmpR op_ge (pe_ix ix_tup (pv 0) pe_int (fun _ _ => rfl)) pe_int (nomark _)) (pe_ix ix_tup (pv 0) pe_int (fun _ _ => rfl)) (pe_op op_sub (pe_ix ix_tup (pv 0) pe_int (fun _ _ => rfl)) (pe_op op_mulW (pe_op op_sub (pv 1) pe_int) (pe_ix ix_tup (pv 0) pe_int (fun _ _ => rfl))))))
      (pss_cons (ps_set (i := 3) N rfl (.inl rfl) (pe_ifExp (pw_or (pt_cmp (pc_isN (pe_ix ix_tup (pv 0) pe_int (fun _ _ => rfl)))) (pw_or1 (pt_cmpR op_eq (pe_ix ix_tup (pv 0) pe_int (fun _ _ => rfl)) pe_int (nomark _)))).pt (pe_ix ix_tup (pv 0) pe_int (fun _ _ => rfl)) (pe_un un_neg (pe_op op_pow pe_int pe_int))))
      (pss_one (ps_ret (pe_tup (pa_cons (pe_ix ix_tup (pv 0) pe_int (fun _ _ => rfl)) (pa_cons (pe_ix ix_tup (pv 0) pe_int (fun _ _ => rfl)) (pa_cons (pe_op op_mulW (pe_ix ix_tup (pv 0) pe_int (fun _ _ => rfl)) (pv 1))
        (pa_cons (pe_op op_mulW (pe_ix ix_tup (pv 0) pe_int (fun _ _ => rfl)) (pv 1)) (pa_cons (pv 2) (pa_cons (pv 3) pa_nil))))))))))))), ?_⟩
    have cn : ∀ z y : Int, decide (V.int z = V.int y) = decide (z = y) := fun z y => by simp
    unfold timesB at k
    refine seqV (Good := fun σ2 H2 => t ≠ 0 ∧ H = H2 ∧ σ2 = [some x, some (.int t), none, none]) ?_ ?_
    · intro nx hnx
      refine ⟨_, rfl, rfl, decide (t = 0), congrArg V.bl (cn _ _), ?_⟩
      by_cases z : t = 0
      · rw [decide_eq_true z]
        rw [if_pos z] at k
        refine iteT ⟨(by show 6 ≤ sizeLine; decide), fun o2 ho => ?_⟩
        exact k _ _ (same_upd ho) ⟨o2, rfl, upd_same⟩
      · rw [decide_eq_false z]
        exact iteF (hnx _ _ ⟨z, rfl, rfl⟩)
    rintro _ _ ⟨z, rfl, rfl⟩
    rw [if_neg z] at k
    refine seqV (Good := fun σ2 H2 => ∃ (u : Addr) (a : Blk), x = .ref u ∧ H u = some (.tup a.vs) ∧ o = some a ∧ ¬ (t = 1 ∨ a.n = 0) ∧ H = H2 ∧ σ2 = [some x, some (.int t), none, none]) ?_ ?_
    · intro nx hnx
      cases o with
      | none =>
        obtain rfl : x = .non := hb
        exact ⟨_, rfl, true, rfl, iteT ⟨_, rfl, k .non H (fun _ _ z => z) rfl⟩⟩
      | some a =>
        obtain ⟨u, rfl, hu⟩ := hb
        refine ⟨_, rfl, false, rfl, iteF ⟨_, rfl, rfl, decide (t = 1), congrArg V.bl (cn _ _), ?_⟩⟩
        by_cases t1 : t = 1
        · rw [decide_eq_true t1]
          have k := k (.ref u) H (fun _ _ z => z)
          refine iteT ⟨_, rfl, k ?_⟩
          show BkV H (.ref u) (if t = 1 ∨ a.n = 0 then some a else _)
          rw [if_pos (.inl t1)]
          exact ⟨u, rfl, hu⟩
        · rw [decide_eq_false t1]
          refine iteF ⟨_, rfl, u, _, _, _, rfl, rfl, .inl (.inl hu), rfl, rfl, decide (a.n = 0), congrArg V.bl (cn _ _), ?_⟩
          by_cases n0 : a.n = 0
          · rw [decide_eq_true n0]
            have k := k (.ref u) H (fun _ _ z => z)
            refine iteT ⟨_, rfl, k ?_⟩
            show BkV H (.ref u) (if t = 1 ∨ a.n = 0 then some a else _)
            rw [if_pos (.inr n0)]
            exact ⟨u, rfl, hu⟩
          · rw [decide_eq_false n0]
            exact iteF (hnx _ _ ⟨u, a, rfl, hu, rfl, fun q => q.elim t1 n0, rfl, rfl⟩)
    rintro _ _ ⟨u, a, rfl, hu, rfl, nz, rfl, rfl⟩
    have k : ∀ v H', Same H H' → BkV H' v (if t = 1 ∨ a.n = 0 then some a else if a.b ≠ a.f then none else some ⟨a.b, a.f, a.n * t, a.g * t, if a.g ≥ 0 then a.e else a.e - (t - 1) * a.g, fo2 a⟩) → Q v H' := k
    rw [if_neg nz] at k
    obtain ⟨bn, bgg⟩ := bg a rfl
    have m1 : CMulW (t - 1) a.g := wide_mul (a := 100) (by
      have e : (2 : Nat) ^ 100 = 2 * 2 ^ 99 := by decide
      rw [e]
      generalize (2 : Nat) ^ 99 = z9 at t99
      omega) bgg (by decide) (by decide) (by decide)
    refine seqV (Good := fun σ2 H2 => a.b = a.f ∧ H = H2 ∧ σ2 = [some (.ref u), some (.int t), none, none]) ?_ ?_
    · intro nx hnx
      refine ⟨_, rfl, u, _, _, _, rfl, rfl, .inl (.inl hu), rfl, _, rfl, u, _, _, _, rfl, rfl, .inl (.inl hu), rfl, oV_scal2, !decide (a.b = a.f), congrArg (fun b => V.bl (!b)) (oV_dec2 _ _), ?_⟩
      by_cases hf : a.b = a.f
      · rw [decide_eq_true hf]
        exact iteF (hnx _ _ ⟨hf, rfl, rfl⟩)
      · rw [if_pos hf] at k
        rw [decide_eq_false hf]
        exact iteT (k .non H (fun _ _ z => z) rfl)
    rintro _ _ ⟨hf, rfl, rfl⟩
    rw [if_neg (fun q => q hf)] at k
    refine seqV (Good := fun σ2 H2 => H = H2 ∧ σ2 = [some (.ref u), some (.int t), some (.int (if a.g ≥ 0 then a.e else a.e - (t - 1) * a.g)), none]) ?_ ?_
    · intro nx hnx
      refine ⟨_, rfl, u, _, _, _, rfl, rfl, .inl (.inl hu), rfl, _, _, rfl, rfl, decide (a.g ≥ 0), rfl, ?_⟩
      by_cases g0 : a.g ≥ 0
      · rw [decide_eq_true g0]
        rw [if_pos g0] at hnx
        exact iteT ⟨_, rfl, u, _, _, _, rfl, rfl, .inl (.inl hu), rfl, hnx _ _ ⟨rfl, rfl⟩⟩
      · rw [decide_eq_false g0]
        rw [if_neg g0] at hnx
        exact iteF ⟨_, rfl, u, _, _, _, rfl, rfl, .inl (.inl hu), rfl, _, rfl, _, _, rfl, rfl, _, rfl, u, _, _, _, rfl, rfl, .inl (.inl hu), rfl, _, _, rfl, rfl, m1, _, _, rfl, rfl, hnx _ _ ⟨rfl, rfl⟩⟩
    rintro _ _ ⟨rfl, rfl⟩
    refine seqV (Good := fun σ2 H2 => H = H2 ∧ σ2 = [some (.ref u), some (.int t), some (.int (if a.g ≥ 0 then a.e else a.e - (t - 1) * a.g)), some (oV (fo2 a))]) ?_ ?_
    · intro nx hnx
      have ef : fo2 a = match a.fo with
        | none => none
        | some x => some (if a.g = 0 then x else nev) := rfl
      refine ⟨_, rfl, u, _, _, _, rfl, rfl, .inl (.inl hu), rfl, ?_⟩
      cases haf : a.fo with
      | none =>
        rw [haf] at ef
        refine ⟨true, by simp [oV], iteT ⟨_, rfl, u, _, _, _, rfl, rfl, .inl (.inl hu), rfl, hnx _ _ ⟨rfl, ?_⟩⟩⟩
        rw [ef]
        show [_, _, _, some (oV a.fo)] = _
        rw [haf]
      | some x0 =>
        rw [haf] at ef
        have ef : fo2 a = some (if a.g = 0 then x0 else nev) := ef
        have en : (-(10 : Int) ^ (60 : Int).toNat) = nev := rfl
        refine ⟨false, by simp [oV], iteF ⟨_, rfl, u, _, _, _, rfl, rfl, .inl (.inl hu), rfl, rfl, decide (a.g = 0), congrArg V.bl (cn _ _), ?_⟩⟩
        by_cases g0 : a.g = 0
        · rw [decide_eq_true g0]
          refine iteT ⟨_, rfl, u, _, _, _, rfl, rfl, .inl (.inl hu), rfl, hnx _ _ ⟨rfl, ?_⟩⟩
          rw [ef, if_pos g0]
          show [_, _, _, some (oV a.fo)] = _
          rw [haf]
        · rw [decide_eq_false g0]
          refine iteF ⟨_, _, rfl, rfl, ⟨by decide, by decide, by decide⟩, _, rfl, hnx _ _ ⟨rfl, ?_⟩⟩
          rw [ef, if_neg g0, ← en]
          rfl
    rintro _ _ ⟨rfl, rfl⟩
    refine ⟨_, rfl, u, _, _, _, rfl, rfl, .inl (.inl hu), rfl, _, rfl, u, _, _, _, rfl, rfl, .inl (.inl hu), rfl, _, rfl, u, _, _, _, rfl, rfl, .inl (.inl hu), rfl, _, rfl, _, _, rfl, rfl, wide_mul bn t99 (by decide) (by decide) (by decide),
      _, rfl, u, _, _, _, rfl, rfl, .inl (.inl hu), rfl, _, rfl, _, _, rfl, rfl, wide_mul bgg t99 (by decide) (by decide) (by decide), _, rfl, _, rfl, (by show 6 ≤ sizeLine; decide), fun o2 ho => ?_⟩
    exact k _ _ (same_upd ho) ⟨o2, rfl, upd_same⟩
end
end L2.K23
end

section
set_option Elab.async false
set_option linter.all false
set_option maxRecDepth 100000
set_option maxHeartbeats 4000000
namespace L2.K23
open PySem PySem.Spec PyProof.Rows L2.Gd
/-! ### a block of items -/
def spBl (k : Nat) : Sp := fun vs H Q _ => ∃ (p D a : Addr) (ys : List V) (ds : List Dd) (m : Int) (d : PyData), vs = [.ref D, .ref a] ∧ H D = some (.lst ys) ∧ DdAll H ys ds ∧ (∀ d ∈ ds, d.Ok m) ∧ DV p H (.ref a) d ∧ hasF k ds.length d = true ∧ wt k d < 2 ^ 99 ∧
  ∀ v H', Same H H' → BkV H' v (blC k ds d) → Q v H'
def NBl : List Str := ["_law_deeds_here", "_law_items_here", "_law_found", "_law_item", "_law_part", "_law_place", "_law_change", "_law_goal", "_law_when"]
theorem scBl : FnScope NBl ["_law_deeds_here", "_law_items_here"] (defScope (top 56)) := ⟨rfl, rfl, rfl, by decide +kernel, rfl, by decide +kernel, by decide +kernel⟩
section
variable {P : Program} {w : World} {K : PySem.W.Frag} {mg : Str → Option Value} {base : Heap} {C : Addr}
theorem ok_bl0 {f : Addr} {fd : FuncData} (F : Fun K "_law_block" "_law_block" (top 56) f fd) : FnOk P w K mg base CX0 2 f fd ["_law_deeds_here", "_law_items_here"] (spBl 0) := by
  refine F.ok scBl (fun vs H Q E h => ?_) (fun cdv A outer s H vs Q E hr h => ?_)
  · obtain ⟨p, D, a, ys, ds, m, d, rfl, _⟩ := h
    rfl
  · obtain ⟨p, D, a, ys, ds, m, d, rfl, _, _, _, _, hf, _⟩ := h
    exact absurd (show false = true from hf) (by decide)
theorem ok_blS {j : Nat} {f : Addr} {fd : FuncData} (F : Fun K "_law_block" "_law_block" (top 56) f fd) (n : Nm mg) (JO : Fn P w K mg base 1 "_law_joined" ["_law_one", "_law_other"] spJo) (TI : Fn P w K mg base 1 "_law_times" ["_law_block_here", "_law_times_here"] spTi)
    (GB : Fn P w K mg base (2 + j) "_law_block" ["_law_deeds_here", "_law_items_here"] (spBl j)) : FnOk P w K mg base CX0 (2 + j + 1) f fd ["_law_deeds_here", "_law_items_here"] (spBl (j + 1)) := by
  refine F.ok scBl (fun vs H Q E h => ?_) (fun cdv A outer s H vs Q E hr h => ?_)
  · obtain ⟨p, D, a, ys, ds, m, d, rfl, _⟩ := h
    rfl
  · obtain ⟨p, D, a, ys, ds, m, d, rfl, hD, dd, ok, hd, hf, hw, q⟩ := h
    have N := scBl.nd
    have r1 := hr.mono (k := 2 + j) (j := 1) (by omega)
    cases hd with
    | lst nep hx ts =>
      rename_i xs its
      refine ⟨_, pss_cons (ps_set (i := 2) N rfl (.inl rfl) (pe_tup (pa_cons pe_non (pa_cons pe_non (pa_cons pe_int (pa_cons pe_int (pa_cons pe_int (pa_cons pe_non pa_nil))))))))
        (pss_cons (ps_for PassesOwn.never rfl (pi_list (pv 1)) (pg_name (i := 3) N rfl (.inl rfl))
          (pss_cons (ps_if (pt_val (pe_isTuple n (pv 3)))
            (pss_one (ps_set (i := 4) N rfl (.inl rfl) (pe_fn TI r1 (pa_cons (pe_fn GB hr (pa_cons (pv 0) (pa_cons (pe_ix ix_tup (pv 3) pe_int (fun _ _ => rfl)) pa_nil))) (pa_cons (pe_ix ix_tup (pv 3) pe_int (fun _ _ => rfl)) pa_nil)))))
            (pss_cons (ps_asg (pe_ix ix_list (pv 0) (pv 3) (fun _ _ => rfl)) (pg_tup rfl (pgs_cons (pg_name (i := 5) N rfl (.inl rfl)) (pgs_cons (pg_name (i := 6) N rfl (.inl rfl)) (pgs_cons (pg_name (i := 7) N rfl (.inl rfl)) (pgs_cons (pg_name (i := 8) N rfl (.inl rfl)) pgs_nil))))))
            (pss_one (ps_set (i := 4) N rfl (.inl rfl) (pe_tup (pa_cons (pv 5) (pa_cons (pv 7) (pa_cons pe_int (pa_cons (pv 6) (pa_cons (pe_callB (call_max2 rfl) (by rfl) n.max (by decide +kernel) (pa_cons pe_int (pa_cons (pe_op op_sub pe_int (pv 6)) pa_nil))) (pa_cons (pe_ifExp (pt_cmpR op_eq (pv 8) pe_str (nomark _)) pe_int pe_non) pa_nil)))))))))))
          (pss_cons (ps_set (i := 2) N rfl (.inl rfl) (pe_fn JO r1 (pa_cons (pv 2) (pa_cons (pv 4) pa_nil))))
          (pss_one (ps_if (pt_cmp (pc_isN (pv 2))) (pss_one (ps_ret pe_non)) pss_nil)))))
        (pss_one (ps_ret (pv 2)))), ?_⟩
      refine seqV (Good := fun σ2 H2 => ∃ x, H2 x = some (.tup noB.vs) ∧ Same H H2 ∧ σ2 = [some (.ref D), some (.ref a), some (.ref x), none, none, none, none, none, none])
        (fun nx hnx => ⟨(by show 6 ≤ sizeLine; decide), fun x ho => hnx _ _ ⟨x, upd_same, same_upd ho, rfl⟩⟩) ?_
      rintro _ H1 ⟨x0, hc0, s1, rfl⟩
      have hx1 := s1 _ _ hx
      have lts := ts.len
      have hf : its.all (itemF (hasF j ds.length) ds.length) = true := hf
      have hw : (its.map (itemW (wt j))).sum < 2 ^ 99 := hw
      have whole : blC (j + 1) ds (.list its) = blL (itemB (blC j ds) ds) its noB := rfl
      refine ⟨_, rfl, a, rfl, ⟨_, .inl (.inl hx1)⟩, ?_⟩
      refine loop_of (n := xs.length) (fun i σ H2 => ∃ (v3 v4 v5 v6 v7 v8 : Option V) (x : Addr) (c : Blk), σ = [some (.ref D), some (.ref a), some (.ref x), v3, v4, v5, v6, v7, v8] ∧ H2 x = some (.tup c.vs) ∧ Same H1 H2 ∧ blL (itemB (blC j ds) ds) (its.drop i) c = blL (itemB (blC j ds) ds) its noB)
        ⟨none, none, none, none, none, none, x0, noB, rfl, hc0, fun _ _ z => z, rfl⟩ ?_ ?_
      · rintro σ H2 ⟨v3, v4, v5, v6, v7, v8, x, c, rfl, hc, s2, e⟩
        refine ⟨⟨xs, .inl (.inl (s2 _ _ hx1)), Nat.le_refl _⟩, ?_⟩
        rw [lts, List.drop_length] at e
        exact ⟨_, rfl, q _ H2 (s1.trans s2) (by rw [whole, ← e]; exact ⟨x, rfl, hc⟩)⟩
      · rintro i σ H2 hi ⟨v3, v4, v5, v6, v7, v8, x, c, rfl, hc, s2, e⟩
        refine ⟨⟨xs, _, .inl (.inl (s2 _ _ hx1)), List.getElem?_eq_getElem hi⟩, ?_⟩
        rintro v H' ⟨rfl, hy⟩
        have hvi := hy xs (.inl (.inl (s2 _ _ hx1)))
        obtain ⟨it, hit, hdx⟩ := ts.at hvi
        have s01 := s1.trans s2
        have hdx2 : DV p H' v it := hdx.same s01
        have hmem := List.mem_of_getElem? hit
        have hiF : itemF (hasF j ds.length) ds.length it = true := List.all_eq_true.mp hf it hmem
        have hil : i < its.length := by rw [← lts]; exact hi
        have dr : its.drop i = it :: its.drop (i + 1) := by
          rw [List.drop_eq_getElem_cons hil]
          congr 1
          rw [List.getElem?_eq_getElem hil] at hit
          exact Option.some.inj hit
        rw [dr] at e
        have hD' := s01 _ _ hD
        have dd' := DdAll.same s01 dd
        refine gn ?_
        -- part
        refine seqV (Good := fun σ2 H3 => ∃ (vm : V) (w5 w6 w7 w8 : Option V), BkV H3 vm (itemB (blC j ds) ds it) ∧ Same H' H3 ∧ σ2 = [some (.ref D), some (.ref a), some (.ref x), some v, some vm, w5, w6, w7, w8]) ?_ ?_
        · intro nx hnx
          refine ⟨_, rfl, isi_mk hdx2.ty (kit_tuple it) ⟨_, rfl, ?_⟩⟩
          rcases itemF_of hiF with ⟨z, rfl, z0, z1⟩ | ⟨d1, t0, rfl, t0p, hx2⟩
          · cases hdx2
            obtain ⟨k, rfl⟩ : ∃ k : Nat, z = k := ⟨z.toNat, by omega⟩
            have hk : k < ds.length := by omega
            have yl := Paired.length dd'
            have hyk : ys[k]? = some ys[k] := List.getElem?_eq_getElem (by omega)
            obtain ⟨d1, hd1, t, et, ht⟩ := Paired.at dd' hyk
            have eI : itemB (blC j ds) ds (.int ((k : Nat) : Int)) = some (deedB d1) := by
              show (ds[((k : Nat) : Int).toNat]?).map deedB = _
              rw [Int.toNat_natCast, hd1]
              rfl
            rw [eI] at hnx
            refine iteF ⟨_, rfl, _, rfl, D, ys, _, _, rfl, rfl, .inl (.inl hD'), atI_nat hyk, t, _, et, .inl (.inl ht), rfl, _, _, rfl, _, _, rfl, _, _, rfl, _, _, rfl, rfl, ?_⟩
            refine ⟨_, rfl, _, rfl, _, rfl, _, rfl, _, _, rfl, rfl, _, _, rfl, _, rfl, rfl, decide (d1.w = "empty"), congrArg V.bl (by simp), ?_⟩
            have eo : deedB d1 = ⟨some d1.p, some d1.g, 1, d1.c, mx 0 (0 - d1.c), if d1.w = "empty" then some 0 else none⟩ := rfl
            by_cases c0 : d1.w = "empty"
            · rw [decide_eq_true c0]
              rw [if_pos c0] at eo
              refine iteT ⟨(by show 6 ≤ sizeLine; decide), fun o ho => ?_⟩
              refine hnx _ _ ⟨.ref o, _, _, _, _, ⟨o, rfl, ?_⟩, same_upd ho, rfl⟩
              rw [eo]
              exact upd_same
            · rw [decide_eq_false c0]
              rw [if_neg c0] at eo
              refine iteF ⟨(by show 6 ≤ sizeLine; decide), fun o ho => ?_⟩
              refine hnx _ _ ⟨.ref o, _, _, _, _, ⟨o, rfl, ?_⟩, same_upd ho, rfl⟩
              rw [eo]
              exact upd_same
          · cases hdx2 with
            | tup ht tt =>
              rename_i t ts2
              refine iteT ?_
              match ts2, tt with
              | [y1, y2], .cons k1 (.cons k2 .nil) =>
                cases k2
                have w := wt_mem (k := j) hmem
                have kx : wt j d1 ≤ (t0.toNat + 1) * (wt j d1 + 1) := Nat.le_trans (Nat.le_succ _) (Nat.le_mul_of_pos_left _ (Nat.succ_pos _))
                have kt : t0.toNat ≤ (t0.toNat + 1) * (wt j d1 + 1) := Nat.le_trans (Nat.le_succ _) (Nat.le_mul_of_pos_right _ (Nat.succ_pos _))
                have lx : wt j d1 < 2 ^ 99 := Nat.lt_of_le_of_lt (Nat.le_trans kx w) hw
                have lt : t0.natAbs < 2 ^ 99 := by
                  have : t0.natAbs = t0.toNat := by omega
                  rw [this]
                  exact Nat.lt_of_le_of_lt (Nat.le_trans kt w) hw
                obtain ⟨a2, rfl⟩ := hasF_ref k1 hx2
                refine ⟨_, rfl, _, rfl, t, _, _, _, rfl, rfl, .inl (.inl ht), rfl, p, D, a2, ys, ds, m, d1, rfl, hD', dd', ok, k1, hx2, lx, fun v1 H3 s3 bv => ?_⟩
                refine ⟨_, rfl, t, _, _, _, rfl, rfl, .inl (.inl (s3 _ _ ht)), rfl, v1, _, t0, rfl, bv, t0p, lt, fun a3 ha3 => ?_, fun v2 H4 s4 bv2 => hnx _ _ ⟨v2, _, _, _, _, bv2, s3.trans s4, rfl⟩⟩
                have r := rel_cw ok j d1 hx2
                rw [ha3] at r
                cases hc3 : cwC j ds d1 with
                | none => rw [hc3] at r; exact r.elim
                | some c3 =>
                  rw [hc3] at r
                  have b3 := bgC_of (bd_cw ok j d1 c3 hx2 hc3) lx
                  exact ⟨by rw [r.n]; exact b3.n, by rw [r.g]; exact b3.g⟩
        rintro _ H3 ⟨vm, w5, w6, w7, w8, cvm, s3, rfl⟩
        -- found
        have eL : blL (itemB (blC j ds) ds) (it :: its.drop (i + 1)) c = match (itemB (blC j ds) ds it).bind (joinB c) with
            | none => none
            | some c' => blL (itemB (blC j ds) ds) (its.drop (i + 1)) c' := rfl
        refine seqV (Good := fun σ2 H4 => ∃ vc, BkV H4 vc ((itemB (blC j ds) ds it).bind (joinB c)) ∧ Same H3 H4 ∧ σ2 = [some (.ref D), some (.ref a), some vc, some v, some vm, w5, w6, w7, w8]) ?_ ?_
        · intro nx hnx
          exact ⟨_, rfl, _, rfl, x, vm, c, _, rfl, s3 _ _ hc, cvm, fun v2 H4 s4 bv2 => hnx _ _ ⟨v2, bv2, s4, rfl⟩⟩
        rintro _ H4 ⟨vc, cvc, s4, rfl⟩
        have s04 := s01.trans (s3.trans s4)
        refine ⟨_, rfl, decide (vc = .non), rfl, ?_⟩
        cases hcb : (itemB (blC j ds) ds it).bind (joinB c) with
        | none =>
          rw [hcb] at cvc eL
          obtain rfl : vc = .non := cvc
          rw [decide_eq_true rfl]
          exact iteT (q .non H4 s04 (by rw [whole, ← e, eL]; rfl))
        | some c' =>
          rw [hcb] at cvc eL
          obtain ⟨xc, rfl, hcc⟩ := cvc
          rw [decide_eq_false (by simp)]
          exact iteF ⟨_, _, _, _, _, _, xc, c', rfl, hcc, s2.trans (s3.trans s4), by rw [← e, eL]⟩
    | tup hx ts =>
      rename_i xs its
      refine ⟨_, pss_cons (ps_set (i := 2) N rfl (.inl rfl) (pe_tup (pa_cons pe_non (pa_cons pe_non (pa_cons pe_int (pa_cons pe_int (pa_cons pe_int (pa_cons pe_non pa_nil))))))))
        (pss_cons (ps_for PassesOwn.never rfl (pi_tup (pv 1)) (pg_name (i := 3) N rfl (.inl rfl))
          (pss_cons (ps_if (pt_val (pe_isTuple n (pv 3)))
            (pss_one (ps_set (i := 4) N rfl (.inl rfl) (pe_fn TI r1 (pa_cons (pe_fn GB hr (pa_cons (pv 0) (pa_cons (pe_ix ix_tup (pv 3) pe_int (fun _ _ => rfl)) pa_nil))) (pa_cons (pe_ix ix_tup (pv 3) pe_int (fun _ _ => rfl)) pa_nil)))))
            (pss_cons (ps_asg (pe_ix ix_list (pv 0) (pv 3) (fun _ _ => rfl)) (pg_tup rfl (pgs_cons (pg_name (i := 5) N rfl (.inl rfl)) (pgs_cons (pg_name (i := 6) N rfl (.inl rfl)) (pgs_cons (pg_name (i := 7) N rfl (.inl rfl)) (pgs_cons (pg_name (i := 8) N rfl (.inl rfl)) pgs_nil))))))
            (pss_one (ps_set (i := 4) N rfl (.inl rfl) (pe_tup (pa_cons (pv 5) (pa_cons (pv 7) (pa_cons pe_int (pa_cons (pv 6) (pa_cons (pe_callB (call_max2 rfl) (by rfl) n.max (by decide +kernel) (pa_cons pe_int (pa_cons (pe_op op_sub pe_int (pv 6)) pa_nil))) (pa_cons (pe_ifExp (pt_cmpR op_eq (pv 8) pe_str (nomark _)) pe_int pe_non) pa_nil)))))))))))
          (pss_cons (ps_set (i := 2) N rfl (.inl rfl) (pe_fn JO r1 (pa_cons (pv 2) (pa_cons (pv 4) pa_nil))))
          (pss_one (ps_if (pt_cmp (pc_isN (pv 2))) (pss_one (ps_ret pe_non)) pss_nil)))))
        (pss_one (ps_ret (pv 2)))), ?_⟩
      refine seqV (Good := fun σ2 H2 => ∃ x, H2 x = some (.tup noB.vs) ∧ Same H H2 ∧ σ2 = [some (.ref D), some (.ref a), some (.ref x), none, none, none, none, none, none])
        (fun nx hnx => ⟨(by show 6 ≤ sizeLine; decide), fun x ho => hnx _ _ ⟨x, upd_same, same_upd ho, rfl⟩⟩) ?_
      rintro _ H1 ⟨x0, hc0, s1, rfl⟩
      have hx1 := s1 _ _ hx
      have lts := ts.len
      have hf : its.all (itemF (hasF j ds.length) ds.length) = true := hf
      have hw : (its.map (itemW (wt j))).sum < 2 ^ 99 := hw
      have whole : blC (j + 1) ds (.tuple its) = blL (itemB (blC j ds) ds) its noB := rfl
      refine ⟨_, rfl, a, rfl, ⟨_, .inl (.inl hx1)⟩, ?_⟩
      refine loop_of (n := xs.length) (fun i σ H2 => ∃ (v3 v4 v5 v6 v7 v8 : Option V) (x : Addr) (c : Blk), σ = [some (.ref D), some (.ref a), some (.ref x), v3, v4, v5, v6, v7, v8] ∧ H2 x = some (.tup c.vs) ∧ Same H1 H2 ∧ blL (itemB (blC j ds) ds) (its.drop i) c = blL (itemB (blC j ds) ds) its noB)
        ⟨none, none, none, none, none, none, x0, noB, rfl, hc0, fun _ _ z => z, rfl⟩ ?_ ?_
      · rintro σ H2 ⟨v3, v4, v5, v6, v7, v8, x, c, rfl, hc, s2, e⟩
        refine ⟨⟨xs, .inl (.inl (s2 _ _ hx1)), Nat.le_refl _⟩, ?_⟩
        rw [lts, List.drop_length] at e
        exact ⟨_, rfl, q _ H2 (s1.trans s2) (by rw [whole, ← e]; exact ⟨x, rfl, hc⟩)⟩
      · rintro i σ H2 hi ⟨v3, v4, v5, v6, v7, v8, x, c, rfl, hc, s2, e⟩
        refine ⟨⟨xs, _, .inl (.inl (s2 _ _ hx1)), List.getElem?_eq_getElem hi⟩, ?_⟩
        rintro v H' ⟨rfl, hy⟩
        have hvi := hy xs (.inl (.inl (s2 _ _ hx1)))
        obtain ⟨it, hit, hdx⟩ := ts.at hvi
        have s01 := s1.trans s2
        have hdx2 : DV p H' v it := hdx.same s01
        have hmem := List.mem_of_getElem? hit
        have hiF : itemF (hasF j ds.length) ds.length it = true := List.all_eq_true.mp hf it hmem
        have hil : i < its.length := by rw [← lts]; exact hi
        have dr : its.drop i = it :: its.drop (i + 1) := by
          rw [List.drop_eq_getElem_cons hil]
          congr 1
          rw [List.getElem?_eq_getElem hil] at hit
          exact Option.some.inj hit
        rw [dr] at e
        have hD' := s01 _ _ hD
        have dd' := DdAll.same s01 dd
        refine gn ?_
        -- part
        refine seqV (Good := fun σ2 H3 => ∃ (vm : V) (w5 w6 w7 w8 : Option V), BkV H3 vm (itemB (blC j ds) ds it) ∧ Same H' H3 ∧ σ2 = [some (.ref D), some (.ref a), some (.ref x), some v, some vm, w5, w6, w7, w8]) ?_ ?_
        · intro nx hnx
          refine ⟨_, rfl, isi_mk hdx2.ty (kit_tuple it) ⟨_, rfl, ?_⟩⟩
          rcases itemF_of hiF with ⟨z, rfl, z0, z1⟩ | ⟨d1, t0, rfl, t0p, hx2⟩
          · cases hdx2
            obtain ⟨k, rfl⟩ : ∃ k : Nat, z = k := ⟨z.toNat, by omega⟩
            have hk : k < ds.length := by omega
            have yl := Paired.length dd'
            have hyk : ys[k]? = some ys[k] := List.getElem?_eq_getElem (by omega)
            obtain ⟨d1, hd1, t, et, ht⟩ := Paired.at dd' hyk
            have eI : itemB (blC j ds) ds (.int ((k : Nat) : Int)) = some (deedB d1) := by
              show (ds[((k : Nat) : Int).toNat]?).map deedB = _
              rw [Int.toNat_natCast, hd1]
              rfl
            rw [eI] at hnx
            refine iteF ⟨_, rfl, _, rfl, D, ys, _, _, rfl, rfl, .inl (.inl hD'), atI_nat hyk, t, _, et, .inl (.inl ht), rfl, _, _, rfl, _, _, rfl, _, _, rfl, _, _, rfl, rfl, ?_⟩
            refine ⟨_, rfl, _, rfl, _, rfl, _, rfl, _, _, rfl, rfl, _, _, rfl, _, rfl, rfl, decide (d1.w = "empty"), congrArg V.bl (by simp), ?_⟩
            have eo : deedB d1 = ⟨some d1.p, some d1.g, 1, d1.c, mx 0 (0 - d1.c), if d1.w = "empty" then some 0 else none⟩ := rfl
            by_cases c0 : d1.w = "empty"
            · rw [decide_eq_true c0]
              rw [if_pos c0] at eo
              refine iteT ⟨(by show 6 ≤ sizeLine; decide), fun o ho => ?_⟩
              refine hnx _ _ ⟨.ref o, _, _, _, _, ⟨o, rfl, ?_⟩, same_upd ho, rfl⟩
              rw [eo]
              exact upd_same
            · rw [decide_eq_false c0]
              rw [if_neg c0] at eo
              refine iteF ⟨(by show 6 ≤ sizeLine; decide), fun o ho => ?_⟩
              refine hnx _ _ ⟨.ref o, _, _, _, _, ⟨o, rfl, ?_⟩, same_upd ho, rfl⟩
              rw [eo]
              exact upd_same
          · cases hdx2 with
            | tup ht tt =>
              rename_i t ts2
              refine iteT ?_
              match ts2, tt with
              | [y1, y2], .cons k1 (.cons k2 .nil) =>
                cases k2
                have w := wt_mem (k := j) hmem
                have kx : wt j d1 ≤ (t0.toNat + 1) * (wt j d1 + 1) := Nat.le_trans (Nat.le_succ _) (Nat.le_mul_of_pos_left _ (Nat.succ_pos _))
                have kt : t0.toNat ≤ (t0.toNat + 1) * (wt j d1 + 1) := Nat.le_trans (Nat.le_succ _) (Nat.le_mul_of_pos_right _ (Nat.succ_pos _))
                have lx : wt j d1 < 2 ^ 99 := Nat.lt_of_le_of_lt (Nat.le_trans kx w) hw
                have lt : t0.natAbs < 2 ^ 99 := by
                  have : t0.natAbs = t0.toNat := by omega
                  rw [this]
                  exact Nat.lt_of_le_of_lt (Nat.le_trans kt w) hw
                obtain ⟨a2, rfl⟩ := hasF_ref k1 hx2
                refine ⟨_, rfl, _, rfl, t, _, _, _, rfl, rfl, .inl (.inl ht), rfl, p, D, a2, ys, ds, m, d1, rfl, hD', dd', ok, k1, hx2, lx, fun v1 H3 s3 bv => ?_⟩
                refine ⟨_, rfl, t, _, _, _, rfl, rfl, .inl (.inl (s3 _ _ ht)), rfl, v1, _, t0, rfl, bv, t0p, lt, fun a3 ha3 => ?_, fun v2 H4 s4 bv2 => hnx _ _ ⟨v2, _, _, _, _, bv2, s3.trans s4, rfl⟩⟩
                have r := rel_cw ok j d1 hx2
                rw [ha3] at r
                cases hc3 : cwC j ds d1 with
                | none => rw [hc3] at r; exact r.elim
                | some c3 =>
                  rw [hc3] at r
                  have b3 := bgC_of (bd_cw ok j d1 c3 hx2 hc3) lx
                  exact ⟨by rw [r.n]; exact b3.n, by rw [r.g]; exact b3.g⟩
        rintro _ H3 ⟨vm, w5, w6, w7, w8, cvm, s3, rfl⟩
        -- found
        have eL : blL (itemB (blC j ds) ds) (it :: its.drop (i + 1)) c = match (itemB (blC j ds) ds it).bind (joinB c) with
            | none => none
            | some c' => blL (itemB (blC j ds) ds) (its.drop (i + 1)) c' := rfl
        refine seqV (Good := fun σ2 H4 => ∃ vc, BkV H4 vc ((itemB (blC j ds) ds it).bind (joinB c)) ∧ Same H3 H4 ∧ σ2 = [some (.ref D), some (.ref a), some vc, some v, some vm, w5, w6, w7, w8]) ?_ ?_
        · intro nx hnx
          exact ⟨_, rfl, _, rfl, x, vm, c, _, rfl, s3 _ _ hc, cvm, fun v2 H4 s4 bv2 => hnx _ _ ⟨v2, bv2, s4, rfl⟩⟩
        rintro _ H4 ⟨vc, cvc, s4, rfl⟩
        have s04 := s01.trans (s3.trans s4)
        refine ⟨_, rfl, decide (vc = .non), rfl, ?_⟩
        cases hcb : (itemB (blC j ds) ds it).bind (joinB c) with
        | none =>
          rw [hcb] at cvc eL
          obtain rfl : vc = .non := cvc
          rw [decide_eq_true rfl]
          exact iteT (q .non H4 s04 (by rw [whole, ← e, eL]; rfl))
        | some c' =>
          rw [hcb] at cvc eL
          obtain ⟨xc, rfl, hcc⟩ := cvc
          rw [decide_eq_false (by simp)]
          exact iteF ⟨_, _, _, _, _, _, xc, c', rfl, hcc, s2.trans (s3.trans s4), by rw [← e, eL]⟩
    | dct hx => exact absurd (show false = true from hf) (by decide)
end
end L2.K23
end

section
set_option Elab.async false
set_option linter.all false
set_option maxRecDepth 100000
set_option maxHeartbeats 4000000
namespace L2.K23
open PySem PySem.Spec PyProof.Rows L2.Gd
section
variable {P : Program} {w : World} {K : PySem.W.Frag} {mg : Str → Option Value} {base : Heap} {C : Addr}
/-! ### one of some -/
def spPick : Sp := fun vs H Q _ => ∃ (p a : Addr) (xs : List V), vs = [.ref p, .ref a] ∧ PotAt H p ∧ H a = some (.lst xs) ∧ a ≠ p ∧ 0 < xs.length ∧ xs.length ≤ 1000 ∧ ∀ x H', x ∈ xs → PotAt H' p → ButD p H H' → Q x H'
theorem scPick : FnScope ["_law_pot_here", "_law_some"] ["_law_pot_here", "_law_some"] (defScope (top 46)) := ⟨rfl, rfl, rfl, by decide +kernel, rfl, by decide +kernel, by decide +kernel⟩
theorem ok_pick {f : Addr} {fd : FuncData} (F : Fun K "_law_pick" "_law_pick" (top 46) f fd) (n : Nm mg) (GD : Fn P w K mg base 1 "_law_draw" ["_law_pot_here", "_law_many"] spDraw) : FnOk P w K mg base CX0 2 f fd ["_law_pot_here", "_law_some"] spPick := by
  refine F.ok scPick (fun vs H Q E h => ?_) (fun cdv A outer s H vs Q E hr h => ?_)
  · obtain ⟨p, a, xs, rfl, _⟩ := h
    rfl
  · obtain ⟨p, a, xs, rfl, hp, ha, nap, x0, x1, q⟩ := h
    refine ⟨_, pss_one (ps_ret (pe_ix ix_list (pv 1) (pe_fn GD hr (pa_cons (pv 0) (pa_cons (pe_callB call_len_seq (by rfl) n.len PySem.boot_len (pa_cons (pv 1) pa_nil)) pa_nil))) (fun _ _ => rfl))), ?_⟩
    refine ⟨_, rfl, _, rfl, _, rfl, a, xs, rfl, .inl (.inl (.inl ha)), p, (xs.length : Int), rfl, hp, by omega, by omega, fun d H1 d0 d1 hp1 b1 => ?_⟩
    obtain ⟨k, rfl⟩ : ∃ k : Nat, d = k := ⟨d.toNat, by omega⟩
    have hk : k < xs.length := by omega
    exact ⟨a, xs, _, _, rfl, rfl, .inl (.inl (b1 _ _ nap ha)), atI_nat (List.getElem?_eq_getElem hk), q _ H1 (List.getElem_mem hk) hp1 b1⟩
end
end L2.K23
end

section
set_option Elab.async false
set_option linter.all false
set_option maxRecDepth 100000
set_option maxHeartbeats 4000000
namespace L2.K23
open PySem PySem.Spec PyProof.Rows L2.Gd
section
variable {P : Program} {w : World} {K : PySem.W.Frag} {mg : Str → Option Value} {base : Heap} {C : Addr}
theorem PotAt.ne {H : Hp} {p x : Addr} (hp : PotAt H p) (hx : H x = none) : x ≠ p := by
  rintro rfl
  obtain ⟨a, b, e, _⟩ := hp
  rw [hx] at e
  exact nomatch e
/-- the places in the list of the deeds that begin here -/
def fromP (ds : List Dd) (p : Int) (n : Nat) : List Nat := (List.range n).filter fun i => decide ((dAt ds i).p = p)
theorem fromP_succ (ds : List Dd) (p : Int) (n : Nat) : fromP ds p (n + 1) = fromP ds p n ++ (if (dAt ds n).p = p then [n] else []) := by
  unfold fromP
  rw [List.range_succ, List.filter_append]
  congr 1
  by_cases h : (dAt ds n).p = p
  · rw [if_pos h, List.filter_cons_of_pos (by simpa using h)]
    rfl
  · rw [if_neg h, List.filter_cons_of_neg (by simpa using h)]
    rfl
theorem fromP_lt {ds : List Dd} {p : Int} {n : Nat} : ∀ i ∈ fromP ds p n, i < n := fun i hi => List.mem_range.mp (List.mem_filter.mp hi).1
/-! ### a walk -/
def spWa : Sp := fun vs H Q _ => ∃ (p D : Addr) (ys : List V) (ds : List Dd) (pl : Int) (k : Nat), vs = [.ref p, .ref D, .int pl, .int k] ∧ PotAt H p ∧ D ≠ p ∧ H D = some (.lst ys) ∧ DdAll H ys ds ∧ ds.length ≤ 60 ∧ k ≤ 100 ∧
  ∀ (l : Addr) (r : List Nat) (H' : Hp), H l = none → H' l = some (.lst (iV r)) → (∀ i ∈ r, i < ds.length) → r.length ≤ k → PotAt H' p → ButD p H H' → Q (.ref l) H'
def NWa : List Str := ["_law_pot_here", "_law_deeds_here", "_law_place", "_law_many", "_law_found", "_law_turn", "_law_some", "_law_at", "_law_deed"]
theorem scWa : FnScope NWa ["_law_pot_here", "_law_deeds_here", "_law_place", "_law_many"] (defScope (top 52)) := ⟨rfl, rfl, rfl, by decide +kernel, rfl, by decide +kernel, by decide +kernel⟩
theorem iV_ints (r : List Nat) : iV r = (r.map fun i : Nat => (i : Int)).map V.int := by
  unfold iV
  rw [List.map_map]
  rfl
theorem ok_wa {f : Addr} {fd : FuncData} (F : Fun K "_law_walk" "_law_walk" (top 52) f fd) (n : Nm mg) (GP : Fn P w K mg base 2 "_law_pick" ["_law_pot_here", "_law_some"] spPick) :
    FnOk P w K mg base CX0 3 f fd ["_law_pot_here", "_law_deeds_here", "_law_place", "_law_many"] spWa := by
  refine F.ok scWa (fun vs H Q E h => ?_) (fun cdv A outer s H vs Q E hr h => ?_)
  · obtain ⟨p, D, ys, ds, pl, k, rfl, _⟩ := h
    rfl
  · obtain ⟨p, D, ys, ds, pl, k, rfl, hp, nDp, hD, dd, d60, k100, q⟩ := h
    have N := scWa.nd
    have yl := Paired.length dd
    refine ⟨_, pss_cons (ps_set (i := 4) N rfl (.inl rfl) (pe_lst pa_nil))
      (pss_cons (ps_for PassesOwn.never rfl (pi_range1 (by rfl) n.range (pa_cons (pv 3) pa_nil)) (pg_name (i := 5) N rfl (.inl rfl))
        (pss_cons (ps_setLc (i := 6) (own := [("_law_at", 7), ("_law_deed", 8)]) (g := gTup K 2 (gCons (gName 7) (gCons (gName 8) gNil))) (by rfl) N rfl rfl (sw_true rfl rfl rfl (by decide +kernel)) (pi_enumA (by rfl) n.enumerate (pa_cons (pv 1) pa_nil)) (blkOk_by (N := NWa) (sc := defScope (top 52)) (by decide +kernel))
          (fun _ _ _ _ _ => pg_tup rfl (pgs_cons (pg_name (i := 7) N rfl (.inl rfl)) (pgs_cons (pg_name (i := 8) N rfl (.inl rfl)) pgs_nil)))
          (fun _ _ _ _ _ => pts_one (pt_cmpR op_eq (pe_ix (r := rIxT K) ix_tup (pv 8) pe_int (fun _ _ => rfl)) (pv 2) (nomark _))) (fun _ _ _ _ _ => pv 7))
        (pss_cons (ps_if (pt_cmpR (op_eqD hr.units) (pv 6) (pe_lst pa_nil) (nomark _)) (pss_one (ps_ret (pv 4))) pss_nil)
        (pss_cons (ps_expr (pe_bm PySem.F.plainAttrs_list PySem.F.slot_list_append PySem.F.type_list_append mt_append (pv 4) (pa_cons (pe_fn GP hr (pa_cons (pv 0) (pa_cons (pv 6) pa_nil))) pa_nil)))
        (pss_one (ps_set (i := 2) N rfl (.inr rfl) (pe_ix ix_tup (pe_ix ix_list (pv 1) (pe_ix ix_list (pv 4) (pe_un un_neg pe_int) (fun _ _ => rfl)) (fun _ _ => rfl)) pe_int (fun _ _ => rfl))))))))
      (pss_one (ps_ret (pv 4)))), ?_⟩
    refine ⟨(by show 0 ≤ sizeLine; decide), fun l hl => ?_⟩
    have nlp := hp.ne hl
    have s0 := same_upd (o := .lst []) hl
    refine ⟨_, rfl, k, rfl, by omega, by omega, for_range (lo := 0) (n := (k : Int).toNat) (fun i σ H2 => ∃ (v5 v6 : Option V) (p2 : Int) (r : List Nat), σ = [some (.ref p), some (.ref D), some (.int p2), some (.int k), some (.ref l), v5, v6, none, none] ∧ H2 l = some (.lst (iV r)) ∧ (∀ i ∈ r, i < ds.length) ∧ r.length ≤ i ∧ PotAt H2 p ∧ ButD p H H2)
      ⟨none, none, pl, [], rfl, upd_same, by simp, Nat.le_refl _, hp.same s0, Same.but s0⟩ ?_ ?_⟩
    · rintro i σ H2 hi ⟨v5, v6, p2, r, rfl, hl2, lt, rl, hp2, b2⟩
      have ik : i < k := by omega
      have hD2 := b2 _ _ nDp hD
      have dd2 := DdAll.pot hp b2 dd
      refine gn ?_
      refine seqV (Good := fun σ2 H3 => ∃ S : Addr, S ≠ p ∧ H3 S = some (.lst (iV (fromP ds p2 ds.length))) ∧ Same H2 H3 ∧ σ2 = [some (.ref p), some (.ref D), some (.int p2), some (.int k), some (.ref l), some (.int (0 + (i : Int))), some (.ref S), none, none]) ?_ ?_
      · intro nx hnx
        refine ⟨_, rfl, D, ys, rfl, .inl ⟨.inl (.inl hD2), fun S hS => ?_⟩⟩
        refine lc_gen (n := ys.length) (fun j H3 => ButD S H2 H3 ∧ H3 S = some (.lst (iV (fromP ds p2 j))) ∧ (fromP ds p2 j).length ≤ j) ⟨.start, upd_same, Nat.le_refl _⟩ ?_ ?_
        · rintro H3 ⟨b3, hS3, _⟩
          have s3 := b3.new hS
          exact ⟨⟨ys, .inl (.inl (s3 _ _ hD2)), Nat.le_refl _⟩, hnx _ _ ⟨S, hp2.ne hS, by rw [yl] at hS3; exact hS3, s3, rfl⟩⟩
        · rintro j H3 hj ⟨b3, hS3, ln⟩
          have s3 := b3.new hS
          have hD3 := s3 _ _ hD2
          refine ⟨⟨ys, _, .inl (.inl hD3), List.getElem?_eq_getElem hj⟩, ?_⟩
          rintro x H' ⟨T, y, rfl, hT, rfl, hy⟩
          have hyj := hy ys (.inl (.inl hD3))
          have s4 : Same H3 (upd H3 T (.tup [.int (j : Nat), y])) := same_upd hT
          obtain ⟨t, et, ht⟩ := dd_at (DdAll.same (s3.trans s4) dd2) (i := j) (by omega)
          rw [et] at hyj
          obtain rfl := Option.some.inj hyj
          have hT4 : upd H3 T (.tup [.int (j : Nat), .ref t]) T = some (.tup [.int (j : Nat), .ref t]) := upd_same
          have hS4 := s4 _ _ hS3
          have b4 : ButD S H2 (upd H3 T (.tup [.int (j : Nat), .ref t])) := b3.more s4
          refine ⟨T, _, rfl, .inl (.inl hT4), rfl, _, _, rfl, _, _, rfl, rfl, rfl, _, rfl, t, _, _, _, rfl, rfl, .inl (.inl ht), rfl, _, rfl, rfl, decide (V.int (dAt ds j).p = V.int p2), rfl, ?_⟩
          have fs := fromP_succ ds p2 j
          by_cases hj2 : (dAt ds j).p = p2
          · rw [if_pos hj2] at fs
            rw [decide_eq_true (by rw [hj2])]
            refine iteT ⟨_, rfl, _, hS4, by unfold iV; rw [List.length_map, sizeLine_eq]; omega, b4.put, ?_, by rw [fs, List.length_append]; show _ + 1 ≤ _; omega⟩
            rw [upd_same, fs]
            unfold iV
            rw [List.map_append]
            rfl
          · rw [if_neg hj2, List.append_nil] at fs
            rw [decide_eq_false (by simpa using hj2)]
            exact iteF ⟨b4, by rw [fs]; exact hS4, by rw [fs]; omega⟩
      rintro _ H3 ⟨S, nS, hS, s3, rfl⟩
      have hp3 := hp2.same s3
      have hl3 := s3 _ _ hl2
      have b3 : ButD p H H3 := ButD.trans b2 (Same.but s3)
      refine seqV (Good := fun σ2 H4 => fromP ds p2 ds.length ≠ [] ∧ Same H3 H4 ∧ σ2 = [some (.ref p), some (.ref D), some (.int p2), some (.int k), some (.ref l), some (.int (0 + (i : Int))), some (.ref S), none, none]) ?_ ?_
      · intro nx hnx
        refine ⟨_, rfl, (by show 0 ≤ sizeLine; decide), fun e he => ?_⟩
        have s4 := same_upd (o := .lst []) he
        have hS4 := s4 _ _ hS
        rw [iV_ints] at hS4
        refine ⟨_, .list [], .lst (.inl (.inl hS4)) (dps_ints _), .lst (.inl (.inl upd_same)) .nil, ints_shaped _, by decide +kernel, decide ((fromP ds p2 ds.length).map (fun i : Nat => (i : Int)) = []), congrArg V.bl (ints_nil _), ?_⟩
        by_cases hz : fromP ds p2 ds.length = []
        · rw [decide_eq_true (by rw [hz]; rfl)]
          exact iteT ⟨_, rfl, q l r _ hl (s4 _ _ hl3) lt (by omega) (hp3.same s4) (ButD.trans b3 (Same.but s4))⟩
        · rw [decide_eq_false (by simpa using hz)]
          exact iteF (hnx _ _ ⟨hz, s4, rfl⟩)
      rintro _ H4 ⟨hz, s4, rfl⟩
      have hp4 := hp3.same s4
      have hl4 := s4 _ _ hl3
      have hS4 := s4 _ _ hS
      have b4 : ButD p H H4 := ButD.trans b3 (Same.but s4)
      have fl : (fromP ds p2 ds.length).length ≤ ds.length := by
        unfold fromP
        refine Nat.le_trans (List.length_filter_le _ _) ?_
        rw [List.length_range]
        exact Nat.le_refl _
      have ivl : (iV (fromP ds p2 ds.length)).length = (fromP ds p2 ds.length).length := List.length_map _
      refine seqV (Good := fun σ2 H6 => ∃ i2 : Nat, i2 < ds.length ∧ H6 l = some (.lst (iV r ++ [.int (i2 : Int)])) ∧ PotAt H6 p ∧ ButD p H H6 ∧ σ2 = [some (.ref p), some (.ref D), some (.int p2), some (.int k), some (.ref l), some (.int (0 + (i : Int))), some (.ref S), none, none]) ?_ ?_
      · intro nx hnx
        refine ⟨_, rfl, .inl ⟨rfl, _, .inl (.inl hl4)⟩, _, rfl, _, rfl, p, S, _, rfl, hp4, hS4, nS, by rw [ivl]; exact List.length_pos_iff.mpr hz, by rw [ivl]; omega, fun x H5 hx hp5 b5 => ?_⟩
        unfold iV at hx
        obtain ⟨i2, hi2, rfl⟩ := List.mem_map.mp hx
        have hl5 := b5 _ _ nlp hl4
        refine ⟨l, _, _, rfl, rfl, hl5, by unfold iV; rw [List.length_map, sizeLine_eq]; omega, ?_⟩
        refine hnx _ _ ⟨i2, fromP_lt i2 hi2, upd_same, ?_, fun c o ne w => ?_, rfl⟩
        · obtain ⟨x, y, e, z⟩ := hp5
          exact ⟨x, y, by rw [upd_ne nlp.symm]; exact e, z⟩
        · rw [upd_ne (ne_of_none w hl)]
          exact b5 _ _ ne (b4 _ _ ne w)
      rintro _ H6 ⟨i2, lt2, hl6, hp6, b6, rfl⟩
      have hD6 := b6 _ _ nDp hD
      have dd6 := DdAll.pot hp b6 dd
      obtain ⟨t, et, ht⟩ := dd_at dd6 lt2
      refine ⟨_, rfl, _, rfl, _, rfl, l, _, _, _, rfl, rfl, .inl (.inl hl6), atI_last _ _, D, ys, _, _, rfl, rfl, .inl (.inl hD6), atI_nat et, t, _, _, _, rfl, rfl, .inl (.inl ht), rfl, ?_⟩
      refine ⟨_, _, (dAt ds i2).g, r ++ [i2], rfl, ?_, ?_, by rw [List.length_append]; show r.length + 1 ≤ i + 1; omega, hp6, b6⟩
      · rw [hl6]
        unfold iV
        rw [List.map_append]
        rfl
      · intro x hx
        rcases List.mem_append.mp hx with hx | hx
        · exact lt x hx
        · rw [List.mem_singleton.mp hx]
          exact lt2
    · rintro σ H2 ⟨v5, v6, p2, r, rfl, hl2, lt, rl, hp2, b2⟩
      exact ⟨_, rfl, q l r H2 hl hl2 lt (by omega) hp2 b2⟩
end
end L2.K23
end

section
set_option Elab.async false
set_option linter.all false
set_option maxRecDepth 100000
set_option maxHeartbeats 8000000
namespace L2.K23
open PySem PySem.Spec PyProof.Rows L2.Gd
def Int1 (m : Nat) (d : PyData) : Prop := ∃ i : Nat, d = .int (i : Int) ∧ i < m
def ItemA (m : Nat) (d : PyData) : Prop := Int1 m d ∨ ∃ (is : List PyData) (t : Int), d = .tuple [.list is, .int t] ∧ 0 ≤ t ∧ t ≤ 2 ∧ (∀ x ∈ is, Int1 m x) ∧ is.length ≤ 4
def InnerOk (m : Nat) (ins : List PyData) : Prop := ∃ a b : List PyData, ins = a ++ b ∧ a.length ≤ 1 ∧ b.length ≤ 4 ∧ (∀ x ∈ a, ItemA m x) ∧ (∀ x ∈ b, Int1 m x)
def ItemB (m : Nat) (d : PyData) : Prop := Int1 m d ∨ ∃ (X : PyData) (ins : List PyData) (t : Int), d = .tuple [X, .int t] ∧ 0 ≤ t ∧ t ≤ 3 ∧ (X = .list ins ∨ X = .tuple ins) ∧ InnerOk m ins
theorem DVs.ints {p : Addr} {H : Hp} : ∀ r : List Nat, DVs p H (iV r) (r.map fun i : Nat => PyData.int (i : Int))
  | [] => .nil
  | i :: r => .cons (.int _) (DVs.ints r)
theorem DVs.app {p : Addr} {H : Hp} : ∀ {xs ys : List V} {ds es : List PyData}, DVs p H xs ds → DVs p H ys es → DVs p H (xs ++ ys) (ds ++ es)
  | _, _, _, _, .nil, h => h
  | _, _, _, _, .cons a t, h => .cons a (DVs.app t h)
theorem wtI (g : PyData → Nat) : ∀ r : List Nat, ((r.map fun i : Nat => PyData.int (i : Int)).map (itemW g)).sum = r.length
  | [] => rfl
  | i :: r => by
    rw [List.map_cons, List.map_cons, List.sum_cons, wtI g r]
    show 1 + r.length = r.length + 1
    omega
theorem wt1 (g : PyData → Nat) {m : Nat} : ∀ {is : List PyData}, (∀ x ∈ is, Int1 m x) → (is.map (itemW g)).sum = is.length
  | [], _ => rfl
  | x :: r, h => by
    obtain ⟨i, rfl, _⟩ := h x (by simp)
    rw [List.map_cons, List.sum_cons, wt1 g fun y hy => h y (List.mem_cons_of_mem _ hy)]
    show 1 + r.length = r.length + 1
    omega
theorem wtL {k m : Nat} {is : List PyData} (h : ∀ x ∈ is, Int1 m x) (l : is.length ≤ 4) : wt k (.list is) ≤ 4 := by
  cases k with
  | zero => exact Nat.zero_le _
  | succ k =>
    show (is.map (itemW (wt k))).sum ≤ 4
    rw [wt1 _ h]
    exact l
theorem wtA {m : Nat} (k : Nat) {d : PyData} (h : ItemA m d) : itemW (wt k) d ≤ 15 := by
  rcases h with ⟨i, rfl, _⟩ | ⟨is, t, rfl, t0, t2, hi, hl⟩
  · show 1 ≤ 15
    omega
  · show (t.toNat + 1) * (wt k (.list is) + 1) ≤ 15
    exact Nat.mul_le_mul (show t.toNat + 1 ≤ 3 by omega) (Nat.succ_le_succ (wtL hi hl))
theorem wtInner {m : Nat} (k : Nat) {ins : List PyData} (h : InnerOk m ins) : (ins.map (itemW (wt k))).sum ≤ 19 := by
  obtain ⟨a, b, rfl, al, bl, ha, hb⟩ := h
  rw [List.map_append, List.sum_append, wt1 _ hb]
  match a, al, ha with
  | [], _, _ => show 0 + b.length ≤ 19; omega
  | [x], _, ha =>
    have := wtA k (ha x (by simp))
    show itemW (wt k) x + 0 + b.length ≤ 19
    omega
theorem wtB {m : Nat} (k : Nat) {d : PyData} (h : ItemB m d) : itemW (wt k) d ≤ 80 := by
  rcases h with ⟨i, rfl, _⟩ | ⟨X, ins, t, rfl, t0, t3, hX, hi⟩
  · show 1 ≤ 80
    omega
  · have hw : wt k X ≤ 19 := by
      cases k with
      | zero => exact Nat.zero_le _
      | succ k =>
        rcases hX with rfl | rfl
        · exact wtInner k hi
        · exact wtInner k hi
    show (t.toNat + 1) * (wt k X + 1) ≤ 80
    exact Nat.mul_le_mul (show t.toNat + 1 ≤ 4 by omega) (Nat.succ_le_succ hw)
mutual
theorem DV.comb {a b : Addr} {H H' : Hp} (hb : ∃ zs, H b = some (.lst zs)) (bt : ButD b H H') : ∀ {v : V} {d : PyData}, DV a H v d → DV b H v d → DV a H' v d
  | _, _, .non, _ => .non
  | _, _, .bl b, _ => .bl b
  | _, _, .int i, _ => .int i
  | _, _, .str x, _ => .str x
  | _, _, .lst ne h t, .lst ne2 h2 t2 => .lst ne (bt _ _ ne2 h) (DVs.comb hb bt t (by
      have e := h.symm.trans h2
      cases e
      exact t2))
  | _, _, .tup h t, .tup h2 t2 => .tup (bt _ _ (fun z => by
      subst z
      obtain ⟨zs, e⟩ := hb
      rw [h] at e
      exact nomatch e) h) (DVs.comb hb bt t (by
      have e := h.symm.trans h2
      cases e
      exact t2))
  | _, _, .dct h, _ => .dct (bt _ _ (fun z => by
      subst z
      obtain ⟨zs, e⟩ := hb
      rw [h] at e
      exact nomatch e) h)
theorem DVs.comb {a b : Addr} {H H' : Hp} (hb : ∃ zs, H b = some (.lst zs)) (bt : ButD b H H') : ∀ {vs : List V} {ds : List PyData}, DVs a H vs ds → DVs b H vs ds → DVs a H' vs ds
  | _, _, .nil, _ => .nil
  | _, _, .cons h t, .cons h2 t2 => .cons (DV.comb hb bt h h2) (DVs.comb hb bt t t2)
end
theorem PotAt.lst {H : Hp} {p : Addr} (h : PotAt H p) : ∃ zs, H p = some (.lst zs) := let ⟨_, _, e, _⟩ := h; ⟨_, e⟩
theorem ButD.free2 {p g : Addr} {H H2 : Hp} (b : ButD p H H2) (np : g ≠ p) (h : H2 g = none) : H g = none := by
  cases e : H g with
  | none => rfl
  | some o =>
    rw [b _ _ np e] at h
    exact nomatch h
theorem ifV {Good1 Good0 : Hp → Prop} {c : TT} {t u : TS} {D : Ends} {σ : L2.St} {H : Hp} (h : ∀ Z : Bool → Hp → Prop, (∀ H2, Good1 H2 → Z true H2) → (∀ H2, Good0 H2 → Z false H2) → c σ H Z)
    (h1 : ∀ H2, Good1 H2 → t D σ H2) (h0 : ∀ H2, Good0 H2 → u D σ H2) : tIfS c t u D σ H := h _ (fun H2 g => iteT (h1 H2 g)) (fun H2 g => iteF (h0 H2 g))
theorem via {Good : V → Hp → Prop} {t : TE} {σ : L2.St} {H : Hp} {Q : VK} (h : ∀ Q' : VK, (∀ v H2, Good v H2 → Q' v H2) → t σ H Q') (hk : ∀ v H2, Good v H2 → Q v H2) : t σ H Q := h Q hk
/-- data apart from the pot and from the list that grows -/
def FN (p fo : Addr) (H : Hp) (xs : List V) (its : List PyData) : Prop := DVs p H xs its ∧ DVs fo H xs its
theorem FN.pot {p fo : Addr} {H H' : Hp} {xs : List V} {its : List PyData} (hp : PotAt H p) (b : ButD p H H') (h : FN p fo H xs its) : FN p fo H' xs its := ⟨DVs.comb hp.lst b h.1 h.1, DVs.comb hp.lst b h.2 h.1⟩
theorem FN.put {p fo : Addr} {H H' : Hp} {xs : List V} {its : List PyData} (hf : ∃ zs, H fo = some (.lst zs)) (b : ButD fo H H') (h : FN p fo H xs its) : FN p fo H' xs its := ⟨DVs.comb hf b h.1 h.2, DVs.comb hf b h.2 h.2⟩
theorem FN.same {p fo : Addr} {H H' : Hp} {xs : List V} {its : List PyData} (s : Same H H') (h : FN p fo H xs its) : FN p fo H' xs its := ⟨h.1.same s, h.2.same s⟩
theorem FN.app {p fo : Addr} {H : Hp} {xs ys : List V} {its jts : List PyData} (h : FN p fo H xs its) (k : FN p fo H ys jts) : FN p fo H (xs ++ ys) (its ++ jts) := ⟨h.1.app k.1, h.2.app k.2⟩
theorem FN.ints {p fo : Addr} {H : Hp} (r : List Nat) : FN p fo H (iV r) (r.map fun i : Nat => PyData.int (i : Int)) := ⟨.ints r, .ints r⟩
theorem FN.other {p fo fo2 : Addr} {H : Hp} {xs : List V} {its : List PyData} (h : FN p fo H xs its) (k : DVs fo2 H xs its) : FN p fo2 H xs its := ⟨h.1, k⟩
/-- no list of the data stands at an address that is free -/
theorem DVs.fresh {a b : Addr} {H H' : Hp} (s : Same H H') (hb : H b = none) : ∀ {vs : List V} {ds : List PyData}, DVs a H vs ds → DVs b H' vs ds := by
  intro vs ds h
  exact DVs.rec (motive_1 := fun v d _ => DV b H' v d) (motive_2 := fun vs ds _ => DVs b H' vs ds) .non (fun b => .bl b) (fun i => .int i) (fun x => .str x)
    (fun _ h _ ih => .lst (ne_of_none h hb) (s _ _ h) ih) (fun h _ ih => .tup (s _ _ h) ih) (fun h => .dct (s _ _ h)) .nil (fun _ _ ih1 ih2 => .cons ih1 ih2) h
section
variable {P : Program} {w : World} {K : PySem.W.Frag} {mg : Str → Option Value} {base : Heap} {C : Addr}
def spIt : Sp := fun vs H Q _ => ∃ (p D : Addr) (ys : List V) (ds : List Dd) (pl : Int), vs = [.ref p, .ref D, .int pl, .int 3] ∧ PotAt H p ∧ D ≠ p ∧ H D = some (.lst ys) ∧ DdAll H ys ds ∧ ds.length ≤ 60 ∧
  ∀ (l : Addr) (xs : List V) (its : List PyData) (H' : Hp), H l = none → H' l = some (.lst xs) → DVs p H' xs its → (∀ x ∈ its, ItemB ds.length x) → its.length ≤ 12 → (∀ k, (its.map (itemW (wt k))).sum ≤ 240) → PotAt H' p → ButD p H H' → Q (.ref l) H'
def NIt : List Str := ["_law_pot_here", "_law_deeds_here", "_law_place", "_law_deep", "_law_found", "_law_turn", "_law_row", "_law_rounds", "_law_inner", "_law_at"]
theorem scIt : FnScope NIt ["_law_pot_here", "_law_deeds_here", "_law_place", "_law_deep"] (defScope (top 53)) := ⟨rfl, rfl, rfl, by decide +kernel, rfl, by decide +kernel, by decide +kernel⟩
theorem ok_it {f : Addr} {fd : FuncData} (F : Fun K "_law_items" "_law_items" (top 53) f fd) (n : Nm mg) (GD : Fn P w K mg base 1 "_law_draw" ["_law_pot_here", "_law_many"] spDraw) (GP : Fn P w K mg base 2 "_law_pick" ["_law_pot_here", "_law_some"] spPick)
    (GW : Fn P w K mg base 3 "_law_walk" ["_law_pot_here", "_law_deeds_here", "_law_place", "_law_many"] spWa) : FnOk P w K mg base CX0 4 f fd ["_law_pot_here", "_law_deeds_here", "_law_place", "_law_deep"] spIt := by
  refine F.ok scIt (fun vs H Q E h => ?_) (fun cdv A outer s H vs Q E hr h => ?_)
  · obtain ⟨p, D, ys, ds, pl, rfl, _⟩ := h
    rfl
  · obtain ⟨p, D, ys, ds, pl, rfl, hp, nDp, hD, dd, d60, q⟩ := h
    have N := scIt.nd
    have yl := Paired.length dd
    have r1 := hr.mono (k := 3) (j := 1) (by decide)
    have r2 := hr.mono (k := 3) (j := 2) (by decide)
    refine ⟨_, pss_cons (ps_set (i := 4) N rfl (.inl rfl) (pe_lst pa_nil))
      (pss_cons (ps_for PassesOwn.never rfl (pi_range1 (by rfl) n.range (pa_cons (pe_op op_add pe_int (pe_fn GD r1 (pa_cons (pv 0) (pa_cons pe_int pa_nil)))) pa_nil)) (pg_name (i := 5) N rfl (.inl rfl))
        (pss_cons (ps_set (i := 6) N rfl (.inr rfl) (pe_fn GW hr (pa_cons (pv 0) (pa_cons (pv 1) (pa_cons (pv 2) (pa_cons (pe_op op_add pe_int (pe_fn GD r1 (pa_cons (pv 0) (pa_cons pe_int pa_nil)))) pa_nil))))))
        (pss_cons (ps_setLc (i := 7) (own := [("_law_at", 9)]) (g := gName 9) (by rfl) N rfl rfl (sw_true rfl rfl rfl (by decide +kernel)) (pi_range1 (by rfl) n.range (pa_cons (pe_callB call_len_seq (by rfl) n.len PySem.boot_len (pa_cons (pv 6) pa_nil)) pa_nil)) (blkOk_by (N := NIt) (sc := defScope (top 53)) (by decide +kernel))
          (fun _ _ _ _ _ => pg_name (i := 9) N rfl (.inl rfl))
          (fun _ _ _ _ _ => pts_one (pt_cmpR op_eq (pe_ix (r := rIxT K) ix_tup (pe_ix (r := rIxL K) ix_list (pv 1) (pe_ix (r := rIxL K) ix_list (pv 6) (pv 9) (fun _ _ => rfl)) (fun _ _ => rfl)) pe_int (fun _ _ => rfl)) (pv 2) (nomark _)))
          (fun _ _ _ _ _ => pe_op op_add (pv 9) pe_int))
        (pss_one (ps_if (pw_and (pt_cmpR (op_neD hr.units) (pv 7) (pe_lst pa_nil) (nomark _)) (pw_and (pt_cmpR op_gt (pv 3) pe_int (nomark _)) (pw_and1 (pt_cmpR op_gt (pe_fn GD r1 (pa_cons (pv 0) (pa_cons pe_int pa_nil))) pe_int (nomark _))))).pt
          (pss_cons (ps_set (i := 8) N rfl (.inl rfl) (pe_slice sl_list (pv 6) po_none (po_some (pe_fn GP r2 (pa_cons (pv 0) (pa_cons (pv 7) pa_nil))))))
          (pss_cons (ps_set (i := 8) N rfl (.inl rfl) (pe_ifExp (pw_and (pt_cmpR op_gt (pv 3) pe_int (nomark _)) (pw_and1 (pt_cmpR op_eq (pe_fn GD r1 (pa_cons (pv 0) (pa_cons pe_int pa_nil))) pe_int (nomark _)))).pt
            (pe_op op_cat (pe_lst (pa_cons (pe_tup (pa_cons (pv 8) (pa_cons (pe_fn GD r1 (pa_cons (pv 0) (pa_cons pe_int pa_nil))) pa_nil))) pa_nil)) (pv 8)) (pv 8)))
          (pss_one (ps_expr (pe_bm PySem.F.plainAttrs_list PySem.F.slot_list_append PySem.F.type_list_append mt_append (pv 4) (pa_cons (pe_tup (pa_cons
            (pe_ifExp (pt_cmpR op_gt (pe_fn GD r1 (pa_cons (pv 0) (pa_cons pe_int pa_nil))) pe_int (nomark _)) (pv 8) (pe_callTy call_tuple_of (by rfl) n.tuple (by decide +kernel) (pa_cons (pv 8) pa_nil)))
            (pa_cons (pe_fn GD r1 (pa_cons (pv 0) (pa_cons pe_int pa_nil))) pa_nil))) pa_nil))))))
          (pss_one (ps_if (pt_cmpR (op_neD hr.units) (pv 6) (pe_lst pa_nil) (nomark _))
            (pss_cons (ps_set (i := 4) N rfl (.inl rfl) (pe_op op_cat (pv 4) (pv 6)))
            (pss_one (ps_set (i := 2) N rfl (.inr rfl) (pe_ix ix_tup (pe_ix ix_list (pv 1) (pe_ix ix_list (pv 6) (pe_un un_neg pe_int) (fun _ _ => rfl)) (fun _ _ => rfl)) pe_int (fun _ _ => rfl))))) pss_nil)))))))
      (pss_one (ps_ret (pv 4)))), ?_⟩
    refine ⟨(by show 0 ≤ sizeLine; decide), fun l0 hl0 => ?_⟩
    have s0 := same_upd (o := .lst []) hl0
    have hp0 := hp.same s0
    refine ⟨_, rfl, p, 3, rfl, hp0, by decide, by decide, fun d0 H1 d00 d03 hp1 b1 => ⟨_, _, rfl, rfl, ?_⟩⟩
    have hl1 := b1 _ _ (hp.ne hl0) (show upd H l0 (.lst []) l0 = some (.lst []) from upd_same)
    refine ⟨1 + d0, rfl, by omega, by omega, for_range (lo := 0) (n := (1 + d0).toNat) (fun i σ H2 => ∃ (v5 v6 v7 v8 : Option V) (p2 : Int) (fo : Addr) (xs : List V) (its : List PyData),
      σ = [some (.ref p), some (.ref D), some (.int p2), some (.int 3), some (.ref fo), v5, v6, v7, v8, none] ∧ H fo = none ∧ fo ≠ p ∧ H2 fo = some (.lst xs) ∧ FN p fo H2 xs its ∧ (∀ x ∈ its, ItemB ds.length x) ∧ (its.length ≤ 4 * i ∧ ∀ k, (its.map (itemW (wt k))).sum ≤ 80 * i) ∧ PotAt H2 p ∧ ButD p H H2)
      ⟨none, none, none, none, pl, l0, [], [], rfl, hl0, hp.ne hl0, hl1, ⟨.nil, .nil⟩, by simp, ⟨by simp, fun k => by simp⟩, hp1, ButD.trans (Same.but s0) b1⟩ ?_ ?_⟩
    · rintro i σ H2 hi ⟨v5, v6, v7, v8, p2, fo, xs, its, rfl, f0, fp, hf, fn, iok, ⟨il, iw⟩, hp2, b2⟩
      have hD2 := b2 _ _ nDp hD
      have dd2 := DdAll.pot hp b2 dd
      have xl := fn.1.len
      have sl := sizeLine_eq
      refine gn ?_
      refine seqV (Good := fun σ2 H3 => ∃ (W : Addr) (r : List Nat), W ≠ p ∧ H2 W = none ∧ H3 W = some (.lst (iV r)) ∧ (∀ x ∈ r, x < ds.length) ∧ r.length ≤ 4 ∧ PotAt H3 p ∧ ButD p H2 H3 ∧
          σ2 = [some (.ref p), some (.ref D), some (.int p2), some (.int 3), some (.ref fo), some (.int (0 + (i : Int))), some (.ref W), v7, v8, none]) ?_ ?_
      · intro nx hnx
        refine ⟨_, rfl, _, rfl, _, rfl, _, rfl, p, 4, rfl, hp2, by decide, by decide, fun d H3 e0 e4 hp3 b3 => ⟨_, _, rfl, rfl, ?_⟩⟩
        obtain ⟨k, rfl⟩ : ∃ k : Nat, d = k := ⟨d.toNat, by omega⟩
        refine ⟨p, D, ys, ds, p2, k + 1, by show [V.ref p, V.ref D, V.int p2, V.int (1 + (k : Int))] ++ [] = _; rw [show (1 + (k : Int)) = ((k + 1 : Nat) : Int) by omega]; rfl, hp3, nDp, b3 _ _ nDp hD2, DdAll.pot hp2 b3 dd2, d60, by omega, fun W r H4 w0 hW lt rl hp4 b4 => ?_⟩
        have w2 : H2 W = none := ButD.free2 b3 (hp3.ne w0) w0
        exact hnx _ _ ⟨W, r, hp3.ne w0, w2, hW, lt, by omega, hp4, ButD.trans b3 b4, rfl⟩
      rintro _ H3 ⟨W, r, nW, w0, hW, lt, rl, hp3, b3, rfl⟩
      have hD3 := b3 _ _ nDp hD2
      have dd3 := DdAll.pot hp2 b3 dd2
      have hf3 := b3 _ _ fp hf
      have fn3 := fn.pot hp2 b3
      have ivl : (iV r).length = r.length := List.length_map _
      -- rounds
      refine seqV (Good := fun σ2 H4 => ∃ (S : Addr) (ks : List Int), S ≠ p ∧ H4 S = some (.lst (ks.map V.int)) ∧ (∀ x ∈ ks, 1 ≤ x ∧ x ≤ (r.length : Int)) ∧ ks.length ≤ 1000 ∧ Same H3 H4 ∧
          σ2 = [some (.ref p), some (.ref D), some (.int p2), some (.int 3), some (.ref fo), some (.int (0 + (i : Int))), some (.ref W), some (.ref S), v8, none]) ?_ ?_
      · intro nx hnx
        refine ⟨_, rfl, W, _, rfl, .inl (.inl (.inl hW)), ((iV r).length : Int), rfl, by omega, by omega, fun S hS => ?_⟩
        rw [ivl, Int.toNat_natCast]
        refine lc_mapR (lo := 0) (n := r.length) (G := fun _ v b => v = V.int b) (f := fun x => if (dAt ds (r.getD x.toNat 0)).g = p2 then some (x + 1) else none) (fun _ _ _ _ _ _ z => z) (by omega) ?_ ?_
        · rintro x e H4 A B he rfl b ⟨zs, hz⟩ hA hB
          unfold rgI at he
          obtain ⟨j, hj, rfl⟩ := List.mem_map.mp he
          have hj2 := List.mem_range.mp hj
          have s4 := b.new hS
          obtain ⟨t1, y1, h1⟩ := dd_at (DdAll.same s4 dd3) (getD_lt lt (i := j) hj2)
          have e0 : (0 : Int) + (j : Int) = (j : Int) := Int.zero_add _
          rw [e0] at hA hB
          rw [e0]
          refine ⟨rfl, _, rfl, _, rfl, _, rfl, W, _, _, _, rfl, rfl, .inl (.inl (s4 _ _ hW)), atI_nat (iV_at hj2), D, ys, _, _, rfl, rfl, .inl (.inl (s4 _ _ hD3)), atI_nat y1, t1, _, _, _, rfl, rfl, .inl (.inl h1), rfl, _, rfl, rfl, decide (V.int (dAt ds (r.getD j 0)).g = V.int p2), rfl, ?_⟩
          by_cases hg : (dAt ds (r.getD j 0)).g = p2
          · rw [decide_eq_true (by rw [hg])]
            exact iteT ⟨_, rfl, _, _, rfl, rfl, hA _ _ H4 (if_pos hg) (fun _ _ z => z) rfl⟩
          · rw [decide_eq_false (by simpa using hg)]
            exact iteF (hB H4 (if_neg hg) fun _ _ z => z)
        · intro zs H4 h1 h2 h3
          rw [ints_of h2] at h1
          refine hnx _ _ ⟨S, _, hp3.ne hS, h1, fun x hx => ?_, ?_, h3.new hS, rfl⟩
          · obtain ⟨y, hy, hyx⟩ := List.mem_filterMap.mp hx
            unfold rgI at hy
            obtain ⟨j, hj, rfl⟩ := List.mem_map.mp hy
            have := List.mem_range.mp hj
            split at hyx
            · have := Option.some.inj hyx
              omega
            · exact nomatch hyx
          · refine Nat.le_trans (List.length_filterMap_le _ _) ?_
            rw [rgI_len]
            omega
      rintro _ H4 ⟨S, ks, nS, hS, kb, kl, s4, rfl⟩
      have hp4 := hp3.same s4
      have hW4 := s4 _ _ hW
      have hf4 := s4 _ _ hf3
      have hD4 := s4 _ _ hD3
      have dd4 := DdAll.same s4 dd3
      have fn4 := fn3.same s4
      have b4 : ButD p H2 H4 := ButD.trans b3 (Same.but s4)
      have b04 : ButD p H H4 := ButD.trans b2 b4
      refine ifV (Good1 := fun H5 => ks ≠ [] ∧ PotAt H5 p ∧ ButD p H4 H5) (Good0 := fun H5 => PotAt H5 p ∧ ButD p H4 H5) ?_ ?_ ?_
      · intro Z z1 z0
        refine ⟨_, rfl, (by show 0 ≤ sizeLine; decide), fun e he => ?_⟩
        have s5 := same_upd (o := .lst []) he
        refine ⟨_, .list [], .lst (.inl (.inl (s5 _ _ hS))) (dps_ints _), .lst (.inl (.inl upd_same)) .nil, ints_shaped _, by decide +kernel, !decide (ks = []), congrArg (fun b => V.bl (!b)) (ints_nil _), ?_⟩
        by_cases hk : ks = []
        · rw [decide_eq_true hk]
          exact iteF (z0 _ ⟨hp4.same s5, Same.but s5⟩)
        · rw [decide_eq_false hk]
          refine iteT ⟨_, rfl, _, _, rfl, rfl, true, rfl, iteT ?_⟩
          refine ⟨_, rfl, p, 3, rfl, hp4.same s5, by decide, by decide, fun z H6 e0 e3 hp6 b6 => ⟨_, _, rfl, rfl, decide (z > 0), rfl, ?_⟩⟩
          cases decide (z > 0) with
          | true => exact z1 _ ⟨hk, hp6, ButD.trans (Same.but s5) b6⟩
          | false => exact z0 _ ⟨hp6, ButD.trans (Same.but s5) b6⟩
      · rintro H5 ⟨hk, hp5, b5⟩
        have hW5 := b5 _ _ nW hW4
        have hf5 := b5 _ _ fp hf4
        have fn5 := fn4.pot hp4 b5
        -- inner
        refine seqV (Good := fun σ2 H6 => ∃ (U : Addr) (r2 : List Nat), U ≠ p ∧ U ≠ fo ∧ H6 U = some (.lst (iV r2)) ∧ (∀ x ∈ r2, x < ds.length) ∧ r2.length ≤ 4 ∧ PotAt H6 p ∧ ButD p H5 H6 ∧ σ2 = [some (.ref p), some (.ref D), some (.int p2), some (.int 3), some (.ref fo), some (.int (0 + (i : Int))), some (.ref W), some (.ref S), some (.ref U), none]) ?_ ?_
        · intro nx hnx
          refine ⟨_, rfl, _, rfl, _, rfl, p, S, _, rfl, hp5, b5 _ _ nS hS, nS, by rw [List.length_map]; exact List.length_pos_iff.mpr hk, by rw [List.length_map]; exact kl, fun x H6 hx hp6 b6 => ?_⟩
          obtain ⟨y, hy, rfl⟩ := List.mem_map.mp hx
          obtain ⟨y1, y2⟩ := kb y hy
          obtain ⟨k, rfl⟩ : ∃ k : Nat, y = k := ⟨y.toNat, by omega⟩
          have hf6 := b6 _ _ fp hf5
          refine ⟨_, rfl, W, _, rfl, .inl (.inl (b6 _ _ nW hW5)), fun U hU => ?_⟩
          rw [cutV_take _ (by rw [ivl]; omega)]
          have s7 := same_upd (o := .lst ((iV r).take k)) hU
          have et : (iV r).take k = iV (r.take k) := by unfold iV; rw [List.map_take]
          refine hnx _ _ ⟨U, r.take k, hp6.ne hU, (ne_of_none hf6 hU).symm, by rw [upd_same, et], fun x hx => lt x (List.mem_of_mem_take hx), by rw [List.length_take]; omega, hp6.same s7, ButD.trans b6 (Same.but s7), rfl⟩
        rintro _ H6 ⟨U, r2, nU, nUf, hU, lt2, rl2, hp6, b6, rfl⟩
        have hf6 := b6 _ _ fp hf5
        have fn6 := fn5.pot hp5 b6
        have iU : ∀ x ∈ r2.map (fun i : Nat => PyData.int (i : Int)), Int1 ds.length x := fun x hx => by
          obtain ⟨j, hj, rfl⟩ := List.mem_map.mp hx
          exact ⟨j, rfl, lt2 j hj⟩
        refine seqV (Good := fun σ2 H7 => ∃ (V2 : Addr) (zs : List V) (ins : List PyData), V2 ≠ p ∧ V2 ≠ fo ∧ H7 V2 = some (.lst zs) ∧ FN p fo H7 zs ins ∧ InnerOk ds.length ins ∧ zs.length ≤ 1000 ∧ PotAt H7 p ∧ ButD p H6 H7 ∧ σ2 = [some (.ref p), some (.ref D), some (.int p2), some (.int 3), some (.ref fo), some (.int (0 + (i : Int))), some (.ref W), some (.ref S), some (.ref V2), none]) ?_ ?_
        · intro nx hnx
          show tIf _ _ _ _ _ _
          refine ⟨_, rfl, _, _, rfl, rfl, true, rfl, iteT ?_⟩
          refine ⟨_, rfl, p, 4, rfl, hp6, by decide, by decide, fun z H7 e0 e4 hp7 b7 => ⟨rfl, decide (V.int z = V.int 0), rfl, ?_⟩⟩
          have hU7 := b7 _ _ nU hU
          have hf7 := b7 _ _ fp hf6
          have u2l : (iV r2).length = r2.length := List.length_map _
          by_cases hz : z = 0
          · rw [decide_eq_true (by rw [hz])]
            refine iteT ⟨_, rfl, _, rfl, p, 3, rfl, hp7, by decide, by decide, fun t H8 t0 t3 hp8 b8 => ⟨(by show 2 ≤ sizeLine; decide), fun T hT => ⟨(by show 1 ≤ sizeLine; decide), fun L hL => ?_⟩⟩⟩
            have s9 := same_upd (o := .tup [.ref U, .int t]) hT
            have s10 := same_upd (o := .lst [.ref T]) hL
            have hU8 := b8 _ _ nU hU7
            have hf8 := b8 _ _ fp hf7
            refine ⟨_, rfl, L, U, _, _, rfl, rfl, upd_same, s10 _ _ (s9 _ _ hU8), by rw [u2l]; show 1 + r2.length ≤ sizeLine; omega, fun V2 hV2 => ?_⟩
            have s11 := same_upd (o := .lst ([.ref T] ++ iV r2)) hV2
            have s8 := s9.trans (s10.trans s11)
            have hT11 := s11 _ _ (s10 _ _ (show upd H8 T (.tup [.ref U, .int t]) T = _ from upd_same))
            refine hnx _ _ ⟨V2, [.ref T] ++ iV r2, [.tuple [.list (r2.map fun i : Nat => PyData.int (i : Int)), .int t]] ++ r2.map (fun i : Nat => PyData.int (i : Int)), (hp8.same (s9.trans s10)).ne hV2, (ne_of_none (s10 _ _ (s9 _ _ hf8)) hV2).symm, upd_same,
              FN.app ⟨.cons (.tup hT11 (.cons (.lst nU (s8 _ _ hU8) (.ints r2)) (.cons (.int _) .nil))) .nil, .cons (.tup hT11 (.cons (.lst nUf (s8 _ _ hU8) (.ints r2)) (.cons (.int _) .nil))) .nil⟩ (FN.ints r2),
              ⟨_, _, rfl, Nat.le_refl 1, by rw [List.length_map]; exact rl2, fun x hx => by rw [List.mem_singleton.mp hx]; exact .inr ⟨_, t, rfl, t0, by omega, iU, by rw [List.length_map]; exact rl2⟩, iU⟩,
              by rw [List.length_append, u2l]; show 1 + r2.length ≤ 1000; omega, hp8.same s8, ButD.trans b7 (ButD.trans b8 (Same.but s8)), rfl⟩
          · rw [decide_eq_false (by simpa using hz)]
            exact iteF ⟨_, rfl, hnx _ _ ⟨U, iV r2, _, nU, nUf, hU7, FN.ints r2, ⟨[], _, rfl, Nat.zero_le _, by rw [List.length_map]; exact rl2, fun x hx => absurd hx (by simp), iU⟩, by rw [u2l]; omega, hp7, b7, rfl⟩⟩
        rintro _ H7 ⟨V2, zs, ins, nV, nVf, hV, fnV, iok2, zl, hp7, b7, rfl⟩
        have hf7 := b7 _ _ fp hf6
        have fn7 := fn6.pot hp6 b7
        -- the lap
        refine ⟨_, rfl, .inl ⟨rfl, _, .inl (.inl hf7)⟩, ?_⟩
        show tIf _ _ _ _ _ _
        refine via (Good := fun v H8 => ∃ (u : Addr) (X : PyData), v = .ref u ∧ (X = .list ins ∨ X = .tuple ins) ∧ DV p H8 (.ref u) X ∧ DV fo H8 (.ref u) X ∧ PotAt H8 p ∧ ButD p H7 H8) ?_ ?_
        · intro Q' hk2
          refine ⟨_, rfl, p, 3, rfl, hp7, by decide, by decide, fun z H8 e0 e3 hp8 b8 => ⟨_, _, rfl, rfl, decide (z > 0), rfl, ?_⟩⟩
          have hV8 := b8 _ _ nV hV
          have fnV8 := fnV.pot hp7 b8
          cases decide (z > 0) with
          | true => exact iteT ⟨_, rfl, hk2 _ _ ⟨V2, .list ins, rfl, .inl rfl, .lst nV hV8 fnV8.1, .lst nVf hV8 fnV8.2, hp8, b8⟩⟩
          | false =>
            refine iteF ⟨_, rfl, V2, zs, rfl, .inl ⟨.inl (.inl hV8), fun T hT => ?_⟩⟩
            have s9 := same_upd (o := .tup zs) hT
            exact hk2 _ _ ⟨T, .tuple ins, rfl, .inr rfl, .tup upd_same (fnV8.same s9).1, .tup upd_same (fnV8.same s9).2, hp8.same s9, ButD.trans b8 (Same.but s9)⟩
        · rintro _ H8 ⟨u, X, rfl, hX, dX, dX2, hp8, b8⟩
          refine ⟨_, rfl, p, 4, rfl, hp8, by decide, by decide, fun t H9 t0 t4 hp9 b9 => ⟨(by show 2 ≤ sizeLine; decide), fun T hT => ?_⟩⟩
          have s10 := same_upd (o := .tup [.ref u, .int t]) hT
          have hf9 := b9 _ _ fp (b8 _ _ fp hf7)
          have hf10 := s10 _ _ hf9
          have fn10 := ((fn7.pot hp7 b8).pot hp8 b9).same s10
          have dT : FN p fo (upd H9 T (.tup [.ref u, .int t])) [.ref T] [.tuple [X, .int t]] := by
            have z1 : FN p fo H9 [.ref u, .int t] [X, .int t] := FN.pot hp8 b9 (fo := fo) ⟨.cons dX (.cons (.int _) .nil), .cons dX2 (.cons (.int _) .nil)⟩
            exact ⟨.cons (.tup upd_same (z1.same s10).1) .nil, .cons (.tup upd_same (z1.same s10).2) .nil⟩
          have fnA := fn10.app dT
          refine ⟨fo, xs, _, rfl, rfl, hf10, by omega, ?_⟩
          have bt : ButD fo (upd H9 T (.tup [.ref u, .int t])) (upd (upd H9 T (.tup [.ref u, .int t])) fo (.lst (xs ++ [.ref T]))) := ButD.start
          refine ⟨_, _, _, _, p2, fo, xs ++ [.ref T], its ++ [.tuple [X, .int t]], rfl, f0, fp, upd_same, fnA.put ⟨_, hf10⟩ bt, ?_, ?_, ?_, ?_⟩
          · intro x hx
            rcases List.mem_append.mp hx with hx | hx
            · exact iok x hx
            · rw [List.mem_singleton.mp hx]
              exact .inr ⟨X, ins, t, rfl, t0, by omega, hX, iok2⟩
          · refine ⟨by rw [List.length_append]; show its.length + 1 ≤ 4 * (i + 1); omega, fun k => ?_⟩
            rw [List.map_append, List.sum_append]
            have h1 := iw k
            have h2 := wtB k (show ItemB ds.length (.tuple [X, .int t]) from .inr ⟨X, ins, t, rfl, t0, by omega, hX, iok2⟩)
            show _ + (itemW (wt k) (.tuple [X, .int t]) + 0) ≤ 80 * (i + 1)
            omega
          · obtain ⟨x, y, e, z⟩ := hp9.same s10
            exact ⟨x, y, by rw [upd_ne fp.symm]; exact e, z⟩
          · intro c o ne e
            rw [upd_ne (ne_of_none e f0)]
            exact s10 _ _ (b9 _ _ ne (b8 _ _ ne (b7 _ _ ne (b6 _ _ ne (b5 _ _ ne (b04 _ _ ne e))))))
      · rintro H5 ⟨hp5, b5⟩
        have hW5 := b5 _ _ nW hW4
        have hf5 := b5 _ _ fp hf4
        have hD5 := b5 _ _ nDp hD4
        have dd5 := DdAll.pot hp4 b5 dd4
        have fn5 := fn4.pot hp4 b5
        have b05 : ButD p H H5 := ButD.trans b04 b5
        refine ⟨_, rfl, (by show 0 ≤ sizeLine; decide), fun e he => ?_⟩
        have s6 := same_upd (o := .lst []) he
        have hW6 := s6 _ _ hW5
        rw [iV_ints] at hW6
        refine ⟨_, .list [], .lst (.inl (.inl hW6)) (dps_ints _), .lst (.inl (.inl upd_same)) .nil, ints_shaped _, by decide +kernel, !decide (r.map (fun i : Nat => (i : Int)) = []), congrArg (fun b => V.bl (!b)) (ints_nil _), ?_⟩
        rw [← iV_ints] at hW6
        have hp6 := hp5.same s6
        have hf6 := s6 _ _ hf5
        have fn6 := fn5.same s6
        have b06 : ButD p H _ := ButD.trans b05 (Same.but s6)
        by_cases hr0 : r = []
        · rw [decide_eq_true (by rw [hr0]; rfl)]
          exact iteF ⟨_, _, _, _, p2, fo, xs, its, rfl, f0, fp, hf6, fn6, iok, ⟨by omega, fun k => by have := iw k; omega⟩, hp6, b06⟩
        · rw [decide_eq_false (by simpa using hr0)]
          refine iteT ?_
          refine ⟨_, rfl, _, rfl, fo, W, _, _, rfl, rfl, hf6, hW6, by rw [ivl]; omega, fun F2 hF2 => ?_⟩
          have s7 := same_upd (o := .lst (xs ++ iV r)) hF2
          obtain ⟨rl0, last, rfl⟩ : ∃ (r0 : List Nat) (la : Nat), r = r0 ++ [la] := ⟨r.dropLast, r.getLast hr0, (List.dropLast_concat_getLast hr0).symm⟩
          have lal : last < ds.length := lt last (by simp)
          have hW7 := s7 _ _ hW6
          have ivs : iV (rl0 ++ [last]) = iV rl0 ++ [.int (last : Int)] := by unfold iV; rw [List.map_append]; rfl
          have hW8 : (upd (upd H5 e (.lst [])) F2 (.lst (xs ++ iV (rl0 ++ [last])))) W = some (.lst (iV rl0 ++ [.int (last : Int)])) := hW7.trans (by rw [ivs])
          obtain ⟨t, et, ht⟩ := dd_at (DdAll.same (s6.trans s7) dd5) lal
          refine ⟨_, rfl, _, rfl, _, rfl, W, _, _, _, rfl, rfl, .inl (.inl hW8), atI_last _ _, D, ys, _, _, rfl, rfl, .inl (.inl (s7 _ _ (s6 _ _ hD5))), atI_nat et, t, _, _, _, rfl, rfl, .inl (.inl ht), rfl, ?_⟩
          have fn7 : FN p F2 (upd _ F2 (.lst (xs ++ iV (rl0 ++ [last])))) (xs ++ iV (rl0 ++ [last])) (its ++ (rl0 ++ [last]).map fun i : Nat => PyData.int (i : Int)) :=
            FN.app ⟨fn6.1.same s7, DVs.fresh s7 hF2 fn6.1⟩ (FN.ints _)
          refine ⟨_, _, _, _, (dAt ds last).g, F2, _, _, rfl, ?_, hp6.ne hF2, upd_same, fn7, ?_, ?_, hp6.same s7, ButD.trans b06 (Same.but s7)⟩
          · exact ButD.free2 b06 (hp6.ne hF2) hF2
          · intro x hx
            rcases List.mem_append.mp hx with hx | hx
            · exact iok x hx
            · obtain ⟨j, hj, rfl⟩ := List.mem_map.mp hx
              exact .inl ⟨j, rfl, lt j hj⟩
          · refine ⟨by rw [List.length_append, List.length_map]; omega, fun k => ?_⟩
            rw [List.map_append, List.sum_append]
            have h1 := iw k
            have h2 := wtI (wt k) (rl0 ++ [last])
            omega
    · rintro σ H2 ⟨v5, v6, v7, v8, p2, fo, xs, its, rfl, f0, fp, hf, fn, iok, ⟨il, iw⟩, hp2, b2⟩
      exact ⟨_, rfl, q fo xs its H2 f0 hf fn.1 iok (by omega) (fun k => by have := iw k; omega) hp2 b2⟩
end
end L2.K23
end

section
set_option Elab.async false
set_option linter.all false
set_option maxRecDepth 100000
set_option maxHeartbeats 4000000
namespace L2.K23
open PySem PySem.Spec PyProof.Rows L2.Gd
/-! ### the same items, great times -/
def itemG (g : PyData → Nat) (B : Nat) : PyData → Nat
  | .tuple [x, .int _] => (B + 1) * (g x + 1)
  | _ => 1
def gw : Nat → Nat → PyData → Nat
  | 0, _, _ => 0
  | k + 1, B, d => match seqOf d with
    | some its => (its.map (itemG (gw k 500) B)).sum
    | none => 0
/-- at most n items in each list -/
def lnD (n : Nat) : Nat → PyData → Prop
  | 0, _ => True
  | k + 1, d => ∀ its, seqOf d = some its → its.length ≤ n ∧ ∀ x t, .tuple [x, .int t] ∈ its → lnD n k x
def PZ (Z : Addr → Prop) (H : Hp) (xs : List V) (its : List PyData) : Prop := ∀ b, Z b → DVs b H xs its
/-- all but two -/
def ButX (p l : Addr) (H H' : Hp) : Prop := ∀ b o, b ≠ p → b ≠ l → H b = some o → H' b = some o
theorem butD_upd {l : Addr} {H : Hp} {o : HO} : ButD l H (upd H l o) := fun b u ne e => by
  rw [upd_ne ne]
  exact e
theorem pot_upd2 {p o : Addr} {H : Hp} {x : HO} (hp : PotAt H p) (ne : o ≠ p) : PotAt (upd H o x) p := by
  obtain ⟨a, b, e, r⟩ := hp
  exact ⟨a, b, by rw [upd_ne (Ne.symm ne)]; exact e, r⟩
def spGt (k : Nat) : Sp := fun vs H Q _ => ∃ (p a S : Addr) (d : PyData) (m : Int) (tms : List Nat) (B : Nat), vs = [.ref p, .ref a, .ref S] ∧ PotAt H p ∧ DV p H (.ref a) d ∧ hasF k m d = true ∧ lnD 100 k d ∧ H S = some (.lst (tms.map fun t : Nat => V.int (t : Int))) ∧ S ≠ p ∧ tms ≠ [] ∧ tms.length ≤ 100 ∧ (∀ t ∈ tms, t ≤ B) ∧
  ∀ l us os H', H l = none → H' l = some (.lst us) → us.length ≤ 100 → (∀ b, H b ≠ none → DVs b H' us os) → hasF k m (.list os) = true → wt k (.list os) ≤ gw k B d → PotAt H' p → ButD p H H' → Q (.ref l) H'
def NGt : List Str := ["_law_pot_here", "_law_items_here", "_law_some", "_law_found", "_law_item", "_law_times_here"]
abbrev PGt : List Str := ["_law_pot_here", "_law_items_here", "_law_some"]
theorem scGt : FnScope NGt PGt (defScope (top 59)) := ⟨rfl, rfl, rfl, by decide +kernel, rfl, by decide +kernel, by decide +kernel⟩
abbrev σT (p a S l : Addr) (x4 x5 : Option V) : L2.St := [some (.ref p), some (.ref a), some (.ref S), some (.ref l), x4, x5]
section
variable {P : Program} {w : World} {K : PySem.W.Frag} {mg : Str → Option Value} {base : Heap} {C : Addr}
theorem ok_gt0 {f : Addr} {fd : FuncData} (F : Fun K "_law_great" "_law_great" (top 59) f fd) : FnOk P w K mg base CX0 2 f fd PGt (spGt 0) := by
  refine F.ok scGt (fun vs H Q E h => ?_) (fun cdv A outer s H vs Q E hr h => ?_)
  · obtain ⟨p, a, S, d, m, tms, B, rfl, _⟩ := h
    rfl
  · obtain ⟨p, a, S, d, m, tms, B, rfl, _, _, hf, _⟩ := h
    exact absurd (show false = true from hf) (by decide)
theorem ok_gtS {j : Nat} {f : Addr} {fd : FuncData} (F : Fun K "_law_great" "_law_great" (top 59) f fd) (n : Nm mg) (PK : Fn P w K mg base 2 "_law_pick" ["_law_pot_here", "_law_some"] spPick)
    (GT : Fn P w K mg base (2 + j) "_law_great" PGt (spGt j)) : FnOk P w K mg base CX0 (2 + j + 1) f fd PGt (spGt (j + 1)) := by
  refine F.ok scGt (fun vs H Q E h => ?_) (fun cdv A outer s H vs Q E hr h => ?_)
  · obtain ⟨p, a, S, d, m, tms, B, rfl, _⟩ := h
    rfl
  · obtain ⟨p, a, S, d, m, tms, B, rfl, hp, hd, hf, hl, hS, nSp, tne, t100, tB, q⟩ := h
    have N := scGt.nd
    have r2 := hr.mono (k := 2 + j) (j := 2) (by omega)
    have hln : ∀ its, seqOf d = some its → its.length ≤ 100 := fun its e => (hl its e).1
    have hln2 : ∀ {its}, seqOf d = some its → ∀ x t, .tuple [x, .int t] ∈ its → lnD 100 j x := fun {its} e x t h => (hl its e).2 x t h
    cases hd with
    | lst nep hx ts =>
      rename_i xs its
      refine ⟨_, pss_cons (ps_set (i := 3) N rfl (.inl rfl) (pe_lst pa_nil))
        (pss_cons (ps_for PassesOwn.never rfl (pi_list (pv 1)) (pg_name (i := 4) N rfl (.inl rfl))
          (pss_one (ps_if (pt_val (pe_isTuple n (pv 4)))
            (pss_cons (ps_set (i := 5) N rfl (.inl rfl) (pe_fn PK r2 (pa_cons (pv 0) (pa_cons (pv 2) pa_nil))))
            (pss_one (ps_expr (pe_bm PySem.F.plainAttrs_list PySem.F.slot_list_append PySem.F.type_list_append mt_append (pv 3) (pa_cons (pe_tup (pa_cons (pe_fn GT hr (pa_cons (pv 0) (pa_cons (pe_ix ix_tup (pv 4) pe_int (fun _ _ => rfl)) (pa_cons (pe_lst (pa_cons pe_int (pa_cons pe_int (pa_cons pe_int (pa_cons pe_int pa_nil))))) pa_nil)))) (pa_cons (pv 5) pa_nil))) pa_nil)))))
            (pss_one (ps_expr (pe_bm PySem.F.plainAttrs_list PySem.F.slot_list_append PySem.F.type_list_append mt_append (pv 3) (pa_cons (pv 4) pa_nil)))))))
        (pss_one (ps_ret (pv 3)))), ?_⟩
      have hf : its.all (itemF (hasF j m) m) = true := hf
      have lts := ts.len
      refine seqV (Good := fun σ2 H2 => ∃ l, H l = none ∧ H2 l = some (.lst []) ∧ Same H H2 ∧ σ2 = σT p a S l none none)
        (fun nx hnx => ⟨(by show 0 ≤ sizeLine; decide), fun l ho => hnx _ _ ⟨l, ho, upd_same, same_upd ho, rfl⟩⟩) ?_
      rintro _ H1 ⟨l, nl, hl1, s1, rfl⟩
      have nlp : l ≠ p := fun z => by
        obtain ⟨_, _, e, _⟩ := hp
        rw [← z, nl] at e
        exact nomatch e
      have hp1 := hp.same s1
      have naS : ∀ b, H b ≠ none → b ≠ l := fun b hb z => hb (by rw [z]; exact nl)
      have g0 : gw (j + 1) B (.list its) = (its.map (itemG (gw j 500) B)).sum := rfl
      refine ⟨_, rfl, a, rfl, ⟨_, .inl (.inl (s1 _ _ hx))⟩, ?_⟩
      have hap : a ≠ p := nep
      refine loop_of (n := xs.length) (fun i σ H2 => ∃ (v4 v5 : Option V) (us : List V) (os : List PyData), σ = σT p a S l v4 v5 ∧ PotAt H2 p ∧ ButX p l H1 H2 ∧ H2 l = some (.lst us) ∧ us.length = i ∧ PZ (fun b => H b ≠ none ∨ b = l) H2 us os ∧ os.all (itemF (hasF j m) m) = true ∧ (os.map (itemW (wt j))).sum ≤ ((its.take i).map (itemG (gw j 500) B)).sum)
        ⟨none, none, [], [], rfl, hp1, fun _ _ _ _ z => z, hl1, rfl, fun _ _ => .nil, rfl, Nat.le_refl _⟩ ?_ ?_
      · rintro σ H2 ⟨v4, v5, us, os, rfl, hp2, b2, hl2, len, pz, ho, hw⟩
        have hx2 := b2 _ _ hap (naS a (by rw [hx]; simp)) (s1 _ _ hx)
        refine ⟨⟨xs, .inl (.inl hx2), Nat.le_refl _⟩, ?_⟩
        rw [lts, List.take_length] at hw
        refine ⟨_, rfl, q l us os H2 nl hl2 (by rw [len, lts]; exact hln _ rfl) (fun b hb => pz b (.inl hb)) (show os.all _ = true from ho) (by rw [g0]; exact hw) hp2 fun b o ne e => ?_⟩
        exact b2 _ _ ne (naS b (by rw [e]; simp)) (s1 _ _ e)
      · rintro i σ H2 hi ⟨v4, v5, us, os, rfl, hp2, b2, hl2, len, pz, ho, hw⟩
        have hx2 := b2 _ _ hap (naS a (by rw [hx]; simp)) (s1 _ _ hx)
        refine ⟨⟨xs, _, .inl (.inl hx2), List.getElem?_eq_getElem hi⟩, ?_⟩
        rintro v H' ⟨rfl, hy⟩
        have hvi := hy xs (.inl (.inl hx2))
        obtain ⟨it, hit, hdx⟩ := ts.at hvi
        have hmem := List.mem_of_getElem? hit
        have hiF : itemF (hasF j m) m it = true := List.all_eq_true.mp hf it hmem
        have tk : its.take (i + 1) = its.take i ++ [it] := by rw [List.take_succ, hit]; rfl
        have bp : ButD p H H' → True := fun _ => trivial
        have b0 : ButD p H H' := fun b o ne e => b2 _ _ ne (naS b (by rw [e]; simp)) (s1 _ _ e)
        have hdx2 : DV p H' v it := DV.comb hp.lst b0 hdx hdx
        have hS2 : H' S = some (.lst (tms.map fun t : Nat => V.int (t : Int))) := b0 _ _ nSp hS
        have hul : us.length < xs.length := by omega
        have x100 : xs.length ≤ 100 := by rw [lts]; exact hln _ rfl
        refine gn ?_
        refine ⟨_, rfl, isi_mk hdx2.ty (kit_tuple it) ⟨_, rfl, ?_⟩⟩
        rcases itemF_of hiF with ⟨z, rfl, z0, z1⟩ | ⟨d1, t0, rfl, t0p, hx3⟩
        · cases hdx2
          refine iteF ?_
          refine ⟨_, rfl, .inl ⟨rfl, _, .inl (.inl hl2)⟩, _, rfl, l, us, _, rfl, rfl, hl2, by rw [sizeLine_eq]; omega, ?_⟩
          refine ⟨_, _, us ++ [.int z], os ++ [.int z], rfl, pot_upd2 hp2 nlp, fun b o n1 n2 e => by rw [upd_ne n2]; exact b2 b o n1 n2 e, upd_same, by rw [List.length_append]; show us.length + 1 = _; omega, ?_, ?_, ?_⟩
          · exact fun b hb => DVs.comb ⟨_, hl2⟩ (butD_upd) (DVs.app (pz b hb) (.cons (.int z) .nil)) (DVs.app (pz l (.inr rfl)) (.cons (.int z) .nil))
          · rw [List.all_append, ho, Bool.true_and, List.all_cons, hiF]
            rfl
          · rw [tk, List.map_append, List.map_append, List.sum_append, List.sum_append]
            exact Nat.add_le_add hw (Nat.le_refl _)
        · cases hdx2 with
          | tup ht tt =>
            rename_i t ts2
            match ts2, tt with
            | [y1, y2], .cons k1 (.cons k2 .nil) =>
              cases k2
              obtain ⟨a2, rfl⟩ := hasF_ref k1 hx3
              refine iteT ?_
              refine ⟨_, rfl, _, rfl, p, S, _, rfl, hp2, hS2, nSp, by rw [List.length_map]; exact List.length_pos_iff.mpr tne, by rw [List.length_map]; omega, fun x H3 hxm hp3 b3 => ?_⟩
              obtain ⟨tm, htm, rfl⟩ := List.mem_map.mp hxm
              have tmB := tB tm htm
              have hl3 := b3 _ _ nlp hl2
              have ht3 := b3 _ _ (pot_ne hp2 ht) ht
              have k13 : DV p H3 (.ref a2) d1 := DV.comb hp2.lst b3 k1 k1
              have pz3 : PZ (fun b => H b ≠ none ∨ b = l) H3 us os := fun b hb => DVs.comb hp2.lst b3 (pz b hb) (pz p (.inl (by obtain ⟨_, _, e, _⟩ := hp; rw [e]; simp)))
              have all3 : ∀ b, (H b ≠ none ∨ b = l) → H3 b ≠ none := fun b hb => by
                rcases hb with hb | rfl
                · by_cases e : b = p
                  · obtain ⟨_, _, e2, _⟩ := hp3
                    rw [e, e2]
                    simp
                  · cases hH : H b with
                    | none => exact absurd hH hb
                    | some o =>
                      rw [b3 _ _ e (b0 _ _ e hH)]
                      simp
                · rw [hl3]
                  simp
              refine ⟨_, rfl, .inl ⟨rfl, _, .inl (.inl hl3)⟩, _, rfl, _, rfl, t, _, _, _, rfl, rfl, .inl (.inl ht3), rfl, (by show 4 ≤ sizeLine; decide), fun S2 hS3 => ?_⟩
              have s3 := same_upd (o := .lst [V.int 0, V.int 1, V.int 2, V.int 500]) hS3
              have nS2 : S2 ≠ p := fun z => by
                obtain ⟨_, _, e, _⟩ := hp3
                rw [← z, hS3] at e
                exact nomatch e
              refine ⟨p, a2, S2, d1, m, [0, 1, 2, 500], 500, rfl, hp3.same s3, k13.same s3, hx3, hln2 rfl d1 t0 hmem, upd_same, nS2, by simp, by decide, fun t2 h2 => ?_, fun l2 us2 os2 H4 nl2 hl4 len2 pz2 ho2 hw2 hp4 b4 => ?_⟩
              · simp only [List.mem_cons, List.not_mem_nil, or_false] at h2
                rcases h2 with rfl | rfl | rfl | rfl <;> decide
              have b34 : ButD p H3 H4 := fun b o ne e => b4 _ _ ne (s3 _ _ e)
              have hl5 := b34 _ _ nlp hl3
              have nl23 : H3 l2 = none := by
                cases e : H3 l2 with
                | none => rfl
                | some o =>
                  rw [s3 _ _ e] at nl2
                  exact nomatch nl2
              have pz4 : PZ (fun b => H b ≠ none ∨ b = l) H4 us os := fun b hb => DVs.comb hp3.lst b34 (pz3 b hb) (pz3 p (.inl (by obtain ⟨_, _, e, _⟩ := hp; rw [e]; simp)))
              refine ⟨_, rfl, (by show 2 ≤ sizeLine; decide), fun t2 ht2 => ?_⟩
              have s5 := same_upd (o := .tup [V.ref l2, V.int (tm : Nat)]) ht2
              have hl6 := s5 _ _ hl5
              have new : ∀ b, (H b ≠ none ∨ b = l) → DV b (upd H4 t2 (.tup [V.ref l2, V.int (tm : Nat)])) (.ref t2) (.tuple [.list os2, .int (tm : Int)]) := fun b hb => by
                have h3 := all3 b hb
                have hs : upd H3 S2 (.lst [V.int 0, V.int 1, V.int 2, V.int 500]) b ≠ none := by
                  cases e : H3 b with
                  | none => exact absurd e h3
                  | some o =>
                    rw [s3 _ _ e]
                    simp
                refine .tup upd_same (.cons (.lst (fun z => ?_) (s5 _ _ hl4) (DVs.same s5 (pz2 b hs))) (.cons (.int _) .nil))
                rw [z] at nl23
                exact h3 nl23
              refine ⟨l, us, _, rfl, rfl, hl6, by rw [sizeLine_eq]; omega, ?_⟩
              have hp6 := hp4.same s5
              refine ⟨_, _, us ++ [.ref t2], os ++ [.tuple [.list os2, .int (tm : Int)]], rfl, pot_upd2 hp6 nlp, fun b o n1 n2 e => by rw [upd_ne n2]; exact s5 _ _ (b34 _ _ n1 (b3 _ _ n1 (b2 b o n1 n2 e))), upd_same, by rw [List.length_append]; show us.length + 1 = _; omega, ?_, ?_, ?_⟩
              · exact fun b hb => DVs.comb ⟨_, hl6⟩ butD_upd (DVs.app (DVs.same s5 (pz4 b hb)) (.cons (new b hb) .nil)) (DVs.app (DVs.same s5 (pz4 l (.inr rfl))) (.cons (new l (.inr rfl)) .nil))
              · rw [List.all_append, ho, Bool.true_and, List.all_cons]
                have : itemF (hasF j m) m (.tuple [.list os2, .int (tm : Int)]) = true := by
                  show (decide (0 ≤ (tm : Int)) && hasF j m (.list os2)) = true
                  rw [ho2, decide_eq_true (by omega)]
                  rfl
                rw [this]
                rfl
              · rw [tk, List.map_append, List.map_append, List.sum_append, List.sum_append]
                refine Nat.add_le_add hw ?_
                show (((tm : Int)).toNat + 1) * (wt j (.list os2) + 1) + 0 ≤ (B + 1) * (gw j 500 d1 + 1) + 0
                rw [Int.toNat_natCast]
                exact Nat.add_le_add_right (Nat.mul_le_mul (Nat.succ_le_succ tmB) (Nat.succ_le_succ hw2)) 0
    | tup hx ts =>
      rename_i xs its
      refine ⟨_, pss_cons (ps_set (i := 3) N rfl (.inl rfl) (pe_lst pa_nil))
        (pss_cons (ps_for PassesOwn.never rfl (pi_tup (pv 1)) (pg_name (i := 4) N rfl (.inl rfl))
          (pss_one (ps_if (pt_val (pe_isTuple n (pv 4)))
            (pss_cons (ps_set (i := 5) N rfl (.inl rfl) (pe_fn PK r2 (pa_cons (pv 0) (pa_cons (pv 2) pa_nil))))
            (pss_one (ps_expr (pe_bm PySem.F.plainAttrs_list PySem.F.slot_list_append PySem.F.type_list_append mt_append (pv 3) (pa_cons (pe_tup (pa_cons (pe_fn GT hr (pa_cons (pv 0) (pa_cons (pe_ix ix_tup (pv 4) pe_int (fun _ _ => rfl)) (pa_cons (pe_lst (pa_cons pe_int (pa_cons pe_int (pa_cons pe_int (pa_cons pe_int pa_nil))))) pa_nil)))) (pa_cons (pv 5) pa_nil))) pa_nil)))))
            (pss_one (ps_expr (pe_bm PySem.F.plainAttrs_list PySem.F.slot_list_append PySem.F.type_list_append mt_append (pv 3) (pa_cons (pv 4) pa_nil)))))))
        (pss_one (ps_ret (pv 3)))), ?_⟩
      have hf : its.all (itemF (hasF j m) m) = true := hf
      have lts := ts.len
      refine seqV (Good := fun σ2 H2 => ∃ l, H l = none ∧ H2 l = some (.lst []) ∧ Same H H2 ∧ σ2 = σT p a S l none none)
        (fun nx hnx => ⟨(by show 0 ≤ sizeLine; decide), fun l ho => hnx _ _ ⟨l, ho, upd_same, same_upd ho, rfl⟩⟩) ?_
      rintro _ H1 ⟨l, nl, hl1, s1, rfl⟩
      have nlp : l ≠ p := fun z => by
        obtain ⟨_, _, e, _⟩ := hp
        rw [← z, nl] at e
        exact nomatch e
      have hp1 := hp.same s1
      have naS : ∀ b, H b ≠ none → b ≠ l := fun b hb z => hb (by rw [z]; exact nl)
      have g0 : gw (j + 1) B (.tuple its) = (its.map (itemG (gw j 500) B)).sum := rfl
      refine ⟨_, rfl, a, rfl, ⟨_, .inl (.inl (s1 _ _ hx))⟩, ?_⟩
      have hap : a ≠ p := pot_ne hp hx
      refine loop_of (n := xs.length) (fun i σ H2 => ∃ (v4 v5 : Option V) (us : List V) (os : List PyData), σ = σT p a S l v4 v5 ∧ PotAt H2 p ∧ ButX p l H1 H2 ∧ H2 l = some (.lst us) ∧ us.length = i ∧ PZ (fun b => H b ≠ none ∨ b = l) H2 us os ∧ os.all (itemF (hasF j m) m) = true ∧ (os.map (itemW (wt j))).sum ≤ ((its.take i).map (itemG (gw j 500) B)).sum)
        ⟨none, none, [], [], rfl, hp1, fun _ _ _ _ z => z, hl1, rfl, fun _ _ => .nil, rfl, Nat.le_refl _⟩ ?_ ?_
      · rintro σ H2 ⟨v4, v5, us, os, rfl, hp2, b2, hl2, len, pz, ho, hw⟩
        have hx2 := b2 _ _ hap (naS a (by rw [hx]; simp)) (s1 _ _ hx)
        refine ⟨⟨xs, .inl (.inl hx2), Nat.le_refl _⟩, ?_⟩
        rw [lts, List.take_length] at hw
        refine ⟨_, rfl, q l us os H2 nl hl2 (by rw [len, lts]; exact hln _ rfl) (fun b hb => pz b (.inl hb)) (show os.all _ = true from ho) (by rw [g0]; exact hw) hp2 fun b o ne e => ?_⟩
        exact b2 _ _ ne (naS b (by rw [e]; simp)) (s1 _ _ e)
      · rintro i σ H2 hi ⟨v4, v5, us, os, rfl, hp2, b2, hl2, len, pz, ho, hw⟩
        have hx2 := b2 _ _ hap (naS a (by rw [hx]; simp)) (s1 _ _ hx)
        refine ⟨⟨xs, _, .inl (.inl hx2), List.getElem?_eq_getElem hi⟩, ?_⟩
        rintro v H' ⟨rfl, hy⟩
        have hvi := hy xs (.inl (.inl hx2))
        obtain ⟨it, hit, hdx⟩ := ts.at hvi
        have hmem := List.mem_of_getElem? hit
        have hiF : itemF (hasF j m) m it = true := List.all_eq_true.mp hf it hmem
        have tk : its.take (i + 1) = its.take i ++ [it] := by rw [List.take_succ, hit]; rfl
        have bp : ButD p H H' → True := fun _ => trivial
        have b0 : ButD p H H' := fun b o ne e => b2 _ _ ne (naS b (by rw [e]; simp)) (s1 _ _ e)
        have hdx2 : DV p H' v it := DV.comb hp.lst b0 hdx hdx
        have hS2 : H' S = some (.lst (tms.map fun t : Nat => V.int (t : Int))) := b0 _ _ nSp hS
        have hul : us.length < xs.length := by omega
        have x100 : xs.length ≤ 100 := by rw [lts]; exact hln _ rfl
        refine gn ?_
        refine ⟨_, rfl, isi_mk hdx2.ty (kit_tuple it) ⟨_, rfl, ?_⟩⟩
        rcases itemF_of hiF with ⟨z, rfl, z0, z1⟩ | ⟨d1, t0, rfl, t0p, hx3⟩
        · cases hdx2
          refine iteF ?_
          refine ⟨_, rfl, .inl ⟨rfl, _, .inl (.inl hl2)⟩, _, rfl, l, us, _, rfl, rfl, hl2, by rw [sizeLine_eq]; omega, ?_⟩
          refine ⟨_, _, us ++ [.int z], os ++ [.int z], rfl, pot_upd2 hp2 nlp, fun b o n1 n2 e => by rw [upd_ne n2]; exact b2 b o n1 n2 e, upd_same, by rw [List.length_append]; show us.length + 1 = _; omega, ?_, ?_, ?_⟩
          · exact fun b hb => DVs.comb ⟨_, hl2⟩ (butD_upd) (DVs.app (pz b hb) (.cons (.int z) .nil)) (DVs.app (pz l (.inr rfl)) (.cons (.int z) .nil))
          · rw [List.all_append, ho, Bool.true_and, List.all_cons, hiF]
            rfl
          · rw [tk, List.map_append, List.map_append, List.sum_append, List.sum_append]
            exact Nat.add_le_add hw (Nat.le_refl _)
        · cases hdx2 with
          | tup ht tt =>
            rename_i t ts2
            match ts2, tt with
            | [y1, y2], .cons k1 (.cons k2 .nil) =>
              cases k2
              obtain ⟨a2, rfl⟩ := hasF_ref k1 hx3
              refine iteT ?_
              refine ⟨_, rfl, _, rfl, p, S, _, rfl, hp2, hS2, nSp, by rw [List.length_map]; exact List.length_pos_iff.mpr tne, by rw [List.length_map]; omega, fun x H3 hxm hp3 b3 => ?_⟩
              obtain ⟨tm, htm, rfl⟩ := List.mem_map.mp hxm
              have tmB := tB tm htm
              have hl3 := b3 _ _ nlp hl2
              have ht3 := b3 _ _ (pot_ne hp2 ht) ht
              have k13 : DV p H3 (.ref a2) d1 := DV.comb hp2.lst b3 k1 k1
              have pz3 : PZ (fun b => H b ≠ none ∨ b = l) H3 us os := fun b hb => DVs.comb hp2.lst b3 (pz b hb) (pz p (.inl (by obtain ⟨_, _, e, _⟩ := hp; rw [e]; simp)))
              have all3 : ∀ b, (H b ≠ none ∨ b = l) → H3 b ≠ none := fun b hb => by
                rcases hb with hb | rfl
                · by_cases e : b = p
                  · obtain ⟨_, _, e2, _⟩ := hp3
                    rw [e, e2]
                    simp
                  · cases hH : H b with
                    | none => exact absurd hH hb
                    | some o =>
                      rw [b3 _ _ e (b0 _ _ e hH)]
                      simp
                · rw [hl3]
                  simp
              refine ⟨_, rfl, .inl ⟨rfl, _, .inl (.inl hl3)⟩, _, rfl, _, rfl, t, _, _, _, rfl, rfl, .inl (.inl ht3), rfl, (by show 4 ≤ sizeLine; decide), fun S2 hS3 => ?_⟩
              have s3 := same_upd (o := .lst [V.int 0, V.int 1, V.int 2, V.int 500]) hS3
              have nS2 : S2 ≠ p := fun z => by
                obtain ⟨_, _, e, _⟩ := hp3
                rw [← z, hS3] at e
                exact nomatch e
              refine ⟨p, a2, S2, d1, m, [0, 1, 2, 500], 500, rfl, hp3.same s3, k13.same s3, hx3, hln2 rfl d1 t0 hmem, upd_same, nS2, by simp, by decide, fun t2 h2 => ?_, fun l2 us2 os2 H4 nl2 hl4 len2 pz2 ho2 hw2 hp4 b4 => ?_⟩
              · simp only [List.mem_cons, List.not_mem_nil, or_false] at h2
                rcases h2 with rfl | rfl | rfl | rfl <;> decide
              have b34 : ButD p H3 H4 := fun b o ne e => b4 _ _ ne (s3 _ _ e)
              have hl5 := b34 _ _ nlp hl3
              have nl23 : H3 l2 = none := by
                cases e : H3 l2 with
                | none => rfl
                | some o =>
                  rw [s3 _ _ e] at nl2
                  exact nomatch nl2
              have pz4 : PZ (fun b => H b ≠ none ∨ b = l) H4 us os := fun b hb => DVs.comb hp3.lst b34 (pz3 b hb) (pz3 p (.inl (by obtain ⟨_, _, e, _⟩ := hp; rw [e]; simp)))
              refine ⟨_, rfl, (by show 2 ≤ sizeLine; decide), fun t2 ht2 => ?_⟩
              have s5 := same_upd (o := .tup [V.ref l2, V.int (tm : Nat)]) ht2
              have hl6 := s5 _ _ hl5
              have new : ∀ b, (H b ≠ none ∨ b = l) → DV b (upd H4 t2 (.tup [V.ref l2, V.int (tm : Nat)])) (.ref t2) (.tuple [.list os2, .int (tm : Int)]) := fun b hb => by
                have h3 := all3 b hb
                have hs : upd H3 S2 (.lst [V.int 0, V.int 1, V.int 2, V.int 500]) b ≠ none := by
                  cases e : H3 b with
                  | none => exact absurd e h3
                  | some o =>
                    rw [s3 _ _ e]
                    simp
                refine .tup upd_same (.cons (.lst (fun z => ?_) (s5 _ _ hl4) (DVs.same s5 (pz2 b hs))) (.cons (.int _) .nil))
                rw [z] at nl23
                exact h3 nl23
              refine ⟨l, us, _, rfl, rfl, hl6, by rw [sizeLine_eq]; omega, ?_⟩
              have hp6 := hp4.same s5
              refine ⟨_, _, us ++ [.ref t2], os ++ [.tuple [.list os2, .int (tm : Int)]], rfl, pot_upd2 hp6 nlp, fun b o n1 n2 e => by rw [upd_ne n2]; exact s5 _ _ (b34 _ _ n1 (b3 _ _ n1 (b2 b o n1 n2 e))), upd_same, by rw [List.length_append]; show us.length + 1 = _; omega, ?_, ?_, ?_⟩
              · exact fun b hb => DVs.comb ⟨_, hl6⟩ butD_upd (DVs.app (DVs.same s5 (pz4 b hb)) (.cons (new b hb) .nil)) (DVs.app (DVs.same s5 (pz4 l (.inr rfl))) (.cons (new l (.inr rfl)) .nil))
              · rw [List.all_append, ho, Bool.true_and, List.all_cons]
                have : itemF (hasF j m) m (.tuple [.list os2, .int (tm : Int)]) = true := by
                  show (decide (0 ≤ (tm : Int)) && hasF j m (.list os2)) = true
                  rw [ho2, decide_eq_true (by omega)]
                  rfl
                rw [this]
                rfl
              · rw [tk, List.map_append, List.map_append, List.sum_append, List.sum_append]
                refine Nat.add_le_add hw ?_
                show (((tm : Int)).toNat + 1) * (wt j (.list os2) + 1) + 0 ≤ (B + 1) * (gw j 500 d1 + 1) + 0
                rw [Int.toNat_natCast]
                exact Nat.add_le_add_right (Nat.mul_le_mul (Nat.succ_le_succ tmB) (Nat.succ_le_succ hw2)) 0
    | dct hx => exact absurd (show false = true from hf) (by decide)
end
end L2.K23
end

section
set_option Elab.async false
set_option linter.all false
set_option maxRecDepth 100000
set_option maxHeartbeats 2000000
/-! repr of data of any kind -/
namespace L2.Gd
open PySem PySem.Spec PyProof.Rows
section
variable {X : Cx}
theorem call_reprAny (hg : X.A.guards = some []) (hu : X.A.units + 64 < cLine) :
    CallR X (.builtin "repr") (fun xs H Q => ∃ x d, xs = [x] ∧ Dp X.K H x d ∧ Showy d ∧ Q (.str d.shown) H) := by
  rintro pins s σ H xs us Q I r ⟨x, d, rfl, hd, sh, q⟩
  obtain ⟨u, rfl, ru⟩ := vals1 r
  cases hd with
  | non =>
    obtain rfl := ru
    exact PySem.P.repr_of_none ⟨.str _, H, I.tok _, ⟨_, rfl⟩, q⟩
  | bl b =>
    obtain rfl := ru
    refine PySem.P.repr_of_bool ⟨.str _, H, I.tok _, ⟨_, rfl⟩, ?_⟩
    cases b <;> exact q
  | int i =>
    obtain ⟨t, rfl⟩ := ru
    have hz : i.natAbs.log2 < 1920 := by
      have := sh.1
      simpa only [PyData.showable, decide_eq_true_eq] using this
    exact PySem.P.repr_of_int hz ⟨.str _, H, I.tok _, ⟨_, rfl⟩, q⟩
  | str z =>
    obtain ⟨t, rfl⟩ := ru
    have hz := sh.2.2.2
    exact PySem.P.repr_of_str ⟨.str _, H, I.tok _, ⟨_, rfl⟩, q⟩ (by simpa only [PyData.shown] using hz)
  | lst h t => exact call_reprD hg hu pins s σ H _ _ Q I (.cons ru .nil) ⟨_, _, rfl, .lst h t, sh, q⟩
  | tup h t => exact call_reprD hg hu pins s σ H _ _ Q I (.cons ru .nil) ⟨_, _, rfl, .tup h t, sh, q⟩
end
end L2.Gd
namespace L2.Gd
open PySem PySem.Spec PyProof.Rows
/-- a dict of ints by ints -/
def dI (ps : List (Int × Int)) : List (Key × V) := ps.map fun p => (.inl p.1, .int p.2)
def dP (ps : List (Int × Int)) : PyData := .dict (ps.map fun p => (.int p.1, .int p.2))
theorem reads_ints {h : Heap} {P : Program} {w : World} : ∀ (ps : List (Int × Int)) (es : List DictEntry) (vs : List (Key × Value)), KV (dI ps) vs → Pairs (mixKind P w) es vs →
    ReadsAll h (es.map (·.key)) (ps.map fun p => PyData.int p.1) [] ∧ ReadsAll h (es.map (·.val)) (ps.map fun p => PyData.int p.2) []
  | [], es, vs, kv, pr => by
    cases kv
    cases pr
    exact ⟨.nil, .nil⟩
  | p :: ps, es, vs, kv, pr => by
    cases kv with
    | cons k1 k2 =>
      cases pr with
      | cons e1 e2 e3 =>
        obtain ⟨ke, kr⟩ := k1
        obtain ⟨a, b⟩ := reads_ints (h := h) ps _ _ k2 e3
        obtain ⟨t, ev⟩ := kr
        have e1' : keyIs _ _ = true := e1
        rw [← ke] at e1'
        rcases keyIs_shape e1' with ⟨i, u, h1, h2⟩ | ⟨x, u, h1, h2⟩
        · cases h1
          refine ⟨?_, ?_⟩
          · rw [List.map_cons, List.map_cons, h2]
            exact ReadsAll.cons (as := []) (bs := []) (.int _ _) a
          · rw [List.map_cons, List.map_cons, e2, ev]
            exact ReadsAll.cons (as := []) (bs := []) (.int _ _) b
        · exact nomatch h1
section
variable {X : Cx}
/-- repr of such -/
theorem call_reprDI (hg : X.A.guards = some []) (hu : X.A.units + 64 < cLine) :
    CallR X (.builtin "repr") (fun xs H Q => ∃ a ps, xs = [.ref a] ∧ H a = some (.dK (dI ps)) ∧ (dP ps).showable = true ∧ (dP ps).depth ≤ 20 ∧ (dP ps).shown.length ≤ sizeLine ∧ Q (.str (dP ps).shown) H) := by
  rintro pins s σ H xs us Q I r ⟨a, ps, rfl, ha, h1, h2, h3, q⟩
  rw [Vals.ref1 r]
  obtain ⟨hz, ns, vs, kv, o, es, ep, ho, ex, hd, _, prs, _⟩ := (show ObjOk X.prog X.w H s.heap a (.dK (dI ps)) from I.hok a _ ha)
  obtain ⟨r1, r2⟩ := reads_ints (h := s.heap) ps _ _ kv prs
  have rd : Reads s.heap (.ref a) (dP ps) (a :: [] ++ []) := .dict ho ex.1 hd (by rw [List.map_map]; exact r1) (by rw [List.map_map]; exact r2)
  refine repr_of_reads' rd h1 (fun _ hm => ?_) hg (by omega) (fun _ _ q => q) ?_ h3
  · have e : sysModules = a := by simpa using hm
    rw [e] at ns
    simp at ns
  · intro h' u tk k
    exact ⟨.str _, H, I.kept k, ⟨_, rfl⟩, q⟩
end
end L2.Gd
end

section
set_option Elab.async false
set_option linter.all false
set_option maxRecDepth 100000
set_option maxHeartbeats 1000000
namespace L2.K23
open PySem PySem.Spec PyProof.Rows L2.Gd L2.Tw LamX
/-! ### defs that make a lambda -/
structure FunL (K : PySem.W.Frag) (x : Str) (st : Stmt) (f : Addr) (fd : FuncData) (c : Addr) : Prop where
  ex : ∃ (oc : Value) (od : Option Addr) (kV doc pm : Value) (an : Option Addr) (ct : Value) (osl : Array (Option Value)),
    fd = PySem.W.fnOf x x (defArgs st) (defBody st) (defScope st) .none kV doc pm an (.ref c) ct ∧ K.lookup f = some ⟨oc, od, .func fd, osl⟩ ∧ PySem.W.codeIn K (.ref c) x = true
  kp : PySem.W.keepIn K (.ref f) = true
theorem FunL.fn {K : PySem.W.Frag} {x : Str} {st : Stmt} {f c : Addr} {fd : FuncData} (F : FunL K x st f fd c) : Fun K x x st f fd := by
  obtain ⟨oc, od, kV, doc, pm, an, ct, osl, e, l, h⟩ := F.ex
  exact ⟨⟨oc, od, kV, doc, pm, an, .ref c, ct, osl, e, l, h⟩, F.kp⟩
section
variable {P : Program} {w : World} {K : PySem.W.Frag} {mg : Str → Option Value} {base : Heap}
theorem FunL.ok {x : Str} {st : Stmt} {f c : Addr} {fd : FuncData} {N ps : List Str} {k : Nat} {sp : Sp} (F : FunL K x st f fd c) (S : FnScope N ps (defScope st)) (len : ∀ vs H Q E, sp vs H Q E → vs.length = ps.length)
    (hbody : ∀ (A : Around) (outer : List Env) (s : Shared) (H : Hp) (vs : List V) (Q : VK) (E : XK), Room k (A.deeper (envOfC x (defScope st) s.heap.objs.size f (.ref c))) → sp vs H Q E →
      ∃ t, PSs (cxOf CX0 P w K mg base N x (defScope st) f (.ref c) A outer s H E).nox (defBody st) t ∧ t { nx := fun _ H' => Q .non H', rt := Q } (start N vs) H) : FnOk P w K mg base CX0 (k + 1) f fd ps sp := by
  obtain ⟨oc, od, kV, doc, pm, an, ct, osl, rfl, lk, hcd⟩ := F.ex
  exact fn_of lk hcd S len fun A outer s H vs Q E hr hsp => let ⟨t, h, q⟩ := hbody A outer s H vs Q E hr hsp; ⟨t, h.nox, q⟩
end
/-- the name that a lambda of the def x bears -/
abbrev lq (x : Str) : Str := (envOfC x (defScope (top 58)) 0 0 .none).qual ++ "<lambda>"
structure TbK (base : Heap) (mg : Str → Option Value) (T : List (Addr × Str)) (x : Str) (c P : Addr) : Prop where
  tb : TabB base mg c P
  m : (P, lq x) ∈ T
  u : ∀ p ∈ T, p.1 = P → p.2 = lq x
structure HeK (P : Program) (w : World) (K : PySem.W.Frag) (mg : Str → Option Value) (base : Heap) (CG CN : Addr) : Prop where
  G : GoX P w K mg base CG (spGI CG)
  N : PlX K mg CN
  tn : PySem.W.exmOne K (.ref CN) (.ref CG) = some false
  F : ∃ g fd, mg "_law_heard" = some (.ref g) ∧ Fun K "_law_heard" "_law_heard" (top 58) g fd ∧ Binds K fd ["_law_call"] []
section
variable {X : Cx} {CG CN c P : Addr} {T : List (Addr × Str)} {k : Nat} {params : Arguments} {body : Expr} {scope : Scope} {t : XK → TE} {p lpos pos : Pos} {x : Str}
theorem pe_heard (h : HeK X.prog X.w X.K X.mg X.base CG CN) (tb : TbK X.base X.mg T x c P) (hq : X.env.qual ++ "<lambda>" = lq x) (hcode : X.env.code = .ref c) (hr : Room (k + 2) X.A) (L : LamS X.env.scope scope)
    (hbody : ∀ (A : Around) (outer : List Env) (s : Shared) (H : Hp) (E : XK) (f c' : Addr), Room k (A.deeper (lamEnv X scope s.heap.objs.size f c')) → PE (lamCx X A outer s H E scope f c') body (t E))
    (hg : Gl X "_law_heard" := by rfl) (hdef : defaultsOf params X.env = ([], []) := by rfl)
    (hbind : ∀ (q : Str) (cl : List (Str × Addr)) (pm cv ctv : Value), bindArgs (PySem.W.kla_fn "<lambda>" q params body scope cl pm cv ctv) ⟨[], []⟩ = pure [] := by intros; rfl) :
    PE X (.Call (.Name "_law_heard" p) [.Lambda params body scope lpos] [] pos) (tLam T (TTh CG CN) t) := by
  obtain ⟨g, fd, hm, F, b⟩ := h.F
  obtain ⟨oc, od, kV, doc, pm, an, cdv, ct, osl, rfl, lk, hcd⟩ := F.ex
  exact pe_lamcall (Ng := NHe) (a := "_law_call") hg hm F.kp lk hcd b scHe rfl (scHe.par _ List.mem_cons_self |>.elim (fun h => .inl h) fun h => .inr (.inl h)) (heard_gives h.G h.N h.tn) tb.tb hcode (by rw [hq]; exact tb.m) (by rw [hq]; exact tb.u) hr L hdef hbind hbody
end
/-! ### what stays while tables grow -/
theorem codeO_lst {c : Addr} {q : Str} (zs : List V) : CodeO c q ≠ .lst zs := fun z => by
  unfold CodeO at z
  cases z
theorem Tabs.but {T : List (Addr × Str)} {p : Addr} {H H' : Hp} (hp : ∃ zs, H p = some (.lst zs)) (b : ButD p H H') (t : Tabs T H) : Tabs T H' := fun r hr => by
  obtain ⟨zs, hz⟩ := hp
  obtain ⟨ps, h1, h2, h3⟩ := t r hr
  refine ⟨ps, b _ _ (fun z => ?_) h1, h2, fun pos cv hc => ?_⟩
  · rw [z, hz] at h1
    exact nomatch h1
  · obtain ⟨c, e1, e2⟩ := h3 pos cv hc
    refine ⟨c, e1, b _ _ (fun z => ?_) e2⟩
    rw [z, hz] at e2
    exact codeO_lst zs (Option.some.inj e2).symm
theorem Tabs.same {T : List (Addr × Str)} {H H' : Hp} (s : Same H H') (t : Tabs T H) : Tabs T H' := Tabs.ext t s
theorem ext_same {H H' : Hp} (s : Same H H') : ExtN H H' := fun b o h _ => s b o h
theorem ext_tup {H H' : Hp} (e : ExtN H H') {a : Addr} {xs : List V} (h : H a = some (.tup xs)) : H' a = some (.tup xs) := e _ _ h fun _ z => nomatch z
theorem ext_lst {H H' : Hp} (e : ExtN H H') {a : Addr} {xs : List V} (h : H a = some (.lst xs)) : H' a = some (.lst xs) := e _ _ h fun _ z => nomatch z
theorem DV.extN {p : Addr} {H H' : Hp} (e : ExtN H H') : ∀ {v : V} {d : PyData}, DV p H v d → DV p H' v d := by
  intro v d h
  exact DV.rec (motive_1 := fun v d _ => DV p H' v d) (motive_2 := fun vs ds _ => DVs p H' vs ds) .non (fun b => .bl b) (fun i => .int i) (fun x => .str x)
    (fun n h _ ih => .lst n (ext_lst e h) ih) (fun h _ ih => .tup (ext_tup e h) ih) (fun h => .dct (e _ _ h fun _ z => nomatch z)) .nil (fun _ _ ih1 ih2 => .cons ih1 ih2) h
theorem DdAll.extN {H H' : Hp} (e : ExtN H H') {vs : List V} {ds : List Dd} (h : DdAll H vs ds) : DdAll H' vs ds := Paired.mapP h fun _ _ ⟨t, a, q⟩ => ⟨t, a, ext_tup e q⟩
theorem HouseL.extN {C : Addr} {H H' : Hp} {h l : Addr} {m : Int} {xs : List V} {ds : List Dd} (e : ExtN H H') (x : HouseL C H h l m xs ds) : HouseL C H' h l m xs ds :=
  ⟨let ⟨dx, o⟩ := x.ob; ⟨dx, e _ _ o fun _ z => nomatch z⟩, ext_lst e x.ls, x.dd.extN e⟩
theorem GvAt.extN {C2 q h l : Addr} {H H' : Hp} {m : Int} {xs : List V} {ds : List Dd} {v : V} {d : PyData} (e : ExtN H H') (g : GvAt C2 q H h l m xs ds v d) : GvAt C2 q H' h l m xs ds v d := ⟨g.hh.extN e, g.n60, g.dv.extN e, g.fw⟩
theorem BkV.extN {H H' : Hp} {v : V} {o : Option Blk} (e : ExtN H H') (h : BkV H v o) : BkV H' v o := by
  cases o with
  | none => exact h
  | some a => exact let ⟨t, r, q⟩ := h; ⟨t, r, ext_tup e q⟩
theorem PotAt.extN {H H' : Hp} {p : Addr} (e : ExtN H H') (h : PotAt H p) : PotAt H' p := let ⟨a, b, q, r⟩ := h; ⟨a, b, ext_lst e q, r⟩
end L2.K23
end

section
set_option Elab.async false
set_option linter.all false
set_option maxRecDepth 100000
set_option maxHeartbeats 1000000
namespace L2.K23
open PySem PySem.Spec PyProof.Rows L2.Gd L2.Tw LamX
/-! ### _law_done -/
def PrV (H : Hp) : V → Option (Int × Int) → Prop
  | v, none => v = .non
  | v, some x => ∃ u, v = .ref u ∧ H u = some (.tup [.int x.1, .int x.2])
theorem PrV.same {H H' : Hp} {v : V} {o : Option (Int × Int)} (s : Same H H') (h : PrV H v o) : PrV H' v o := by
  cases o with
  | none => exact h
  | some x => exact let ⟨u, e, q⟩ := h; ⟨u, e, s _ _ q⟩
theorem PrV.extN {H H' : Hp} {v : V} {o : Option (Int × Int)} (s : ExtN H H') (h : PrV H v o) : PrV H' v o := by
  cases o with
  | none => exact h
  | some x => exact let ⟨u, e, q⟩ := h; ⟨u, e, ext_tup s q⟩
def doneB (a : Blk) (p s : Int) : Option (Int × Int) := if a.n = 0 then some (p, s) else if a.b ≠ some p ∨ s < a.e ∨ (a.fo ≠ none ∧ a.fo ≠ some s) then none else some (a.f.getD 0, s + a.g)
theorem not_may {a : Blk} {s : Int} : (s < a.e ∨ (a.fo ≠ none ∧ a.fo ≠ some s)) ↔ ¬ mayB a s := by
  unfold mayB
  cases hf : a.fo with
  | none =>
    constructor
    · rintro (h | ⟨h, _⟩) ⟨h1, _⟩
      · omega
      · exact h rfl
    · intro h
      refine .inl (Int.not_le.mp fun z => h ⟨z, fun x e => nomatch e⟩)
  | some x =>
    constructor
    · rintro (h | ⟨_, h⟩) ⟨h1, h2⟩
      · omega
      · exact h (by rw [h2 x rfl])
    · intro h
      by_cases c : s < a.e
      · exact .inl c
      · refine .inr ⟨by simp, fun e => h ⟨by omega, fun y z => ?_⟩⟩
        cases z
        exact (Option.some.inj e).symm
theorem fits_may {c : Crs} {p s : Int} (n0 : c.n ≠ 0) : fitsC c p s = true ↔ (c.b = some p ∧ may c s) := by
  unfold fitsC may
  rw [if_neg n0]
  by_cases hv : c.v = true ∨ c.b ≠ some p
  · rw [if_pos hv]
    constructor
    · exact fun z => nomatch z
    · rintro ⟨h1, h2, _⟩
      rcases hv with h | h
      · rw [h2] at h
        exact nomatch h
      · exact absurd h1 h
  · rw [if_neg hv]
    have v0 : c.v = false := by
      cases h : c.v with
      | true => exact absurd (.inl h) hv
      | false => rfl
    have pb : c.b = some p := Classical.not_not.mp fun z => hv (.inr z)
    by_cases ho : c.o = true
    · rw [if_pos ho]
      simp only [ho, if_true, decide_eq_true_eq]
      exact ⟨fun h => ⟨pb, v0, h⟩, fun h => h.2.2⟩
    · rw [if_neg ho]
      simp only [if_neg ho, decide_eq_true_eq]
      exact ⟨fun h => ⟨pb, v0, h⟩, fun h => h.2.2⟩
theorem done_fits {c : Crs} {a : Blk} (h : Rel c a) {p s : Int} (hs : 0 ≤ s) : doneB a p s = if fitsC c p s = true then some (if c.n = 0 then p else c.f.getD 0, s + c.g) else none := by
  unfold doneB
  rw [h.n]
  by_cases z : c.n = 0
  · obtain ⟨rfl, rfl⟩ := h.z z
    rw [if_pos z]
    show _ = if fitsC noC p s = true then _ else _
    rw [if_pos (show fitsC noC p s = true from rfl), if_pos z]
    show some (p, s) = some (p, s + 0)
    rw [Int.add_zero]
  · rw [if_neg z, h.b]
    have fm := fits_may (p := p) (s := s) z
    have mm := h.mm z s hs
    by_cases q : c.b = some p ∧ mayB a s
    · have f1 : fitsC c p s = true := fm.mpr ⟨q.1, mm.mpr q.2⟩
      rw [if_pos f1, if_neg, if_neg z, h.f, h.g]
      rintro (k | k)
      · exact k q.1
      · exact not_may.mp k q.2
    · have f1 : ¬ fitsC c p s = true := fun k => q ⟨(fm.mp k).1, mm.mp (fm.mp k).2⟩
      rw [if_neg f1, if_pos]
      by_cases k : c.b = some p
      · exact .inr (not_may.mpr fun m => q ⟨k, m⟩)
      · exact .inl k
theorem done_run {c : Crs} {a : Blk} (h : Rel c a) {r : List Dd} (sp : SpecC c r) {p s : Int} (hs : 0 ≤ s) : doneB a p s = runD r p s := by
  obtain ⟨cn, c0, c1⟩ := sp
  by_cases hr : r = []
  · subst hr
    have z : a.n = 0 := by rw [h.n, cn]; rfl
    unfold doneB
    rw [if_pos z]
    rfl
  · have n0 : ¬ c.n = 0 := by
      rw [cn]
      intro z
      exact hr (List.eq_nil_of_length_eq_zero (by omega))
    obtain ⟨b, f, eb, ef, run⟩ := c1 hr
    rw [done_fits h hs, run p s hs, if_neg n0, ef]
    have fm := fits_may (p := p) (s := s) n0
    by_cases q : p = b ∧ may c s
    · rw [if_pos q, if_pos (fm.mpr ⟨by rw [eb, q.1], q.2⟩)]
      rfl
    · rw [if_neg q, if_neg]
      intro k
      have := fm.mp k
      rw [eb] at this
      exact q ⟨(Option.some.inj this.1).symm, this.2⟩
def spDo : Sp := fun vs H Q _ => ∃ (t : Addr) (a : Blk) (p s : Int), vs = [.ref t, .int p, .int s] ∧ H t = some (.tup a.vs) ∧ (a.n ≠ 0 → ∃ f, a.f = some f) ∧ ∀ v H', Same H H' → PrV H' v (doneB a p s) → Q v H'
abbrev PDo : List Str := ["_law_block_here", "_law_place", "_law_start"]
theorem scDo : FnScope PDo PDo (defScope (top 57)) := ⟨rfl, rfl, rfl, by decide +kernel, rfl, by decide +kernel, by decide +kernel⟩
section
variable {P : Program} {w : World} {K : PySem.W.Frag} {mg : Str → Option Value} {base : Heap}
theorem ok_do {f : Addr} {fd : FuncData} (F : Fun K "_law_done" "_law_done" (top 57) f fd) : FnOk P w K mg base CX0 1 f fd PDo spDo := by
  refine F.ok scDo (fun vs H Q E h => ?_) (fun cdv A outer s H vs Q E hr h => ?_)
  · obtain ⟨t, a, p, s, rfl, _⟩ := h
    rfl
  · obtain ⟨t, a, p, st, rfl, ht, hf, k⟩ := h
    refine ⟨_, pss_cons (ps_if (pt_cmpR op_eq (pe_ix ix_tup (pv 0) pe_int (fun _ _ => rfl)) pe_int (nomark _)) (pss_one (ps_ret (pe_tup (pa_cons (pv 1) (pa_cons (pv 2) pa_nil))))) pss_nil)
      (pss_cons (ps_if (pw_or (pt_cmpR op_ne (pe_ix ix_tup (pv 0) pe_int (fun _ _ => rfl)) (pv 1) (nomark _)) (pw_or (pt_cmpR op_lt (pv 2) (pe_ix ix_tup (pv 0) pe_int (fun _ _ => rfl)) (nomark _))
          (pw_or1 (PW.pt (pw_and (pt_cmp (pc_notN (pe_ix ix_tup (pv 0) pe_int (fun _ _ => rfl)))) (pw_and1 (pt_cmpR op_ne (pv 2) (pe_ix ix_tup (pv 0) pe_int (fun _ _ => rfl)) (nomark _)))))))).pt (pss_one (ps_ret pe_non)) pss_nil)
      (pss_one (ps_ret (pe_tup (pa_cons (pe_ix ix_tup (pv 0) pe_int (fun _ _ => rfl)) (pa_cons (pe_op op_add (pv 2) (pe_ix ix_tup (pv 0) pe_int (fun _ _ => rfl))) pa_nil)))))), ?_⟩
    unfold doneB at k
    refine seqV (Good := fun σ2 H2 => ¬ a.n = 0 ∧ H = H2 ∧ σ2 = [some (.ref t), some (.int p), some (.int st)]) ?_ ?_
    · intro nx hnx
      refine ⟨_, rfl, t, _, _, _, rfl, rfl, .inl (.inl ht), rfl, rfl, decide (a.n = 0), congrArg V.bl (by simp), ?_⟩
      by_cases z : a.n = 0
      · rw [if_pos z] at k
        rw [decide_eq_true z]
        refine iteT ⟨_, rfl, _, rfl, (by show 2 ≤ sizeLine; decide), fun o ho => ?_⟩
        exact k _ _ (same_upd ho) ⟨o, rfl, upd_same⟩
      · rw [decide_eq_false z]
        exact iteF (hnx _ _ ⟨z, rfl, rfl⟩)
    · rintro _ _ ⟨z, rfl, rfl⟩
      rw [if_neg z] at k
      have no : ∀ {H'}, Same H H' → (a.b ≠ some p ∨ st < a.e ∨ (a.fo ≠ none ∧ a.fo ≠ some st)) → Q .non H' := fun s q => by
        have k := k .non _ s
        rw [if_pos q] at k
        exact k rfl
      refine seqV (Good := fun σ2 H2 => ¬ (a.b ≠ some p ∨ st < a.e ∨ (a.fo ≠ none ∧ a.fo ≠ some st)) ∧ H = H2 ∧ σ2 = [some (.ref t), some (.int p), some (.int st)]) ?_ ?_
      · intro nx hnx
        refine ⟨_, rfl, t, _, _, _, rfl, rfl, .inl (.inl ht), rfl, _, rfl, oV_scal2 (o' := some p), !decide (a.b = some p), congrArg (fun b => V.bl (!b)) (oV_dec2 _ (some p)), ?_⟩
        by_cases h1 : a.b = some p
        · rw [decide_eq_true h1]
          refine iteF ⟨_, rfl, _, rfl, t, _, _, _, rfl, rfl, .inl (.inl ht), rfl, _, _, rfl, rfl, decide (st < a.e), rfl, ?_⟩
          by_cases h2 : st < a.e
          · rw [decide_eq_true h2]
            exact iteT (no (fun _ _ z => z) (.inr (.inl h2)))
          · rw [decide_eq_false h2]
            refine iteF ⟨_, rfl, t, _, _, _, rfl, rfl, .inl (.inl ht), rfl, ?_⟩
            cases haf : a.fo with
            | none =>
              refine ⟨false, by simp [oV], iteF (hnx _ _ ⟨?_, rfl, rfl⟩)⟩
              rintro (q | q | ⟨q, _⟩)
              · exact q h1
              · exact h2 q
              · exact q haf
            | some x =>
              have eo : a.vs[5]? = some (V.int x) := by show some (oV a.fo) = _; rw [haf]; rfl
              refine ⟨true, by simp [oV], iteT ⟨_, rfl, _, rfl, t, _, _, V.int x, rfl, rfl, .inl (.inl ht), eo, rfl, !decide (st = x), congrArg (fun b => V.bl (!b)) (by simp), ?_⟩⟩
              by_cases h3 : st = x
              · rw [decide_eq_true h3]
                refine iteF (hnx _ _ ⟨?_, rfl, rfl⟩)
                rintro (q | q | ⟨_, q⟩)
                · exact q h1
                · exact h2 q
                · exact q (by rw [haf, h3])
              · rw [decide_eq_false h3]
                exact iteT (no (fun _ _ z => z) (.inr (.inr ⟨by rw [haf]; simp, by rw [haf]; exact fun e => h3 (Option.some.inj e).symm⟩)))
        · rw [decide_eq_false h1]
          exact iteT (no (fun _ _ z => z) (.inl h1))
      rintro _ _ ⟨ok, rfl, rfl⟩
      rw [if_neg ok] at k
      obtain ⟨f0, ef⟩ := hf z
      have eo : a.vs[1]? = some (V.int f0) := by show some (oV a.f) = _; rw [ef]; rfl
      refine ⟨_, rfl, t, _, _, V.int f0, rfl, rfl, .inl (.inl ht), eo, _, rfl, _, rfl, t, _, _, _, rfl, rfl, .inl (.inl ht), rfl, _, _, rfl, rfl, (by show 2 ≤ sizeLine; decide), fun o ho => ?_⟩
      refine k _ _ (same_upd ho) ⟨o, rfl, ?_⟩
      rw [ef]
      exact upd_same
end
end L2.K23
end

section
set_option Elab.async false
set_option linter.all false
set_option maxRecDepth 100000
set_option maxHeartbeats 1000000
namespace L2.K23
open PySem PySem.Spec PyProof.Rows L2.Gd L2.Tw LamX
/-! ### goings as data that can be compared -/
theorem tame_list {k : Nat} {m : Int} (ih : ∀ d, hasF k m d = true → d.canLay0 = true ∧ d.depth ≤ 2 * k) : ∀ {its : List PyData}, its.all (itemF (hasF k m) m) = true → PyData.canLayAll0 its = true ∧ PyData.depthAll its ≤ 2 * k + 1
  | [], _ => ⟨rfl, Nat.zero_le _⟩
  | x :: r, h => by
    rw [List.all_cons, Bool.and_eq_true] at h
    obtain ⟨r1, r2⟩ := tame_list ih h.2
    rcases itemF_of h.1 with ⟨i, rfl, _⟩ | ⟨y, t, rfl, _, hy⟩
    · exact ⟨by simp [PyData.canLayAll0, PyData.canLay0, r1], by simp only [PyData.depthAll, PyData.depth]; omega⟩
    · obtain ⟨y1, y2⟩ := ih y hy
      exact ⟨by simp [PyData.canLayAll0, PyData.canLay0, r1, y1], by simp only [PyData.depthAll, PyData.depth]; omega⟩
theorem tame : ∀ {k : Nat} {m : Int} {d : PyData}, hasF k m d = true → d.canLay0 = true ∧ d.depth ≤ 2 * k
  | 0, _, _, h => nomatch h
  | k + 1, m, d, h => by
    unfold hasF at h
    cases d with
    | list its =>
      obtain ⟨h1, h2⟩ := tame_list (fun d hd => tame hd) (show its.all (itemF (hasF k m) m) = true from h)
      exact ⟨by simpa [PyData.canLay0] using h1, by simp only [PyData.depth]; omega⟩
    | tuple its =>
      obtain ⟨h1, h2⟩ := tame_list (fun d hd => tame hd) (show its.all (itemF (hasF k m) m) = true from h)
      exact ⟨by simpa [PyData.canLay0] using h1, by simp only [PyData.depth]; omega⟩
    | _ => exact nomatch h
mutual
theorem DV.dp {K : PySem.W.Frag} {p : Addr} {H : Hp} : ∀ {v : V} {d : PyData}, DV p H v d → d.hasDict = false → Dp K H v d
  | _, _, .non, _ => .non
  | _, _, .bl b, _ => .bl b
  | _, _, .int i, _ => .int i
  | _, _, .str x, _ => .str x
  | _, _, .lst ne h t, e => .lst (.inl (.inl h)) (DVs.dp t (by simpa only [PyData.hasDict] using e))
  | _, _, .tup h t, e => .tup (.inl (.inl h)) (DVs.dp t (by simpa only [PyData.hasDict] using e))
  | _, _, .dct h, e => absurd e (by simp [PyData.hasDict])
theorem DVs.dp {K : PySem.W.Frag} {p : Addr} {H : Hp} : ∀ {vs : List V} {ds : List PyData}, DVs p H vs ds → PyData.hasDictAll ds = false → DpAll K H vs ds
  | _, _, .nil, _ => .nil
  | _, _, .cons h t, e => by
    simp only [PyData.hasDictAll, Bool.or_eq_false_iff] at e
    exact .cons (DV.dp h e.1) (DVs.dp t e.2)
end
def goD (d : PyData) : PyData := .list [.str "going", d]
theorem goD_ok {k : Nat} {m : Int} {d : PyData} (h : hasF k m d = true) (k8 : k ≤ 8) : SeqAt.shaped (goD d) = true ∧ PyData.eqv (goD d) (goD d) = true := by
  obtain ⟨h1, h2⟩ := tame h
  have c : (goD d).canLay0 = true := by
    have s : PyData.strOk "going" = true := by decide +kernel
    simp [goD, PyData.canLay0, PyData.canLayAll0, h1, s]
  refine ⟨?_, SeqAt.eqv_refl _ c⟩
  show ((goD d).canLay0 && decide ((goD d).depth ≤ 64)) = true
  rw [c, Bool.true_and, decide_eq_true_eq]
  simp only [goD, PyData.depth, PyData.depthAll]
  omega
theorem goD_dp {K : PySem.W.Frag} {k : Nat} {m : Int} {d : PyData} (h : hasF k m d = true) {p : Addr} {H : Hp} {v : V} {l : Addr} (dv : DV p H v d) (hl : H l = some (.lst [.str "going", v])) : Dp K H (.ref l) (goD d) :=
  .lst (.inl (.inl hl)) (.cons (.str _) (.cons (DV.dp dv (PyData.hasDict_of_canLay d (tame h).1)) .nil))
/-! ### what is drawn -/
theorem int1_F {m : Nat} {hf : PyData → Bool} {d : PyData} (h : Int1 m d) : itemF hf m d = true := by
  obtain ⟨i, rfl, hi⟩ := h
  show (decide (0 ≤ (i : Int)) && decide ((i : Int) < (m : Int))) = true
  rw [decide_eq_true (by omega), decide_eq_true (by omega)]
  rfl
theorem lap_F {m : Int} {hf : PyData → Bool} {x : PyData} {t : Int} (t0 : 0 ≤ t) (h : hf x = true) : itemF hf m (.tuple [x, .int t]) = true := by
  show (decide (0 ≤ t) && hf x) = true
  rw [h, decide_eq_true t0]
  rfl
theorem all_F {f : PyData → Bool} {l : List PyData} (h : ∀ x ∈ l, f x = true) : l.all f = true := List.all_eq_true.mpr h
theorem itemA_F {m : Nat} {k : Nat} {d : PyData} (h : ItemA m d) : itemF (hasF (k + 1) m) m d = true := by
  rcases h with h | ⟨is, t, rfl, t0, _, hi, _⟩
  · exact int1_F h
  · exact lap_F t0 (show is.all _ = true from all_F fun x hx => int1_F (hi x hx))
theorem inner_F {m : Nat} {k : Nat} {ins : List PyData} (h : InnerOk m ins) : ins.all (itemF (hasF (k + 1) m) m) = true := by
  obtain ⟨a, b, rfl, _, _, ha, hb⟩ := h
  exact all_F fun x hx => (List.mem_append.mp hx).elim (fun q => itemA_F (ha x q)) fun q => int1_F (hb x q)
theorem itemB_F {m : Nat} {k : Nat} {d : PyData} (h : ItemB m d) : itemF (hasF (k + 2) m) m d = true := by
  rcases h with h | ⟨X, ins, t, rfl, t0, _, hX, hi⟩
  · exact int1_F h
  · refine lap_F t0 ?_
    rcases hX with rfl | rfl <;> exact show ins.all _ = true from inner_F hi
theorem its_F {m : Nat} {its : List PyData} (h : ∀ x ∈ its, ItemB m x) : hasF 4 m (.list its) = true := show its.all _ = true from all_F fun x hx => itemB_F (k := 1) (h x hx)
/-! how many in each list -/
theorem ln_ints {m n k : Nat} {X : PyData} {is : List PyData} (e : seqOf X = some is) (h : ∀ x ∈ is, Int1 m x) (l : is.length ≤ n) : lnD n (k + 1) X := fun its e2 => by
  rw [e] at e2
  cases e2
  exact ⟨l, fun x t q => by
    obtain ⟨i, z, _⟩ := h _ q
    exact nomatch z⟩
theorem ln_inner {m k : Nat} {X : PyData} {ins : List PyData} (e : seqOf X = some ins) (h : InnerOk m ins) : lnD 100 (k + 2) X := fun its e2 => by
  rw [e] at e2
  cases e2
  obtain ⟨a, b, rfl, al, bl, ha, hb⟩ := h
  refine ⟨by rw [List.length_append]; omega, fun x t q => ?_⟩
  rcases List.mem_append.mp q with q | q
  · rcases ha _ q with ⟨i, z, _⟩ | ⟨is, u, z, _, _, hi, hl⟩
    · exact nomatch z
    · cases z
      exact ln_ints rfl hi (by omega)
  · obtain ⟨i, z, _⟩ := hb _ q
    exact nomatch z
theorem ln_its {m : Nat} {its : List PyData} (h : ∀ x ∈ its, ItemB m x) (l : its.length ≤ 12) : lnD 100 4 (.list its) := fun its2 e => by
  cases e
  refine ⟨by omega, fun x t q => ?_⟩
  rcases h _ q with ⟨i, z, _⟩ | ⟨X, ins, u, z, _, _, hX, hi⟩
  · exact nomatch z
  · cases z
    rcases hX with rfl | rfl
    · exact ln_inner (k := 1) rfl hi
    · exact ln_inner (k := 1) rfl hi
/-! how great the great ones are -/
theorem gwI (g : PyData → Nat) (B : Nat) {m : Nat} : ∀ {is : List PyData}, (∀ x ∈ is, Int1 m x) → (is.map (itemG g B)).sum = is.length
  | [], _ => rfl
  | x :: r, h => by
    obtain ⟨i, rfl, _⟩ := h x (by simp)
    rw [List.map_cons, List.sum_cons, gwI g B fun y hy => h y (List.mem_cons_of_mem _ hy)]
    show 1 + r.length = r.length + 1
    omega
theorem gwA {m k : Nat} {d : PyData} (h : ItemA m d) : itemG (gw (k + 1) 500) 500 d ≤ 2505 := by
  rcases h with ⟨i, rfl, _⟩ | ⟨is, t, rfl, _, _, hi, hl⟩
  · show 1 ≤ 2505
    decide
  · have e : gw (k + 1) 500 (.list is) = is.length := gwI _ _ hi
    show (500 + 1) * (gw (k + 1) 500 (.list is) + 1) ≤ 2505
    rw [e]
    omega
theorem gwIn {m k : Nat} {ins : List PyData} (h : InnerOk m ins) : (ins.map (itemG (gw (k + 1) 500) 500)).sum ≤ 2509 := by
  obtain ⟨a, b, rfl, al, bl, ha, hb⟩ := h
  rw [List.map_append, List.sum_append, gwI _ _ hb]
  match a, al, ha with
  | [], _, _ => show 0 + b.length ≤ 2509; omega
  | [x], _, ha =>
    have := gwA (k := k) (ha x (by simp))
    show itemG (gw (k + 1) 500) 500 x + 0 + b.length ≤ 2509
    omega
theorem gwB {m k B : Nat} {d : PyData} (h : ItemB m d) : itemG (gw (k + 2) 500) B d ≤ (B + 1) * 2510 := by
  rcases h with ⟨i, rfl, _⟩ | ⟨X, ins, t, rfl, _, _, hX, hi⟩
  · show 1 ≤ (B + 1) * 2510
    omega
  · refine Nat.mul_le_mul_left _ (Nat.succ_le_succ ?_)
    rcases hX with rfl | rfl
    · exact gwIn hi
    · exact gwIn hi
theorem gwBs {m k B : Nat} : ∀ {its : List PyData}, (∀ x ∈ its, ItemB m x) → (its.map (itemG (gw (k + 2) 500) B)).sum ≤ its.length * ((B + 1) * 2510)
  | [], _ => Nat.zero_le _
  | x :: r, h => by
    have a := gwB (k := k) (B := B) (h x (by simp))
    have b := gwBs (k := k) (B := B) (its := r) fun y hy => h y (List.mem_cons_of_mem _ hy)
    rw [List.map_cons, List.sum_cons, List.length_cons, Nat.add_mul, Nat.one_mul]
    omega
theorem gw_its {m : Nat} {its : List PyData} (h : ∀ x ∈ its, ItemB m x) (l : its.length ≤ 12) : gw 4 (10 ^ 25) (.list its) < 2 ^ 99 := by
  have a : gw 4 (10 ^ 25) (.list its) ≤ its.length * ((10 ^ 25 + 1) * 2510) := gwBs (k := 1) h
  have b : its.length * ((10 ^ 25 + 1) * 2510) ≤ 12 * ((10 ^ 25 + 1) * 2510) := Nat.mul_le_mul_right _ l
  exact Nat.lt_of_le_of_lt (Nat.le_trans a b) (by decide)
theorem wt_its {its : List PyData} (h : ∀ k, (its.map (itemW (wt k))).sum ≤ 240) : wt 4 (.list its) < 2 ^ 99 := by
  have : wt 4 (.list its) ≤ 240 := h 3
  have e : (240 : Nat) < 2 ^ 99 := by decide
  omega
/-! ### a going, its block, its deeds -/
/-- a going in form, not too great -/
structure Gd4 (ds : List Dd) (d : PyData) : Prop where
  f : hasF 4 ds.length d = true
  w : wt 4 d < 2 ^ 99
section
variable {m : Int} {ds : List Dd} {d : PyData}
theorem Gd4.few (g : Gd4 ds d) (ok : ∀ d ∈ ds, d.Ok m) : few 4 ds d := few_wt ok 4 d g.f g.w
theorem Gd4.whole (g : Gd4 ds d) : wholeC ds d = cwC 4 ds d := if_pos g.f
theorem Gd4.rel (g : Gd4 ds d) (ok : ∀ d ∈ ds, d.Ok m) : RelO (wholeC ds d) (blC 4 ds d) := by
  rw [g.whole]
  exact rel_cw ok 4 d g.f
/-- what stands where there is a block -/
theorem Gd4.some (g : Gd4 ds d) (ok : ∀ d ∈ ds, d.Ok m) {a : Blk} (e : blC 4 ds d = some a) : ∃ c, wholeC ds d = some c ∧ Rel c a := by
  have r := g.rel ok
  rw [e] at r
  cases hc : wholeC ds d with
  | none => rw [hc] at r; exact r.elim
  | some c => rw [hc] at r; exact ⟨c, rfl, r⟩
theorem Gd4.none (g : Gd4 ds d) (ok : ∀ d ∈ ds, d.Ok m) (e : blC 4 ds d = none) : wholeC ds d = none := by
  have r := g.rel ok
  rw [e] at r
  cases hc : wholeC ds d with
  | none => rfl
  | some c => rw [hc] at r; exact r.elim
end
end L2.K23
end

section
set_option Elab.async false
set_option linter.all false
set_option maxRecDepth 100000
set_option maxHeartbeats 1000000
namespace L2.K23
open PySem PySem.Spec PyProof.Rows L2.Gd L2.Tw LamX
/-! ### a def called by keywords alone -/
section
variable {X : Cx} {CX : CXT} {k n : Nat} {f : Addr} {fd : FuncData} {ps ks : List Str} {sp : Sp} {E : XK} {x : Str} {p pos : Pos} {kws : List Keyword} {tk : TA} {g : List Value → List Value → List Value} {gV : List V → List V → List V}
theorem pe_callN0 (F : FnOk X.prog X.w X.K X.mg X.base CX k f fd ps sp) (hr : Room k X.A) (hg : Gl X x) (hm : X.mg x = some (.ref f)) (hk : PySem.W.keepIn X.K (.ref f) = true) (hb : KBn X.K fd ps 0 ks g gV) (hx : Passes CX X E)
    (hkw : PK X kws tk) (hall : (backToKw pos (keywordEach kws X.env)).all (·.1.isSome) = true := by rfl) (hks : (backToKw pos (keywordEach kws X.env)).filterMap (·.1) = ks := by rfl)
    (hdb : (x == ("__debug__" : Str)) = false := by decide)
    (hpl : ((backTo pos (starEach [] X.env)).any (·.1) || (backToKw pos (keywordEach kws X.env)).any (·.1.isNone)) = false := by rfl) :
    PE X (.Call (.Name x p) [] kws pos) (tCallN 0 ks.length sp gV E tNil tk) := by
  refine ⟨fun pins s σ H Q I h => ?_⟩
  refine wpAny_Call_Name_kw (ld_glob I hg hm ?_ hdb)
  refine PySem.W.callWith_KW0 (h₀ := X.base) I.ok.mod.kin hk hall ?_ hpl
  refine thn (hkw.run pos pins s σ H _ I h) fun ws s2 ⟨zs, H2, I2, rz, l1, l2, q2⟩ => ⟨I2.kIn, ?_⟩
  rw [hks]
  exact run_fnN (us := []) (vs := []) F hr hb hx I2 .nil rz l1 l2 q2
theorem call_reprB : CallR X (.builtin "repr") (fun xs H Q => ∃ b, xs = [.bl b] ∧ Q (.str (PyData.bool b).shown) H) := by
  rintro pins s σ H xs us Q I r ⟨b, rfl, q⟩
  obtain ⟨u, rfl, ru⟩ := vals1 r
  obtain rfl := ru
  refine PySem.P.repr_of_bool ⟨.str _, H, I.tok _, ⟨_, rfl⟩, ?_⟩
  cases b <;> exact q
end
def rv2 {α : Type} : List α → List α
  | [a, b] => [b, a]
  | l => l
theorem vals_rv2 : ∀ {zs : List V} {ws : List Value}, Vals zs ws → Vals (rv2 zs) (rv2 ws) := by
  intro zs ws r
  match zs, ws, r with
  | [], _, .nil => exact .nil
  | [_], _, .cons a .nil => exact .cons a .nil
  | [_, _], _, .cons a (.cons b .nil) => exact .cons b (.cons a .nil)
  | _ :: _ :: _ :: _, _, .cons a (.cons b (.cons c t)) => exact .cons a (.cons b (.cons c t))
def rv4 {α : Type} : List α → List α
  | [a, b, c, d] => [d, c, b, a]
  | l => l
theorem vals_rv4 : ∀ {zs : List V} {ws : List Value}, Vals zs ws → Vals (rv4 zs) (rv4 ws) := by
  intro zs ws r
  match zs, ws, r with
  | [], _, .nil => exact .nil
  | [_], _, .cons a .nil => exact .cons a .nil
  | [_, _], _, .cons a (.cons b .nil) => exact .cons a (.cons b .nil)
  | [_, _, _], _, .cons a (.cons b (.cons c .nil)) => exact .cons a (.cons b (.cons c .nil))
  | [_, _, _, _], _, .cons a (.cons b (.cons c (.cons d .nil))) => exact .cons d (.cons c (.cons b (.cons a .nil)))
  | _ :: _ :: _ :: _ :: _ :: _, _, .cons a (.cons b (.cons c (.cons d (.cons e t)))) => exact .cons a (.cons b (.cons c (.cons d (.cons e t))))
/-- gain_of, deeds_in of a going -/
def spFc (C2 : Addr) (g : Crs → Int) : Sp := fun vs H Q _ => ∃ (q h l : Addr) (m : Int) (xs : List V) (ds : List Dd) (v : V) (d : PyData) (c : Crs), vs = [.ref h, v] ∧ GvAt C2 q H h l m xs ds v d ∧ wholeC ds d = some c ∧ ∀ H', Same H H' → Q (.int (g c)) H'
def spBc (C2 : Addr) : Sp := fun vs H Q _ => ∃ (q h l : Addr) (m p s : Int) (xs : List V) (ds : List Dd) (v : V) (d : PyData) (c : Crs), vs = [.ref h, .int p, .int s, v] ∧ GvAt C2 q H h l m xs ds v d ∧ 0 ≤ p ∧ p < m ∧ 0 ≤ s ∧ wholeC ds d = some c ∧ (c.n ≠ 0 → ∃ f, c.f = some f) ∧ fitsC c p s = true ∧
  ∀ t H', Same H H' → H' t = some (.tup [.int (if c.n = 0 then p else c.f.getD 0), .int (s + c.g)]) → Q (.ref t) H'
theorem fc_fl {C2 CG : Addr} {g : Crs → Int} : ∀ vs H Q E, spFc C2 g vs H Q E → spFl C2 CG g vs H Q (fun _ _ _ => False) := by
  rintro vs H Q E ⟨q, h, l, m, xs, ds, v, d, c, e, gv, hc, k⟩
  refine ⟨q, h, l, m, xs, ds, v, d, e, gv, ?_⟩
  rw [hc]
  exact k
theorem bc_bh {C2 CG : Addr} : ∀ vs H Q E, spBc C2 vs H Q E → spBh C2 CG vs H Q (fun _ _ _ => False) := by
  rintro vs H Q E ⟨q, h, l, m, p, s, xs, ds, v, d, c, e, gv, p0, pm, s0, hc, hf, ht, k⟩
  refine ⟨q, h, l, m, p, s, xs, ds, v, d, e, gv, p0, pm, s0, ?_⟩
  rw [hc]
  refine ⟨hf, ?_⟩
  rw [if_pos ht]
  exact k
structure KFc (P : Program) (w : World) (K : PySem.W.Frag) (mg : Str → Option Value) (base : Heap) (C2 : Addr) (x : Str) (g : Crs → Int) : Prop where
  ex : ∃ f fd, mg x = some (.ref f) ∧ PySem.W.keepIn K (.ref f) = true ∧ KBn K fd P2 0 ["going", "house"] (fun _ ws => rv2 ws) (fun _ zs => rv2 zs) ∧ FnOk P w K mg base CX0 11 f fd P2 (spFc C2 g)
theorem pe_kFc {X : Cx} {kws : List Keyword} {tk : TA} {p pos : Pos} {C2 : Addr} {x : Str} {g : Crs → Int} (G : KFc X.prog X.w X.K X.mg X.base C2 x g) (hr : Room 11 X.A) (hkw : PK X kws tk)
    (hg : Gl X x := by rfl) (hall : (backToKw pos (keywordEach kws X.env)).all (·.1.isSome) = true := by rfl) (hks : (backToKw pos (keywordEach kws X.env)).filterMap (·.1) = (["going", "house"] : List Str) := by rfl) (hdb : (x == ("__debug__" : Str)) = false := by decide)
    (hpl : ((backTo pos (starEach [] X.env)).any (·.1) || (backToKw pos (keywordEach kws X.env)).any (·.1.isNone)) = false := by rfl) :
    PE X (.Call (.Name x p) [] kws pos) (tCallN 0 2 (spFc C2 g) (fun _ zs => rv2 zs) E0 tNil tk) := by
  obtain ⟨f, fd, m, kp, b, F⟩ := G.ex
  exact pe_callN0 F hr hg m kp b pass0 hkw hall hks hdb hpl
structure KBh (P : Program) (w : World) (K : PySem.W.Frag) (mg : Str → Option Value) (base : Heap) (C2 : Addr) : Prop where
  ex : ∃ f fd, mg "behind" = some (.ref f) ∧ PySem.W.keepIn K (.ref f) = true ∧ KBn K fd P4 0 ["going", "start", "place", "house"] (fun _ ws => rv4 ws) (fun _ zs => rv4 zs) ∧ FnOk P w K mg base CX0 11 f fd P4 (spBc C2)
theorem pe_kBh {X : Cx} {kws : List Keyword} {tk : TA} {p pos : Pos} {C2 : Addr} (G : KBh X.prog X.w X.K X.mg X.base C2) (hr : Room 11 X.A) (hkw : PK X kws tk)
    (hg : Gl X "behind" := by rfl) (hall : (backToKw pos (keywordEach kws X.env)).all (·.1.isSome) = true := by rfl) (hks : (backToKw pos (keywordEach kws X.env)).filterMap (·.1) = (["going", "start", "place", "house"] : List Str) := by rfl)
    (hpl : ((backTo pos (starEach [] X.env)).any (·.1) || (backToKw pos (keywordEach kws X.env)).any (·.1.isNone)) = false := by rfl) :
    PE X (.Call (.Name "behind" p) [] kws pos) (tCallN 0 4 (spBc C2) (fun _ zs => rv4 zs) E0 tNil tk) := by
  obtain ⟨f, fd, m, kp, b, F⟩ := G.ex
  exact pe_callN0 F hr hg m kp b pass0 hkw hall hks (by decide) hpl
/-! ### _law_told_right -/
/-- a house, a going with a block -/
structure TrAt (C2 : Addr) (T : List (Addr × Str)) (H : Hp) (q h l a t : Addr) (m : Int) (xs : List V) (ds : List Dd) (d : PyData) (b : Blk) : Prop where
  tb : Tabs T H
  g : GvAt C2 q H h l m xs ds (.ref a) d
  ok : ∀ d ∈ ds, d.Ok m
  g4 : Gd4 ds d
  ht : H t = some (.tup b.vs)
  hb : blC 4 ds d = some b
def spTr (C2 : Addr) (T : List (Addr × Str)) : Sp := fun vs H Q _ => ∃ (q h l a t : Addr) (m : Int) (xs : List V) (ds : List Dd) (d : PyData) (b : Blk), vs = [.ref h, .ref a, .ref t] ∧ TrAt C2 T H q h l a t m xs ds d b ∧ ∀ H', ExtN H H' → Tabs T H' → Q (.bl true) H'
def NTr : List Str := ["_law_house", "_law_items_here", "_law_block_here", "_law_told", "_law_need"]
abbrev PTr : List Str := ["_law_house", "_law_items_here", "_law_block_here"]
theorem scTr : FnScope NTr PTr (defScope (top 60)) := ⟨rfl, rfl, rfl, by decide +kernel, rfl, by decide +kernel, by decide +kernel⟩
section
variable {P : Program} {w : World} {K : PySem.W.Frag} {mg : Str → Option Value} {base : Heap} {C C2 CG CN : Addr} {T : List (Addr × Str)}
theorem ok_tr {f c tP : Addr} {fd : FuncData} (F : FunL K "_law_told_right" (top 60) f fd c) (h0 : HeK P w K mg base CG CN) (tb : TbK base mg T "_law_told_right" c tP)
    (GA : Fn P w K mg base 11 "gain_of" P2 (spFc C2 Crs.g)) (DI : Fn P w K mg base 11 "deeds_in" P2 (spFc C2 Crs.n)) (KG : KFc P w K mg base C2 "gain_of" Crs.g) (KD : KFc P w K mg base C2 "deeds_in" Crs.n)
    (NO : FnX P w K mg base 11 "need_of" P2 (spNd C2 CG CN)) : FnOk P w K mg base CX0 14 f fd PTr (spTr C2 T) := by
  refine F.ok scTr (fun vs H Q E h => ?_) (fun A outer s H vs Q E hr h => ?_)
  · obtain ⟨q, h, l, a, t, m, xs, ds, d, b, rfl, _⟩ := h
    rfl
  · obtain ⟨q, h, l, a, t, m, xs, ds, d, b, rfl, z, k⟩ := h
    have N := scTr.nd
    have r11 := hr.mono (k := 13) (j := 11) (by decide)
    refine ⟨_, pss_cons (ps_set (i := 3) N rfl (.inl rfl) (pe_lst (pa_cons (pe_fn GA r11 (pa_cons (pv 0) (pa_cons (pv 1) pa_nil))) (pa_cons (pe_kFc KG r11 (pk_cons (pv 1) (pk_cons (pv 0) pk_nil))) (pa_cons (pe_fn DI r11 (pa_cons (pv 0) (pa_cons (pv 1) pa_nil))) (pa_cons (pe_kFc KD r11 (pk_cons (pv 1) (pk_cons (pv 0) pk_nil))) pa_nil))))))
      (pss_cons (ps_if (pt_cmpR (op_neD hr.units) (pv 3) (pe_op op_cat (pe_op op_rep (pe_lst (pa_cons (pe_ix ix_tup (pv 2) pe_int (fun _ _ => rfl)) pa_nil)) pe_int) (pe_op op_rep (pe_lst (pa_cons (pe_ix ix_tup (pv 2) pe_int (fun _ _ => rfl)) pa_nil)) pe_int)) (nomark _)) (pss_one (ps_ret pe_bl)) pss_nil)
      (pss_cons (ps_set (i := 4) N rfl (.inl rfl) (pe_heard (k := 11) h0 tb rfl rfl hr (lamS_by (by show lamSB (defScope (top 60)) _ = true; decide +kernel)) (fun A outer s H E f c' hr => pe_fnX NO hr (takes_of rfl rfl rfl rfl) (pa_cons (pv 0) (pa_cons (pv 1) pa_nil)))))
      (pss_one (ps_ret (pe_cmpR op_eq (pv 4) (pe_ifExp (pt_cmp (pc_isN (pe_ix ix_tup (pv 2) pe_int (fun _ _ => rfl)))) (pe_ix ix_tup (pv 2) pe_int (fun _ _ => rfl)) pe_str) (nomark _)))))), ?_⟩
    obtain ⟨cr, hc, rl⟩ := z.g4.some z.ok z.hb
    have g := z.g
    -- told
    refine seqV (Good := fun σ2 H1 => ∃ u : Addr, Same H H1 ∧ H1 u = some (.lst [.int cr.g, .int cr.g, .int cr.n, .int cr.n]) ∧ σ2 = [some (.ref h), some (.ref a), some (.ref t), some (.ref u), none]) ?_ ?_
    · intro nx hnx
      refine ⟨_, rfl, _, rfl, q, h, l, m, xs, ds, .ref a, d, cr, rfl, g, hc, fun H1 s1 => ?_⟩
      refine ⟨_, rfl, _, rfl, rfl, rfl, q, h, l, m, xs, ds, .ref a, d, cr, rfl, g.same s1, hc, fun H2 s2 => ?_⟩
      have s2 := s1.trans s2
      refine ⟨_, rfl, _, rfl, q, h, l, m, xs, ds, .ref a, d, cr, rfl, g.same s2, hc, fun H3 s3 => ?_⟩
      have s3 := s2.trans s3
      refine ⟨_, rfl, _, rfl, rfl, rfl, q, h, l, m, xs, ds, .ref a, d, cr, rfl, g.same s3, hc, fun H4 s4 => ?_⟩
      have s4 := s3.trans s4
      refine ⟨(by show 4 ≤ sizeLine; decide), fun u hu => hnx _ _ ⟨u, s4.trans (same_upd hu), upd_same, rfl⟩⟩
    rintro _ H1 ⟨u, s1, hu, rfl⟩
    have ht1 := s1 _ _ z.ht
    refine seqV (Good := fun σ2 H2 => Same H1 H2 ∧ σ2 = [some (.ref h), some (.ref a), some (.ref t), some (.ref u), none]) ?_ ?_
    · intro nx hnx
      refine ⟨_, rfl, _, rfl, t, _, _, _, rfl, rfl, .inl (.inl ht1), rfl, (by show 1 ≤ sizeLine; decide), fun p1 hp1 => ?_⟩
      have s2 := same_upd (o := .lst [.int b.g]) hp1
      refine ⟨p1, 2, _, rfl, rfl, upd_same, by decide, by decide, (by show 1 * 2 ≤ sizeLine; decide), fun p2 hp2 => ?_⟩
      have e1 : (List.replicate (2 : Int).toNat [V.int b.g]).flatten = [V.int b.g, V.int b.g] := rfl
      rw [e1]
      have s3 := same_upd (o := .lst [V.int b.g, V.int b.g]) hp2
      have ht3 := (s2.trans s3) _ _ ht1
      refine ⟨_, rfl, t, _, _, _, rfl, rfl, .inl (.inl ht3), rfl, (by show 1 ≤ sizeLine; decide), fun p3 hp3 => ?_⟩
      have s4 := same_upd (o := .lst [.int b.n]) hp3
      refine ⟨p3, 2, _, rfl, rfl, upd_same, by decide, by decide, (by show 1 * 2 ≤ sizeLine; decide), fun p4 hp4 => ?_⟩
      have e2 : (List.replicate (2 : Int).toNat [V.int b.n]).flatten = [V.int b.n, V.int b.n] := rfl
      rw [e2]
      have s5 := same_upd (o := .lst [V.int b.n, V.int b.n]) hp4
      refine ⟨p2, p4, _, _, rfl, rfl, s5 _ _ (s4 _ _ upd_same), upd_same, (by show 4 ≤ sizeLine; decide), fun p5 hp5 => ?_⟩
      have s6 := same_upd (o := .lst ([V.int b.g, V.int b.g] ++ [V.int b.n, V.int b.n])) hp5
      have s16 := s2.trans (s3.trans (s4.trans (s5.trans s6)))
      rw [rl.g, rl.n] at *
      refine ⟨.list ([cr.g, cr.g, cr.n, cr.n].map PyData.int), .list ([cr.g, cr.g, cr.n, cr.n].map PyData.int), .lst (.inl (.inl (s16 _ _ hu))) (dps_ints [cr.g, cr.g, cr.n, cr.n]), .lst (.inl (.inl upd_same)) (dps_ints [cr.g, cr.g, cr.n, cr.n]), ints_shaped _, ints_shaped _, false, ?_, iteF (hnx _ _ ⟨s16, rfl⟩)⟩
      rw [SeqAt.eqv_refl _ (SeqAt.canLay_of_shaped (ints_shaped _))]
      rfl
    rintro _ H2 ⟨s2, rfl⟩
    have s02 := s1.trans s2
    have g2 := g.same s02
    -- heard
    refine seqV (Good := fun σ2 H3 => ∃ v : V, v = (if cr.o = true then .str "not plain" else .int cr.e) ∧ ExtN H H3 ∧ Tabs T H3 ∧ σ2 = [some (.ref h), some (.ref a), some (.ref t), some (.ref u), some v]) ?_ ?_
    · intro nx hnx
      refine ⟨Tabs.same s02 z.tb, fun H3 x3 t3 => ?_⟩
      have g3 := g2.extN x3
      have x03 := (ext_same s02).trans x3
      refine ⟨_, rfl, _, rfl, q, h, l, m, xs, ds, .ref a, d, rfl, g3, ?_⟩
      rw [hc]
      intro H4 s4
      have x04 := x03.trans (ext_same s4)
      by_cases o : cr.o = true
      · rw [if_pos o]
        exact .inr ⟨rfl, hnx _ _ ⟨_, by rw [if_pos o], x04, Tabs.same s4 t3, rfl⟩⟩
      · rw [if_neg o]
        exact hnx _ _ ⟨_, by rw [if_neg o], x04, Tabs.same s4 t3, rfl⟩
    rintro _ H3 ⟨v, ev, x3, t3, rfl⟩
    have ht3 := ext_tup x3 z.ht
    have kk := k H3 x3 t3
    refine ⟨_, rfl, ?_⟩
    refine ⟨_, rfl, t, _, _, _, rfl, rfl, .inl (.inl ht3), rfl, ?_⟩
    cases o : cr.o with
    | true =>
      have f0 := rl.o.mp o
      rw [o, if_pos rfl] at ev
      subst ev
      cases hf : b.fo with
      | none => exact absurd hf f0
      | some x =>
        refine ⟨false, by simp [oV], iteF ⟨rfl, ?_⟩⟩
        simpa using kk
    | false =>
      rw [o, if_neg (by decide)] at ev
      subst ev
      cases hf : b.fo with
      | some x =>
        have := rl.o.mpr (by rw [hf]; simp)
        rw [o] at this
        exact nomatch this
      | none =>
        refine ⟨true, by simp [oV], iteT ⟨_, rfl, t, _, _, _, rfl, rfl, .inl (.inl ht3), rfl, ?_⟩⟩
        refine ⟨rfl, ?_⟩
        rw [rl.e o]
        simpa using kk
end
end L2.K23
end

section
set_option Elab.async false
set_option linter.all false
set_option maxRecDepth 100000
set_option maxHeartbeats 1000000
namespace L2.K23
open PySem PySem.Spec PyProof.Rows L2.Gd L2.Tw LamX
/-! ### _law_stands_right -/
theorem pr_shaped (a b : Int) : SeqAt.shaped (.tuple [.int a, .int b]) = true := by
  show (PyData.canLay0 (.tuple [.int a, .int b]) && decide (PyData.depth (.tuple [.int a, .int b]) ≤ 64)) = true
  rw [Bool.and_eq_true]
  exact ⟨by simp [PyData.canLay0, PyData.canLayAll0], by simp [PyData.depth, PyData.depthAll]⟩
theorem eqv_self {d : PyData} (h : SeqAt.shaped d = true) : V.bl (!PyData.eqv d d) = V.bl false := by
  rw [SeqAt.eqv_refl _ (SeqAt.canLay_of_shaped h)]
  rfl
theorem pr_dp {K : PySem.W.Frag} {H : Hp} {u : Addr} {a b : Int} (h : H u = some (.tup [.int a, .int b])) : Dp K H (.ref u) (.tuple [.int a, .int b]) := .tup (.inl (.inl h)) (.cons (.int _) (.cons (.int _) .nil))
/-- what is heard of behind -/
def ToldV (H : Hp) (v : V) (a : Addr) : Option (Int × Int) → Prop
  | some x => ∃ w, v = .ref w ∧ H w = some (.tup [.int x.1, .int x.2])
  | none => ∃ l, v = .ref l ∧ H l = some (.lst [.str "going", .ref a])
theorem gd4_spec {ds : List Dd} {m : Int} {d : PyData} (g : Gd4 ds d) (ok : ∀ d ∈ ds, d.Ok m) {c : Crs} (e : wholeC ds d = some c) : ∃ r, unr 4 ds.length d = some r ∧ SpecC c (rowD ds r) := by
  have h := g.f
  rw [has_unr] at h
  obtain ⟨r, er⟩ := Option.isSome_iff_exists.mp h
  have s := spec_cw ok 4 d r er
  rw [← g.whole, e] at s
  exact ⟨r, er, s⟩
theorem gd4_goal {ds : List Dd} {m : Int} {d : PyData} (g : Gd4 ds d) (ok : ∀ d ∈ ds, d.Ok m) {c : Crs} (e : wholeC ds d = some c) (n0 : c.n ≠ 0) : ∃ f, c.f = some f := by
  obtain ⟨r, _, cn, _, c1⟩ := gd4_spec g ok e
  obtain ⟨b, f, _, ef, _⟩ := c1 (fun z => n0 (by rw [cn, z]; rfl))
  exact ⟨f, ef⟩
def spSr (C2 : Addr) (T : List (Addr × Str)) : Sp := fun vs H Q _ => ∃ (q h l a t s : Addr) (m p : Int) (xs : List V) (ds : List Dd) (d : PyData) (b : Blk) (ss : List Int), vs = [.ref h, .ref a, .ref t, .int p, .ref s] ∧ TrAt C2 T H q h l a t m xs ds d b ∧ 0 ≤ p ∧ p < m ∧
  H s = some (.lst (ss.map V.int)) ∧ (∀ x ∈ ss, 0 ≤ x) ∧ ∀ H', ExtN H H' → Tabs T H' → Q (.bl true) H'
def NSr : List Str := ["_law_house", "_law_items_here", "_law_block_here", "_law_place", "_law_starts", "_law_due", "_law_told", "_law_start"]
abbrev PSr : List Str := ["_law_house", "_law_items_here", "_law_block_here", "_law_place", "_law_starts"]
theorem scSr : FnScope NSr PSr (defScope (top 61)) := ⟨rfl, rfl, rfl, by decide +kernel, rfl, by decide +kernel, by decide +kernel⟩
abbrev σS (h a t : Addr) (p : Int) (s : Addr) (x5 x6 x7 : Option V) : L2.St := [some (.ref h), some (.ref a), some (.ref t), some (.int p), some (.ref s), x5, x6, x7]
theorem TrAt.extN {C2 : Addr} {T : List (Addr × Str)} {H H' : Hp} {q h l a t : Addr} {m : Int} {xs : List V} {ds : List Dd} {d : PyData} {b : Blk} (e : ExtN H H') (tb : Tabs T H') (z : TrAt C2 T H q h l a t m xs ds d b) : TrAt C2 T H' q h l a t m xs ds d b :=
  ⟨tb, z.g.extN e, z.ok, z.g4, ext_tup e z.ht, z.hb⟩
section
variable {P : Program} {w : World} {K : PySem.W.Frag} {mg : Str → Option Value} {base : Heap} {C C2 CG CN : Addr} {T : List (Addr × Str)}
theorem ok_sr {f c tP : Addr} {fd : FuncData} (F : FunL K "_law_stands_right" (top 61) f fd c) (n : Nm mg) (h0 : HeK P w K mg base CG CN) (tb : TbK base mg T "_law_stands_right" c tP)
    (DO : Fn P w K mg base 1 "_law_done" PDo spDo) (IG : Fn P w K mg base 10 "is_going" ["house", "place", "start", "value"] (spIG C2)) (KB : KBh P w K mg base C2)
    (BH : FnX P w K mg base 11 "behind" P4 (spBh C2 CG)) : FnOk P w K mg base CX0 14 f fd PSr (spSr C2 T) := by
  refine F.ok scSr (fun vs H Q E h => ?_) (fun A outer s H vs Q E hr h => ?_)
  · obtain ⟨q, h, l, a, t, s, m, p, xs, ds, d, b, ss, rfl, _⟩ := h
    rfl
  · obtain ⟨q, h, l, a, t, sa, m, p, xs, ds, d, b, ss, rfl, z, p0, pm, hs, ss0, k⟩ := h
    have N := scSr.nd
    have r1 := hr.mono (k := 13) (j := 1) (by decide)
    have r10 := hr.mono (k := 13) (j := 10) (by decide)
    have r11 := hr.mono (k := 13) (j := 11) (by decide)
    refine ⟨_, pss_cons (ps_for PassesOwn.never rfl (pi_list (pv 4)) (pg_name (i := 7) N rfl (.inr rfl))
        (pss_cons (ps_set (i := 5) N rfl (.inl rfl) (pe_fn DO r1 (pa_cons (pv 2) (pa_cons (pv 3) (pa_cons (pv 7) pa_nil)))))
        (pss_cons (ps_set (i := 6) N rfl (.inl rfl) (pe_heard (k := 11) h0 tb rfl rfl hr (lamS_by (by show lamSB (defScope (top 61)) _ = true; decide +kernel)) (fun A outer s H E f c' hr => pe_fnX BH hr (takes_of rfl rfl rfl rfl) (pa_cons (pv 0) (pa_cons (pv 3) (pa_cons (pv 7) (pa_cons (pv 1) pa_nil)))))))
        (pss_cons (ps_if (pw_or (pt_cmpR (op_neD hr.units) (pv 6) (pe_ifExp (pt_cmp (pc_isN (pv 5))) (pe_lst (pa_cons pe_str (pa_cons (pv 1) pa_nil))) (pv 5)) (nomark _))
            (pw_or1 (pt_cmpR op_ne (pe_callB call_reprB (by rfl) n.repr (by decide +kernel) (pa_cons (pe_fn IG r10 (pa_cons (pv 0) (pa_cons (pv 3) (pa_cons (pv 7) (pa_cons (pv 1) pa_nil))))) pa_nil)) (pe_callB call_reprB (by rfl) n.repr (by decide +kernel) (pa_cons (pe_cmpR op_notN (pv 5) pe_non (nomark _)) pa_nil)) (nomark _)))).pt (pss_one (ps_ret pe_bl)) pss_nil)
        (pss_one (ps_if (pw_and (pt_cmp (pc_notN (pv 5))) (pw_and1 (pt_cmpR (op_neD hr.units) (pe_kBh KB r11 (pk_cons (pv 1) (pk_cons (pv 7) (pk_cons (pv 3) (pk_cons (pv 0) pk_nil))))) (pv 5) (nomark _)))).pt (pss_one (ps_ret pe_bl)) pss_nil))))))
      (pss_one (ps_ret pe_bl)), ?_⟩
    obtain ⟨cr, hc, rl⟩ := z.g4.some z.ok z.hb
    have goal := fun n0 => gd4_goal z.g4 z.ok hc n0
    refine ⟨_, rfl, sa, rfl, ⟨_, .inl (.inl hs)⟩, ?_⟩
    refine loop_of (n := (ss.map V.int).length) (fun i σ H2 => ∃ x5 x6 x7 : Option V, ExtN H H2 ∧ Tabs T H2 ∧ σ = σS h a t p sa x5 x6 x7) ⟨none, none, none, ExtN.refl H, z.tb, rfl⟩ ?_ ?_
    · rintro σ H2 ⟨x5, x6, x7, x2, t2, rfl⟩
      exact ⟨⟨_, .inl (.inl (ext_lst x2 hs)), Nat.le_refl _⟩, k H2 x2 t2⟩
    · rintro i σ H2 hi ⟨x5, x6, x7, x2, t2, rfl⟩
      refine ⟨⟨_, _, .inl (.inl (ext_lst x2 hs)), List.getElem?_eq_getElem hi⟩, ?_⟩
      rintro v H' ⟨rfl, hy⟩
      have hvi := hy _ (.inl (.inl (ext_lst x2 hs)))
      obtain ⟨st, hst, rfl⟩ : ∃ st, st ∈ ss ∧ v = .int st := by
        obtain ⟨st, h1, h2⟩ := List.mem_map.mp (List.mem_of_getElem? hvi)
        exact ⟨st, h1, h2.symm⟩
      have st0 := ss0 st hst
      have z2 := z.extN x2 t2
      have df := done_fits rl (p := p) st0
      have nf : b.n ≠ 0 → ∃ f, b.f = some f := fun q => by
        rw [rl.f]
        rw [rl.n] at q
        exact goal q
      refine gn ?_
      -- due
      refine seqV (Good := fun σ2 H3 => ∃ v5 : V, Same H' H3 ∧ PrV H3 v5 (doneB b p st) ∧ σ2 = σS h a t p sa (some v5) x6 (some (.int st))) ?_ ?_
      · intro nx hnx
        exact ⟨_, rfl, _, rfl, _, rfl, t, b, p, st, rfl, z2.ht, nf, fun v5 H3 s3 pv => hnx _ _ ⟨v5, s3, pv, rfl⟩⟩
      rintro _ H3 ⟨v5, s3, pv5, rfl⟩
      have x3 := x2.trans (ext_same s3)
      have t3 := Tabs.same s3 t2
      have z3 := z.extN x3 t3
      -- told
      refine seqV (Good := fun σ2 H4 => ∃ v6 : V, ExtN H3 H4 ∧ Tabs T H4 ∧ ToldV H4 v6 a (doneB b p st) ∧ σ2 = σS h a t p sa (some v5) (some v6) (some (.int st))) ?_ ?_
      · intro nx hnx
        refine ⟨t3, fun H4 x4 t4 => ?_⟩
        have z4 := z3.extN x4 t4
        refine ⟨_, rfl, _, rfl, _, rfl, _, rfl, q, h, l, m, p, st, xs, ds, .ref a, d, rfl, z4.g, p0, pm, st0, ?_⟩
        rw [hc]
        refine ⟨goal, ?_⟩
        by_cases hf : fitsC cr p st = true
        · rw [if_pos hf] at df ⊢
          rw [df] at hnx
          exact fun u H5 s5 hu => hnx _ _ ⟨.ref u, x4.trans (ext_same s5), Tabs.same s5 t4, ⟨u, rfl, hu⟩, rfl⟩
        · rw [if_neg hf] at df ⊢
          rw [df] at hnx
          refine fun dx H5 s5 hd => .inl ⟨rfl, dx, _, rfl, hd, fun l2 hl2 => ?_⟩
          have s6 := s5.trans (same_upd (o := .lst [.str "going", .ref a]) hl2)
          exact hnx _ _ ⟨.ref l2, x4.trans (ext_same s6), Tabs.same s6 t4, ⟨l2, rfl, upd_same⟩, rfl⟩
      rintro _ H4 ⟨v6, x4, t4, tv, rfl⟩
      have z4 := z3.extN x4 t4
      have pv5 := pv5.extN x4
      have x04 := x3.trans x4
      have gb : goingB ds p st d = fitsC cr p st := by
        unfold goingB
        rw [hc]
      cases ho : doneB b p st with
      | none =>
        rw [ho] at tv pv5 df
        have hf : ¬ fitsC cr p st = true := fun q => by
          rw [if_pos q] at df
          exact nomatch df
        have hf0 : fitsC cr p st = false := by simpa using hf
        obtain rfl : v5 = .non := pv5
        obtain ⟨l6, rfl, hl6⟩ := tv
        refine seqV (Good := fun σ2 H5 => Same H4 H5 ∧ σ2 = σS h a t p sa (some .non) (some (.ref l6)) (some (.int st))) ?_ ?_
        · intro nx hnx
          refine ⟨_, rfl, _, rfl, true, rfl, iteT ⟨_, rfl, (by show 2 ≤ sizeLine; decide), fun l7 hl7 => ?_⟩⟩
          have s5 := same_upd (o := .lst [.str "going", .ref a]) hl7
          have g5 := z4.g.same s5
          have gd := goD_ok z.g4.f (by decide)
          refine ⟨goD d, goD d, goD_dp z.g4.f g5.dv (s5 _ _ hl6), goD_dp z.g4.f g5.dv upd_same, gd.1, gd.1, false, eqv_self gd.1, iteF ?_⟩
          refine ⟨_, rfl, _, rfl, _, rfl, _, rfl, q, h, l, m, p, st, xs, ds, .ref a, d, rfl, g5.hh, g5.n60, g5.dv, g5.fw, p0, pm, st0, fun H6 s6 => ?_⟩
          refine ⟨_, rfl, _, rfl, rfl, _, rfl, rfl, false, ?_, iteF (hnx _ _ ⟨s5.trans s6, rfl⟩)⟩
          rw [gb, hf0]
          simp
        rintro _ H5 ⟨s5, rfl⟩
        exact ⟨_, rfl, false, rfl, iteF ⟨_, _, _, x04.trans (ext_same s5), Tabs.same s5 t4, rfl⟩⟩
      | some x =>
        rw [ho] at tv pv5 df
        have hf : fitsC cr p st = true := by
          by_cases q : fitsC cr p st = true
          · exact q
          · rw [if_neg q] at df
            exact nomatch df
        rw [if_pos hf] at df
        obtain rfl := Option.some.inj df
        obtain ⟨u5, rfl, hu5⟩ := pv5
        obtain ⟨u6, rfl, hu6⟩ := tv
        refine seqV (Good := fun σ2 H5 => Same H4 H5 ∧ σ2 = σS h a t p sa (some (.ref u5)) (some (.ref u6)) (some (.int st))) ?_ ?_
        · intro nx hnx
          refine ⟨_, rfl, _, rfl, false, rfl, iteF ⟨_, rfl, _, _, pr_dp hu6, pr_dp hu5, pr_shaped _ _, pr_shaped _ _, false, eqv_self (pr_shaped _ _), iteF ?_⟩⟩
          refine ⟨_, rfl, _, rfl, _, rfl, _, rfl, q, h, l, m, p, st, xs, ds, .ref a, d, rfl, z4.g.hh, z4.g.n60, z4.g.dv, z4.g.fw, p0, pm, st0, fun H6 s6 => ?_⟩
          refine ⟨_, rfl, _, rfl, rfl, _, rfl, rfl, false, ?_, iteF (hnx _ _ ⟨s6, rfl⟩)⟩
          rw [gb, hf]
          simp
        rintro _ H5 ⟨s5, rfl⟩
        have g5 := z4.g.same s5
        refine ⟨_, rfl, true, rfl, iteT ?_⟩
        refine ⟨_, rfl, _, rfl, _, rfl, _, rfl, rfl, rfl, q, h, l, m, p, st, xs, ds, .ref a, d, cr, rfl, g5, p0, pm, st0, hc, goal, hf, fun u7 H6 s6 hu7 => ?_⟩
        have s46 := s5.trans s6
        exact ⟨_, rfl, _, _, pr_dp hu7, pr_dp (s46 _ _ hu5), pr_shaped _ _, pr_shaped _ _, false, eqv_self (pr_shaped _ _), iteF ⟨_, _, _, x04.trans (ext_same s46), Tabs.same s46 t4, rfl⟩⟩
end
end L2.K23
end

section
set_option Elab.async false
set_option linter.all false
set_option maxRecDepth 100000
set_option maxHeartbeats 1000000
namespace L2.K23
open PySem PySem.Spec PyProof.Rows L2.Gd L2.Tw LamX
/-! ### what a going gains -/
def gnS (r : List Dd) : Int := (r.map (·.c)).sum
theorem gnS_app (a b : List Dd) : gnS (a ++ b) = gnS a + gnS b := by unfold gnS; rw [List.map_append, List.sum_append]
theorem gnS_rep (r : List Dd) : ∀ t : Nat, gnS (rep t r) = gnS r * t
  | 0 => by
    show (0 : Int) = gnS r * ((0 : Nat) : Int)
    simp
  | t + 1 => by
    rw [rep_succ, gnS_app, gnS_rep r t, show ((t + 1 : Nat) : Int) = 1 + (t : Int) by omega, Int.mul_add, Int.mul_one]
structure GnC (c : Crs) (r : List Dd) : Prop where
  n : c.n = r.length
  g : c.g = gnS r
def GnO (o : Option Crs) (r : List Dd) : Prop := ∀ c, o = some c → GnC c r
theorem gn_no : GnC noC [] := ⟨rfl, rfl⟩
theorem gn_nil {c : Crs} {r : List Dd} (h : GnC c r) (z : c.n = 0) : r = [] := List.eq_nil_of_length_eq_zero (by have := h.n; omega)
theorem gn_beh {a b : Crs} {r r' : List Dd} (ha : GnC a r) (hb : GnC b r') : GnO (behC a b) (r ++ r') := by
  intro c e
  unfold behC at e
  split at e
  · rename_i z
    obtain rfl := gn_nil ha z
    obtain rfl := Option.some.inj e
    exact hb
  · split at e
    · rename_i z
      obtain rfl := gn_nil hb z
      obtain rfl := Option.some.inj e
      rw [List.append_nil]
      exact ha
    · split at e
      · exact nomatch e
      · obtain rfl := Option.some.inj e
        refine ⟨?_, ?_⟩
        · show a.n + b.n = _
          rw [ha.n, hb.n, List.length_append]
          omega
        · show a.g + b.g = _
          rw [ha.g, hb.g, gnS_app]
theorem gn_oft {c : Crs} {r : List Dd} (h : GnC c r) (t : Nat) : GnO (oftC c t) (rep t r) := by
  intro c2 e
  unfold oftC at e
  split at e
  · rename_i t1
    obtain rfl : t = 1 := by omega
    obtain rfl := Option.some.inj e
    have e1 : rep 1 r = r := by rw [rep_succ]; unfold rep; simp
    rw [e1]
    exact h
  · split at e
    · exact nomatch e
    · obtain rfl := Option.some.inj e
      refine ⟨?_, ?_⟩
      · show c.n * (t : Int) = _
        have len : (rep t r).length = r.length * t := by
          unfold rep
          rw [List.length_flatten, List.map_replicate, List.sum_replicate_nat, Nat.mul_comm]
        rw [h.n, len, Int.natCast_mul]
      · show c.g * (t : Int) = _
        rw [h.g, gnS_rep]
section
variable {ds : List Dd}
theorem gn_item {k : Nat} (ih : ∀ d r, unr k ds.length d = some r → GnO (cwC k ds d) (rowD ds r)) {d : PyData} {r : List Nat} (e : itemU (unr k ds.length) ds.length d = some r) : GnO (itemC (cwC k ds) ds d) (rowD ds r) := by
  match d, e with
  | .int i, e =>
    have e' : (if 0 ≤ i ∧ i < (ds.length : Int) then some [i.toNat] else none : Option (List Nat)) = some r := e
    by_cases h : 0 ≤ i ∧ i < (ds.length : Int)
    · rw [if_pos h] at e'
      obtain rfl := Option.some.inj e'
      have lt : i.toNat < ds.length := by omega
      have e1 : rowD ds [i.toNat] = [ds[i.toNat]] := by
        unfold rowD
        rw [List.map_cons, List.map_nil, List.getD_eq_getElem?_getD, List.getElem?_eq_getElem lt]
        rfl
      rw [e1]
      show GnO ((ds[i.toNat]?).map deedC) _
      rw [List.getElem?_eq_getElem lt]
      intro c ec
      obtain rfl := Option.some.inj ec
      refine ⟨rfl, ?_⟩
      show (ds[i.toNat]).c = (ds[i.toNat]).c + 0
      omega
    · rw [if_neg h] at e'
      exact nomatch e'
  | .tuple [x, .int t], e =>
    have e' : (if t < 0 then none else (unr k ds.length x).map fun r => (List.replicate t.toNat r).flatten) = some r := e
    by_cases h : t < 0
    · rw [if_pos h] at e'
      exact nomatch e'
    · rw [if_neg h] at e'
      obtain ⟨a, ea, rfl⟩ := Option.map_eq_some_iff.mp e'
      rw [rowD_rep]
      show GnO ((if t > 0 then cwC k ds x else some noC).bind fun c => oftC c t) _
      intro c2 e2
      obtain ⟨c, hc, e2⟩ := Option.bind_eq_some_iff.mp e2
      obtain ⟨n, rfl⟩ : ∃ n : Nat, t = n := ⟨t.toNat, by omega⟩
      rw [Int.toNat_natCast]
      by_cases h0 : (n : Int) > 0
      · rw [if_pos h0] at hc
        exact gn_oft (ih x a ea c hc) n c2 e2
      · obtain rfl : n = 0 := by omega
        rw [if_neg h0] at hc
        obtain rfl := Option.some.inj hc
        have := gn_oft (r := []) gn_no 0 c2 e2
        exact this
theorem gn_list {k : Nat} (ih : ∀ d r, unr k ds.length d = some r → GnO (cwC k ds d) (rowD ds r)) :
    ∀ (its : List PyData) (c : Crs) (r0 : List Dd) (r : List Nat), GnC c r0 → unrL (unr k ds.length) ds.length its = some r → GnO (cwL (itemC (cwC k ds) ds) its c) (r0 ++ rowD ds r)
  | [], c, r0, r, hc, e => by
    obtain rfl := (Option.some.inj e).symm
    intro c2 e2
    obtain rfl := Option.some.inj e2
    show GnC c (r0 ++ [])
    rw [List.append_nil]
    exact hc
  | it :: its, c, r0, r, hc, e => by
    have e' : (match itemU (unr k ds.length) ds.length it, unrL (unr k ds.length) ds.length its with | some a, some b => some (a ++ b) | _, _ => none : Option (List Nat)) = some r := e
    cases h1 : itemU (unr k ds.length) ds.length it with
    | none => rw [h1] at e'; exact nomatch e'
    | some a =>
      cases h2 : unrL (unr k ds.length) ds.length its with
      | none => rw [h1, h2] at e'; exact nomatch e'
      | some b =>
        rw [h1, h2] at e'
        obtain rfl := (Option.some.inj e').symm
        rw [rowD_app, ← List.append_assoc]
        have si := gn_item ih h1
        show GnO (match (itemC (cwC k ds) ds it).bind (behC c) with | none => none | some c' => cwL (itemC (cwC k ds) ds) its c') _
        cases hi : itemC (cwC k ds) ds it with
        | none => exact fun _ z => nomatch z
        | some ci =>
          have sb := gn_beh hc (si ci hi)
          show GnO (match behC c ci with | none => none | some c' => cwL (itemC (cwC k ds) ds) its c') _
          cases hb : behC c ci with
          | none => exact fun _ z => nomatch z
          | some c' => exact gn_list ih its c' _ b (sb c' hb) h2
theorem gn_cw : ∀ (k : Nat) (d : PyData) (r : List Nat), unr k ds.length d = some r → GnO (cwC k ds d) (rowD ds r)
  | 0, _, _, e => nomatch e
  | k + 1, d, r, e => by
    unfold unr at e
    unfold cwC
    cases hs : seqOf d with
    | none => rw [hs] at e; exact nomatch e
    | some its =>
      rw [hs] at e
      exact gn_list (gn_cw k) its noC [] r gn_no e
end
/-- what the law counts -/
theorem gnS_row (ds : List Dd) (r : List Nat) : gnS (rowD ds r) = (r.map fun i => (dAt ds i).c).sum := by
  unfold gnS rowD
  rw [List.map_map]
  rfl
section
variable {m : Int} {ds : List Dd} {d : PyData}
/-- all that is known of a going and its row -/
theorem gd4_row (g : Gd4 ds d) : ∃ r, unr 4 ds.length d = some r ∧ (∀ i ∈ r, i < ds.length) ∧ r.length ≤ wt 4 d := by
  have h := g.f
  rw [has_unr] at h
  obtain ⟨r, er⟩ := Option.isSome_iff_exists.mp h
  exact ⟨r, er, fun i hi => by have := unr_lt 4 _ d r er i hi; omega, unr_len 4 _ d r er⟩
theorem gd4_hangs (g : Gd4 ds d) (ok : ∀ d ∈ ds, d.Ok m) {r : List Nat} (er : unr 4 ds.length d = some r) : (blC 4 ds d).isSome = hangsB ds r := by
  have h := hg_cw 4 d r er
  have rl := g.rel ok
  rw [g.whole] at rl
  rw [Bool.eq_iff_iff, hangs_hg]
  cases hc : cwC 4 ds d with
  | none =>
    rw [hc] at h rl
    cases hb : blC 4 ds d with
    | none => exact ⟨fun z => (by simp at z), fun z => (h z).elim⟩
    | some a => rw [hb] at rl; exact rl.elim
  | some c =>
    rw [hc] at h rl
    cases hb : blC 4 ds d with
    | none => rw [hb] at rl; exact rl.elim
    | some a => exact ⟨fun _ => h.h, fun _ => rfl⟩
theorem gd4_sums (g : Gd4 ds d) (ok : ∀ d ∈ ds, d.Ok m) {r : List Nat} (er : unr 4 ds.length d = some r) {b : Blk} (hb : blC 4 ds d = some b) : b.n = r.length ∧ b.g = (r.map fun i => (dAt ds i).c).sum ∧ ∀ p s, 0 ≤ s → doneB b p s = runD (rowD ds r) p s := by
  obtain ⟨c, hc, rl⟩ := g.some ok hb
  have hc2 := hc
  rw [g.whole] at hc2
  have gn := gn_cw 4 d r er c hc2
  have sp := spec_cw ok 4 d r er
  rw [hc2] at sp
  refine ⟨?_, ?_, fun p s hs => done_run rl sp hs⟩
  · rw [rl.n, gn.n]
    unfold rowD
    rw [List.length_map]
  · rw [rl.g, gn.g, gnS_row]
end
end L2.K23
end

section
set_option Elab.async false
set_option linter.all false
set_option maxRecDepth 100000
set_option maxHeartbeats 1000000
namespace L2.K23
open PySem PySem.Spec PyProof.Rows L2.Gd L2.Tw LamX
/-! ### _law_few_right -/
def spFr (C2 : Addr) (T : List (Addr × Str)) : Sp := fun vs H Q _ => ∃ (q h l D a : Addr) (v3 : V) (m : Int) (xs ys : List V) (ds : List Dd) (d : PyData), vs = [.ref h, .ref D, .ref a, v3] ∧ Tabs T H ∧ GvAt C2 q H h l m xs ds (.ref a) d ∧ 1 ≤ m ∧ m ≤ 100 ∧ H D = some (.lst ys) ∧ DdAll H ys ds ∧ (∀ d ∈ ds, d.Ok m) ∧ Gd4 ds d ∧ wt 4 d ≤ 1000 ∧
  BkV H v3 (blC 4 ds d) ∧ ∀ H', ExtN H H' → Tabs T H' → Q (.bl true) H'
def NFr : List Str := ["_law_house", "_law_deeds_here", "_law_items_here", "_law_block_here", "_law_row", "_law_start", "_law_place", "_law_at"]
abbrev PFr : List Str := ["_law_house", "_law_deeds_here", "_law_items_here", "_law_block_here"]
theorem scFr : FnScope NFr PFr (defScope (top 62)) := ⟨rfl, rfl, rfl, by decide +kernel, rfl, by decide +kernel, by decide +kernel⟩
abbrev σF (h D a : Addr) (v3 : V) (x4 x5 x6 : Option V) : L2.St := [some (.ref h), some (.ref D), some (.ref a), some v3, x4, x5, x6, none]
def PrD : Option (Int × Int) → PyData
  | none => .none
  | some x => .tuple [.int x.1, .int x.2]
theorem PrV.dp {K : PySem.W.Frag} {H : Hp} {v : V} {o : Option (Int × Int)} (h : PrV H v o) : Dp K H v (PrD o) := by
  cases o with
  | none =>
    obtain rfl : v = .non := h
    exact .non
  | some x =>
    obtain ⟨u, rfl, hu⟩ := h
    exact pr_dp hu
theorem prD_shaped (o : Option (Int × Int)) : SeqAt.shaped (PrD o) = true := by
  cases o with
  | none => rfl
  | some x => exact pr_shaped _ _
theorem paired_iV : ∀ r : List Nat, Paired (fun v (i : Nat) => v = V.int (i : Int)) (iV r) r
  | [] => .nil
  | _ :: r => .cons rfl (paired_iV r)
section
variable {P : Program} {w : World} {K : PySem.W.Frag} {mg : Str → Option Value} {base : Heap} {C C2 CG CN : Addr} {T : List (Addr × Str)}
theorem ok_fr {f c tP : Addr} {fd : FuncData} (F : FunL K "_law_few_right" (top 62) f fd c) (n : Nm mg) (ns : mg "sum" = none) (TH : ClsT K mg C2) (h0 : HeK P w K mg base CG CN) (tb : TbK base mg T "_law_few_right" c tP)
    (UN : Fn P w K mg base 6 "_law_unrolled" ["_law_value", "_law_many", "_law_lists"] (spUn 4)) (HG : Fn P w K mg base 1 "_law_hangs" ["_law_deeds_here", "_law_row"] spHg) (WK : Fn P w K mg base 1 "_law_walked" ["_law_deeds_here", "_law_row", "_law_place", "_law_start"] spWk)
    (DO : Fn P w K mg base 1 "_law_done" PDo spDo) (PL : PrH P w K mg base C2 "places" (spPlaces C2)) (GA : FnX P w K mg base 11 "gain_of" P2 (spFl C2 CG Crs.g)) : FnOk P w K mg base CX0 14 f fd PFr (spFr C2 T) := by
  refine F.ok scFr (fun vs H Q E h => ?_) (fun A outer s H vs Q E hr h => ?_)
  · obtain ⟨q, h, l, D, a, v3, m, xs, ys, ds, d, rfl, _⟩ := h
    rfl
  · obtain ⟨q, h, l, D, a, v3, m, xs, ys, ds, d, rfl, tt, g, m1, m100, hD, dd, ok, g4, w1000, bv, k⟩ := h
    have N := scFr.nd
    have r1 := hr.mono (k := 13) (j := 1) (by decide)
    have r2 := hr.mono (k := 13) (j := 2) (by decide)
    have r6 := hr.mono (k := 13) (j := 6) (by decide)
    refine ⟨_, pss_cons (ps_set (i := 4) N rfl (.inl rfl) (pe_fn UN r6 (pa_cons (pv 2) (pa_cons (pe_callB call_len_seq (by rfl) n.len PySem.boot_len (pa_cons (pv 1) pa_nil)) (pa_cons pe_int pa_nil)))))
      (pss_cons (ps_if (pt_cmpR op_ne (pe_cmpR op_isN (pv 3) pe_non (nomark _)) (pe_not (pe_fn HG r1 (pa_cons (pv 1) (pa_cons (pv 4) pa_nil)))) (nomark _)) (pss_one (ps_ret pe_bl)) pss_nil)
      (pss_cons (ps_if (pt_cmp (pc_isN (pv 3))) (pss_one (ps_ret (pe_cmpR (op_eqD hr.units)
          (pe_heard (k := 11) h0 tb rfl rfl hr (lamS_by (by show lamSB (defScope (top 62)) _ = true; decide +kernel)) (fun A outer s H E f c' hr => pe_fnX GA hr (takes_of rfl rfl rfl rfl) (pa_cons (pv 0) (pa_cons (pv 2) pa_nil))))
          (pe_lst (pa_cons pe_str (pa_cons (pv 2) pa_nil))) (nomark _)))) pss_nil)
      (pss_cons (ps_if (pw_or (pt_cmpR op_ne (pe_ix ix_tup (pv 3) pe_int (fun _ _ => rfl)) (pe_callB call_len_seq (by rfl) n.len PySem.boot_len (pa_cons (pv 4) pa_nil)) (nomark _))
          (pw_or1 (pt_cmpR op_ne (pe_ix ix_tup (pv 3) pe_int (fun _ _ => rfl)) (pe_callB (cr_sum rfl) (by rfl) ns (by decide +kernel) (pa_cons
            (pe_lc (own := [("_law_at", 7)]) (g := gName 7) (tt := tYes) rfl N (pi_list (pv 4)) (blkOk_by (N := NFr) (sc := defScope (top 62)) (by decide +kernel)) (fun _ _ _ _ _ => pg_name (i := 7) N rfl (.inl rfl)) (fun _ _ _ _ _ => pts_nil)
              (fun _ _ _ _ _ => pe_ix (r := rIxT K) ix_tup (pe_ix (r := rIxL K) ix_list (pv 1) (pv 7) (fun _ _ => rfl)) pe_int (fun _ _ => rfl))) pa_nil)) (nomark _)))).pt (pss_one (ps_ret pe_bl)) pss_nil)
      (pss_cons (ps_for PassesOwn.never rfl (pi_range1 (by rfl) n.range (pa_cons pe_int pa_nil)) (pg_name (i := 5) N rfl (.inl rfl))
        (pss_one (ps_for PassesOwn.never rfl (pi_range1 (by rfl) n.range (pa_cons (pe_prH PL TH r2 (pv 0)) pa_nil)) (pg_name (i := 6) N rfl (.inl rfl))
          (pss_one (ps_if (pt_cmpR (op_neD hr.units) (pe_fn WK r1 (pa_cons (pv 1) (pa_cons (pv 4) (pa_cons (pv 6) (pa_cons (pv 5) pa_nil))))) (pe_fn DO r1 (pa_cons (pv 3) (pa_cons (pv 6) (pa_cons (pv 5) pa_nil)))) (nomark _)) (pss_one (ps_ret pe_bl)) pss_nil)))))
      (pss_one (ps_ret pe_bl)))))), ?_⟩
    obtain ⟨r, er, rlt, rln⟩ := gd4_row g4
    have yl := Paired.length dd
    have ivl : (iV r).length = r.length := List.length_map _
    have hang := gd4_hangs g4 ok er
    -- row
    refine seqV (Good := fun σ2 H1 => ∃ u : Addr, Same H H1 ∧ H1 u = some (.lst (iV r)) ∧ σ2 = σF h D a v3 (some (.ref u)) none none) ?_ ?_
    · intro nx hnx
      refine ⟨_, rfl, _, rfl, D, ys, rfl, .inl (.inl (.inl hD)), q, ds.length, .ref a, d, by rw [yl]; rfl, g.dv, by omega, fun v' H1 s1 uv => ?_⟩
      rw [er] at uv
      obtain ⟨u, rfl, hu⟩ := uv
      exact hnx _ _ ⟨u, s1, hu, rfl⟩
    rintro _ H1 ⟨u, s1, hu, rfl⟩
    have bv1 := bv.same s1
    have hD1 := s1 _ _ hD
    have dd1 := DdAll.same s1 dd
    have isn := bv1.isn
    have hb0 : decide (v3 = .non) = !hangsB ds r := by
      rw [isn, ← hang]
      cases blC 4 ds d <;> rfl
    refine seqV (Good := fun σ2 H2 => Same H1 H2 ∧ σ2 = σF h D a v3 (some (.ref u)) none none) ?_ ?_
    · intro nx hnx
      refine ⟨_, rfl, rfl, _, rfl, _, rfl, D, u, ys, ds, r, rfl, hD1, dd1, hu, rlt, by omega, fun H2 s2 => ⟨_, rfl, rfl, false, ?_, iteF (hnx _ _ ⟨s2, rfl⟩)⟩⟩
      rw [hb0]
      simp
    rintro _ H2 ⟨s2, rfl⟩
    have s02 := s1.trans s2
    cases hb : blC 4 ds d with
    | none =>
      rw [hb] at bv
      obtain rfl : v3 = .non := bv
      have hc := g4.none ok hb
      refine ⟨_, rfl, true, rfl, iteT ⟨Tabs.same s02 tt, fun H3 x3 t3 => ?_⟩⟩
      have x03 := (ext_same s02).trans x3
      have g3 := g.extN x03
      refine ⟨_, rfl, _, rfl, q, h, l, m, xs, ds, .ref a, d, rfl, g3, ?_⟩
      rw [hc]
      refine fun dx H4 s4 hd => .inl ⟨rfl, dx, _, rfl, hd, fun l4 hl4 => ⟨_, rfl, (by show 2 ≤ sizeLine; decide), fun l5 hl5 => ?_⟩⟩
      have s5 := same_upd (o := .lst [.str "going", .ref a]) hl4
      have s6 := same_upd (o := .lst [.str "going", .ref a]) hl5
      have s36 := s4.trans (s5.trans s6)
      have g6 := g3.same s36
      have gd := goD_ok g4.f (by decide)
      refine ⟨goD d, goD d, goD_dp g4.f g6.dv (s6 _ _ upd_same), goD_dp g4.f g6.dv upd_same, gd.1, gd.1, ?_⟩
      rw [gd.2]
      exact k _ (x03.trans (ext_same s36)) (Tabs.same s36 t3)
    | some b =>
      rw [hb] at bv
      obtain ⟨t, rfl, ht⟩ := bv
      obtain ⟨bn, bg, bd⟩ := gd4_sums g4 ok er hb
      have nf : b.n ≠ 0 → ∃ f, b.f = some f := fun z => by
        obtain ⟨c0, hc0, rl⟩ := g4.some ok hb
        rw [rl.f]
        rw [rl.n] at z
        exact gd4_goal g4 ok hc0 z
      have ht2 := s02 _ _ ht
      have hu2 := s2 _ _ hu
      refine seqV (Good := fun σ2 H3 => Same H2 H3 ∧ σ2 = σF h D a (.ref t) (some (.ref u)) none none) (fun nx hnx => ⟨_, rfl, false, rfl, iteF (hnx _ _ ⟨fun _ _ z => z, rfl⟩)⟩) ?_
      rintro _ H3 ⟨s3, rfl⟩
      have s03 := s02.trans s3
      have ht3 := s3 _ _ ht2
      have hu3 := s3 _ _ hu2
      have hD3 := s03 _ _ hD
      have dd3 := DdAll.same s03 dd
      -- counted, summed
      refine seqV (Good := fun σ2 H4 => Same H3 H4 ∧ σ2 = σF h D a (.ref t) (some (.ref u)) none none) ?_ ?_
      · intro nx hnx
        refine ⟨_, rfl, t, _, _, _, rfl, rfl, .inl (.inl ht3), rfl, _, rfl, u, _, rfl, .inl (.inl (.inl hu3)), rfl, false, ?_, iteF ?_⟩
        · rw [ivl, bn]
          simp
        refine ⟨_, rfl, t, _, _, _, rfl, rfl, .inl (.inl ht3), rfl, _, rfl, u, rfl, ⟨_, .inl (.inl hu3)⟩, fun L hL => ?_⟩
        refine lc_mapL (es := r) (F := fun _ v (i : Nat) => v = V.int (i : Int)) (G := fun _ v b => v = V.int b) (f := fun i => some (dAt ds i).c) (fun _ _ _ _ _ _ z => z) hu3 hL (by rw [ivl]; omega) (paired_iV r) ?_ ?_
        · rintro x i H4 A B hi rfl bt ⟨zs, hz⟩ hA hB
          have s4 := bt.new hL
          obtain ⟨t1, y1, h1⟩ := dd_at (DdAll.same s4 dd3) (rlt i hi)
          refine ⟨rfl, yes_ite ⟨_, rfl, _, rfl, D, ys, _, _, rfl, rfl, .inl (.inl (s4 _ _ hD3)), atI_nat y1, t1, _, _, _, rfl, rfl, .inl (.inl h1), rfl, ?_⟩⟩
          exact hA _ _ H4 rfl (fun _ _ z => z) rfl
        · intro zs H4 h1 h2 h3
          rw [mapE] at h2
          rw [ints_of h2] at h1
          refine ⟨L, _, rfl, .inl (.inl h1), rfl, false, ?_, iteF (hnx _ _ ⟨h3.new hL, rfl⟩)⟩
          rw [bg]
          simp
      rintro _ H4 ⟨s4, rfl⟩
      have s04 := s03.trans s4
      have ht4 := s4 _ _ ht3
      have hu4 := s4 _ _ hu3
      have hD4 := s04 _ _ hD
      have dd4 := DdAll.same s04 dd
      have hh4 := g.hh.same s04
      clear bv1 isn hb0 hang s1 s2 s3 s4 ht2 hu hu2 hD1 dd1 ht3 hu3 hD3 dd3 s02 s03
      refine ⟨7, rfl, by decide, by decide, for_range (lo := 0) (n := (7 : Int).toNat) (fun i σ2 H5 => ∃ x5 x6 : Option V, Same H4 H5 ∧ σ2 = σF h D a (.ref t) (some (.ref u)) x5 x6) ⟨none, none, fun _ _ z => z, rfl⟩ ?_ ?_⟩
      · rintro i σ2 H5 hi ⟨x5, x6, s5, rfl⟩
        refine gn ?_
        obtain ⟨dx, ob⟩ := (hh4.same s5).ob
        refine ⟨_, rfl, h, dx, _, rfl, ob, h, dx, l, m, rfl, ob, m, rfl, by omega, by omega, for_range (lo := 0) (n := m.toNat) (fun j σ2 H6 => ∃ x6 : Option V, Same H4 H6 ∧ σ2 = σF h D a (.ref t) (some (.ref u)) (some (.int (0 + (i : Int)))) x6) ⟨x6, s5, rfl⟩ ?_ ?_⟩
        · rintro j σ2 H6 hj ⟨x6, s6, rfl⟩
          refine gn ?_
          refine ⟨_, rfl, _, rfl, _, rfl, _, rfl, D, u, ys, ds, r, _, _, rfl, s6 _ _ hD4, DdAll.same s6 dd4, s6 _ _ hu4, rlt, fun v' H7 s7 hv => ?_⟩
          have s67 := s6.trans s7
          refine ⟨_, rfl, _, rfl, _, rfl, t, b, _, _, rfl, s67 _ _ ht4, nf, fun v8 H8 s8 pv => ?_⟩
          have pw : PrV H7 v' (doneB b (0 + (j : Int)) (0 + (i : Int))) := by
            rw [bd _ _ (by omega)]
            cases ho : runD (rowD ds r) (0 + (j : Int)) (0 + (i : Int)) with
            | none =>
              rw [ho] at hv
              exact hv
            | some x =>
              rw [ho] at hv
              exact hv
          exact ⟨_, _, (pw.same s8).dp, pv.dp, prD_shaped _, prD_shaped _, false, eqv_self (prD_shaped _), iteF ⟨_, s67.trans s8, rfl⟩⟩
        · rintro σ2 H6 ⟨x6, s6, rfl⟩
          exact ⟨_, _, s6, rfl⟩
      · rintro σ2 H5 ⟨x5, x6, s5, rfl⟩
        have s05 := s04.trans s5
        exact k H5 (ext_same s05) (Tabs.same s05 tt)
end
end L2.K23
end

section
set_option Elab.async false
set_option linter.all false
set_option maxRecDepth 100000
set_option maxHeartbeats 1000000
namespace L2.K23
open PySem PySem.Spec PyProof.Rows L2.Gd L2.Tw LamX
/-! ### all but the pot and the tables -/
def ExtB (p : Addr) (H H' : Hp) : Prop := ∀ b o, b ≠ p → H b = some o → (∀ ps, o ≠ .tbl ps) → H' b = some o
theorem ExtB.trans {p : Addr} {H H1 H2 : Hp} (a : ExtB p H H1) (b : ExtB p H1 H2) : ExtB p H H2 := fun c o ne e n => b c o ne (a c o ne e n) n
theorem ext_but {p : Addr} {H H' : Hp} (b : ButD p H H') : ExtB p H H' := fun c o ne e _ => b c o ne e
theorem ext_ext {p : Addr} {H H' : Hp} (b : ExtN H H') : ExtB p H H' := fun c o _ e n => b c o e n
theorem make_any {K : PySem.W.Frag} {C : Addr} {R : Addr → VK} {H : Hp} {a : Addr} {m : Int} {xs : List V} {ds : List Dd} {E : XK} (hs : Seq K H a xs) (hd : DdAll H xs ds) (wf : WF m ds)
    (k : ∀ (x l : Addr) (H' : Hp), H x = none → H l = none → Same H H' → HouseL C H' x l m xs ds → R x .non H') :
    ∀ x dx, H x = none → H dx = none → dx ≠ x → spInit K C (.ref x :: ([.int m, .ref a] ++ [])) (upd (upd H dx (.own x)) x (.ins C dx [])) (R x) E := by
  intro x dx nx ndx ne
  have s0 : Same H (upd (upd H dx (.own x)) x (.ins C dx [])) := fun b o e => by
    rw [upd_ne (ne_of_none e nx), upd_ne (ne_of_none e ndx)]
    exact e
  refine ⟨x, dx, a, m, xs, ds, rfl, upd_same, hs.same s0, hd.same s0, wf, fun l H' nl hx hl kp => ?_⟩
  have s1 : Same H H' := fun b o e => kp b o (ne_of_none e nx) (s0 b o e)
  exact k x l H' nx (s0.free nl) s1 ⟨⟨dx, hx⟩, hl, hd.same s1⟩
/-- a house, its deeds as a list, the pot, the tables -/
structure RtAt (C2 : Addr) (T : List (Addr × Str)) (H : Hp) (p h l D : Addr) (m : Int) (xs : List V) (ds : List Dd) : Prop where
  hp : PotAt H p
  tt : Tabs T H
  hh : HouseL C2 H h l m xs ds
  lp : l ≠ p
  hD : H D = some (.lst xs)
  nD : D ≠ p
  wf : WF m ds
section
variable {C2 : Addr} {T : List (Addr × Str)} {H H' : Hp} {p h l D : Addr} {m : Int} {xs : List V} {ds : List Dd}
theorem RtAt.pot (g : RtAt C2 T H p h l D m xs ds) (hp' : PotAt H' p) (b : ButD p H H') : RtAt C2 T H' p h l D m xs ds := by
  obtain ⟨dx, ob⟩ := g.hh.ob
  refine ⟨hp', Tabs.but g.hp.lst b g.tt, ⟨⟨dx, b _ _ (fun z => ?_) ob⟩, b _ _ g.lp g.hh.ls, g.hh.dd.pot g.hp b⟩, g.lp, b _ _ g.nD g.hD, g.nD, g.wf⟩
  subst z
  obtain ⟨a, c, e, _⟩ := g.hp
  rw [ob] at e
  exact nomatch e
theorem RtAt.extN (g : RtAt C2 T H p h l D m xs ds) (e : ExtN H H') (t : Tabs T H') : RtAt C2 T H' p h l D m xs ds := ⟨g.hp.extN e, t, g.hh.extN e, g.lp, ext_lst e g.hD, g.nD, g.wf⟩
theorem RtAt.same (g : RtAt C2 T H p h l D m xs ds) (s : Same H H') : RtAt C2 T H' p h l D m xs ds := g.extN (ext_same s) (Tabs.same s g.tt)
theorem RtAt.gv (g : RtAt C2 T H p h l D m xs ds) {v : V} {d : PyData} (dv : DV p H v d) (g4 : Gd4 ds d) : GvAt C2 p H h l m xs ds v d := ⟨g.hh, g.wf.len, dv, fun _ => g4.few g.wf.ok⟩
end
theorem dv_but {p : Addr} {H H' : Hp} {v : V} {d : PyData} (hp : PotAt H p) (b : ButD p H H') (h : DV p H v d) : DV p H' v d := DV.comb hp.lst b h h
def spRt (T : List (Addr × Str)) : Sp := fun vs H Q _ => ∃ (p : Addr), vs = [.ref p] ∧ PotAt H p ∧ Tabs T H ∧ ∀ H', ExtB p H H' → Tabs T H' → Q (.bl true) H'
def NRt : List Str := ["_law_pot_here", "_law_places", "_law_deeds_here", "_law_place", "_law_items_here", "_law_block_here", "_law_forced", "_law_starts", "_law_great_here", "_law_house"]
theorem scRt : FnScope NRt ["_law_pot_here"] (defScope (top 63)) := ⟨rfl, rfl, rfl, by decide +kernel, rfl, by decide +kernel, by decide +kernel⟩
abbrev σR (p : Addr) (x1 x2 x3 x4 x5 x6 x7 x8 x9 : Option V) : L2.St := [some (.ref p), x1, x2, x3, x4, x5, x6, x7, x8, x9]
theorem pow20 : (10 : Int) ^ (20 : Int).toNat = ((10 ^ 20 : Nat) : Int) := by decide
theorem pow25 : (10 : Int) ^ (25 : Int).toNat = ((10 ^ 25 : Nat) : Int) := by decide
def forcedB (b : Blk) : List Int := match b.fo with
  | none => []
  | some x => if x < 1 then [] else [x, x - 1]
theorem forced_nn (b : Blk) : ∀ x ∈ forcedB b, 0 ≤ x := by
  intro x hx
  unfold forcedB at hx
  cases hf : b.fo with
  | none => rw [hf] at hx; exact nomatch hx
  | some y =>
    rw [hf] at hx
    have hx : x ∈ (if y < 1 then [] else [y, y - 1] : List Int) := hx
    by_cases c : y < 1
    · rw [if_pos c] at hx
      exact nomatch hx
    · rw [if_neg c] at hx
      simp only [List.mem_cons, List.not_mem_nil, or_false] at hx
      omega
section
variable {P : Program} {w : World} {K : PySem.W.Frag} {mg : Str → Option Value} {base : Heap} {C C2 CG CN : Addr} {T : List (Addr × Str)}
/-- what the law's right wants -/
structure RK (P : Program) (w : World) (K : PySem.W.Frag) (mg : Str → Option Value) (base : Heap) (C2 CG CN : Addr) (T : List (Addr × Str)) : Prop where
  n : Nm mg
  th : ClsT K mg C2
  M : MkH P w K mg base C2
  h0 : HeK P w K mg base CG CN
  dr : Fn P w K mg base 1 "_law_draw" ["_law_pot_here", "_law_many"] spDraw
  ds : Fn P w K mg base 2 "_law_deeds" ["_law_pot_here", "_law_places", "_law_many", "_law_has_empty"] spDeedsL
  it : Fn P w K mg base 4 "_law_items" ["_law_pot_here", "_law_deeds_here", "_law_place", "_law_deep"] spIt
  bl : Fn P w K mg base 6 "_law_block" ["_law_deeds_here", "_law_items_here"] (spBl 4)
  gt : Fn P w K mg base 6 "_law_great" PGt (spGt 4)
  fr : Fn P w K mg base 14 "_law_few_right" PFr (spFr C2 T)
  tr : Fn P w K mg base 14 "_law_told_right" PTr (spTr C2 T)
  sr : Fn P w K mg base 14 "_law_stands_right" PSr (spSr C2 T)
  di : FnX P w K mg base 11 "deeds_in" P2 (spFl C2 CG Crs.n)
theorem ok_rt {f c tP : Addr} {fd : FuncData} (F : FunL K "_law_right" (top 63) f fd c) (tb : TbK base mg T "_law_right" c tP) (k : RK P w K mg base C2 CG CN T) : FnOk P w K mg base CX0 15 f fd ["_law_pot_here"] (spRt T) := by
  refine F.ok scRt (fun vs H Q E h => ?_) (fun A outer s H vs Q E hr h => ?_)
  · obtain ⟨p, rfl, _⟩ := h
    rfl
  · obtain ⟨p, rfl, hp, tt, q⟩ := h
    have N := scRt.nd
    have n := k.n
    have TH := k.th
    have r1 := hr.mono (k := 14) (j := 1) (by decide)
    have r2 := hr.mono (k := 14) (j := 2) (by decide)
    have r4 := hr.mono (k := 14) (j := 4) (by decide)
    have r6 := hr.mono (k := 14) (j := 6) (by decide)
    have r13 := hr.mono (k := 14) (j := 13) (by decide)
    refine ⟨_, pss_cons (ps_set (i := 1) N rfl (.inl rfl) (pe_op op_add pe_int (pe_fn k.dr r1 (pa_cons (pv 0) (pa_cons pe_int pa_nil)))))
      (pss_cons (ps_set (i := 2) N rfl (.inl rfl) (pe_fn k.ds r2 (pa_cons (pv 0) (pa_cons (pv 1) (pa_cons (pe_op op_add pe_int (pe_fn k.dr r1 (pa_cons (pv 0) (pa_cons pe_int pa_nil)))) (pa_cons pe_bl pa_nil))))))
      (pss_cons (ps_asg (pe_tup (pa_cons (pe_house k.M TH r6 (pa_cons (pv 1) (pa_cons (pv 2) pa_nil))) (pa_cons (pe_fn k.dr r1 (pa_cons (pv 0) (pa_cons (pv 1) pa_nil))) pa_nil))) (pg_tup rfl (pgs_cons (pg_name (i := 9) N rfl (.inr rfl)) (pgs_cons (pg_name (i := 3) N rfl (.inl rfl)) pgs_nil))))
      (pss_cons (ps_set (i := 4) N rfl (.inl rfl) (pe_fn k.it r4 (pa_cons (pv 0) (pa_cons (pv 2) (pa_cons (pv 3) (pa_cons pe_int pa_nil))))))
      (pss_cons (ps_set (i := 5) N rfl (.inl rfl) (pe_fn k.bl r6 (pa_cons (pv 2) (pa_cons (pv 4) pa_nil))))
      (pss_cons (ps_if (pt_not (pt_val (pe_fn k.fr hr (pa_cons (pv 9) (pa_cons (pv 2) (pa_cons (pv 4) (pa_cons (pv 5) pa_nil))))))) (pss_one (ps_ret pe_bl)) pss_nil)
      (pss_cons (ps_if (pw_and (pt_cmp (pc_notN (pv 5))) (pw_and1 (PW.pt (pw_or (pt_not (pt_val (pe_fn k.tr hr (pa_cons (pv 9) (pa_cons (pv 4) (pa_cons (pv 5) pa_nil))))))
          (pw_or1 (pt_not (pt_val (pe_fn k.sr hr (pa_cons (pv 9) (pa_cons (pv 4) (pa_cons (pv 5) (pa_cons (pv 3) (pa_cons (pe_lst (pa_cons pe_int (pa_cons pe_int (pa_cons pe_int (pa_cons pe_int (pa_cons pe_int (pa_cons pe_int pa_nil))))))) pa_nil))))))))))))).pt (pss_one (ps_ret pe_bl)) pss_nil)
      (pss_cons (ps_set (i := 8) N rfl (.inr rfl) (pe_fn k.gt r6 (pa_cons (pv 0) (pa_cons (pv 4) (pa_cons (pe_lst (pa_cons pe_int (pa_cons pe_int (pa_cons pe_int (pa_cons (pe_op op_add (pe_op op_pow pe_int pe_int) (pe_fn k.dr r1 (pa_cons (pv 0) (pa_cons pe_int pa_nil)))) (pa_cons (pe_op op_pow pe_int pe_int) pa_nil)))))) pa_nil)))))
      (pss_cons (ps_set (i := 5) N rfl (.inl rfl) (pe_fn k.bl r6 (pa_cons (pv 2) (pa_cons (pv 8) pa_nil))))
      (pss_cons (ps_if (pt_cmp (pc_isN (pv 5))) (pss_one (ps_ret (pe_cmpR (op_eqD hr.units)
          (pe_heard (k := 11) k.h0 tb rfl rfl r13 (lamS_by (by show lamSB (defScope (top 63)) _ = true; decide +kernel)) (fun A outer s H E f c' hr => pe_fnX k.di hr (takes_of rfl rfl rfl rfl) (pa_cons (pv 9) (pa_cons (pv 8) pa_nil))))
          (pe_lst (pa_cons pe_str (pa_cons (pv 8) pa_nil))) (nomark _)))) pss_nil)
      (pss_cons (ps_set (i := 6) N rfl (.inl rfl) (pe_ifExp (pw_or (pt_cmp (pc_isN (pe_ix ix_tup (pv 5) pe_int (fun _ _ => rfl)))) (pw_or1 (pt_cmpR op_lt (pe_ix ix_tup (pv 5) pe_int (fun _ _ => rfl)) pe_int (nomark _)))).pt (pe_lst pa_nil)
          (pe_lst (pa_cons (pe_ix ix_tup (pv 5) pe_int (fun _ _ => rfl)) (pa_cons (pe_op op_sub (pe_ix ix_tup (pv 5) pe_int (fun _ _ => rfl)) pe_int) pa_nil)))))
      (pss_cons (ps_set (i := 7) N rfl (.inl rfl) (pe_op op_cat (pe_op op_cat (pe_lst (pa_cons (pe_ix ix_tup (pv 5) pe_int (fun _ _ => rfl)) (pa_cons (pe_op op_add (pe_ix ix_tup (pv 5) pe_int (fun _ _ => rfl)) (pe_op op_pow pe_int pe_int)) (pa_cons pe_int (pa_cons pe_int pa_nil)))))
          (pe_ifExp (pt_cmpR op_gt (pe_ix ix_tup (pv 5) pe_int (fun _ _ => rfl)) pe_int (nomark _)) (pe_lst (pa_cons (pe_op op_sub (pe_ix ix_tup (pv 5) pe_int (fun _ _ => rfl)) pe_int) pa_nil)) (pe_lst pa_nil))) (pv 6)))
      (pss_one (ps_ret (pe_and (pe_fn k.tr hr (pa_cons (pv 9) (pa_cons (pv 8) (pa_cons (pv 5) pa_nil)))) (pe_one (pe_fn k.sr hr (pa_cons (pv 9) (pa_cons (pv 8) (pa_cons (pv 5) (pa_cons (pv 3) (pa_cons (pv 7) pa_nil))))))))))))))))))))), ?_⟩
    -- places
    refine seqV (Good := fun σ2 H2 => ∃ m : Int, 2 ≤ m ∧ m ≤ 4 ∧ PotAt H2 p ∧ ButD p H H2 ∧ σ2 = σR p (some (.int m)) none none none none none none none none)
      (fun nx hnx => ⟨_, rfl, p, 3, rfl, hp, by decide, by decide, fun d H1 d0 d5 hp1 b1 => ⟨_, _, rfl, rfl, hnx _ _ ⟨2 + d, by omega, by omega, hp1, b1, rfl⟩⟩⟩) ?_
    rintro _ H1 ⟨m, m2, m4, hp1, b1, rfl⟩
    -- deeds
    refine seqV (Good := fun σ2 H2 => ∃ (a : Addr) (xs : List V) (ds : List Dd), a ≠ p ∧ H2 a = some (.lst xs) ∧ DdAll H2 xs ds ∧ WF m ds ∧ PotAt H2 p ∧ ButD p H H2 ∧ σ2 = σR p (some (.int m)) (some (.ref a)) none none none none none none none) ?_ ?_
    · intro nx hnx
      refine ⟨_, rfl, _, rfl, _, rfl, p, 6, rfl, hp1, by decide, by decide, fun d H2 d0 d6 hp2 b2 => ?_⟩
      obtain ⟨k9, rfl⟩ : ∃ k9 : Nat, d = k9 := ⟨d.toNat, by omega⟩
      refine ⟨_, _, rfl, rfl, p, m, 3 + k9, ?_, hp2, by omega, by omega, by omega, fun l xs ds H3 nl hl hp3 b3 dd ok nd le nn => ?_⟩
      · show [V.ref p, V.int m, V.int (3 + (k9 : Int)), V.bl true] = _
        rw [show (3 + (k9 : Int)) = ((3 + k9 : Nat) : Int) from by omega]
      · exact hnx _ _ ⟨l, xs, ds, hp2.ne nl, hl, dd, ⟨by omega, by omega, ok, nd, by omega⟩, hp3, ButD.trans b1 (ButD.trans b2 b3), rfl⟩
    clear hp1 b1 H1
    rintro _ H2 ⟨D, xs, ds, nD, hD, dd, wf, hp2, b2, rfl⟩
    -- house, place
    refine seqV (Good := fun σ2 H3 => ∃ (h l : Addr) (pl : Int), 0 ≤ pl ∧ pl < m ∧ RtAt C2 T H3 p h l D m xs ds ∧ ExtB p H H3 ∧ σ2 = σR p (some (.int m)) (some (.ref D)) (some (.int pl)) none none none none none (some (.ref h))) ?_ ?_
    · intro nx hnx
      refine ⟨_, rfl, _, rfl, ?_⟩
      refine make_any (K := K) (C := C2) (.inl hD) dd wf (fun h l H3 n3 n3' s3 hh3 => ⟨rfl, ?_⟩)
      have hp3 := hp2.same s3
      refine ⟨_, rfl, _, rfl, p, m, rfl, hp3, by omega, by omega, fun d H4 d0 dn hp4 b4 => ⟨(by show 2 ≤ sizeLine; decide), fun t ht => ?_⟩⟩
      have st := same_upd (o := .tup [V.ref h, V.int d]) ht
      have R3 : RtAt C2 T H3 p h l D m xs ds := ⟨hp3, Tabs.same s3 (Tabs.but hp.lst b2 tt), hh3, hp2.ne n3', s3 _ _ hD, nD, wf⟩
      have R4 := (R3.pot hp4 b4).same st
      refine ⟨t, _, rfl, .inl (.inl upd_same), rfl, _, _, rfl, _, _, rfl, rfl, gn (gn ?_)⟩
      exact hnx _ _ ⟨h, l, d, d0, dn, R4, ext_but (ButD.trans b2 (ButD.trans (Same.but s3) (ButD.trans b4 (Same.but st)))), rfl⟩
    clear hp2 b2 hD dd H2
    rintro _ H3 ⟨h, l, pl, pl0, plm, R3, x3, rfl⟩
    have ok := wf.ok
    -- items
    refine seqV (Good := fun σ2 H4 => ∃ (a : Addr) (is : List V) (its : List PyData), a ≠ p ∧ H4 a = some (.lst is) ∧ DV p H4 (.ref a) (.list its) ∧ (∀ x ∈ its, ItemB ds.length x) ∧ its.length ≤ 12 ∧ (∀ k, (its.map (itemW (wt k))).sum ≤ 240) ∧ RtAt C2 T H4 p h l D m xs ds ∧ ExtB p H H4 ∧
        σ2 = σR p (some (.int m)) (some (.ref D)) (some (.int pl)) (some (.ref a)) none none none none (some (.ref h))) ?_ ?_
    · intro nx hnx
      refine ⟨_, rfl, _, rfl, _, rfl, p, D, xs, ds, pl, rfl, R3.hp, nD, R3.hD, R3.hh.dd, wf.len, fun a is its H4 na ha dv iok il iw hp4 b4 => ?_⟩
      have nap := R3.hp.ne na
      exact hnx _ _ ⟨a, is, its, nap, ha, .lst nap ha dv, iok, il, iw, R3.pot hp4 b4, x3.trans (ext_but b4), rfl⟩
    clear R3 x3 H3
    rintro _ H4 ⟨a, is, its, nap, ha, dv, iok, il, iw, R4, x4, rfl⟩
    have g4 : Gd4 ds (.list its) := ⟨its_F iok, wt_its iw⟩
    -- block
    refine seqV (Good := fun σ2 H5 => ∃ v : V, BkV H5 v (blC 4 ds (.list its)) ∧ DV p H5 (.ref a) (.list its) ∧ RtAt C2 T H5 p h l D m xs ds ∧ ExtB p H H5 ∧
        σ2 = σR p (some (.int m)) (some (.ref D)) (some (.int pl)) (some (.ref a)) (some v) none none none (some (.ref h))) ?_ ?_
    · intro nx hnx
      exact ⟨_, rfl, _, rfl, p, D, a, xs, ds, m, .list its, rfl, R4.hD, R4.hh.dd, ok, dv, g4.f, g4.w, fun v H5 s5 bv => hnx _ _ ⟨v, bv, dv.same s5, R4.same s5, x4.trans (ext_but (Same.but s5)), rfl⟩⟩
    clear R4 x4 dv ha H4
    rintro _ H5 ⟨v, bv, dv, R5, x5, rfl⟩
    -- few
    refine seqV (Good := fun σ2 H6 => BkV H6 v (blC 4 ds (.list its)) ∧ DV p H6 (.ref a) (.list its) ∧ RtAt C2 T H6 p h l D m xs ds ∧ ExtB p H H6 ∧
        σ2 = σR p (some (.int m)) (some (.ref D)) (some (.int pl)) (some (.ref a)) (some v) none none none (some (.ref h))) ?_ ?_
    · intro nx hnx
      have w3 : wt 4 (.list its) ≤ 1000 := by
        have : wt 4 (.list its) ≤ 240 := iw 3
        omega
      exact ⟨_, rfl, _, rfl, _, rfl, _, rfl, p, h, l, D, a, v, m, xs, xs, ds, .list its, rfl, R5.tt, R5.gv dv g4, by omega, by omega, R5.hD, R5.hh.dd, ok, g4, w3, bv, fun H6 e6 t6 => ⟨true, rfl, iteF (hnx _ _ ⟨bv.extN e6, dv.extN e6, R5.extN e6 t6, x5.trans (ext_ext e6), rfl⟩)⟩⟩
    clear R5 x5 dv bv H5
    rintro _ H6 ⟨bv, dv, R6, x6, rfl⟩
    -- told, stands
    refine seqV (Good := fun σ2 H7 => DV p H7 (.ref a) (.list its) ∧ RtAt C2 T H7 p h l D m xs ds ∧ ExtB p H H7 ∧
        σ2 = σR p (some (.int m)) (some (.ref D)) (some (.int pl)) (some (.ref a)) (some v) none none none (some (.ref h))) ?_ ?_
    · intro nx hnx
      cases hb : blC 4 ds (.list its) with
      | none =>
        rw [hb] at bv
        obtain rfl : v = .non := bv
        exact ⟨_, rfl, false, rfl, iteF (hnx _ _ ⟨dv, R6, x6, rfl⟩)⟩
      | some b =>
        rw [hb] at bv
        obtain ⟨t, rfl, ht⟩ := bv
        refine ⟨_, rfl, true, rfl, iteT ?_⟩
        have Z6 : TrAt C2 T H6 p h l a t m xs ds (.list its) b := ⟨R6.tt, R6.gv dv g4, ok, g4, ht, hb⟩
        refine ⟨_, rfl, _, rfl, _, rfl, p, h, l, a, t, m, xs, ds, .list its, b, rfl, Z6, fun H7 e7 t7 => ⟨true, rfl, iteF ?_⟩⟩
        refine ⟨_, rfl, _, rfl, _, rfl, _, rfl, (by show 6 ≤ sizeLine; decide), fun S hS => ?_⟩
        have s8 := same_upd (o := .lst [V.int 0, V.int 1, V.int 2, V.int 3, V.int 4, V.int 5]) hS
        have e8 := e7.trans (ext_same s8)
        have t8 := Tabs.same s8 t7
        refine ⟨p, h, l, a, t, S, m, pl, xs, ds, .list its, b, [0, 1, 2, 3, 4, 5], rfl, Z6.extN e8 t8, pl0, plm, upd_same, by decide, fun H9 e9 t9 => ⟨true, rfl, iteF (hnx _ _ ⟨dv.extN (e8.trans e9), R6.extN (e8.trans e9) t9, x6.trans (ext_ext (e8.trans e9)), rfl⟩)⟩⟩
    clear R6 x6 dv bv H6
    rintro _ H7 ⟨dv, R7, x7, rfl⟩
    -- great
    refine seqV (Good := fun σ2 H8 => ∃ (a2 : Addr) (os : List PyData), Gd4 ds (.list os) ∧ DV p H8 (.ref a2) (.list os) ∧ RtAt C2 T H8 p h l D m xs ds ∧ ExtB p H H8 ∧
        σ2 = σR p (some (.int m)) (some (.ref D)) (some (.int pl)) (some (.ref a)) (some v) none none (some (.ref a2)) (some (.ref h))) ?_ ?_
    · intro nx hnx
      refine ⟨_, rfl, _, rfl, _, _, rfl, rfl, ⟨by decide, by decide, by decide⟩, _, rfl, p, 9, rfl, R7.hp, by decide, by decide, fun dg H8 d0 d9 hp8 b8 => ?_⟩
      obtain ⟨dd, rfl⟩ : ∃ z : Nat, dg = z := ⟨dg.toNat, by omega⟩
      have R8 := R7.pot hp8 b8
      have dv8 := dv_but R7.hp b8 dv
      refine ⟨_, _, rfl, rfl, _, _, rfl, rfl, ⟨by decide, by decide, by decide⟩, (by show 5 ≤ sizeLine; decide), fun S hS => ?_⟩
      have eL : HO.lst [V.int 0, V.int 1, V.int 2, V.int ((10 : Int) ^ (20 : Int).toNat + (dd : Int)), V.int ((10 : Int) ^ (25 : Int).toNat)] = .lst (([0, 1, 2, 10 ^ 20 + dd, 10 ^ 25] : List Nat).map fun t : Nat => V.int (t : Int)) := by
        rw [pow20, pow25, show (((10 ^ 20 : Nat) : Int) + (dd : Int)) = ((10 ^ 20 + dd : Nat) : Int) by omega]
        rfl
      have s9 := same_upd (o := .lst [V.int 0, V.int 1, V.int 2, V.int ((10 : Int) ^ (20 : Int).toNat + (dd : Int)), V.int ((10 : Int) ^ (25 : Int).toNat)]) hS
      have R9 := R8.same s9
      refine ⟨p, a, S, .list its, (ds.length : Int), [0, 1, 2, 10 ^ 20 + dd, 10 ^ 25], 10 ^ 25, rfl, R9.hp, dv8.same s9, its_F iok, ln_its iok il, upd_same.trans (congrArg some eL), R8.hp.ne hS, by simp, (by show 5 ≤ 100; decide), fun t ht => ?_, fun a2 us os H10 n10 ha10 l10 dvs fos wos hp10 b10 => ?_⟩
      · have e1 : (10 : Nat) ^ 20 = 100000000000000000000 := by decide
        have e2 : (10 : Nat) ^ 25 = 10000000000000000000000000 := by decide
        simp only [List.mem_cons, List.not_mem_nil, or_false] at ht
        rw [e1, e2] at ht
        rw [e2]
        omega
      · have pn : upd H8 S (.lst [V.int 0, V.int 1, V.int 2, V.int ((10 : Int) ^ (20 : Int).toNat + (dd : Int)), V.int ((10 : Int) ^ (25 : Int).toNat)]) p ≠ none := by
          obtain ⟨_, _, e, _⟩ := R9.hp
          rw [e]
          simp
        have w4 : wt 4 (.list os) < 2 ^ 99 := Nat.lt_of_le_of_lt wos (gw_its iok il)
        exact hnx _ _ ⟨a2, os, ⟨fos, w4⟩, .lst (R9.hp.ne n10) ha10 (dvs p pn), R9.pot hp10 b10, x7.trans (ext_but (ButD.trans b8 (ButD.trans (Same.but s9) b10))), rfl⟩
    clear R7 x7 dv H7 g4
    rintro _ H8 ⟨a2, os, g4, dv, R8, x8, rfl⟩
    -- block
    refine seqV (Good := fun σ2 H5 => ∃ v : V, BkV H5 v (blC 4 ds (.list os)) ∧ DV p H5 (.ref a2) (.list os) ∧ RtAt C2 T H5 p h l D m xs ds ∧ ExtB p H H5 ∧
        σ2 = σR p (some (.int m)) (some (.ref D)) (some (.int pl)) (some (.ref a)) (some v) none none (some (.ref a2)) (some (.ref h))) ?_ ?_
    · intro nx hnx
      exact ⟨_, rfl, _, rfl, p, D, a2, xs, ds, m, .list os, rfl, R8.hD, R8.hh.dd, ok, dv, g4.f, g4.w, fun v H5 s5 bv => hnx _ _ ⟨v, bv, dv.same s5, R8.same s5, x8.trans (ext_but (Same.but s5)), rfl⟩⟩
    clear R8 x8 dv H8 v
    rintro _ H9 ⟨v, bv, dv, R9, x9, rfl⟩
    cases hb : blC 4 ds (.list os) with
    | none =>
      rw [hb] at bv
      obtain rfl : v = .non := bv
      have hc := g4.none ok hb
      refine ⟨_, rfl, true, rfl, iteT ⟨R9.tt, fun H3 e3 t3 => ?_⟩⟩
      have R3 := R9.extN e3 t3
      have dv3 := dv.extN e3
      refine ⟨_, rfl, _, rfl, p, h, l, m, xs, ds, .ref a2, .list os, rfl, R3.gv dv3 g4, ?_⟩
      rw [hc]
      refine fun dx H4 s4 hd => .inl ⟨rfl, dx, _, rfl, hd, fun l4 hl4 => ⟨_, rfl, (by show 2 ≤ sizeLine; decide), fun l5 hl5 => ?_⟩⟩
      have s5 := same_upd (o := .lst [.str "going", .ref a2]) hl4
      have s6 := same_upd (o := .lst [.str "going", .ref a2]) hl5
      have s36 := s4.trans (s5.trans s6)
      have dv6 := dv3.same s36
      have gd := goD_ok g4.f (by decide)
      refine ⟨goD (.list os), goD (.list os), goD_dp g4.f dv6 (s6 _ _ upd_same), goD_dp g4.f dv6 upd_same, gd.1, gd.1, ?_⟩
      rw [gd.2]
      exact q _ (x9.trans (ext_ext (e3.trans (ext_same s36)))) (Tabs.same s36 t3)
    | some b =>
      rw [hb] at bv
      obtain ⟨t, rfl, ht⟩ := bv
      obtain ⟨cr, hc, rl⟩ := g4.some ok hb
      have e0 := rl.e0
      refine seqV (Good := fun σ2 H3 => Same H9 H3 ∧ σ2 = σR p (some (.int m)) (some (.ref D)) (some (.int pl)) (some (.ref a)) (some (.ref t)) none none (some (.ref a2)) (some (.ref h))) (fun nx hnx => ⟨_, rfl, false, rfl, iteF (hnx _ _ ⟨fun _ _ z => z, rfl⟩)⟩) ?_
      rintro _ H10 ⟨s10, rfl⟩
      have ht10 := s10 _ _ ht
      -- forced
      refine seqV (Good := fun σ2 H3 => ∃ fo : Addr, Same H10 H3 ∧ H3 fo = some (.lst ((forcedB b).map V.int)) ∧ σ2 = σR p (some (.int m)) (some (.ref D)) (some (.int pl)) (some (.ref a)) (some (.ref t)) (some (.ref fo)) none (some (.ref a2)) (some (.ref h))) ?_ ?_
      · intro nx hnx
        refine ⟨_, rfl, t, _, _, _, rfl, rfl, .inl (.inl ht10), rfl, ?_⟩
        cases hf : b.fo with
        | none =>
          have ef : forcedB b = [] := by unfold forcedB; rw [hf]
          rw [ef] at hnx
          refine ⟨true, by simp [oV], iteT ⟨(by show 0 ≤ sizeLine; decide), fun o ho => hnx _ _ ⟨o, same_upd ho, upd_same, rfl⟩⟩⟩
        | some x =>
          have eo : b.vs[5]? = some (V.int x) := by show some (oV b.fo) = _; rw [hf]; rfl
          refine ⟨false, by simp [oV], iteF ⟨_, rfl, t, _, _, V.int x, rfl, rfl, .inl (.inl ht10), eo, _, _, rfl, rfl, decide (x < 1), rfl, ?_⟩⟩
          by_cases c1 : x < 1
          · have ef : forcedB b = [] := by unfold forcedB; rw [hf]; exact if_pos c1
            rw [ef] at hnx
            rw [decide_eq_true c1]
            exact iteT ⟨(by show 0 ≤ sizeLine; decide), fun o ho => hnx _ _ ⟨o, same_upd ho, upd_same, rfl⟩⟩
          · have ef : forcedB b = [x, x - 1] := by unfold forcedB; rw [hf]; exact if_neg c1
            rw [ef] at hnx
            rw [decide_eq_false c1]
            exact iteF ⟨_, rfl, t, _, _, V.int x, rfl, rfl, .inl (.inl ht10), eo, _, rfl, t, _, _, V.int x, rfl, rfl, .inl (.inl ht10), eo, _, _, rfl, rfl, (by show 2 ≤ sizeLine; decide), fun o ho => hnx _ _ ⟨o, same_upd ho, upd_same, rfl⟩⟩
      rintro _ H11 ⟨fo, s11, hfo, rfl⟩
      have ht11 := s11 _ _ ht10
      have flen : (forcedB b).length ≤ 2 := by
        unfold forcedB
        cases b.fo with
        | none => decide
        | some x =>
          show (if x < 1 then [] else [x, x - 1] : List Int).length ≤ 2
          split
          · exact Nat.zero_le _
          · exact Nat.le_refl 2
      -- starts
      refine seqV (Good := fun σ2 H3 => ∃ (S : Addr) (ss : List Int), Same H11 H3 ∧ H3 S = some (.lst (ss.map V.int)) ∧ (∀ x ∈ ss, 0 ≤ x) ∧ σ2 = σR p (some (.int m)) (some (.ref D)) (some (.int pl)) (some (.ref a)) (some (.ref t)) (some (.ref fo)) (some (.ref S)) (some (.ref a2)) (some (.ref h))) ?_ ?_
      · intro nx hnx
        have p24 : (0 : Int) ≤ (10 : Int) ^ (24 : Int).toNat := by decide
        refine ⟨_, rfl, t, _, _, _, rfl, rfl, .inl (.inl ht11), rfl, _, rfl, t, _, _, _, rfl, rfl, .inl (.inl ht11), rfl, _, _, rfl, rfl, ⟨by decide, by decide, by decide⟩, _, _, rfl, rfl, (by show 4 ≤ sizeLine; decide), fun o1 ho1 => ?_⟩
        generalize hp24 : (10 : Int) ^ (24 : Int).toNat = z24 at p24 ⊢
        have s1 := same_upd (o := .lst [.int b.e, .int (b.e + z24), .int 0, .int 3]) ho1
        have ht12 := s1 _ _ ht11
        refine ⟨_, rfl, t, _, _, _, rfl, rfl, .inl (.inl ht12), rfl, _, _, rfl, rfl, decide (b.e > 0), rfl, ?_⟩
        have cont : ∀ (o2 : Addr) (zs : List Int) (H12 : Hp), Same H11 H12 → H12 o1 = some (.lst ([b.e, b.e + z24, 0, 3].map V.int)) → H12 o2 = some (.lst (zs.map V.int)) → (∀ x ∈ zs, 0 ≤ x) → zs.length ≤ 1 →
            rCat (.ref o1) (.ref o2) H12 (fun x H13 => tVar 6 (σR p (some (.int m)) (some (.ref D)) (some (.int pl)) (some (.ref a)) (some (.ref t)) (some (.ref fo)) none (some (.ref a2)) (some (.ref h))) H13 fun y H14 => rCat x y H14 fun v H15 => nx (σR p (some (.int m)) (some (.ref D)) (some (.int pl)) (some (.ref a)) (some (.ref t)) (some (.ref fo)) (some v) (some (.ref a2)) (some (.ref h))) H15) := by
          intro o2 zs H12 s12 h1 h2 z0 zl
          have lz : (zs.map V.int).length = zs.length := List.length_map _
          have lf : ((forcedB b).map V.int).length = (forcedB b).length := List.length_map _
          refine ⟨o1, o2, _, _, rfl, rfl, h1, h2, by rw [lz, sizeLine_eq]; show 4 + zs.length ≤ _; omega, fun o3 ho3 => ?_⟩
          rw [← List.map_append]
          have s13 := same_upd (o := .lst (([b.e, b.e + z24, 0, 3] ++ zs).map V.int)) ho3
          refine ⟨_, rfl, o3, fo, _, _, rfl, rfl, upd_same, s13 _ _ (s12 _ _ hfo), by rw [List.length_map, List.length_append, lf, sizeLine_eq]; show 4 + zs.length + _ ≤ _; omega, fun o4 ho4 => ?_⟩
          rw [← List.map_append]
          refine hnx _ _ ⟨o4, _, s12.trans (s13.trans (same_upd ho4)), upd_same, fun x hx => ?_, rfl⟩
          rcases List.mem_append.mp hx with hx | hx
          · rcases List.mem_append.mp hx with hx | hx
            · simp only [List.mem_cons, List.not_mem_nil, or_false] at hx
              omega
            · exact z0 x hx
          · exact forced_nn b x hx
        by_cases c1 : b.e > 0
        · rw [decide_eq_true c1]
          refine iteT ⟨_, rfl, t, _, _, _, rfl, rfl, .inl (.inl ht12), rfl, _, _, rfl, rfl, (by show 1 ≤ sizeLine; decide), fun o2 ho2 => ?_⟩
          have s2 := same_upd (o := .lst [.int (b.e - 1)]) ho2
          exact cont o2 [b.e - 1] _ (s1.trans s2) (s2 _ _ upd_same) upd_same (fun x hx => by rw [List.mem_singleton.mp hx]; omega) (Nat.le_refl _)
        · rw [decide_eq_false c1]
          refine iteF ⟨(by show 0 ≤ sizeLine; decide), fun o2 ho2 => ?_⟩
          have s2 := same_upd (o := .lst []) ho2
          exact cont o2 [] _ (s1.trans s2) (s2 _ _ upd_same) upd_same (fun x hx => nomatch hx) (Nat.zero_le _)
      rintro _ H12 ⟨S, ss, s12, hS, ss0, rfl⟩
      have s := s10.trans (s11.trans s12)
      have R12 := R9.same s
      have Z12 : TrAt C2 T H12 p h l a2 t m xs ds (.list os) b := ⟨R12.tt, R12.gv (dv.same s) g4, ok, g4, s12 _ _ ht11, hb⟩
      have x12 := x9.trans (ext_but (Same.but s))
      refine ⟨_, rfl, _, rfl, _, rfl, p, h, l, a2, t, m, xs, ds, .list os, b, rfl, Z12, fun H7 e7 t7 => ⟨true, rfl, ?_⟩⟩
      rw [if_pos rfl]
      refine ⟨_, rfl, _, rfl, _, rfl, _, rfl, _, rfl, p, h, l, a2, t, S, m, pl, xs, ds, .list os, b, ss, rfl, Z12.extN e7 t7, pl0, plm, ext_lst e7 hS, ss0, fun H8 e8 t8 => q H8 (x12.trans (ext_ext (e7.trans e8))) t8⟩
end
end L2.K23
end

section
set_option Elab.async false
set_option linter.all false
set_option maxRecDepth 100000
set_option maxHeartbeats 1000000
namespace L2.K23
open PySem PySem.Spec PyProof.Rows L2.Gd L2.Tw LamX
/-! the law -/
theorem sqL_ext {K : PySem.W.Frag} {H H' : Hp} {a : Addr} {xs : List V} (h : SqL K H a xs) (e : ∀ o, H a = some o → (∀ ps, o ≠ .tbl ps) → H' a = some o) : SqL K H' a xs := by
  rcases h with (h | ⟨o, h⟩) | h
  · exact .inl (.inl (e _ h fun _ z => nomatch z))
  · exact .inl (.inr ⟨o, e _ h fun _ z => nomatch z⟩)
  · exact .inr h
abbrev sLaw : Stmt := top 64
def spLaw (K : PySem.W.Frag) (T : List (Addr × Str)) : Sp := fun vs H Q _ => ∃ (a : Addr) (ns : List Int), vs = [.ref a] ∧ SqL K H a (ns.map V.int) ∧ Tabs T H ∧ ns.length ≤ 63 ∧ ∀ H', Q (.bl true) H'
theorem scLaw : FnScope ["_law_script", "_law_k"] ["_law_script"] (defScope sLaw) := ⟨rfl, rfl, rfl, by decide +kernel, rfl, by decide +kernel, by decide +kernel⟩
section
variable {P : Program} {w : World} {K : PySem.W.Frag} {mg : Str → Option Value} {base : Heap} {T : List (Addr × Str)}
theorem ok_law {f : Addr} {fd : FuncData} (F : Fun K "law" "law" sLaw f fd) (n : Nm mg) (GP : Fn P w K mg base 1 "_law_pot" ["_law_script", "_law_k"] (spPot K)) (GR : Fn P w K mg base 15 "_law_right" ["_law_pot_here"] (spRt T)) :
    FnOk P w K mg base CX0 16 f fd ["_law_script"] (spLaw K T) := by
  refine F.ok scLaw (fun vs H Q E h => ?_) (fun cdv A outer s H vs Q E hr h => ?_)
  · obtain ⟨a, ns, rfl, _⟩ := h
    rfl
  · obtain ⟨a, ns, rfl, hs, tt, hl, q⟩ := h
    have N := scLaw.nd
    have r1 := hr.mono (k := 15) (j := 1) (by decide)
    refine ⟨_, pss_one (ps_ret (pe_callB (cr_all rfl) (by rfl) n.all (by decide +kernel) (pa_cons
      (pe_lc (own := [("_law_k", 1)]) (g := gName 1) (tt := tYes) rfl N (pi_range1 (by rfl) n.range (pa_cons (pe_callB (call_max2 rfl) (by rfl) n.max (by decide +kernel) (pa_cons pe_int (pa_cons
          (pe_callB (call_min2 rfl) (by rfl) n.min (by decide +kernel) (pa_cons pe_int (pa_cons (pe_callB call_len_seq (by rfl) n.len PySem.boot_len (pa_cons (pv 0) pa_nil)) pa_nil))) pa_nil))) pa_nil))
        (blkOk_by (N := ["_law_script", "_law_k"]) (sc := defScope sLaw) (by decide +kernel)) (fun _ _ _ _ _ => pg_name (i := 1) N rfl (.inl rfl)) (fun _ _ _ _ _ => pts_nil)
        (fun _ _ _ _ _ => pe_fn GR hr (pa_cons (pe_fn GP r1 (pa_cons (pv 0) (pa_cons (pv 1) pa_nil))) pa_nil))) pa_nil))), ?_⟩
    refine ⟨_, rfl, a, _, rfl, .inl hs, _, _, rfl, _, _, rfl, ?_⟩
    have hlen : (ns.map V.int).length = ns.length := List.length_map _
    generalize hr' : (if (if ((ns.map V.int).length : Int) < 3 then ((ns.map V.int).length : Int) else 3) > 1 then (if ((ns.map V.int).length : Int) < 3 then ((ns.map V.int).length : Int) else 3) else 1) = R
    have R1 : 1 ≤ R ∧ R ≤ 3 := by
      rw [hlen] at hr'
      subst hr'
      split <;> split <;> omega
    refine ⟨R, rfl, by omega, by omega, fun D hD => ?_⟩
    have s0 := same_upd (o := .lst []) hD
    have keepS : ∀ (H2 : Hp) (o : HO), SqL K H2 a (ns.map V.int) → SqL K (upd H2 D o) a (ns.map V.int) := fun H2 o h => by
      rcases hs with hs | hs
      · have z : a ≠ D := by
          rcases hs with hs | ⟨_, hs⟩
          · exact ne_of_none hs hD
          · exact ne_of_none hs hD
        exact sqL_ext h fun o e n0 => by
          rw [upd_ne z]
          exact e
      · exact .inr hs
    refine lc_range (lo := 0) (n := R.toNat) (fun i H2 => H2 D = some (.lst (List.replicate i (V.bl true))) ∧ SqL K H2 a (ns.map V.int) ∧ Tabs T H2) ⟨upd_same, sqL_ext hs fun o e _ => s0 _ _ e, Tabs.same s0 tt⟩ (fun i H2 hi h => ?_) fun H2 h => ?_
    · obtain ⟨h1, h2, h3⟩ := h
      refine ⟨rfl, yes_ite ?_⟩
      refine ⟨_, rfl, _, rfl, a, i, ns, by rw [Int.zero_add]; rfl, h2, by omega, fun p H4 np s4 hp4 => ?_⟩
      refine ⟨p, rfl, hp4, Tabs.same s4 h3, fun H5 b5 t5 => ?_⟩
      have nDp : D ≠ p := ne_of_none h1 np
      have hD5 : H5 D = some (.lst (List.replicate i (V.bl true))) := b5 _ _ nDp (s4 _ _ h1) fun _ z => nomatch z
      refine ⟨_, hD5, by rw [List.length_replicate, sizeLine_eq]; omega, ?_, ?_, ?_⟩
      · rw [upd_same, List.replicate_succ']
      · have aD : SqL K H5 a (ns.map V.int) := sqL_ext h2 fun o e n0 => b5 _ _ (ne_of_none e np) (s4 _ _ e) n0
        exact keepS _ _ aD
      · exact Tabs.but (p := D) ⟨_, hD5⟩ (fun b o ne e => by
          rw [upd_ne ne]
          exact e) t5
    · obtain ⟨h1, _, _⟩ := h
      refine ⟨D, List.replicate R.toNat true, rfl, .inl (.inl (h1.trans (by rw [List.map_replicate]))), ?_⟩
      have : (List.replicate R.toNat true).all id = true := by simp
      rw [this]
      exact q H2
end
end L2.K23
end

section
set_option Elab.async false
set_option linter.all false
set_option maxRecDepth 100000
set_option maxHeartbeats 2000000
/-! the end of a law whose defs make lambdas: the tables of these defs are empty at the head -/
namespace LamX
open PySem PySem.Spec PyProof.Rows L2
theorem walk_tabs {l : PySem.W.OpenLaw} {n k : Nat} {q : Program} {loose : List Str} {XP : (Str → Option Value) → Heap → Prop} {YP : World → Heap → Prop} {d : DefRec} {K : Params → PySem.W.Frag} {CX : World → CXT} {x : Str} (xs : List Str)
    (hn : l.most = some n) (hn2 : n ≤ sizeLine) (hdf : d.params.defaults = []) (hr : Room k callerA) (hrec : (xs.all fun y => (recsOf q).any fun e => e.name == y) = true) (hY : ∀ (w : World) (h : Heap), YP w h → (K w.params).In h)
    (F : ∀ (w : World) (mg : Str → Option Value) (fa : Addr) (h : Heap), (K w.params).In h → h.Ns mainGlobals mg → mg d.name = some (.ref fa) →
      (∀ y ∈ xs, ∀ c P : Addr, PySem.W.tabIn (K w.params) y = some (c, P) → PySem.W.CodeHd h c P ∧ h.get? P = some (PySem.W.tabObj #[])) → LawAtS l w (K w.params) (CX w) k n x mg fa h)
    (hCX : ∀ (w : World) (H : Hp) (s : Shared) (e : Value) (s' : Shared), CX w [] H s (fun _ _ _ => False) e s' → False) :
    PySem.W.WalkO q loose XP YP l.row.toRowW d [] (fun f vs => PySem.call f vs) := by
  refine Att.attach_callB hn hdf fun w s₀ s₁ mg mb fa o pm cd doc a vs ns G Y ho hd hcd hmg hobj hints hlen hbits hg => ?_
  have KX := hY w _ Y
  have tabs : ∀ y ∈ xs, ∀ c P : Addr, PySem.W.tabIn (K w.params) y = some (c, P) → PySem.W.CodeHd s₁.heap c P ∧ s₁.heap.get? P = some (PySem.W.tabObj #[]) := fun y hy c P ht => by
    have ha := List.all_eq_true.mp hrec y hy
    obtain ⟨dL, hf⟩ : ∃ dL, (recsOf q).find? (fun e => e.name == y) = some dL := by
      obtain ⟨e, he, hp⟩ := List.any_eq_true.mp ha
      cases hf : (recsOf q).find? (fun e => e.name == y) with
      | some dL => exact ⟨dL, rfl⟩
      | none => exact absurd hp (List.find?_eq_none.mp hf e he)
    exact PySem.W.tab_of G.T KX hf ht
  obtain ⟨fd, cs, sp, hT, nT, C, hb, hsp, hF⟩ := F w mg fa _ KX G.T.g hmg tabs
  exact law_callTs KX G.T.g G.T.b G.T.builtins G.T.nolimit hg hT nT C G.T.bmain hobj hints (Nat.le_trans hlen hn2) hr hF hb (fun H hH hS => hsp H a ns hlen hbits hH hS) fun H e s' => hCX w H s₁ e s'
end LamX
end

section
set_option Elab.async false
set_option linter.all false
set_option maxRecDepth 100000
set_option maxHeartbeats 4000000
namespace L2.K23
open PySem PySem.Spec PyProof.Rows L2.Gd L2.Tw LamX
section
variable {K : PySem.W.Frag} {mg : Str → Option Value} {h : Heap} {C f p g N : Addr} {x qual : Str} {st : Stmt} {oc kV doc pm cdv ct : Value} {od an : Option Addr} {osl : Array (Option Value)}
/-- a def of the top -/
def MFact (K : PySem.W.Frag) (mg : Str → Option Value) (x : Str) (st : Stmt) : Prop := ∃ f fd, mg x = some (.ref f) ∧ Fun K x x st f fd
theorem mfact (X : K.In h) (G : h.Ns mainGlobals mg) (a : PySem.W.nsIn K mainGlobals x = some (some (.ref f)))
    (l : K.lookup f = some ⟨oc, od, .func (PySem.W.fnOf x x (defArgs st) (defBody st) (defScope st) .none kV doc pm an cdv ct), osl⟩) (c : PySem.W.codeIn K cdv x = true) (k : PySem.W.keepIn K (.ref f) = true) : MFact K mg x st :=
  ⟨f, _, PySem.W.mg_of X G a, fun_mk l c k⟩
/-- a method -/
def CFact (K : PySem.W.Frag) (C : Addr) (x qual : Str) (st : Stmt) : Prop := ∃ f fd, Meth K C x f ∧ Fun K x qual st f fd
theorem cfact (a : PySem.W.findIn K (.ref C) x = some (some (.ref f))) (i : PySem.W.isFn K (.ref f) = true)
    (l : K.lookup f = some ⟨oc, od, .func (PySem.W.fnOf x qual (defArgs st) (defBody st) (defScope st) .none kV doc pm an cdv ct), osl⟩) (c : PySem.W.codeIn K cdv qual = true) (k : PySem.W.keepIn K (.ref f) = true) : CFact K C x qual st :=
  ⟨f, _, ⟨a, i, k⟩, fun_mk l c k⟩
/-- a property -/
def PFact (K : PySem.W.Frag) (C : Addr) (x qual : Str) (st : Stmt) : Prop := ∃ p g fd, PropOf K C x p g ∧ Fun K x qual st g fd
theorem pfact {rest : List Value} (a : PySem.W.findIn K (.ref C) x = some (some (.ref p))) (b : PySem.W.specialIn K (.ref p) "__get__" = some (some (.builtin "property.__get__"))) (t : PySem.W.takesIn K (.ref p) = some true)
    (r : PySem.W.recIn K p "property" = some (.ref g :: rest))
    (l : K.lookup g = some ⟨oc, od, .func (PySem.W.fnOf x qual (defArgs st) (defBody st) (defScope st) .none kV doc pm an cdv ct), osl⟩) (c : PySem.W.codeIn K cdv qual = true) (k : PySem.W.keepIn K (.ref g) = true) : PFact K C x qual st :=
  ⟨p, g, _, ⟨a, b, t, ⟨rest, r⟩⟩, fun_mk l c k⟩
theorem kbn_of {f : Addr} {fd : FuncData} {ps ks : List Str} {n : Nat} {g : List Value → List Value → List Value} {gV : List V → List V → List V} (F : Fun K x qual st f fd)
    (h : ∀ (kV doc pm : Value) (an : Option Addr) (cdv ct : Value) (us ws : List Value), us.length = n → ws.length = ks.length →
      bindArgs (PySem.W.fnOf x qual (defArgs st) (defBody st) (defScope st) .none kV doc pm an cdv ct) ⟨us, ks.zip ws⟩ = pure (ps.zip (g us ws)))
    (r : ∀ {vs : List V} {us : List Value} {zs : List V} {ws : List Value}, Vals vs us → Vals zs ws → Vals (gV vs zs) (g us ws)) : KBn K fd ps n ks g gV := by
  obtain ⟨oc, od, kV, doc, pm, an, cdv, ct, osl, rfl, lk, hcd⟩ := F.ex
  exact ⟨fun s us ws _ l1 l2 => .of_eq (h kV doc pm an cdv ct us ws l1 l2), r⟩
/-- a def that makes a lambda -/
def LFact (K : PySem.W.Frag) (mg : Str → Option Value) (x : Str) (st : Stmt) (c : Addr) : Prop := ∃ f fd, mg x = some (.ref f) ∧ FunL K x st f fd c
theorem lfact {c : Addr} (X : K.In h) (G : h.Ns mainGlobals mg) (a : PySem.W.nsIn K mainGlobals x = some (some (.ref f)))
    (l : K.lookup f = some ⟨oc, od, .func (PySem.W.fnOf x x (defArgs st) (defBody st) (defScope st) .none kV doc pm an (.ref c) ct), osl⟩) (cd : PySem.W.codeIn K (.ref c) x = true) (k : PySem.W.keepIn K (.ref f) = true) : LFact K mg x st c :=
  ⟨f, _, PySem.W.mg_of X G a, ⟨⟨oc, od, kV, doc, pm, an, ct, osl, rfl, l, cd⟩, k⟩⟩
theorem lfactT {c P : Addr} {e : Value} {dd : Option Addr} {vs : Array Value} {sl : Array (Option Value)} (X : K.In h) (G : h.Ns mainGlobals mg) (a : PySem.W.nsIn K mainGlobals x = some (some (.ref f)))
    (l : K.lookup f = some ⟨oc, od, .func (PySem.W.fnOf x x (defArgs st) (defBody st) (defScope st) .none kV doc pm an (.ref c) ct), osl⟩) (cd : PySem.W.codeIn K (.ref c) x = true) (k : PySem.W.keepIn K (.ref f) = true)
    (lc : K.lookup c = some ⟨e, dd, .fields vs, sl⟩) (p : vs[11]? = some (.ref P)) (n : K.lookup P = none) : LFact K mg x st c ∧ PySem.W.tabIn K x = some (c, P) ∧ K.lookup P = none := by
  refine ⟨lfact X G a l cd k, ?_, n⟩
  unfold PySem.W.tabIn
  rw [a]
  simp only [l, PySem.W.fnOf, lc, p]
/-- the __init__ of an exception -/
def XFact (K : PySem.W.Frag) (C : Addr) (qual : Str) (st : Stmt) : Prop := ∃ f fd, PySem.W.findIn K (.ref C) "__init__" = some (some (.ref f)) ∧ PySem.W.typeIn K (.ref f) = some (.type "function") ∧ Fun K "__init__" qual st f fd
theorem xfact (a : PySem.W.findIn K (.ref C) "__init__" = some (some (.ref f))) (t : PySem.W.typeIn K (.ref f) = some (.type "function"))
    (l : K.lookup f = some ⟨oc, od, .func (PySem.W.fnOf "__init__" qual (defArgs st) (defBody st) (defScope st) .none kV doc pm an cdv ct), osl⟩) (c : PySem.W.codeIn K cdv qual = true) (k : PySem.W.keepIn K (.ref f) = true) : XFact K C qual st :=
  ⟨f, _, a, t, fun_mk l c k⟩
end
/-- all that the top has left -/
structure Facts (K : PySem.W.Frag) (mg : Str → Option Value) (C C2 CG CN c1 c2 c3 c4 : Addr) : Prop where
  n : Nm mg
  ns : mg "sum" = none
  m4 : ∃ t, mg "MOST_LISTS" = some (.int 4 t)
  m16 : ∃ t, mg "MOST_PLACES" = some (.int 16 t)
  m60 : ∃ t, mg "MOST_DEEDS" = some (.int 60 t)
  TC : ClsC K mg C
  mkC : PySem.W.makesIn K C = true
  kpC : PySem.W.keepIn K (.ref C) = true
  TC2 : ClsT K mg C2
  mkC2 : PySem.W.makesIn K C2 = true
  kpC2 : PySem.W.keepIn K (.ref C2) = true
  gT : OexC K CG ∧ XfC K CG
  gno : PySem.W.findIn K (.ref CG) "value" = some none
  gg : mg "InvalidGoing" = some (.ref CG)
  gte : PySem.W.exmOne K (.ref CG) (.ref CG) = some true
  gi : XFact K CG "InvalidGoing.__init__" (inClass (top 9) 0)
  np : PlX K mg CN
  tn : PySem.W.exmOne K (.ref CN) (.ref CG) = some false
  ii : MFact K mg "is_integer" (top 2)
  ic : MFact K mg "is_count" (top 3)
  il : MFact K mg "is_list" (top 4)
  cm : MFact K mg "check_many" (top 17)
  cp : MFact K mg "check_place" (top 18)
  no : MFact K mg "no_course" (top 22)
  dc : MFact K mg "deed_course" (top 23)
  vb : MFact K mg "is_vain_behind" (top 24)
  ba : MFact K mg "behind_another" (top 25)
  oft : MFact K mg "done_often" (top 26)
  hf : MFact K mg "has_going_form" (top 27)
  cw : MFact K mg "course_within" (top 28)
  cn : MFact K mg "course_or_none" (top 29)
  co : MFact K mg "course_of" (top 30)
  ig : MFact K mg "is_going" (top 32)
  beh : MFact K mg "behind" (top 33)
  ga : MFact K mg "gain_of" (top 34)
  ne : MFact K mg "need_of" (top 35)
  di : MFact K mg "deeds_in" (top 36)
  id : MFact K mg "is_deed" (top 40)
  ck : MFact K mg "check_deeds" (top 41)
  pot : MFact K mg "_law_pot" (top 44)
  dr : MFact K mg "_law_draw" (top 45)
  pk : MFact K mg "_law_pick" (top 46)
  ds : MFact K mg "_law_deeds" (top 47)
  iw : MFact K mg "_law_is_whole" (top 48)
  un : MFact K mg "_law_unrolled" (top 49)
  hg : MFact K mg "_law_hangs" (top 50)
  wk : MFact K mg "_law_walked" (top 51)
  wa : MFact K mg "_law_walk" (top 52)
  it : MFact K mg "_law_items" (top 53)
  jo : MFact K mg "_law_joined" (top 54)
  ti : MFact K mg "_law_times" (top 55)
  bl : MFact K mg "_law_block" (top 56)
  don : MFact K mg "_law_done" (top 57)
  he : MFact K mg "_law_heard" (top 58)
  gt : MFact K mg "_law_great" (top 59)
  tr : LFact K mg "_law_told_right" (top 60) c1
  sr : LFact K mg "_law_stands_right" (top 61) c2
  fr : LFact K mg "_law_few_right" (top 62) c3
  rt : LFact K mg "_law_right" (top 63) c4
  h_init : CFact K C2 "__init__" "House.__init__" (cHouse 0)
  h_de : CFact K C2 "deeds" "House.deeds" (cHouse 3)
  h_ln : CFact K C2 "__len__" "House.__len__" (cHouse 4)
  c_init : CFact K C "__init__" "Course.__init__" (cCrs 0)
  c_ft : CFact K C "fits" "Course.fits" (cCrs 1)
  h_pl : PFact K C2 "places" "House.places" (cHouse 1)
/-- the tables -/
abbrev tbs (c1 P1 c2 P2 c3 P3 c4 P4 : Addr) : List (Addr × Addr) := [(c1, P1), (c2, P2), (c3, P3), (c4, P4)]
abbrev tbT (P1 P2 P3 P4 : Addr) : List (Addr × Str) := [(P1, lq "_law_told_right"), (P2, lq "_law_stands_right"), (P3, lq "_law_few_right"), (P4, lq "_law_right")]
theorem tb4_u {α : Type} {P1 P2 P3 P4 : Addr} {a b c d : α} (nd : [P1, P2, P3, P4].Nodup) : ∀ p ∈ [(P1, a), (P2, b), (P3, c), (P4, d)], ∀ r ∈ [(P1, a), (P2, b), (P3, c), (P4, d)], p.1 = r.1 → p.2 = r.2 := by
  simp only [List.nodup_cons, List.mem_cons, List.not_mem_nil, or_false, not_or] at nd
  obtain ⟨⟨n12, n13, n14⟩, ⟨n23, n24⟩, n34, _⟩ := nd
  intro p hp r hr e
  simp only [List.mem_cons, List.not_mem_nil, or_false] at hp hr
  rcases hp with rfl | rfl | rfl | rfl <;> rcases hr with rfl | rfl | rfl | rfl <;> first
    | rfl
    | exact absurd e n12
    | exact absurd e n13
    | exact absurd e n14
    | exact absurd e n23
    | exact absurd e n24
    | exact absurd e n34
    | exact absurd e.symm n12
    | exact absurd e.symm n13
    | exact absurd e.symm n14
    | exact absurd e.symm n23
    | exact absurd e.symm n24
    | exact absurd e.symm n34
theorem all4 {α : Type} {Z : α → Prop} {a b c d : α} (ha : Z a) (hb : Z b) (hc : Z c) (hd : Z d) : ∀ p ∈ [a, b, c, d], Z p := fun p hp => by
  simp only [List.mem_cons, List.not_mem_nil, or_false] at hp
  rcases hp with rfl | rfl | rfl | rfl
  · exact ha
  · exact hb
  · exact hc
  · exact hd
theorem in4_1 {α : Type} {a b c d : α} : a ∈ [a, b, c, d] := .head _
theorem in4_2 {α : Type} {a b c d : α} : b ∈ [a, b, c, d] := .tail _ (.head _)
theorem in4_3 {α : Type} {a b c d : α} : c ∈ [a, b, c, d] := .tail _ (.tail _ (.head _))
theorem in4_4 {α : Type} {a b c d : α} : d ∈ [a, b, c, d] := .tail _ (.tail _ (.tail _ (.head _)))
section
variable {P : Program} {w : World} {K : PySem.W.Frag} {mg : Str → Option Value} {base : Heap} {C C2 CG CN c1 c2 c3 c4 : Addr}
theorem fn_mk {x : Str} {st : Stmt} {k : Nat} {ps : List Str} {sp : Sp} (m : MFact K mg x st)
    (b : ∀ (kV doc pm : Value) (an : Option Addr) (cdv ct : Value) (us : List Value), us.length = ps.length → bindArgs (PySem.W.fnOf x x (defArgs st) (defBody st) (defScope st) .none kV doc pm an cdv ct) ⟨us, []⟩ = pure (ps.zip us))
    (ok : ∀ f fd, Fun K x x st f fd → FnOk P w K mg base CX0 k f fd ps sp) : Fn P w K mg base k x ps sp := by
  obtain ⟨f, fd, e, F⟩ := m
  exact ⟨f, fd, e, F.kp, F.binds b, ok f fd F⟩
theorem fnX_mk {x : Str} {st : Stmt} {k : Nat} {ps : List Str} {sp : Sp} (m : MFact K mg x st)
    (b : ∀ (kV doc pm : Value) (an : Option Addr) (cdv ct : Value) (us : List Value), us.length = ps.length → bindArgs (PySem.W.fnOf x x (defArgs st) (defBody st) (defScope st) .none kV doc pm an cdv ct) ⟨us, []⟩ = pure (ps.zip us))
    (ok : ∀ f fd, Fun K x x st f fd → FnOk P w K mg base (L2.CX P w) k f fd ps sp) : FnX P w K mg base k x ps sp := by
  obtain ⟨f, fd, e, F⟩ := m
  exact ⟨f, fd, e, F.kp, F.binds b, ok f fd F⟩
theorem lf_mk {x : Str} {st : Stmt} {k : Nat} {ps : List Str} {sp : Sp} {c : Addr} (m : LFact K mg x st c)
    (b : ∀ (kV doc pm : Value) (an : Option Addr) (cdv ct : Value) (us : List Value), us.length = ps.length → bindArgs (PySem.W.fnOf x x (defArgs st) (defBody st) (defScope st) .none kV doc pm an cdv ct) ⟨us, []⟩ = pure (ps.zip us))
    (ok : ∀ f fd, FunL K x st f fd c → FnOk P w K mg base CX0 k f fd ps sp) : Fn P w K mg base k x ps sp := by
  obtain ⟨f, fd, e, F⟩ := m
  exact ⟨f, fd, e, F.kp, F.fn.binds b, ok f fd F⟩
theorem me_mk {x qual : Str} {st : Stmt} {k : Nat} {ps : List Str} {sp : Sp} (m : CFact K C x qual st)
    (b : ∀ (kV doc pm : Value) (an : Option Addr) (cdv ct : Value) (us : List Value), us.length = ps.length → bindArgs (PySem.W.fnOf x qual (defArgs st) (defBody st) (defScope st) .none kV doc pm an cdv ct) ⟨us, []⟩ = pure (ps.zip us))
    (ok : ∀ f fd, Fun K x qual st f fd → FnOk P w K mg base CX0 k f fd ps sp) : MeH P w K mg base C x k ps sp := by
  obtain ⟨f, fd, e, F⟩ := m
  exact ⟨f, fd, e, F.binds b, ok f fd F⟩
theorem pr_mk {x qual : Str} {st : Stmt} {sp : Sp} (m : PFact K C x qual st)
    (b : ∀ (kV doc pm : Value) (an : Option Addr) (cdv ct : Value) (us : List Value), us.length = (["self"] : List Str).length → bindArgs (PySem.W.fnOf x qual (defArgs st) (defBody st) (defScope st) .none kV doc pm an cdv ct) ⟨us, []⟩ = pure ((["self"] : List Str).zip us))
    (ok : ∀ f fd, Fun K x qual st f fd → FnOk P w K mg base CX0 1 f fd ["self"] sp) : PrH P w K mg base C x sp := by
  obtain ⟨p, g, fd, e, F⟩ := m
  exact ⟨p, g, fd, e, F.binds b, ok g fd F⟩
theorem law_of {P1 P2 P3 P4 : Addr} (z : Facts K mg C C2 CG CN c1 c2 c3 c4) (nd : [P1, P2, P3, P4].Nodup) (hb : ∀ p ∈ tbs c1 P1 c2 P2 c3 P3 c4 P4, TabB base mg p.1 p.2) {f : Addr} {fd : FuncData} (F : Fun K "law" "law" sLaw f fd) : FnOk P w K mg base CX0 16 f fd ["_law_script"] (spLaw K (tbT P1 P2 P3 P4)) := by
  obtain ⟨tm4, m4⟩ := z.m4
  obtain ⟨tm16, m16⟩ := z.m16
  obtain ⟨tm60, m60⟩ := z.m60
  have n := z.n
  have T := z.TC2
  have TC := z.TC
  have un := tb4_u (a := lq "_law_told_right") (b := lq "_law_stands_right") (c := lq "_law_few_right") (d := lq "_law_right") nd
  have tb1 : TbK base mg (tbT P1 P2 P3 P4) "_law_told_right" c1 P1 := ⟨hb (c1, P1) in4_1, in4_1, fun p hp e => un p hp (P1, lq "_law_told_right") in4_1 e⟩
  have tb2 : TbK base mg (tbT P1 P2 P3 P4) "_law_stands_right" c2 P2 := ⟨hb (c2, P2) in4_2, in4_2, fun p hp e => un p hp (P2, lq "_law_stands_right") in4_2 e⟩
  have tb3 : TbK base mg (tbT P1 P2 P3 P4) "_law_few_right" c3 P3 := ⟨hb (c3, P3) in4_3, in4_3, fun p hp e => un p hp (P3, lq "_law_few_right") in4_3 e⟩
  have tb4 : TbK base mg (tbT P1 P2 P3 P4) "_law_right" c4 P4 := ⟨hb (c4, P4) in4_4, in4_4, fun p hp e => un p hp (P4, lq "_law_right") in4_4 e⟩
  have II : Fn P w K mg base 1 "is_integer" ["value"] spIsInt := fn_mk z.ii (fun _ _ _ _ _ _ us hl => match us, hl with | [_], _ => rfl) fun f fd F => ok_isInt F n
  have IC : Fn P w K mg base 2 "is_count" ["value"] spIsCount := fn_mk z.ic (fun _ _ _ _ _ _ us hl => match us, hl with | [_], _ => rfl) fun f fd F => ok_isCount F II
  have IL : Fn P w K mg base 1 "is_list" ["value"] (spIsList K) := fn_mk z.il (fun _ _ _ _ _ _ us hl => match us, hl with | [_], _ => rfl) fun f fd F => ok_isList F n
  have I2 : Fn P w K mg base 1 "is_integer" ["value"] spInt2 := fn_mk z.ii (fun _ _ _ _ _ _ us hl => match us, hl with | [_], _ => rfl) fun f fd F => ok_int2 F n
  have IC2 : Fn P w K mg base 2 "is_count" ["value"] spCnt2 := fn_mk z.ic (fun _ _ _ _ _ _ us hl => match us, hl with | [_], _ => rfl) fun f fd F => ok_cnt2 F I2
  have IL2 : Fn P w K mg base 1 "is_list" ["value"] spLst2 := fn_mk z.il (fun _ _ _ _ _ _ us hl => match us, hl with | [_], _ => rfl) fun f fd F => ok_lst2 F n
  have ID : Fn P w K mg base 3 "is_deed" ["value", "places"] spIsDeed := fn_mk z.id (fun _ _ _ _ _ _ us hl => match us, hl with | [_, _], _ => rfl) fun f fd F => ok_isDeed F n II IC
  have CK : Fn P w K mg base 4 "check_deeds" ["places", "deeds"] (spCheck K) := fn_mk z.ck (fun _ _ _ _ _ _ us hl => match us, hl with | [_, _], _ => rfl) fun f fd F => ok_check F n IL ID m60
  have MK : MkH P w K mg base C2 := by
    obtain ⟨f, fd, me, F⟩ := z.h_init
    exact ⟨f, fd, ⟨z.mkC2, me.at_, me.fn, z.kpC2⟩, F.binds (fun _ _ _ _ _ _ us hl => match us, hl with | [_, _, _], _ => rfl), ok_init F n T II CK m16⟩
  have MC : MkC P w K mg base C := by
    obtain ⟨f, fd, me, F⟩ := z.c_init
    exact ⟨f, fd, ⟨z.mkC, me.at_, me.fn, z.kpC⟩, F.binds (fun _ _ _ _ _ _ us hl => match us, hl with | [_, _, _, _, _, _, _, _], _ => rfl), ok_ci F TC⟩
  have PL : PrH P w K mg base C2 "places" (spPlaces C2) := pr_mk z.h_pl (fun _ _ _ _ _ _ us hl => match us, hl with | [_], _ => rfl) fun f fd F => ok_places F T
  have DE : MeH P w K mg base C2 "deeds" 1 ["self"] (spDeeds C2) := me_mk z.h_de (fun _ _ _ _ _ _ us hl => match us, hl with | [_], _ => rfl) fun f fd F => ok_deeds F n T
  have FT : MeH P w K mg base C "fits" 1 ["self", "place", "start"] (spFits C) := me_mk z.c_ft (fun _ _ _ _ _ _ us hl => match us, hl with | [_, _, _], _ => rfl) fun f fd F => ok_fits F TC
  have LN : LenH P w K mg base C2 := by
    obtain ⟨f, fd, me, F⟩ := z.h_ln
    exact ⟨f, fd, me.at_, me.fn, F.binds (fun _ _ _ _ _ _ us hl => match us, hl with | [_], _ => rfl), ok_len F n T⟩
  have NO : Fn P w K mg base 3 "no_course" [] (spNo C) := fn_mk z.no (fun _ _ _ _ _ _ us hl => match us, hl with | [], _ => rfl) fun f fd F => ok_no F TC MC
  have DC : Fn P w K mg base 3 "deed_course" ["deed"] (spDC C) := fn_mk z.dc (fun _ _ _ _ _ _ us hl => match us, hl with | [_], _ => rfl) fun f fd F => ok_dc F n TC MC
  have VB : Fn P w K mg base 1 "is_vain_behind" ["one", "two"] (spVB C) := fn_mk z.vb (fun _ _ _ _ _ _ us hl => match us, hl with | [_, _], _ => rfl) fun f fd F => ok_vb F TC
  have BA : Fn P w K mg base 3 "behind_another" ["one", "two"] (spBA C) := fn_mk z.ba (fun _ _ _ _ _ _ us hl => match us, hl with | [_, _], _ => rfl) fun f fd F => ok_ba F n TC MC VB
  have OF : Fn P w K mg base 3 "done_often" ["course", "times"] (spOf C) := fn_mk z.oft (fun _ _ _ _ _ _ us hl => match us, hl with | [_, _], _ => rfl) fun f fd F => ok_of F TC MC
  have HF : ∀ j, Fn P w K mg base (3 + j) "has_going_form" ["many", "value", "lists"] (spHF j) := by
    intro j
    induction j with
    | zero => exact fn_mk z.hf (fun _ _ _ _ _ _ us hl => match us, hl with | [_, _, _], _ => rfl) fun f fd F => ok_hf0 F IL2
    | succ j ih => exact fn_mk z.hf (fun _ _ _ _ _ _ us hl => match us, hl with | [_, _, _], _ => rfl) fun f fd F => ok_hfS F n IL2 IC2 ih
  have CW : ∀ j, Fn P w K mg base (4 + j) "course_within" ["deeds", "going"] (spCW C j) := by
    intro j
    induction j with
    | zero => exact fn_mk z.cw (fun _ _ _ _ _ _ us hl => match us, hl with | [_, _], _ => rfl) fun f fd F => ok_cw0 F
    | succ j ih => exact fn_mk z.cw (fun _ _ _ _ _ _ us hl => match us, hl with | [_, _], _ => rfl) fun f fd F => ok_cwS F n NO DC OF BA ih
  have CP : Fn P w K mg base 3 "check_place" ["house", "place"] (spCP C2) := fn_mk z.cp (fun _ _ _ _ _ _ us hl => match us, hl with | [_, _], _ => rfl) fun f fd F => ok_cp F T IC PL
  have CM : Fn P w K mg base 3 "check_many" ["many"] spCM := fn_mk z.cm (fun _ _ _ _ _ _ us hl => match us, hl with | [_], _ => rfl) fun f fd F => ok_cm F IC
  have CNo : Fn P w K mg base 9 "course_or_none" ["house", "value"] (spCN C C2) := fn_mk z.cn (fun _ _ _ _ _ _ us hl => match us, hl with | [_, _], _ => rfl) fun f fd F => ok_cn F n T m4 LN DE (HF 4) (CW 4)
  have IG : Fn P w K mg base 10 "is_going" ["house", "place", "start", "value"] (spIG C2) := fn_mk z.ig (fun _ _ _ _ _ _ us hl => match us, hl with | [_, _, _, _], _ => rfl) fun f fd F => ok_ig F TC CP CM CNo FT
  have G : GoX P w K mg base CG (spGI CG) := by
    obtain ⟨f, fd, a, t, F⟩ := z.gi
    exact ⟨z.gT.1, z.gT.2, z.gno, z.gg, z.gte, f, fd, a, t, F.binds (fun _ _ _ _ _ _ us hl => match us, hl with | [_, _], _ => rfl), ok_gi F z.gT.1 z.gno⟩
  have CO : FnX P w K mg base 10 "course_of" ["house", "going"] (spCO C C2 CG) := fnX_mk z.co (fun _ _ _ _ _ _ us hl => match us, hl with | [_, _], _ => rfl) fun f fd F => ok_co F G CNo
  have GAx : FnX P w K mg base 11 "gain_of" ["house", "going"] (spFl C2 CG Crs.g) := fnX_mk z.ga (fun _ _ _ _ _ _ us hl => match us, hl with | [_, _], _ => rfl) fun f fd F => ok_ga F TC CO
  have DIx : FnX P w K mg base 11 "deeds_in" ["house", "going"] (spFl C2 CG Crs.n) := fnX_mk z.di (fun _ _ _ _ _ _ us hl => match us, hl with | [_, _], _ => rfl) fun f fd F => ok_di F TC CO
  have NOx : FnX P w K mg base 11 "need_of" ["house", "going"] (spNd C2 CG CN) := fnX_mk z.ne (fun _ _ _ _ _ _ us hl => match us, hl with | [_, _], _ => rfl) fun f fd F => ok_nd F TC z.np CO
  have BHx : FnX P w K mg base 11 "behind" ["house", "place", "start", "going"] (spBh C2 CG) := fnX_mk z.beh (fun _ _ _ _ _ _ us hl => match us, hl with | [_, _, _, _], _ => rfl) fun f fd F => ok_bh F TC G CP CM CO FT
  have GA : Fn P w K mg base 11 "gain_of" ["house", "going"] (spFc C2 Crs.g) := fn_mk z.ga (fun _ _ _ _ _ _ us hl => match us, hl with | [_, _], _ => rfl) fun f fd F => FnOk.calm (ok_ga F TC CO) fc_fl
  have DI : Fn P w K mg base 11 "deeds_in" ["house", "going"] (spFc C2 Crs.n) := fn_mk z.di (fun _ _ _ _ _ _ us hl => match us, hl with | [_, _], _ => rfl) fun f fd F => FnOk.calm (ok_di F TC CO) fc_fl
  have KG : KFc P w K mg base C2 "gain_of" Crs.g := by
    obtain ⟨f, fd, e, F⟩ := z.ga
    exact ⟨f, fd, e, F.kp, kbn_of F (fun _ _ _ _ _ _ us ws l1 l2 => match us, ws, l1, l2 with | [], [_, _], _, _ => rfl) (fun _ r => vals_rv2 r), FnOk.calm (ok_ga F TC CO) fc_fl⟩
  have KD : KFc P w K mg base C2 "deeds_in" Crs.n := by
    obtain ⟨f, fd, e, F⟩ := z.di
    exact ⟨f, fd, e, F.kp, kbn_of F (fun _ _ _ _ _ _ us ws l1 l2 => match us, ws, l1, l2 with | [], [_, _], _, _ => rfl) (fun _ r => vals_rv2 r), FnOk.calm (ok_di F TC CO) fc_fl⟩
  have KB : KBh P w K mg base C2 := by
    obtain ⟨f, fd, e, F⟩ := z.beh
    exact ⟨f, fd, e, F.kp, kbn_of F (fun _ _ _ _ _ _ us ws l1 l2 => match us, ws, l1, l2 with | [], [_, _, _, _], _, _ => rfl) (fun _ r => vals_rv4 r), FnOk.calm (ok_bh F TC G CP CM CO FT) bc_bh⟩
  have DR : Fn P w K mg base 1 "_law_draw" ["_law_pot_here", "_law_many"] spDraw := fn_mk z.dr (fun _ _ _ _ _ _ us hl => match us, hl with | [_, _], _ => rfl) fun f fd F => ok_draw F n
  have PK : Fn P w K mg base 2 "_law_pick" ["_law_pot_here", "_law_some"] spPick := fn_mk z.pk (fun _ _ _ _ _ _ us hl => match us, hl with | [_, _], _ => rfl) fun f fd F => ok_pick F n DR
  have DS : Fn P w K mg base 2 "_law_deeds" ["_law_pot_here", "_law_places", "_law_many", "_law_has_empty"] spDeedsL := fn_mk z.ds (fun _ _ _ _ _ _ us hl => match us, hl with | [_, _, _, _], _ => rfl) fun f fd F => ok_deedsL F n DR
  have IW : Fn P w K mg base 1 "_law_is_whole" ["_law_value"] spInt2 := fn_mk z.iw (fun _ _ _ _ _ _ us hl => match us, hl with | [_], _ => rfl) fun f fd F => ok_iw F n
  have UN : ∀ j, Fn P w K mg base (2 + j) "_law_unrolled" ["_law_value", "_law_many", "_law_lists"] (spUn j) := by
    intro j
    induction j with
    | zero => exact fn_mk z.un (fun _ _ _ _ _ _ us hl => match us, hl with | [_, _, _], _ => rfl) fun f fd F => ok_un0 F n
    | succ j ih => exact fn_mk z.un (fun _ _ _ _ _ _ us hl => match us, hl with | [_, _, _], _ => rfl) fun f fd F => ok_unS F n IW ih
  have HG : Fn P w K mg base 1 "_law_hangs" ["_law_deeds_here", "_law_row"] spHg := fn_mk z.hg (fun _ _ _ _ _ _ us hl => match us, hl with | [_, _], _ => rfl) fun f fd F => ok_hg F n
  have WK : Fn P w K mg base 1 "_law_walked" ["_law_deeds_here", "_law_row", "_law_place", "_law_start"] spWk := fn_mk z.wk (fun _ _ _ _ _ _ us hl => match us, hl with | [_, _, _, _], _ => rfl) fun f fd F => ok_wk F
  have WA : Fn P w K mg base 3 "_law_walk" ["_law_pot_here", "_law_deeds_here", "_law_place", "_law_many"] spWa := fn_mk z.wa (fun _ _ _ _ _ _ us hl => match us, hl with | [_, _, _, _], _ => rfl) fun f fd F => ok_wa F n PK
  have IT : Fn P w K mg base 4 "_law_items" ["_law_pot_here", "_law_deeds_here", "_law_place", "_law_deep"] spIt := fn_mk z.it (fun _ _ _ _ _ _ us hl => match us, hl with | [_, _, _, _], _ => rfl) fun f fd F => ok_it F n DR PK WA
  have JO : Fn P w K mg base 1 "_law_joined" ["_law_one", "_law_other"] spJo := fn_mk z.jo (fun _ _ _ _ _ _ us hl => match us, hl with | [_, _], _ => rfl) fun f fd F => ok_jo F n
  have TI : Fn P w K mg base 1 "_law_times" ["_law_block_here", "_law_times_here"] spTi := fn_mk z.ti (fun _ _ _ _ _ _ us hl => match us, hl with | [_, _], _ => rfl) fun f fd F => ok_ti F
  have BB : ∀ j, Fn P w K mg base (2 + j) "_law_block" ["_law_deeds_here", "_law_items_here"] (spBl j) := by
    intro j
    induction j with
    | zero => exact fn_mk z.bl (fun _ _ _ _ _ _ us hl => match us, hl with | [_, _], _ => rfl) fun f fd F => ok_bl0 F
    | succ j ih => exact fn_mk z.bl (fun _ _ _ _ _ _ us hl => match us, hl with | [_, _], _ => rfl) fun f fd F => ok_blS F n JO TI ih
  have GT : ∀ j, Fn P w K mg base (2 + j) "_law_great" ["_law_pot_here", "_law_items_here", "_law_some"] (spGt j) := by
    intro j
    induction j with
    | zero => exact fn_mk z.gt (fun _ _ _ _ _ _ us hl => match us, hl with | [_, _, _], _ => rfl) fun f fd F => ok_gt0 F
    | succ j ih => exact fn_mk z.gt (fun _ _ _ _ _ _ us hl => match us, hl with | [_, _, _], _ => rfl) fun f fd F => ok_gtS F n PK ih
  have DO : Fn P w K mg base 1 "_law_done" ["_law_block_here", "_law_place", "_law_start"] spDo := fn_mk z.don (fun _ _ _ _ _ _ us hl => match us, hl with | [_, _, _], _ => rfl) fun f fd F => ok_do F
  have h0 : HeK P w K mg base CG CN := by
    obtain ⟨f, fd, e, F⟩ := z.he
    exact ⟨G, z.np, z.tn, f, fd, e, F, F.binds (fun _ _ _ _ _ _ us hl => match us, hl with | [_], _ => rfl)⟩
  have TR : Fn P w K mg base 14 "_law_told_right" ["_law_house", "_law_items_here", "_law_block_here"] (spTr C2 (tbT P1 P2 P3 P4)) := lf_mk z.tr (fun _ _ _ _ _ _ us hl => match us, hl with | [_, _, _], _ => rfl) fun f fd F => ok_tr F h0 tb1 GA DI KG KD NOx
  have SR : Fn P w K mg base 14 "_law_stands_right" ["_law_house", "_law_items_here", "_law_block_here", "_law_place", "_law_starts"] (spSr C2 (tbT P1 P2 P3 P4)) := lf_mk z.sr (fun _ _ _ _ _ _ us hl => match us, hl with | [_, _, _, _, _], _ => rfl) fun f fd F => ok_sr F n h0 tb2 DO IG KB BHx
  have FR : Fn P w K mg base 14 "_law_few_right" ["_law_house", "_law_deeds_here", "_law_items_here", "_law_block_here"] (spFr C2 (tbT P1 P2 P3 P4)) := lf_mk z.fr (fun _ _ _ _ _ _ us hl => match us, hl with | [_, _, _, _], _ => rfl) fun f fd F => ok_fr F n z.ns T h0 tb3 (UN 4) HG WK DO PL GAx
  have k : RK P w K mg base C2 CG CN (tbT P1 P2 P3 P4) := { n := n, th := T, M := MK, h0 := h0, dr := DR, ds := DS, it := IT, bl := BB 4, gt := GT 4, fr := FR, tr := TR, sr := SR, di := DIx }
  have RT : Fn P w K mg base 15 "_law_right" ["_law_pot_here"] (spRt (tbT P1 P2 P3 P4)) := lf_mk z.rt (fun _ _ _ _ _ _ us hl => match us, hl with | [_], _ => rfl) fun f fd F => ok_rt F tb4 k
  have PO : Fn P w K mg base 1 "_law_pot" ["_law_script", "_law_k"] (spPot K) := fn_mk z.pot (fun _ _ _ _ _ _ us hl => match us, hl with | [_, _], _ => rfl) fun f fd F => ok_pot F n
  exact ok_law F n PO RT
abbrev lamNs : List Str := ["_law_told_right", "_law_stands_right", "_law_few_right", "_law_right"]
theorem law_tabs {l : PySem.W.OpenLaw} {h : Heap} {P1 P2 P3 P4 fa : Addr} (z : Facts K mg C C2 CG CN c1 c2 c3 c4) (lf : MFact K mg "law" sLaw) (hfa : mg "law" = some (.ref fa)) (nd : [P1, P2, P3, P4].Nodup)
    (t1 : PySem.W.tabIn K "_law_told_right" = some (c1, P1)) (n1 : K.lookup P1 = none) (t2 : PySem.W.tabIn K "_law_stands_right" = some (c2, P2)) (n2 : K.lookup P2 = none) (t3 : PySem.W.tabIn K "_law_few_right" = some (c3, P3)) (n3 : K.lookup P3 = none) (t4 : PySem.W.tabIn K "_law_right" = some (c4, P4)) (n4 : K.lookup P4 = none)
    (hT : ∀ y ∈ lamNs, ∀ c P : Addr, PySem.W.tabIn K y = some (c, P) → PySem.W.CodeHd h c P ∧ h.get? P = some (PySem.W.tabObj #[])) : LawAtS l w K CX0 16 63 "_law_script" mg fa h := by
  obtain ⟨f, fd, e, F⟩ := lf
  cases hfa.symm.trans e
  have a1 := hT "_law_told_right" in4_1 _ _ t1
  have a2 := hT "_law_stands_right" in4_2 _ _ t2
  have a3 := hT "_law_few_right" in4_3 _ _ t3
  have a4 := hT "_law_right" in4_4 _ _ t4
  refine ⟨fd, tbs c1 P1 c2 P2 c3 P3 c4 P4, spLaw K (tbT P1 P2 P3 P4), ?_, ?_, ?_, ?_, ?_, fun base _ _ hb => law_of z nd hb F⟩
  · exact all4 a1.2 a2.2 a3.2 a4.2
  · exact all4 n1 n2 n3 n4
  · exact all4 a1.1 a2.1 a3.1 a4.1
  · obtain ⟨oc, od, kV, doc, pm, an, cdv, ct, osl, rfl, _, _⟩ := F.ex
    exact fun s v => .of_eq rfl
  · intro H a ns hl _ hP hS
    refine ⟨a, ns, rfl, hS, ?_, hl, fun _ => rfl⟩
    exact all4 (TabS.nil (hP (c1, P1) in4_1)) (TabS.nil (hP (c2, P2) in4_2)) (TabS.nil (hP (c3, P3) in4_3)) (TabS.nil (hP (c4, P4) in4_4))
end
end L2.K23
end

section
set_option Elab.async false
set_option linter.all false
set_option maxRecDepth 100000
set_option maxHeartbeats 2000000
namespace L2.K23
open PySem PySem.Spec PyProof.Rows L2.Gd
section
variable {K : PySem.W.Frag} {mg : Str → Option Value} {h : Heap} {C f N : Addr} {oc kV doc pm cdv ct : Value} {od an : Option Addr} {osl : Array (Option Value)}
  {nm q : Str} {bs : List Value} {sn : List Str} {sub : List Value} {ab : Bool} {col : Option Bool} {dd : Option Addr} {k0 k1 k2 k3 k5 : Option Value} {newId : String}
  {nc : Value} {nd : Option Addr} {es : Array DictEntry} {en : Nat} {nsl : Array (Option Value)}
theorem kit_ref {T : String} {b : Bool} (c1 : PySem.W.isClsIn K C = true) (c2 : PySem.W.typeIn K (.ref C) = some (.type "type")) (s : PySem.W.subIn K (.type T) (.ref C) = some b) : PySem.W.kitOne K (.type T) (.ref C) = some b := by
  unfold PySem.W.kitOne
  rw [if_neg (show ¬ (Value.type T == Value.ref C) = true from fun z => nomatch z)]
  unfold PySem.W.kitCls
  have c1' : (PySem.W.clsIn K C).isSome = true := c1
  show (if ((PySem.W.clsIn K C).isSome && PySem.W.typeIn K (.ref C) == some (.type "type")) = true then PySem.W.subIn K (.type T) (.ref C) else none) = some b
  rw [c1', c2, if_pos (by rfl)]
  exact s
theorem kit_self : PySem.W.kitOne K (.ref C) (.ref C) = some true := by
  unfold PySem.W.kitOne
  rw [if_pos (show (Value.ref C == Value.ref C) = true by simp)]
theorem ifact {x : Str} {n : Int} {t : Tok} (X : K.In h) (G : h.Ns mainGlobals mg) (a : PySem.W.nsIn K mainGlobals x = some (some (.int n t))) : ∃ t, mg x = some (.int n t) := ⟨t, PySem.W.mg_of X G a⟩
theorem clsT_of (mC : mg "House" = some (.ref C)) (pg : PySem.W.plainGet K C Str.empty = true) (hd : PySem.W.hasDictIn K C = true) (po : PySem.W.plainOver K C = true) (sa : PySem.W.findIn K (.ref C) "__setattr__" = some (some (.builtin "object.__setattr__")))
    (ha : PySem.W.findIn K (.ref C) "__class__" = some (some (.builtin "object.__class__"))) (hn : PySem.W.specialIn K (.builtin "object.__class__") "__get__" = some (some (.builtin "getset_descriptor.__get__"))) (ht : PySem.W.takesIn K (.builtin "object.__class__") = some true)
    (hm : PySem.W.mroIn K C (.type "object") = some true) (nP : PySem.W.findIn K (.ref C) "_places" = some none) (nD : PySem.W.findIn K (.ref C) "_deeds" = some none) : ClsT K mg C :=
  ⟨⟨⟨pg, hd, po, sa⟩, ha, hn, ht, hm, kit_self⟩, nP, nD, mC⟩
theorem clsC_of (mC : mg "Course" = some (.ref C)) (pg : PySem.W.plainGet K C Str.empty = true) (hd : PySem.W.hasDictIn K C = true) (po : PySem.W.plainOver K C = true) (sa : PySem.W.findIn K (.ref C) "__setattr__" = some (some (.builtin "object.__setattr__")))
    (a0 : PySem.W.findIn K (.ref C) "begin" = some none) (a1 : PySem.W.findIn K (.ref C) "finish" = some none) (a2 : PySem.W.findIn K (.ref C) "many" = some none) (a3 : PySem.W.findIn K (.ref C) "gain" = some none) (a4 : PySem.W.findIn K (.ref C) "need" = some none) (a5 : PySem.W.findIn K (.ref C) "only" = some none) (a6 : PySem.W.findIn K (.ref C) "vain" = some none) : ClsC K mg C :=
  ⟨⟨pg, hd, po, sa⟩, a0, a1, a2, a3, a4, a5, a6, mC⟩
theorem gox_of {nm q : Str} {N : Addr} {bs bm : List Value} {sn : List Str} {sub : List Value} {ab : Bool} {col : Option Bool} {dd : Option Addr} {k0 k1 k2 k3 k5 : Option Value}
    (l : K.lookup C = some (excClassObj nm q C N bs bm true sn sub ab col dd k0 k1 k2 k3 k5 "ValueError.__new__")) (rv : PySem.HandSPX.refsVE bm = true) (sa : PySem.W.findIn K (.ref C) "__setattr__" = some (some (.builtin "object.__setattr__"))) (ex : PySem.W.subIn K (.ref C) (.type "BaseException") = some true) (ty : PySem.W.typeIn K (.ref C) = some (.type "type")) (kp : PySem.W.keepIn K (.ref C) = true)
    (ga : PySem.W.findIn K (.ref C) "__getattribute__" = some (some (.builtin "BaseException.__getattribute__"))) (gg : PySem.W.findIn K (.ref C) "__getattr__" = some none) (hd : PySem.W.hasDictIn K C = true) : OexC K C ∧ XfC K C :=
  ⟨⟨⟨nm, q, N, bs, bm, sn, sub, ab, col, dd, k0, k1, k2, k3, k5, l, rv⟩, sa, ex, ty, kp⟩, ⟨ga, gg, ex, hd⟩⟩
theorem plx_of (g : mg "NotPlain" = some (.ref C)) (q : PySem.W.excIn K C [.type "RuntimeError", .type "Exception", .type "BaseException", .type "object"] "RuntimeError.__new__" = true) (k : PySem.W.keepIn K (.ref C) = true)
    (ex : PySem.W.subIn K (.ref C) (.type "BaseException") = some true) (ty : PySem.W.typeIn K (.ref C) = some (.type "type")) (te : PySem.W.exmOne K (.ref C) (.ref C) = some true) : PlX K mg C := ⟨q, g, k, ex, ty, te⟩
end
end L2.K23
end

section
set_option Elab.async false
set_option linter.all false
open PySem PySem.W PyProof.Rows L2.K23
open Lean in
local macro_rules
  | `(tactic| kernel_rfl%$s) => do
    match s.getHeadInfo with
    | .none => Macro.throwUnsupported
    | _ =>
      let k : TSyntax `tactic := ⟨Syntax.node .none ``tacticKernel_rfl #[Syntax.atom .none "kernel_rfl"]⟩
      `(tactic| first | (with_reducible refine L2.Hs23.split3 ?h1 ?h2 ?h3; (case h1 => ($k:tactic)); (case h2 => (rename_i w0 os0; refine cast ?e (L2.Hs23.seen_ w0 os0); (case e => ($k:tactic)))); (case h3 => ($k:tactic))) | ($k:tactic))
set_option maxRecDepth 100000 in
set_option maxHeartbeats 0 in
theorem PySem.Challenge.cw_lonetill_k23_whole_goings_in_laps_holds : PySem.Challenge.rw_lonetill_k23_whole_goings_in_laps.Holds := by
  w_on; o_law; k_headL; (case hw => w_witness2)
  k_fill
  refine LamX.walk_tabs (l := PySem.Challenge.rw_lonetill_k23_whole_goings_in_laps) (n := 63) (k := 16) (x := "_law_script") (CX := fun _ => C8.CX0) L2.K23.lamNs rfl (by decide) rfl ⟨rfl, by decide, by decide⟩ ?hrec (fun w h Y => PySem.W.kIn_of Y) ?F (fun _ _ _ _ _ z => z)
  case hrec => kernel_rfl
  case F =>
    intro w mg fa h KX G hmg hT
    refine' (fun {C C2 CG CN c1 c2 c3 c4 P1 P2 P3 P4 : Addr} (aC : PySem.W.nsIn _ mainGlobals "Course" = some (some (.ref C))) (aC2 : PySem.W.nsIn _ mainGlobals "House" = some (some (.ref C2))) (aCG : PySem.W.nsIn _ mainGlobals "InvalidGoing" = some (some (.ref CG))) (aCN : PySem.W.nsIn _ mainGlobals "NotPlain" = some (some (.ref CN))) (L1 : LFact _ mg "_law_told_right" (top 60) c1 ∧ PySem.W.tabIn _ "_law_told_right" = some (c1, P1) ∧ List.lookup P1 _ = none) (L2 : LFact _ mg "_law_stands_right" (top 61) c2 ∧ PySem.W.tabIn _ "_law_stands_right" = some (c2, P2) ∧ List.lookup P2 _ = none) (L3 : LFact _ mg "_law_few_right" (top 62) c3 ∧ PySem.W.tabIn _ "_law_few_right" = some (c3, P3) ∧ List.lookup P3 _ = none) (L4 : LFact _ mg "_law_right" (top 63) c4 ∧ PySem.W.tabIn _ "_law_right" = some (c4, P4) ∧ List.lookup P4 _ = none) (nd : [P1, P2, P3, P4].Nodup) (z : (mg "Course" = some (.ref C)) → (mg "House" = some (.ref C2)) → (mg "InvalidGoing" = some (.ref CG)) → (mg "NotPlain" = some (.ref CN)) → LFact _ mg "_law_told_right" (top 60) c1 → LFact _ mg "_law_stands_right" (top 61) c2 → LFact _ mg "_law_few_right" (top 62) c3 → LFact _ mg "_law_right" (top 63) c4 → Facts _ mg C C2 CG CN c1 c2 c3 c4 ∧ MFact _ mg "law" sLaw) => law_tabs (z (PySem.W.mg_of KX G aC) (PySem.W.mg_of KX G aC2) (PySem.W.mg_of KX G aCG) (PySem.W.mg_of KX G aCN) L1.1 L2.1 L3.1 L4.1).1 (z (PySem.W.mg_of KX G aC) (PySem.W.mg_of KX G aC2) (PySem.W.mg_of KX G aCG) (PySem.W.mg_of KX G aCN) L1.1 L2.1 L3.1 L4.1).2 hmg nd L1.2.1 L1.2.2 L2.2.1 L2.2.2 L3.2.1 L3.2.2 L4.2.1 L4.2.2 hT) ?aC ?aC2 ?aCG ?aCN ?L1 ?L2 ?L3 ?L4 ?nd ?z
    (case aC => k_is)
    (case aC2 => k_is)
    (case aCG => k_is)
    (case aCN => k_is)
    case L1 =>
      refine' lfactT KX G ?a ?l ?cd ?k ?lc ?p ?n
      (case a => k_is); (case l => k_is); (case cd => k_is); (case k => k_is); (case lc => k_is); (case p => rfl); (case n => kernel_rfl)
    case L2 =>
      refine' lfactT KX G ?a ?l ?cd ?k ?lc ?p ?n
      (case a => k_is); (case l => k_is); (case cd => k_is); (case k => k_is); (case lc => k_is); (case p => rfl); (case n => kernel_rfl)
    case L3 =>
      refine' lfactT KX G ?a ?l ?cd ?k ?lc ?p ?n
      (case a => k_is); (case l => k_is); (case cd => k_is); (case k => k_is); (case lc => k_is); (case p => rfl); (case n => kernel_rfl)
    case L4 =>
      refine' lfactT KX G ?a ?l ?cd ?k ?lc ?p ?n
      (case a => k_is); (case l => k_is); (case cd => k_is); (case k => k_is); (case lc => k_is); (case p => rfl); (case n => kernel_rfl)
    (case nd => decide)
    case z =>
      intro mC mC2 mCG mCN l1 l2 l3 l4
      refine' ⟨⟨?n, ?ns, ?m4, ?m16, ?m60, ?TC, ?mkC, ?kpC, ?TC2, ?mkC2, ?kpC2, ?gT, ?gno, ?gg, ?gte, ?gi, ?np, ?tn, ?ii, ?ic, ?il, ?cm, ?cp, ?no, ?dc, ?vb, ?ba, ?oft, ?hf, ?cw, ?cn, ?co, ?ig, ?beh, ?ga, ?ne, ?di, ?id, ?ck, ?pot, ?dr, ?pk, ?ds, ?iw, ?un, ?hg, ?wk, ?wa, ?it, ?jo, ?ti, ?bl, ?don, ?he, ?gt, ?tr, ?sr, ?fr, ?rt, ?h_init, ?h_de, ?h_ln, ?c_init, ?c_ft, ?h_pl⟩, ?law⟩
      case n =>
        refine' ⟨PySem.W.mg_none_of KX G ?b0, PySem.W.mg_none_of KX G ?b1, PySem.W.mg_none_of KX G ?b2, PySem.W.mg_none_of KX G ?b3, PySem.W.mg_none_of KX G ?b4, PySem.W.mg_none_of KX G ?b5, PySem.W.mg_none_of KX G ?b6, PySem.W.mg_none_of KX G ?b7, PySem.W.mg_none_of KX G ?b8, PySem.W.mg_none_of KX G ?b9, PySem.W.mg_none_of KX G ?b10, PySem.W.mg_none_of KX G ?b11, PySem.W.mg_none_of KX G ?b12, PySem.W.mg_none_of KX G ?b13, PySem.W.mg_none_of KX G ?b14, PySem.W.mg_none_of KX G ?b15, PySem.W.mg_none_of KX G ?b16, PySem.W.mg_none_of KX G ?b17⟩
        (case b0 => k_is); (case b1 => k_is); (case b2 => k_is); (case b3 => k_is); (case b4 => k_is); (case b5 => k_is); (case b6 => k_is); (case b7 => k_is); (case b8 => k_is); (case b9 => k_is); (case b10 => k_is); (case b11 => k_is); (case b12 => k_is); (case b13 => k_is); (case b14 => k_is); (case b15 => k_is); (case b16 => k_is); (case b17 => k_is)
      case ns =>
        refine' PySem.W.mg_none_of KX G ?a
        case a => k_is
      case m4 =>
        refine' ifact KX G ?a
        case a => k_is
      case m16 =>
        refine' ifact KX G ?a
        case a => k_is
      case m60 =>
        refine' ifact KX G ?a
        case a => k_is
      case TC =>
        refine' clsC_of mC ?pg ?hd ?po ?sa ?a0 ?a1 ?a2 ?a3 ?a4 ?a5 ?a6
        (case pg => k_is); (case hd => k_is); (case po => k_is); (case sa => k_is); (case a0 => k_is); (case a1 => k_is); (case a2 => k_is); (case a3 => k_is); (case a4 => k_is); (case a5 => k_is); (case a6 => k_is)
      case mkC => k_is
      case kpC => k_is
      case TC2 =>
        refine' clsT_of mC2 ?pg ?hd ?po ?sa ?ha ?hn ?ht ?hm ?nP ?nD
        (case pg => k_is); (case hd => k_is); (case po => k_is); (case sa => k_is); (case ha => k_is); (case hn => k_is); (case ht => k_is); (case hm => k_is); (case nP => k_is); (case nD => k_is)
      case mkC2 => k_is
      case kpC2 => k_is
      case gT =>
        refine' gox_of ?x0 ?x1 ?x2 ?x3 ?x4 ?x5 ?x6 ?x7 ?x8
        (case x0 => k_is); (case x1 => decide +kernel); (case x2 => k_is); (case x3 => k_is); (case x4 => k_is); (case x5 => k_is); (case x6 => k_is); (case x7 => k_is); (case x8 => k_is)
      case gno => k_is
      case gg => exact mCG
      case gte => kernel_rfl
      case gi =>
        refine' xfact ?a ?t ?l ?c ?k
        (case a => k_is); (case t => k_is); (case l => k_is); (case c => k_is); (case k => k_is)
      case np =>
        refine' plx_of mCN ?y0 ?y1 ?y2 ?y3 ?y4
        (case y0 => kernel_rfl); (case y1 => k_is); (case y2 => k_is); (case y3 => k_is); (case y4 => kernel_rfl)
      case tn => kernel_rfl
      case ii =>
        refine' mfact KX G ?a ?l ?c ?k
        (case a => k_is); (case l => k_is); (case c => k_is); (case k => k_is)
      case ic =>
        refine' mfact KX G ?a ?l ?c ?k
        (case a => k_is); (case l => k_is); (case c => k_is); (case k => k_is)
      case il =>
        refine' mfact KX G ?a ?l ?c ?k
        (case a => k_is); (case l => k_is); (case c => k_is); (case k => k_is)
      case cm =>
        refine' mfact KX G ?a ?l ?c ?k
        (case a => k_is); (case l => k_is); (case c => k_is); (case k => k_is)
      case cp =>
        refine' mfact KX G ?a ?l ?c ?k
        (case a => k_is); (case l => k_is); (case c => k_is); (case k => k_is)
      case no =>
        refine' mfact KX G ?a ?l ?c ?k
        (case a => k_is); (case l => k_is); (case c => k_is); (case k => k_is)
      case dc =>
        refine' mfact KX G ?a ?l ?c ?k
        (case a => k_is); (case l => k_is); (case c => k_is); (case k => k_is)
      case vb =>
        refine' mfact KX G ?a ?l ?c ?k
        (case a => k_is); (case l => k_is); (case c => k_is); (case k => k_is)
      case ba =>
        refine' mfact KX G ?a ?l ?c ?k
        (case a => k_is); (case l => k_is); (case c => k_is); (case k => k_is)
      case oft =>
        refine' mfact KX G ?a ?l ?c ?k
        (case a => k_is); (case l => k_is); (case c => k_is); (case k => k_is)
      case hf =>
        refine' mfact KX G ?a ?l ?c ?k
        (case a => k_is); (case l => k_is); (case c => k_is); (case k => k_is)
      case cw =>
        refine' mfact KX G ?a ?l ?c ?k
        (case a => k_is); (case l => k_is); (case c => k_is); (case k => k_is)
      case cn =>
        refine' mfact KX G ?a ?l ?c ?k
        (case a => k_is); (case l => k_is); (case c => k_is); (case k => k_is)
      case co =>
        refine' mfact KX G ?a ?l ?c ?k
        (case a => k_is); (case l => k_is); (case c => k_is); (case k => k_is)
      case ig =>
        refine' mfact KX G ?a ?l ?c ?k
        (case a => k_is); (case l => k_is); (case c => k_is); (case k => k_is)
      case beh =>
        refine' mfact KX G ?a ?l ?c ?k
        (case a => k_is); (case l => k_is); (case c => k_is); (case k => k_is)
      case ga =>
        refine' mfact KX G ?a ?l ?c ?k
        (case a => k_is); (case l => k_is); (case c => k_is); (case k => k_is)
      case ne =>
        refine' mfact KX G ?a ?l ?c ?k
        (case a => k_is); (case l => k_is); (case c => k_is); (case k => k_is)
      case di =>
        refine' mfact KX G ?a ?l ?c ?k
        (case a => k_is); (case l => k_is); (case c => k_is); (case k => k_is)
      case id =>
        refine' mfact KX G ?a ?l ?c ?k
        (case a => k_is); (case l => k_is); (case c => k_is); (case k => k_is)
      case ck =>
        refine' mfact KX G ?a ?l ?c ?k
        (case a => k_is); (case l => k_is); (case c => k_is); (case k => k_is)
      case pot =>
        refine' mfact KX G ?a ?l ?c ?k
        (case a => k_is); (case l => k_is); (case c => k_is); (case k => k_is)
      case dr =>
        refine' mfact KX G ?a ?l ?c ?k
        (case a => k_is); (case l => k_is); (case c => k_is); (case k => k_is)
      case pk =>
        refine' mfact KX G ?a ?l ?c ?k
        (case a => k_is); (case l => k_is); (case c => k_is); (case k => k_is)
      case ds =>
        refine' mfact KX G ?a ?l ?c ?k
        (case a => k_is); (case l => k_is); (case c => k_is); (case k => k_is)
      case iw =>
        refine' mfact KX G ?a ?l ?c ?k
        (case a => k_is); (case l => k_is); (case c => k_is); (case k => k_is)
      case un =>
        refine' mfact KX G ?a ?l ?c ?k
        (case a => k_is); (case l => k_is); (case c => k_is); (case k => k_is)
      case hg =>
        refine' mfact KX G ?a ?l ?c ?k
        (case a => k_is); (case l => k_is); (case c => k_is); (case k => k_is)
      case wk =>
        refine' mfact KX G ?a ?l ?c ?k
        (case a => k_is); (case l => k_is); (case c => k_is); (case k => k_is)
      case wa =>
        refine' mfact KX G ?a ?l ?c ?k
        (case a => k_is); (case l => k_is); (case c => k_is); (case k => k_is)
      case it =>
        refine' mfact KX G ?a ?l ?c ?k
        (case a => k_is); (case l => k_is); (case c => k_is); (case k => k_is)
      case jo =>
        refine' mfact KX G ?a ?l ?c ?k
        (case a => k_is); (case l => k_is); (case c => k_is); (case k => k_is)
      case ti =>
        refine' mfact KX G ?a ?l ?c ?k
        (case a => k_is); (case l => k_is); (case c => k_is); (case k => k_is)
      case bl =>
        refine' mfact KX G ?a ?l ?c ?k
        (case a => k_is); (case l => k_is); (case c => k_is); (case k => k_is)
      case don =>
        refine' mfact KX G ?a ?l ?c ?k
        (case a => k_is); (case l => k_is); (case c => k_is); (case k => k_is)
      case he =>
        refine' mfact KX G ?a ?l ?c ?k
        (case a => k_is); (case l => k_is); (case c => k_is); (case k => k_is)
      case gt =>
        refine' mfact KX G ?a ?l ?c ?k
        (case a => k_is); (case l => k_is); (case c => k_is); (case k => k_is)
      case tr => exact l1
      case sr => exact l2
      case fr => exact l3
      case rt => exact l4
      case h_init =>
        refine' cfact ?a ?i ?l ?c ?k
        (case a => k_is); (case i => k_is); (case l => k_is); (case c => k_is); (case k => k_is)
      case h_de =>
        refine' cfact ?a ?i ?l ?c ?k
        (case a => k_is); (case i => k_is); (case l => k_is); (case c => k_is); (case k => k_is)
      case h_ln =>
        refine' cfact ?a ?i ?l ?c ?k
        (case a => k_is); (case i => k_is); (case l => k_is); (case c => k_is); (case k => k_is)
      case c_init =>
        refine' cfact ?a ?i ?l ?c ?k
        (case a => k_is); (case i => k_is); (case l => k_is); (case c => k_is); (case k => k_is)
      case c_ft =>
        refine' cfact ?a ?i ?l ?c ?k
        (case a => k_is); (case i => k_is); (case l => k_is); (case c => k_is); (case k => k_is)
      case h_pl =>
        refine' pfact ?a ?b ?t ?r ?l ?c ?k
        (case a => k_is); (case b => k_is); (case t => k_is); (case r => k_is); (case l => k_is); (case c => k_is); (case k => k_is)
      case law =>
        refine' mfact KX G ?a ?l ?c ?k
        (case a => k_is); (case l => k_is); (case c => k_is); (case k => k_is)
end
