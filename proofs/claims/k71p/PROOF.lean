import PyProof.Rows.All
import Wide.All
import OpenK.AllK
import Wide.FinOn
import KE.OsRunLaw
import PySem.Challenge.RW_lonetill_k71_whole_least_roofs_by_plain
import PyProof.EqAt
import PyProof.EqKinds
import PyProof.TupleCall
import HandS.ForMost
import HandS.FStr
import HandS.RaiseMore
import HandS.IsInst
import PyProof.FactsAll.dict
import HandS.OwnEq
import PyProof.InstNe
import HandS.Defaults
import HandS.MakeKwOnly
import HandS.Conv
import HandS.Property
import HandS.Style
import HandS.Iter
import PyProof.EnumMake
import PyProof.EnumIter
import HandS.Deep
import HandS.TupAny
import PyProof.P3In
import HandS.Codes
import HandS.Comp
import OpenK.KOps
import PyProof.Draws
import PyProof.FString3
import PyProof.Rows.StrIntSpec
import HandS.NoneIn
import HandS.TupSets
import HandS.SortKw
import KE.DataMinMax
import HandS.Call
import PyProof.AssignAttr
import PyProof.DictDisplay
import PyProof.DictFindH
import PyProof.DictRoadsH
import PyProof.DictTable
import PyProof.Rows.RegFStrParts
import PyProof.FitsInt
import PyProof.ReprLen

section
set_option Elab.async false
set_option linter.all false
set_option maxRecDepth 100000
set_option maxHeartbeats 0
namespace L2.Hs71
open PySem PySem.W PySem.Calls PyProof.Rows HeadRun
def at_ (i : Nat) : Stmt := match PySem.Challenge.pw_lonetill_k71_whole_least_roofs_by_plain.main.body[i]? with
  | some s => s
  | none => .Pass ⟨0, 0, 0, 0⟩
def q : Program := { PySem.Challenge.pw_lonetill_k71_whole_least_roofs_by_plain with main := { PySem.Challenge.pw_lonetill_k71_whole_least_roofs_by_plain.main with body := ([0, 2, 3, 4, 6, 7, 8, 9, 10, 11, 12, 14, 15, 16, 18, 20, 21, 22, 23, 24, 25, 26, 28, 29, 31, 32, 33, 35, 36, 38, 39, 40, 42, 44, 45, 46, 48, 50, 51, 52, 53, 54, 56, 57, 58, 59, 61, 62, 63, 64, 65] : List Nat).map at_ } }
def loose : List PySem.Str := [PySem.Str.ofString "House", PySem.Str.ofString "_law_house"]
def Xt : Shared → Bool := fun s => xlAt q [] s && recOk [] s
noncomputable def fin (w : World) (os : OsState) : Option SharedT := endF (stepQ (denQ tabQ) PySem.Challenge.pw_lonetill_k71_whole_least_roofs_by_plain w) 11640 PySem.Challenge.pw_lonetill_k71_whole_least_roofs_by_plain w os
theorem seen_ (w : World) (os : OsState) : (fin w os).map (fun s => seenQ q loose (importedModules PySem.Challenge.pw_lonetill_k71_whole_least_roofs_by_plain.main.body) Xt s.abs) = some (openGood q loose) := by kernel_rfl
theorem split3 {α β γ δ : Type} {f : α → β} {g : α → γ} {h : α → δ} {x : Option α} {a : β} {b : γ} {c : δ} (h1 : x.map f = some a) (h2 : x.map g = some b) (h3 : x.map h = some c) : x.map (fun s => (f s, g s, h s)) = some (a, b, c) := by
  cases x with
  | none => cases h1
  | some s =>
    cases h1
    cases h2
    cases h3
    rfl
end L2.Hs71
end

section
set_option Elab.async false
set_option linter.all false
set_option maxRecDepth 100000
set_option maxHeartbeats 2000000
/-! Defs that are called while nothing is being shown (no repr runs around): their promise, their calls, the law's end. -/
namespace L2.Gd
open PySem PySem.Spec PyProof.Rows

structure FnG (P : Program) (w : World) (K : PySem.W.Frag) (mg : Str → Option Value) (base : Heap)
    (k : Nat) (f : Addr) (fd : FuncData) (ps : List Str) (sp : Sp) : Prop where
  cnt : ∀ (vs : List V) (H : Hp) (Q : VK), sp vs H Q E0 → vs.length = ps.length
  go : ∀ (A : Around) (outer : List Env) (s : Shared) (H : Hp) (args : Args)
      (us : List Value) (vs : List V) (Q : VK), A.guards = some [] → Room k A →
    Env0 P w K mg base A outer s H → BindsTo s fd args (ps.zip us) → Vals vs us →
    sp vs H Q E0 → codeAny (model P w) A (.call (.ref f) args) (CR CX0 outer P w H s Q E0) s

section
variable {P : Program} {w : World} {K : PySem.W.Frag} {mg : Str → Option Value} {base : Heap}
  {k : Nat} {f : Addr} {fd : FuncData} {ps N : List Str} {sp : Sp}

theorem FnG.of (F : FnOk P w K mg base CX0 k f fd ps sp) : FnG P w K mg base k f fd ps sp :=
  ⟨fun vs H Q h => F.len vs H Q E0 h,
   fun A outer s H args us vs Q _ hr e0 hb r h => F.run A outer s H args us vs Q E0 hr e0 hb r h⟩

theorem FnG.mono {j : Nat} (F : FnG P w K mg base j f fd ps sp) (h : j ≤ k) : FnG P w K mg base k f fd ps sp :=
  ⟨F.cnt, fun A outer s H args us vs Q hg hr => F.go A outer s H args us vs Q hg (hr.mono h)⟩

/-- a def of the text, by its body, where nothing is being shown around it -/
theorem okG {x qual : Str} {st : Stmt} (F : Fun K x qual st f fd) (S : FnScope N ps (defScope st))
    (cnt : ∀ (vs : List V) (H : Hp) (Q : VK), sp vs H Q E0 → vs.length = ps.length)
    (body : ∀ (cdv : Value) (A : Around) (outer : List Env) (s : Shared) (H : Hp) (vs : List V) (Q : VK),
      A.guards = some [] → Room k (A.deeper (envOfC qual (defScope st) s.heap.objs.size f cdv)) →
      sp vs H Q E0 →
      ∃ t, PSs (cxOf CX0 P w K mg base N qual (defScope st) f cdv A outer s H E0).nox (defBody st) t ∧
        t { nx := fun _ H' => Q .non H', rt := Q } (start N vs) H) :
    FnG P w K mg base (k + 1) f fd ps sp := by
  obtain ⟨oc, od, kV, doc, pm, an, cdv, ct, osl, rfl, there, code⟩ := F.ex
  refine ⟨cnt, ?_⟩
  intro A outer s H args us vs Q hg hr e0 bind rv hsp
  have inK : K.In s.heap := e0.mod.kin.keeps (fun b o q => (e0.bs b o q).1)
  have nolim : s.heap.NoLimit := e0.mod.nolimit.keeps (fun b o q => (e0.bs b o q).1)
  have kinds : ∀ y ∈ ps.zip us, (defScope st).names.lookup y.1 = some .local ∨
      ((defScope st).names.lookup y.1 = some .cell ∧
        ((cellsFrom (s.heap.objs.size + 1) (defScope st).names []).lookup y.1).isSome = true) := by
    rintro ⟨n, v⟩ hy
    cases S.par n (List.of_mem_zip hy).1 with
    | inl q => exact .inl q
    | inr q => exact .inr ⟨q, PySem.W.cellsFrom_some _ _ _ (.inl q)⟩
  refine codeAny_call_function hr.depth (inK _ _ there) rfl S.co S.gen rfl
    (PySem.W.codeRec_of inK code) (bind _ _ _ _ ?_)
  refine wpAny_newFunctionEnv_cells S.kind kinds ?_
  intro env he s1 ic
  subst he
  refine ⟨nolim.keeps ic.toInCall.keep, codeAny_func ?_⟩
  obtain ⟨t, ht, hq⟩ := body cdv A outer s H vs Q hg (hr.deeper _) hsp
  have hl : vs.length = ps.length := cnt _ _ _ hsp
  have I := inv_start (CX := CX0) (P := P) (w := w) (mg := mg) (base := base) (E := E0) S hr.hd e0 hl rv ic
  refine wpAny_mono (ht.nox.run [] s1 (start N vs) H _ I hq) (fun fl s' z => ?_) (fun e s' z => z)
  cases fl with
  | ret u =>
    obtain ⟨v, σ', H', J, r1, q⟩ := z
    exact ⟨v, H', J.os, J.bare, J.base, J.hok, r1, q⟩
  | next =>
    obtain ⟨σ', H', J, q⟩ := z
    exact ⟨.non, H', J.os, J.bare, J.base, J.hok, rfl, q⟩
  | brk =>
    obtain ⟨_, _, _, q⟩ := z
    exact q.elim
  | cont =>
    obtain ⟨_, _, _, q⟩ := z
    exact q.elim
end

section
variable {X : Cx} {k : Nat} {f : Addr} {fd : FuncData} {ps : List Str} {sp : Sp} {x : Str}
  {p pos : Pos} {e : Expr} {es : List Expr} {t : TA}

theorem run_fnG {pins : List (Addr × Obj)} {σ : St} {H : Hp} {s : Shared} {Q : VK} {us : List Value} {vs : List V}
    (F : FnG X.prog X.w X.K X.mg X.base k f fd ps sp) (hg : X.A.guards = some []) (hr : Room k X.A)
    (hb : Binds X.K fd ps []) (I : Inv X pins σ H s) (r : Vals vs us) (h : sp vs H Q E0) :
    wpAny (model X.prog X.w) X.A (call (.ref f) us) (EP X pins σ Q) X.xe s := by
  have hl : (us ++ []).length = ps.length := by
    rw [List.append_nil, ← r.length]
    exact F.cnt _ _ _ h
  have hb2 := hb s us I.kIn hl
  rw [List.append_nil] at hb2
  refine wpAny_call (codeAny_mono
    (F.go X.A X.stack s H ⟨us, []⟩ us vs Q hg hr I.env0 hb2 r h) ?_)
  intro res s' hq
  cases res with
  | error er => exact (show False from hq).elim
  | ok fl =>
    cases fl with
    | ret u => exact I.after hq
    | next => exact hq.elim
    | brk => exact hq.elim
    | cont => exact hq.elim

/-- f(e, ..), f such a def -/
theorem pe_callG (F : FnG X.prog X.w X.K X.mg X.base k f fd ps sp) (hg : X.A.guards = some [])
    (hr : Room k X.A) (gl : Gl X x) (hm : X.mg x = some (.ref f))
    (hk : PySem.W.keepIn X.K (.ref f) = true) (hb : Binds X.K fd ps []) (ha : PA X (e :: es) t)
    (hdb : (x == ("__debug__" : Str)) = false := by decide)
    (he : starEach (e :: es) X.env = (false, eval e X.env) :: starEach es X.env := by rfl)
    (hpl : (backTo pos (starEach es X.env)).any (·.1) = false := by rfl) :
    PE X (.Call (.Name x p) (e :: es) [] pos) (tCall sp [] E0 t) := by
  constructor
  intro pins s σ H Q I h
  refine wpAny_Call_Name_kw (ld_glob I gl hm ?_ hdb)
  refine PySem.W.callWith_K (h₀ := X.base) I.ok.mod.kin hk ?_ he hpl
  refine thn (ha.run pos pins s σ H _ I h) ?_
  rintro us s1 ⟨vs, H1, I1, r, q⟩
  rw [List.append_nil] at q
  exact ⟨I1.kIn, run_fnG F hg hr hb I1 r q⟩
end
end L2.Gd
end

section
set_option Elab.async false
set_option linter.all false
set_option maxRecDepth 100000
set_option maxHeartbeats 2000000
namespace L2.Gd
open PySem PySem.Spec PyProof.Rows

section
variable {P : Program} {w : World} {K : PySem.W.Frag} {mg mb : Str → Option Value} {k : Nat} {fa a : Addr}
  {fd : FuncData} {x : Str} {sp : Sp} {s₁ : Shared} {vs : List Value} {ns : List Int}

/-- the law's run from a heap of which at most the script is tracked -/
theorem law_core (inK : K.In s₁.heap) (hns : s₁.heap.Ns mainGlobals mg) (hb : s₁.heap.Ns builtinsNs mb)
    (hbb : ∀ x : Str, x ≠ "__name__" → mb x = bootBuiltins x) (nolim : s₁.heap.NoLimit) (hg : s₁.gens = #[])
    (ha : s₁.heap.get? a = some { cls := .type "list", data := .seq vs.toArray }) (hr : Room k callerA)
    (F : ∀ base : Heap, K.In base → base.Ns mainGlobals mg → FnG P w K mg base k fa fd [x] sp)
    (bind : ∀ (s : Shared) (u : Value), BindsTo s fd ⟨[u], []⟩ [(x, u)])
    (H : Hp) (only : Only H) (hsp : sp [.ref a] H (fun v _ => v = .bl true) E0)
    (ok : HOk P w H s₁.heap) (hA : ∀ b, H b ≠ none → b = a) (hK : H a ≠ none → K.lookup a = none) :
    codeAny (model P w) callerA (.call (.ref fa) ⟨[.ref a], []⟩)
      (fun r s' => r = .ok (.ret (.bool true)) ∧ OldK s₁.heap s'.heap ∧ s'.os = s₁.os ∧ AllBare s'.gens) s₁ := by
  have untracked : ∀ {b : Addr} {o : Obj} {es : Array DictEntry} {ep : Nat},
      s₁.heap.get? b = some o → o.data = .dict es ep → H b = none := by
    intro b o es ep q d
    cases hb' : H b with
    | none => rfl
    | some u =>
      have q2 : b = a := hA b (by rw [hb']; exact fun z => nomatch z)
      subst q2
      have q3 := ha.symm.trans q
      cases q3
      exact nomatch (show Data.seq vs.toArray _ = Data.dict es ep from d)
  have nsB : ∀ {b : Addr} {m : Str → Option Value}, s₁.heap.Ns b m → (hidT s₁.heap H).Ns b m := by
    rintro b m ⟨o, es, ep, q, d, r⟩
    exact ⟨o, es, ep, hidT_get q (untracked q d), d, r⟩
  have inB : K.In (hidT s₁.heap H) := by
    intro b o q
    refine hidT_get (inK b o q) ?_
    cases hb' : H b with
    | none => rfl
    | some u =>
      have q2 : b = a := hA b (by rw [hb']; exact fun z => nomatch z)
      subst q2
      rw [hK (by rw [hb']; exact fun z => nomatch z)] at q
      exact nomatch q
  obtain ⟨mc, l1, l2⟩ := nolim
  have md : Mod K mg (hidT s₁.heap H) := ⟨inB, nsB hns, ⟨mb, nsB hb, hbb⟩, ⟨mc, nsB l1, l2⟩⟩
  have e0 : Env0 P w K mg (hidT s₁.heap H) callerA [] s₁ H :=
    ⟨rfl, md, fun b o q => of_hidT q, Nat.le_of_eq (hidT_size _ _), trivial,
      fun b z => absurd (show b ∈ ([] : List Addr) from z) (by simp), ok, .of_eq hg⟩
  refine codeAny_mono ((F _ inB (nsB hns)).go callerA [] s₁ H ⟨[.ref a], []⟩ [.ref a] [.ref a] _ rfl hr e0
    (bind s₁ (.ref a)) (.cons rfl .nil) hsp) ?_
  intro r s' h
  cases r with
  | error e => exact (show False from h).elim
  | ok fl =>
    cases fl with
    | next => exact h.elim
    | brk => exact h.elim
    | cont => exact h.elim
    | ret u =>
      obtain ⟨v, H', os, bare, un, ok', rv, q⟩ := h
      obtain rfl : v = V.bl true := q
      obtain rfl : u = Value.bool true := rv
      refine ⟨rfl, OldK.of_keep ?_, os, bare⟩
      intro b o q1
      cases hb' : H b with
      | none =>
        exact un.keep b o q1 hb' (fun z => absurd (show b ∈ ([] : List Addr) from z) (by simp)) (by simp)
      | some u =>
        rcases only b with z | ⟨ob, xs, z⟩
        · exact nomatch hb'.symm.trans z
        · obtain ⟨q2, _⟩ := ok b _ z
          obtain ⟨q3, _⟩ := ok' b _ (un.frzs b ob _ z)
          cases q1.symm.trans q2
          exact q3

theorem law_callG (inK : K.In s₁.heap) (hns : s₁.heap.Ns mainGlobals mg) (hb : s₁.heap.Ns builtinsNs mb)
    (hbb : ∀ x : Str, x ≠ "__name__" → mb x = bootBuiltins x) (nolim : s₁.heap.NoLimit) (hg : s₁.gens = #[])
    (ha : s₁.heap.get? a = some { cls := .type "list", data := .seq vs.toArray }) (hi : IntsAre vs ns)
    (hl : ns.length ≤ sizeLine) (hr : Room k callerA)
    (F : ∀ base : Heap, K.In base → base.Ns mainGlobals mg → FnG P w K mg base k fa fd [x] sp)
    (bind : ∀ (s : Shared) (u : Value), BindsTo s fd ⟨[u], []⟩ [(x, u)])
    (hsp : ∀ H : Hp, Only H → SqL K H a (ns.map V.int) → sp [.ref a] H (fun v _ => v = .bl true) E0) :
    codeAny (model P w) callerA (.call (.ref fa) ⟨[.ref a], []⟩)
      (fun r s' => r = .ok (.ret (.bool true)) ∧ OldK s₁.heap s'.heap ∧ s'.os = s₁.os ∧ AllBare s'.gens) s₁ := by
  have rv := vals_ints hi
  have lenV := hi.length
  cases hk : K.lookup a with
  | some o =>
    -- the script is one of the module's own objects
    cases ha.symm.trans (inK a o hk)
    have only : Only (fun _ => none) := fun _ => .inl rfl
    have sq : SqL K (fun _ => none) a (ns.map V.int) :=
      .inr ⟨_, vs.toArray, _, hk, rfl, rfl, rfl, by rw [List.size_toArray, lenV]; exact hl, by simpa using rv⟩
    refine law_core inK hns hb hbb nolim hg ha hr F bind _ only (hsp _ only sq) ?_ ?_ ?_
    · intro b u z
      exact nomatch (show (none : Option HO) = some u from z)
    · exact fun b z => absurd rfl z
    · exact fun z => absurd rfl z
  | none =>
    let Hs : Hp := fun b => if b = a then some (.frz { cls := .type "list", data := .seq vs.toArray } (.lst (ns.map V.int))) else none
    have at_a : Hs a = some (.frz { cls := .type "list", data := .seq vs.toArray } (.lst (ns.map V.int))) := if_pos rfl
    have else_ : ∀ b, b ≠ a → Hs b = none := fun b n => if_neg n
    have only : Only Hs := by
      intro b
      by_cases q : b = a
      · subst q; exact .inr ⟨_, _, at_a⟩
      · exact .inl (else_ b q)
    refine law_core inK hns hb hbb nolim hg ha hr F bind Hs only (hsp _ only (.inl (.inr ⟨_, at_a⟩))) ?_ ?_ ?_
    · intro b u z
      by_cases q : b = a
      · subst q
        cases at_a.symm.trans z
        exact ⟨ha, by rw [List.length_map]; exact hl, vs, _, rv, ha⟩
      · exact nomatch (else_ b q).symm.trans z
    · intro b z
      by_cases q : b = a
      · exact q
      · exact absurd (else_ b q) z
    · exact fun _ => hk
end

/-- the goal that the head leaves, from the law's promise -/
theorem walk_ofG {l : PySem.W.OpenLaw} {n k : Nat} {q : Program} {loose : List Str}
    {XP : (Str → Option Value) → Heap → Prop} {YP : World → Heap → Prop} {d : DefRec} {K : Params → PySem.W.Frag}
    {sp : PySem.W.Frag → Sp} {x : Str}
    (hn : l.most = some n) (hn2 : n ≤ sizeLine) (hdf : d.params.defaults = []) (hr : Room k callerA)
    (hY : ∀ (w : World) (h : Heap), YP w h → (K w.params).In h)
    (F : ∀ (w : World) (mg : Str → Option Value) (fa : Addr) (h : Heap), (K w.params).In h →
      h.Ns mainGlobals mg → mg d.name = some (.ref fa) →
      ∃ fd : FuncData, (∀ (s : Shared) (u : Value), BindsTo s fd ⟨[u], []⟩ [(x, u)]) ∧
        ∀ base : Heap, (K w.params).In base → base.Ns mainGlobals mg →
          FnG l.prog w (K w.params) mg base k fa fd [x] (sp (K w.params)))
    (hsp : ∀ (K : PySem.W.Frag) (H : Hp) (a : Addr) (ns : List Int), ns.length ≤ n → Only H →
      SqL K H a (ns.map V.int) → sp K [.ref a] H (fun v _ => v = .bl true) E0) :
    PySem.W.WalkO q loose XP YP l.row.toRowW d [] (fun f vs => PySem.call f vs) := by
  refine Att.attach_call hn hdf ?_
  intro w s₀ s₁ mg mb fa o pm cd doc a vs ns G Y ho hd hcd hmg hobj hints hlen hg
  have inK := hY w _ Y
  obtain ⟨fd, bind, hF⟩ := F w mg fa _ inK G.T.g hmg
  exact law_callG inK G.T.g G.T.b G.T.builtins G.T.nolimit hg hobj hints (Nat.le_trans hlen hn2) hr hF bind
    (fun H hO hS => hsp (K w.params) H a ns hlen hO hS)
end L2.Gd
end

section
set_option Elab.async false
set_option linter.all false
set_option maxRecDepth 100000
set_option maxHeartbeats 2000000
namespace L2.Gd
open PySem PySem.Spec PyProof.Rows

/-- a list or a tuple of plain data: what is told of it fits -/
def Showy (d : PyData) : Prop := d.showable = true ∧ d.hasDict = false ∧ d.depth ≤ 20 ∧ d.shown.length ≤ sizeLine
section
variable {X : Cx} {pins : List (Addr × Obj)} {σ : St} {H : Hp} {s : Shared}
theorem reprObj_D {A : Around} (I : Inv X pins σ H s) (hg : A.guards = some []) (hu : A.units + 64 < cLine) {a : Addr} {d : PyData}
    (hd : Dp X.K H (.ref a) d) (hs : Showy d) {Q : Value → Shared → Prop} {E : Value → Shared → Prop}
    (h : ∀ s' u, Inv X pins σ H s' → Q (.str d.shown u) s') :
    wpAny (model X.prog X.w) A (pyReprObj (.ref a)) Q E s := by
  obtain ⟨as, r⟩ := Dp.reads I d _ _ hd rfl
  obtain ⟨h1, h2, h3, h4⟩ := hs
  refine pyReprObj_of_reads r h1 (PyData.noDict_hsm h2) hg (by omega) (fun _ _ q => q) ?_ h4
  intro h' u tk k
  exact h _ u (I.kept k)
end
section
variable {X : Cx}
/-- repr(x), x a list or a tuple of plain data -/
theorem call_reprD (hg : X.A.guards = some []) (hu : X.A.units + 64 < cLine) :
    CallR X (.builtin "repr") (fun xs H Q => ∃ a d, xs = [.ref a] ∧ Dp X.K H (.ref a) d ∧ Showy d ∧ Q (.str d.shown) H) := by
  rintro pins s σ H xs us Q I r ⟨a, d, rfl, hd, ⟨h1, h2, h3, h4⟩, q⟩
  cases r with
  | cons r1 r2 =>
    cases r2
    obtain rfl := r1
    obtain ⟨as, rd⟩ := Dp.reads I d _ _ hd rfl
    refine repr_of_reads' rd h1 (PyData.noDict_hsm h2) hg (by omega) (fun _ _ q => q) ?_ h4
    intro h' u tk k
    exact ⟨.str d.shown, H, I.kept k, ⟨_, rfl⟩, q⟩
/-- {x!r} of such -/
theorem pe_fmtRD {e : Expr} {te : TE} {pos : Pos} (hg : X.A.guards = some []) (hu : X.A.units + 64 < cLine) (he : PE X e te) :
    PE X (.FormattedValue e 114 none pos) (fun σ H Q => te σ H fun x H1 => ∃ a d, x = .ref a ∧ Dp X.K H1 (.ref a) d ∧ Showy d ∧ Q (.str d.shown) H1) := by
  constructor
  intro pins s σ H Q I h
  refine wpAny_FormattedValue_repr (thn (he.run pins s σ H _ I h) ?_)
  rintro v s1 ⟨x, H1, I1, r1, a, d, rfl, hd, hs, q⟩
  obtain rfl := r1
  refine reprObj_D I1 hg hu hd hs ?_
  intro s' u I'
  exact wpAny_formatField_str ⟨.str d.shown, H1, I', ⟨u, rfl⟩, q⟩ ⟨.str d.shown, H1, I'.tok _, ⟨_, rfl⟩, q⟩ hs.2.2.2
end
end L2.Gd
end

section
set_option Elab.async false
set_option linter.all false
set_option maxRecDepth 100000
set_option maxHeartbeats 2000000
namespace L2.Gd
open PySem PySem.Spec PyProof.Rows

/-! ### a def's run, whatever it hands back (NotImplemented, too) -/
def RawEnd (R : Result → Shared → Prop) (fl : Flow) (s' : Shared) : Prop := match fl with
  | .ret u => R (.ok (.ret u)) s'
  | .next => R (.ok (.ret .none)) s'
  | _ => False
section
variable {P : Program} {w : World} {K : PySem.W.Frag} {mg : Str → Option Value} {base : Heap}
  {k : Nat} {f : Addr} {fd : FuncData} {ps N : List Str}

theorem raw_call {x qual : Str} {st : Stmt} (F : Fun K x qual st f fd) (S : FnScope N ps (defScope st))
    {A : Around} {outer : List Env} {s : Shared} {H : Hp} {args : Args} {us : List Value} {vs : List V}
    {R : Result → Shared → Prop} (hr : Room (k + 1) A) (e0 : Env0 P w K mg base A outer s H)
    (bind : BindsTo s fd args (ps.zip us)) (rv : Vals vs us) (hl : vs.length = ps.length)
    (body : ∀ (cdv : Value) (s1 : Shared),
      Inv (cxOf CX0 P w K mg base N qual (defScope st) f cdv A outer s H E0).nox [] (start N vs) H s1 →
      wpAny (model P w) (A.deeper (envOfC qual (defScope st) s.heap.objs.size f cdv))
        (execs (defBody st) (envOfC qual (defScope st) s.heap.objs.size f cdv)) (RawEnd R) (fun _ _ => False) s1) :
    codeAny (model P w) A (.call (.ref f) args) R s := by
  obtain ⟨oc, od, kV, doc, pm, an, cdv, ct, osl, rfl, there, code⟩ := F.ex
  have inK : K.In s.heap := e0.mod.kin.keeps (fun b o q => (e0.bs b o q).1)
  have nolim : s.heap.NoLimit := e0.mod.nolimit.keeps (fun b o q => (e0.bs b o q).1)
  have kinds : ∀ y ∈ ps.zip us, (defScope st).names.lookup y.1 = some .local ∨
      ((defScope st).names.lookup y.1 = some .cell ∧
        ((cellsFrom (s.heap.objs.size + 1) (defScope st).names []).lookup y.1).isSome = true) := by
    rintro ⟨n, v⟩ hy
    cases S.par n (List.of_mem_zip hy).1 with
    | inl q => exact .inl q
    | inr q => exact .inr ⟨q, PySem.W.cellsFrom_some _ _ _ (.inl q)⟩
  refine codeAny_call_function hr.depth (inK _ _ there) rfl S.co S.gen rfl
    (PySem.W.codeRec_of inK code) (bind _ _ _ _ ?_)
  refine wpAny_newFunctionEnv_cells S.kind kinds ?_
  intro env he s1 ic
  subst he
  refine ⟨nolim.keeps ic.toInCall.keep, codeAny_func ?_⟩
  have I := inv_start (CX := CX0) (P := P) (w := w) (mg := mg) (base := base) (E := E0) S hr.hd e0 hl rv ic
  refine wpAny_mono (body cdv s1 (I.wish _)) (fun fl s' z => ?_) (fun e s' z => z.elim)
  cases fl with
  | ret u => exact z
  | next => exact z
  | brk => exact z.elim
  | cont => exact z.elim
end

/-! ### == of an own class that answers NotImplemented -/
/-- the state behind it: nothing that was tracked has changed -/
def After (X : Cx) (pins : List (Addr × Obj)) (σ : St) (H : Hp) (s' : Shared) : Prop := ∃ H', Inv X pins σ H' s' ∧ Same H H'
/-- the own __eq__ at f, of the class at C, declines what is of another kind -/
def Declines (X : Cx) (C f : Addr) (D : V → Hp → Prop) : Prop :=
  ∀ (pins : List (Addr × Obj)) (s : Shared) (σ : St) (H : Hp) (x : Addr) (y : V) (v : Value) (dx : Addr) (fs : List (Str × V)),
    Inv X pins σ H s → H x = some (.ins C dx fs) → RelV y v → D y H →
    wpAny (model X.prog X.w) X.A (call (.ref f) [.ref x, v]) (fun r s' => r = .notImplemented ∧ After X pins σ H s') (fun _ _ => False) s

section
variable {X : Cx} {C f : Addr}
theorem wpAny_noE {M : Model} {A : Around} {α : Type} {t : Sem α} {Q : α → Shared → Prop} {E : Value → Shared → Prop} {s : Shared}
    (h : wpAny M A t Q (fun _ _ => False) s) : wpAny M A t Q E s := wpAny_mono h (fun _ _ z => z) (fun _ _ z => z.elim)

/-- the value on the right: its type, and what its own == says of an instance -/
structure OtherKind (X : Cx) (C : Addr) (y : V) (tb : Value) (D : V → Hp → Prop) : Prop where
  ne : (tb == .ref C) = false
  sub : PySem.W.subIn X.K tb (.ref C) = some false
  ty : ∀ (pins : List (Addr × Obj)) (s : Shared) (σ : St) (H : Hp) (v : Value), Inv X pins σ H s → RelV y v → D y H →
    PySem.W.Looks (model X.prog X.w) s.heap (typeOf v) tb
  dec : ∀ (A : Around) (pins : List (Addr × Obj)) (s : Shared) (σ : St) (H : Hp) (x : Addr) (v : Value) (dx : Addr) (fs : List (Str × V)) (Q : Option Value → Shared → Prop) (E : Value → Shared → Prop),
    A.units + 8 < cLine → Inv X pins σ H s → RelV y v → D y H → H x = some (.ins C dx fs) → (∀ s', Inv X pins σ H s' → Q none s') →
    wpAny (model X.prog X.w) A (tryCompare v "__eq__" (.ref x)) Q E s
  mono : ∀ (H H' : Hp), Same H H' → D y H → D y H'
  notSame : ∀ (pins : List (Addr × Obj)) (s : Shared) (σ : St) (H : Hp) (x : Addr) (v : Value) (dx : Addr) (fs : List (Str × V)) (A : Around) (Q : Bool → Shared → Prop) (E : Value → Shared → Prop),
    Inv X pins σ H s → RelV y v → D y H → H x = some (.ins C dx fs) → Q false s → wpAny (model X.prog X.w) A (isSame (.ref x) v) Q E s

/-- x == y, x an instance of the class at C, y of another kind: False -/
theorem op_eqNI (hu : X.A.units + 64 < cLine) {DD : V → Hp → Prop} (hs : PySem.W.findIn X.K (.ref C) "__eq__" = some (some (.ref f)))
    (hf : PySem.W.isFn X.K (.ref f) = true) (dc : Declines X C f DD) :
    OpR X (compareOp .Eq) (fun x y H Q => ∃ (a dx : Addr) (fs : List (Str × V)) (tb : Value) (D : V → Hp → Prop),
      x = .ref a ∧ H a = some (.ins C dx fs) ∧ OtherKind X C y tb D ∧ D y H ∧ DD y H ∧ ∀ H', Same H H' → Q (.bl false) H') := by
  rintro pins s σ H x y u v Q I rx ry ⟨a, dx, fs, tb, D, rfl, ha, O, hD, hDD, q⟩
  obtain rfl := rx
  obtain ⟨mA, J, _⟩ := ins_get I.hok ha
  obtain ⟨od, J, _⟩ := J.look
  show wpAny _ _ (richCompare .Eq (.ref a) v) _ _ _
  unfold richCompare
  simp only [oneThing_ref]
  refine wpAny_holding (wpAny_bind (wpAny_cRoomFor (by omega) ?_))
  refine wpAny_bind (J.type.here (wpAny_bind ((O.ty pins s σ H v I ry hD).here ?_)))
  have ne : (Value.ref C != tb) = true := by
    have := O.ne
    rw [bne_comm, bne, this]
    rfl
  rw [if_pos ne]
  refine wpAny_bind ((PySem.W.looks_subIn I.kIn O.sub).here ?_)
  simp only [Bool.false_eq_true, if_false]
  have one : wpAny (model X.prog X.w) X.A (tryCompare (.ref a) (cmpInfo CmpOp.Eq).2.fst v)
      (fun r s' => r = none ∧ After X pins σ H s') X.xe s := by
    unfold tryCompare
    refine wpAny_bind (PySem.W.ifBound_K I.kIn J hs hf (wpAny_mono (wpAny_noE (dc pins s σ H a y v dx fs I ha ry hDD)) ?_ (fun _ _ z => z)))
    rintro r s' ⟨rfl, h⟩
    exact wpAny_pure ⟨rfl, h⟩
  refine wpAny_bind (thn one ?_)
  rintro r s1 ⟨rfl, H1, I1, sm⟩
  show wpAny _ _ (tryCompare v (cmpInfo CmpOp.Eq).2.snd (Value.ref a) >>= _) _ _ _
  refine wpAny_bind (O.dec X.A pins s1 σ H1 a v dx fs _ _ (by omega) I1 ry (O.mono _ _ sm hD) (sm _ _ ha) ?_)
  intro s2 I2
  show wpAny _ _ (rule "compare.eq-identity" >>= _) _ _ _
  refine wpAny_bind (wpAny_rule (wpAny_bind (O.notSame pins s2 σ H1 a v dx fs X.A _ _ I2 ry (O.mono _ _ sm hD) (sm _ _ ha) ?_)))
  exact wpAny_pure ⟨.bl false, H1, I2, rfl, q H1 sm⟩
end
end L2.Gd
end

section
set_option Elab.async false
set_option linter.all false
set_option maxRecDepth 100000
set_option maxHeartbeats 2000000
/-! What built-in values say of an instance of an own class: their own == declines. -/
namespace PySem.SeqAt
open AutoSeq1 (wpAny_loadPart')
open MeetsSeq
def NoSub (C : Addr) (T : String) (h : Heap) : Prop := ∀ M : Model, PySem.W.Looks M h (isSubtype (.ref C) (.type T)) false
theorem list_eq_ni (l x C dx : Addr) (items : Array Value) (n : Nat) (dd : Option Addr) (sl : Array (Option Value)) :
    Meets (Builtin.«list.__eq__» ⟨[.ref l, .ref x], []⟩) (fun _ R s =>
      s.heap.get? l = some { cls := .type "list", dict := dd, data := .seq items n, slots := sl } ∧
      s.heap.get? x = some (PySem.W.instObj C dx) ∧ NoSub C "list" s.heap ∧ R (.ok (.ret .notImplemented)) s) :=
  .of_wp fun prog w A R s h => by
    obtain ⟨hp, g, d, tk, os⟩ := s
    obtain ⟨hl, hx, ns, h⟩ := h
    wp_walk using wpAny_loadPart' hl
    refine (ns _).here ?_
    wp_walk
    exact ⟨_, rfl, h⟩
theorem tuple_eq_ni (l x C dx : Addr) (items : Array Value) (n : Nat) (dd : Option Addr) (sl : Array (Option Value)) :
    Meets (Builtin.«tuple.__eq__» ⟨[.ref l, .ref x], []⟩) (fun _ R s =>
      s.heap.get? l = some { cls := .type "tuple", dict := dd, data := .seq items n, slots := sl } ∧
      s.heap.get? x = some (PySem.W.instObj C dx) ∧ NoSub C "tuple" s.heap ∧ R (.ok (.ret .notImplemented)) s) :=
  .of_wp fun prog w A R s h => by
    obtain ⟨hp, g, d, tk, os⟩ := s
    obtain ⟨hl, hx, ns, h⟩ := h
    wp_walk using wpAny_loadPart' hl
    refine (ns _).here ?_
    wp_walk
    exact ⟨_, rfl, h⟩
theorem dict_eq_ni (l x C dx : Addr) (o : Obj) :
    Meets (Builtin.«dict.__eq__» ⟨[.ref l, .ref x], []⟩) (fun _ R s => s.heap.get? l = some o ∧ o.cls = .type "dict" ∧
      s.heap.get? x = some (PySem.W.instObj C dx) ∧ NoSub C "dict" s.heap ∧ R (.ok (.ret .notImplemented)) s) :=
  .of_wp fun prog w A R s h => by
    obtain ⟨hp, g, d, tk, os⟩ := s
    obtain ⟨hl, hc, hx, ns, h⟩ := h
    wp_walk using wpAny_loadPart' hl
    refine (ns _).here ?_
    wp_walk
    exact ⟨_, rfl, h⟩
theorem int_eq_ni (b : Int) (u : Tok) (x C dx : Addr) :
    Meets (Builtin.«int.__eq__» ⟨[.int b u, .ref x], []⟩) (fun _ R s => s.heap.get? x = some (PySem.W.instObj C dx) ∧ R (.ok (.ret .notImplemented)) s) :=
  .of_wp fun prog w A R s h => by
    obtain ⟨hp, g, d, tk, os⟩ := s
    obtain ⟨hx, h⟩ := h
    wp_walk using wpAny_loadPart' hx, wpAny_load hx
    exact ⟨_, rfl, h⟩
theorem str_eq_ni (b : Str) (u : Tok) (x C dx : Addr) :
    Meets (Builtin.«str.__eq__» ⟨[.str b u, .ref x], []⟩) (fun _ R s => s.heap.get? x = some (PySem.W.instObj C dx) ∧ R (.ok (.ret .notImplemented)) s) :=
  .of_wp fun prog w A R s h => by
    obtain ⟨hp, g, d, tk, os⟩ := s
    obtain ⟨hx, h⟩ := h
    wp_walk using wpAny_loadPart' hx, wpAny_load hx
    exact ⟨_, rfl, h⟩
end PySem.SeqAt

namespace L2.Gd
open PySem PySem.Spec PyProof.Rows PySem.SeqAt
section
variable {X : Cx} {C : Addr}
/-- the class at C is of no built-in kind -/
structure NoKin (K : PySem.W.Frag) (C : Addr) : Prop where
  none : PySem.W.subIn K (.type "NoneType") (.ref C) = some false
  int : PySem.W.subIn K (.type "int") (.ref C) = some false
  str : PySem.W.subIn K (.type "str") (.ref C) = some false
  lst : PySem.W.subIn K (.type "list") (.ref C) = some false
  tup : PySem.W.subIn K (.type "tuple") (.ref C) = some false
  dct : PySem.W.subIn K (.type "dict") (.ref C) = some false
  lst' : PySem.W.subIn K (.ref C) (.type "list") = some false
  tup' : PySem.W.subIn K (.ref C) (.type "tuple") = some false
  dct' : PySem.W.subIn K (.ref C) (.type "dict") = some false
theorem noSub_of {pins : List (Addr × Obj)} {σ : St} {H : Hp} {s : Shared} {T : String} (I : Inv X pins σ H s)
    (h : PySem.W.subIn X.K (.ref C) (.type T) = some false) : NoSub C T s.heap := fun _ => PySem.W.looks_subIn I.kIn h

theorem kind_none (nk : NoKin X.K C) : OtherKind X C .non (.type "NoneType") (fun _ _ => True) where
  ne := rfl
  sub := nk.none
  ty := by
    intro pins s σ H v I rv _
    obtain rfl := rv
    exact .now
  dec := by
    intro A pins s σ H x v dx fs Q E hu I rv _ hx k
    obtain rfl := rv
    exact wpAny_tryCompare_declines (T := "NoneType") rfl F.slot_NoneType_eq
      (call_gives F.slot_NoneType_eq rfl F.entry_NoneType_eq (F.args_NoneType_eq_2 _ _) (NoneType___eq___none_ref_0 x) ⟨rfl, k _ I⟩)
  mono := fun _ _ _ h => h
  notSame := by
    intro pins s σ H x v dx fs A Q E I rv _ hx q
    obtain rfl := rv
    exact wpAny_of_eq (rfl : isSame (.ref x) .none = pure false) q
theorem kind_int (i : Int) (nk : NoKin X.K C) : OtherKind X C (.int i) (.type "int") (fun _ _ => True) where
  ne := rfl
  sub := nk.int
  ty := by
    intro pins s σ H v I rv _
    obtain ⟨t, rfl⟩ := rv
    exact .now
  dec := by
    intro A pins s σ H x v dx fs Q E hu I rv _ hx k
    obtain ⟨t, rfl⟩ := rv
    obtain ⟨mA, J, _⟩ := ins_get I.hok hx
    exact wpAny_tryCompare_declines (T := "int") (typeIs_int _ _ _) F.slot_int_eq
      (call_meets F.slot_int_eq (typeIs_int _ _ _) F.entry_int_eq (F.args_int_eq_2 _ _) (int_eq_ni i t x C dx) ⟨J.1, rfl, k _ I⟩)
  mono := fun _ _ _ h => h
  notSame := by
    intro pins s σ H x v dx fs A Q E I rv _ hx q
    obtain ⟨t, rfl⟩ := rv
    exact wpAny_of_eq (rfl : isSame (.ref x) (.int i t) = pure false) q
theorem kind_str (z : Str) (nk : NoKin X.K C) : OtherKind X C (.str z) (.type "str") (fun _ _ => True) where
  ne := rfl
  sub := nk.str
  ty := by
    intro pins s σ H v I rv _
    obtain ⟨t, rfl⟩ := rv
    exact .now
  dec := by
    intro A pins s σ H x v dx fs Q E hu I rv _ hx k
    obtain ⟨t, rfl⟩ := rv
    obtain ⟨mA, J, _⟩ := ins_get I.hok hx
    exact wpAny_tryCompare_declines (T := "str") (typeIs_str _ _ _) F.slot_str_eq
      (call_meets F.slot_str_eq (typeIs_str _ _ _) F.entry_str_eq (F.args_str_eq_2 _ _) (str_eq_ni z t x C dx) ⟨J.1, rfl, k _ I⟩)
  mono := fun _ _ _ h => h
  notSame := by
    intro pins s σ H x v dx fs A Q E I rv _ hx q
    obtain ⟨t, rfl⟩ := rv
    exact wpAny_of_eq (rfl : isSame (.ref x) (.str z t) = pure false) q
theorem kind_list (l : Addr) (nk : NoKin X.K C) : OtherKind X C (.ref l) (.type "list") (fun _ H => ∃ xs, H l = some (.lst xs)) where
  ne := rfl
  sub := nk.lst
  ty := by
    intro pins s σ H v I rv ⟨xs, hl⟩
    obtain rfl := rv
    obtain ⟨_, its, n, _, e⟩ := (show ObjOk X.prog X.w H s.heap l (.lst xs) from I.hok l _ hl)
    exact (PySem.W.Looks.ld (part := none) e).andThen .now
  dec := by
    intro A pins s σ H x v dx fs Q E hu I rv ⟨xs, hl⟩ hx k
    obtain rfl := rv
    obtain ⟨_, its, n, _, e⟩ := (show ObjOk X.prog X.w H s.heap l (.lst xs) from I.hok l _ hl)
    obtain ⟨mA, J, _⟩ := ins_get I.hok hx
    exact wpAny_tryCompare_declines (T := "list") ⟨_, e, rfl⟩ F.slot_list_eq
      (call_meets F.slot_list_eq ⟨_, e, rfl⟩ F.entry_list_eq (F.args_list_eq_2 _ _) (list_eq_ni l x C dx _ _ _ _) ⟨e, J.1, noSub_of I nk.lst', rfl, k _ I⟩)
  mono := fun _ _ sm ⟨xs, h⟩ => ⟨xs, sm _ _ h⟩
  notSame := by
    intro pins s σ H x v dx fs A Q E I rv ⟨xs, hl⟩ hx q
    obtain rfl := rv
    obtain ⟨_, its, n, _, e⟩ := (show ObjOk X.prog X.w H s.heap l (.lst xs) from I.hok l _ hl)
    obtain ⟨mA, J, _⟩ := ins_get I.hok hx
    exact wpAny_isSame_ref_other' (ne_of hx hl (by intro z; cases z)) J.1 e (show Value.type "list" ≠ Value.type "tuple" by decide) q
theorem same_left {M : Model} {A : Around} {E : Value → Shared → Prop} {s : Shared} {x y : Addr} {ox oy : Obj} {R : Bool → Shared → Prop} (ne : x ≠ y)
    (hx : s.heap.get? x = some ox) (hy : s.heap.get? y = some oy) (hnt : ox.cls ≠ .type "tuple") (h : R false s) :
    wpAny M A (isSame (.ref x) (.ref y)) R E s := by
  show wpAny M A (if (x == y) = true then pure true else _) R E s
  rw [if_neg (fun z => ne (beq_iff_eq.mp z))]
  refine wpAny_bind (wpAny_load hx (wpAny_bind (wpAny_load hy ?_)))
  split
  · rename_i _ h1 _ _ _
    exact absurd h1 hnt
  · exact wpAny_pure h
theorem kind_tup (l : Addr) (nk : NoKin X.K C) : OtherKind X C (.ref l) (.type "tuple") (fun _ H => ∃ xs, H l = some (.tup xs)) where
  ne := rfl
  sub := nk.tup
  ty := by
    intro pins s σ H v I rv ⟨xs, hl⟩
    obtain rfl := rv
    obtain ⟨_, its, _, o, e, c, n, hd⟩ := (show ObjOk X.prog X.w H s.heap l (.tup xs) from I.hok l _ hl)
    obtain ⟨cls, dd, data, sl⟩ := o
    simp only at c hd
    subst c hd
    exact (PySem.W.Looks.ld (part := none) e).andThen .now
  dec := by
    intro A pins s σ H x v dx fs Q E hu I rv ⟨xs, hl⟩ hx k
    obtain rfl := rv
    obtain ⟨_, its, _, o, e, c, n, hd⟩ := (show ObjOk X.prog X.w H s.heap l (.tup xs) from I.hok l _ hl)
    obtain ⟨cls, dd, data, sl⟩ := o
    simp only at c hd
    subst c hd
    obtain ⟨mA, J, _⟩ := ins_get I.hok hx
    exact wpAny_tryCompare_declines (T := "tuple") ⟨_, e, rfl⟩ F.slot_tuple_eq
      (call_meets F.slot_tuple_eq ⟨_, e, rfl⟩ F.entry_tuple_eq (F.args_tuple_eq_2 _ _) (tuple_eq_ni l x C dx _ _ _ _) ⟨e, J.1, noSub_of I nk.tup', rfl, k _ I⟩)
  mono := fun _ _ sm ⟨xs, h⟩ => ⟨xs, sm _ _ h⟩
  notSame := by
    intro pins s σ H x v dx fs A Q E I rv ⟨xs, hl⟩ hx q
    obtain rfl := rv
    obtain ⟨_, its, _, o, e, c, n, hd⟩ := (show ObjOk X.prog X.w H s.heap l (.tup xs) from I.hok l _ hl)
    obtain ⟨mA, J, _⟩ := ins_get I.hok hx
    exact same_left (ne_of hx hl (by intro z; cases z)) J.1 e (by intro z; cases z) q
theorem kind_dict (l : Addr) (nk : NoKin X.K C) : OtherKind X C (.ref l) (.type "dict") (fun _ H => ∃ kvs, H l = some (.dK kvs)) where
  ne := rfl
  sub := nk.dct
  ty := by
    intro pins s σ H v I rv ⟨kvs, hl⟩
    obtain rfl := rv
    obtain ⟨_, _, vs, _, o, es, ep, e, c, _⟩ := (show ObjOk X.prog X.w H s.heap l (.dK kvs) from I.hok l _ hl)
    have c1 : o.cls = .type "dict" := c.1
    obtain ⟨cls, dd, data, sl⟩ := o
    simp only at c1
    subst c1
    exact (PySem.W.Looks.ld (part := none) e).andThen .now
  dec := by
    intro A pins s σ H x v dx fs Q E hu I rv ⟨kvs, hl⟩ hx k
    obtain rfl := rv
    obtain ⟨_, _, vs, _, o, es, ep, e, c, _⟩ := (show ObjOk X.prog X.w H s.heap l (.dK kvs) from I.hok l _ hl)
    obtain ⟨mA, J, _⟩ := ins_get I.hok hx
    exact wpAny_tryCompare_declines (T := "dict") ⟨_, e, c.1⟩ F.slot_dict_eq
      (call_meets F.slot_dict_eq ⟨_, e, c.1⟩ F.entry_dict_eq (F.args_dict_eq_2 _ _) (dict_eq_ni l x C dx o) ⟨e, c.1, J.1, noSub_of I nk.dct', rfl, k _ I⟩)
  mono := fun _ _ sm ⟨xs, h⟩ => ⟨xs, sm _ _ h⟩
  notSame := by
    intro pins s σ H x v dx fs A Q E I rv ⟨kvs, hl⟩ hx q
    obtain rfl := rv
    obtain ⟨_, _, vs, _, o, es, ep, e, c, _⟩ := (show ObjOk X.prog X.w H s.heap l (.dK kvs) from I.hok l _ hl)
    obtain ⟨mA, J, _⟩ := ins_get I.hok hx
    exact same_left (ne_of hx hl (by intro z; cases z)) J.1 e (by intro z; cases z) q
end
end L2.Gd
end

section
set_option Elab.async false
set_option linter.all false
set_option maxRecDepth 100000
set_option maxHeartbeats 2000000
/-! == and != of two instances of an own class that has an __eq__ alone. -/
namespace L2.Gd
open PySem PySem.Spec PyProof.Rows
section
variable {X : Cx} {C f N : Addr} {n : Nat} {fd : FuncData} {ps : List Str} {sp : Sp}

/-- the callee runs, somewhere below the body -/
theorem run_at (F : FnOk X.prog X.w X.K X.mg X.base CX0 n f fd ps sp) (hb : Binds X.K fd ps []) {A : Around} (sb : Sub X n A)
    {pins : List (Addr × Obj)} {σ : St} {H : Hp} {s : Shared} {Q : VK} {us : List Value} {vs : List V}
    (I : Inv X pins σ H s) (r : Vals vs us) (h : sp vs H Q E0) {E : Value → Shared → Prop} :
    wpAny (model X.prog X.w) A (call (.ref f) us) (EP X pins σ Q) E s := by
  have e := I.env0
  have e0 : Env0 X.prog X.w X.K X.mg X.base A X.stack s H := ⟨sb.fr.trans e.frames, e.mod, e.bs, e.bsz, e.funs, e.frf, e.hok, e.bare⟩
  have hl : (us ++ []).length = ps.length := by
    rw [List.append_nil, ← r.length]
    exact F.len _ _ _ _ h
  have hb2 := hb s us I.kIn hl
  rw [List.append_nil] at hb2
  refine wpAny_call (codeAny_mono (F.run A X.stack s H ⟨us, []⟩ us vs Q E0 sb.room e0 hb2 r h) ?_)
  intro res s' hq
  cases res with
  | error er => exact (show False from hq).elim
  | ok fl =>
    cases fl with
    | ret u => exact I.after hq
    | next => exact hq.elim
    | brk => exact hq.elim
    | cont => exact hq.elim

theorem binds2 (hb : Binds X.K fd ps []) : Binds X.K fd ps [] := hb

/-- x == y, two instances of the class at C -/
theorem op_eqOwn (hr : Room n X.A) (F : FnOk X.prog X.w X.K X.mg X.base CX0 n f fd ps sp) (hb : Binds X.K fd ps [])
    (hs : PySem.W.findIn X.K (.ref C) "__eq__" = some (some (.ref f))) (hf : PySem.W.isFn X.K (.ref f) = true) :
    OpR X (compareOp .Eq) (fun x y H Q => ∃ (a b dx dy : Addr) (fs gs : List (Str × V)), x = .ref a ∧ y = .ref b ∧
      H a = some (.ins C dx fs) ∧ H b = some (.ins C dy gs) ∧ sp [.ref a, .ref b] H (fun v H' => (∃ k, v = .bl k) ∧ Q v H') E0) := by
  rintro pins s σ H x y u v Q I rx ry ⟨a, b, dx, dy, fs, gs, rfl, rfl, ha, hb', h⟩
  obtain rfl := rx
  obtain rfl := ry
  obtain ⟨mA, J, _⟩ := ins_get I.hok ha
  obtain ⟨mB, J', _⟩ := ins_get I.hok hb'
  obtain ⟨od, J, _⟩ := J.look
  obtain ⟨od', J', _⟩ := J'.look
  obtain ⟨m, fr⟩ := I.fr
  show wpAny _ _ (richCompare .Eq (.ref a) (.ref b)) _ _ _
  refine PySem.W.cmp_K (op := .Eq) (tb := .ref C) hr.units0 fr I.ok.mod.kin J J'.type (by simp [PySem.W.notFirst]) hs hf ?_
  refine thn (run_at (us := [.ref a, .ref b]) (vs := [.ref a, .ref b]) F hb ⟨hr, rfl⟩ I (.cons rfl (.cons rfl .nil)) h) ?_
  rintro r s' ⟨z, H', I', rz, ⟨k, rfl⟩, q⟩
  obtain rfl := rz
  exact ⟨.bl k, H', I', rfl, q⟩

/-- what the text's class must have for != by its own == -/
structure NeC (K : PySem.W.Frag) (C f N : Addr) : Prop where
  cls : ∃ nm q bs sn sub ab col dd k0 k1 k2 k3 k5 newId, K.lookup C = some (excClassObj nm q C N bs [.type "object"] true sn sub ab col dd k0 k1 k2 k3 k5 newId)
  ok : PySem.W.nsOkIn K N = true
  eq : PySem.W.nsIn K N "__eq__" = some (some (.ref f))
  ne : PySem.W.nsIn K N "__ne__" = some none
  fn : ∃ o, K.lookup f = some o ∧ o.cls = .type "function"

theorem ns_some {K : PySem.W.Frag} {h : Heap} {N : Addr} {m : Str → Option Value} {x : Str} {v : Value} (k : K.In h) (G : h.Ns N m)
    (e : PySem.W.nsIn K N x = some (some v)) : m x = some v := by
  obtain ⟨o, es, ep, ho, hd, _, hf⟩ := G
  unfold PySem.W.nsIn at e
  split at e
  · rename_i c d es' n' sl q
    cases ho.symm.trans (k _ _ q)
    cases hd
    split at e
    · rename_i en he
      cases e
      rw [← hf]
      unfold nsFind findBy
      rw [← Array.find?_toList, he]
      rfl
    · split at e
      · cases e
      · cases e
  · cases e
theorem NeC.heap {K : PySem.W.Frag} {h : Heap} (c : NeC K C f N) (k : K.In h) {x : Addr} {o : Obj} (hx : h.get? x = some o) (hc : o.cls = .ref C) :
    h.OwnEqNoNe x C f "object" [.type "object"] := by
  obtain ⟨nm, q, bs, sn, sub, ab, col, dd, k0, k1, k2, k3, k5, newId, hC⟩ := c.cls
  obtain ⟨of, hf, ft⟩ := c.fn
  have ns := Heap.Ns.of_isNs (PySem.W.isNs_of_in k c.ok)
  exact ⟨o, of, nm, q, N, bs, true, sn, sub, ab, col, dd, k0, k1, k2, k3, k5, newId, _, _, hx, hc, k _ _ hC, ns,
    ns_some k ns c.eq, k _ _ hf, ft, PySem.F.cmp_object.mro, PySem.F.cmp_object.eq.lookup, PySem.W.nsMap_none_of_in k c.ok c.ne⟩

/-- x != y -/
theorem op_neOwn (hr : Room (n + 1) X.A) (F : FnOk X.prog X.w X.K X.mg X.base CX0 n f fd ps sp) (hb : Binds X.K fd ps []) (c : NeC X.K C f N) :
    OpR X (compareOp .NotEq) (fun x y H Q => ∃ (a b dx dy : Addr) (fs gs : List (Str × V)), x = .ref a ∧ y = .ref b ∧
      H a = some (.ins C dx fs) ∧ H b = some (.ins C dy gs) ∧
      sp [.ref a, .ref b] H (fun v H' => ∃ k, v = .bl k ∧ Q (.bl (!k)) H') E0) := by
  rintro pins s σ H x y u v Q I rx ry ⟨a, b, dx, dy, fs, gs, rfl, rfl, ha, hb', h⟩
  obtain rfl := rx
  obtain rfl := ry
  obtain ⟨mA, J, _⟩ := ins_get I.hok ha
  obtain ⟨mB, J', _⟩ := ins_get I.hok hb'
  show wpAny _ _ (richCompare .NotEq (.ref a) (.ref b)) _ _ _
  obtain ⟨hp, g, d, t, os⟩ := s
  refine richCompare_ne_ownEq PySem.F.cmp_object (c.heap I.kIn J.1 rfl) J'.1 rfl (by have := hr.units; omega) ?_
  refine thn (run_at (us := [.ref a, .ref b]) (vs := [.ref a, .ref b]) F hb (A := X.A.in1) ⟨hr.in1, rfl⟩ I (.cons rfl (.cons rfl .nil)) h) ?_
  rintro r s' ⟨z, H', I', rz, k, rfl, q⟩
  obtain rfl := rz
  exact ⟨k, rfl, .bl (!k), H', I', rfl, q⟩
end
end L2.Gd
end

section
set_option Elab.async false
set_option linter.all false
set_option maxRecDepth 100000
set_option maxHeartbeats 2000000
namespace L2.Gd
open PySem PySem.Spec PyProof.Rows
section
variable {X : Cx} {k : Nat} {f C : Addr} {fd : FuncData} {ps ks : List Str} {sp : Sp} {x m : Str} {p pos apos : Pos}
  {o : Expr} {kws : List Keyword} {ta tk : TE} {tks : TA} {g : List Value → List Value → List Value} {gV : List V → List V → List V}
/-- a call with keywords alone of a def: it binds by KBn -/
theorem run_kw {pins : List (Addr × Obj)} {σ : St} {H : Hp} {s : Shared} {Q : VK} {us ws : List Value} {vs zs : List V} {n : Nat}
    (F : FnOk X.prog X.w X.K X.mg X.base CX0 k f fd ps sp) (hr : Room k X.A) (hb : KBn X.K fd ps n ks g gV)
    (I : Inv X pins σ H s) (r : Vals vs us) (rz : Vals zs ws) (l1 : vs.length = n) (l2 : zs.length = ks.length)
    (h : sp (gV vs zs) H Q E0) : wpAny (model X.prog X.w) X.A (call (.ref f) us (ks.zip ws)) (EP X pins σ Q) X.xe s := by
  have n1 : us.length = n := r.length.symm.trans l1
  have n2 : ws.length = ks.length := rz.length.symm.trans l2
  refine wpAny_call (codeAny_mono (F.run X.A X.stack s H ⟨us, ks.zip ws⟩ (g us ws) (gV vs zs) Q E0 hr I.env0
    (hb.to s us ws I.kIn n1 n2) (hb.rel r rz) h) ?_)
  intro res s' hq
  cases res with
  | error er => exact (show False from hq).elim
  | ok fl =>
    cases fl with
    | ret u => exact I.after hq
    | next => exact hq.elim
    | brk => exact hq.elim
    | cont => exact hq.elim
/-- o.m(k = v, ..), o an instance of the class at C -/
def tMethK (C : Addr) (m : Str) (n : Nat) (sp : Sp) (gV : List V → List V → List V) (ta : TE) (tk : TA) : TE := fun σ H Q =>
  ta σ H fun x H1 => ∃ a dx fs, x = .ref a ∧ H1 a = some (.ins C dx fs) ∧ fs.lookup m = none ∧
    tk σ H1 fun zs H2 => zs.length = n ∧ sp (gV [x] zs) H2 Q E0
theorem pe_methK0 {pl : Sem Bool} (he : PE X o ta) (c : Cls X.K C) (hm : Meth X.K C m f)
    (F : FnOk X.prog X.w X.K X.mg X.base CX0 k f fd ps sp) (hr : Room k X.A) (hb : KBn X.K fd ps 1 ks g gV) (hkw : PK X kws tks)
    (hall : (backToKw pos (keywordEach kws X.env)).all (·.1.isSome) = true := by rfl)
    (hks : (backToKw pos (keywordEach kws X.env)).filterMap (·.1) = ks := by rfl)
    (hpl : ((backTo pos (starEach [] X.env)).any (·.1) || (backToKw pos (keywordEach kws X.env)).any (·.1.isNone)) = false := by rfl)
    (ht : eval (.Call (.Attribute o m apos) [] kws pos) X.env = (do
      let ov ← eval o X.env
      standAt apos.atName
      let (f, first) ← holding [ov] (getMethod ov m pl)
      callWith pos f first (backTo pos (starEach [] X.env))
        (backToKw pos (keywordEach kws X.env))) := by rfl) :
    PE X (.Call (.Attribute o m apos) [] kws pos) (tMethK C m ks.length sp gV ta tks) := by
  constructor
  intro pins s σ H Q I h
  refine PySem.W.methodCall_KW (pl := pl) (thn (he.run pins s σ H _ I h) ?_) ht
  rintro u s1 ⟨x, H1, I1, rx, a, dx, fs, rfl, ea, l, q⟩
  obtain rfl := rx
  refine getmeth_ok I1 ea c hm l ?_
  refine PySem.W.callWith_KW0 (first := [.ref a]) (h₀ := X.base) I.ok.mod.kin hm.kp hall ?_ hpl
  refine thn (hkw.run pos pins s1 σ H1 _ I1 q) ?_
  rintro ws s2 ⟨zs, H2, I2, rz, l2, q2⟩
  refine ⟨I2.kIn, ?_⟩
  rw [hks]
  have r1 : Vals [V.ref a] [Value.ref a] := .cons rfl .nil
  exact run_kw (us := [Value.ref a]) (vs := [V.ref a]) F hr hb I2 r1 rz rfl l2 q2
end
end L2.Gd
end

section
set_option Elab.async false
set_option linter.all false
set_option maxRecDepth 100000
set_option maxHeartbeats 2000000
namespace L2.K71
open PySem PySem.Spec PyProof.Rows
def top (i : Nat) : Stmt := PySem.Challenge.pw_lonetill_k71_whole_least_roofs_by_plain.main.body.getD i (.Pass ⟨0, 0, 0, 0⟩)
abbrev sIsInt : Stmt := top 2
abbrev sIsCount : Stmt := top 3
abbrev sIsList : Stmt := top 4
abbrev sIsDeed : Stmt := top 52
abbrev sCheck : Stmt := top 53
abbrev cHouse (i : Nat) : Stmt := inClass (top 54) i

/-- built-in names that the module leaves alone -/
structure Nm (mg : Str → Option Value) : Prop where
  isi : mg "isinstance" = none
  int : mg "int" = none
  bool : mg "bool" = none
  list : mg "list" = none
  tuple : mg "tuple" = none
  str : mg "str" = none
  len : mg "len" = none
  all : mg "all" = none
  any : mg "any" = none
  enumerate : mg "enumerate" = none
  range : mg "range" = none
  sorted : mg "sorted" = none
  abs : mg "abs" = none
  max : mg "max" = none
  min : mg "min" = none
  repr : mg "repr" = none
  divmod : mg "divmod" = none
  ni : mg "NotImplemented" = none

/-! ### deeds -/
structure Dd where
  p : Int
  c : Int
  g : Int
  w : Str
  deriving DecidableEq
def Dd.vs (x : Dd) : List V := [.int x.p, .int x.c, .int x.g, .str x.w]
def Dd.d (x : Dd) : PyData := .tuple [.int x.p, .int x.c, .int x.g, .str x.w]
structure Dd.Ok (n : Int) (x : Dd) : Prop where
  p0 : 0 ≤ x.p
  pn : x.p < n
  g0 : 0 ≤ x.g
  gn : x.g < n
  w : (x.w = "any" ∧ -1 ≤ x.c ∧ x.c ≤ 1) ∨ (x.w = "empty" ∧ 0 ≤ x.c ∧ x.c ≤ 1)
def DdAt (H : Hp) (v : V) (x : Dd) : Prop := ∃ t, v = .ref t ∧ H t = some (.tup x.vs)

section
variable {P : Program} {w : World} {K : PySem.W.Frag} {mg : Str → Option Value} {base : Heap}

/-- what isinstance(x, T) asks, T a built-in type -/
theorem isi_mk {H : Hp} {v : V} {t T : String} {b : Bool} {Q : VK} (h : TyX K H v (.type t)) (e : kitB t T = some b) (q : Q (.bl b) H) :
    rIsi K [v, .ty T] H Q := ⟨_, _, _, _, b, rfl, .ty _, h, kit_ty e, q⟩
def tIsi (K : PySem.W.Frag) (te : TE) (T : String) : TE := fun σ H Q => te σ H fun v H1 => rIsi K [v, .ty T] H1 Q
theorem blT {p : Prop} [Decidable p] {Q : VK} {H : Hp} (h : p) (k : Q (.bl true) H) : Q (.bl (decide p)) H := by
  rw [decide_eq_true h]
  exact k
theorem blF {p : Prop} [Decidable p] {Q : VK} {H : Hp} (h : ¬ p) (k : Q (.bl false) H) : Q (.bl (decide p)) H := by
  rw [decide_eq_false h]
  exact k
theorem blNT {p : Prop} [Decidable p] {Q : VK} {H : Hp} (h : ¬ p) (k : Q (.bl true) H) : Q (.bl (!decide p)) H := by
  rw [decide_eq_false h]
  exact k
theorem blNF {p : Prop} [Decidable p] {Q : VK} {H : Hp} (h : p) (k : Q (.bl false) H) : Q (.bl (!decide p)) H := by
  rw [decide_eq_true h]
  exact k
section
variable {X : Cx} {e : Expr} {te : TE} {p q pos : Pos}
theorem pe_isInt (n : Nm X.mg) (he : PE X e te) (g1 : Gl X "isinstance" := by rfl) (g2 : Gl X "int" := by rfl)
    (s1 : starEach [e, .Name "int" q] X.env = (false, eval e X.env) :: starEach [.Name "int" q] X.env := by rfl)
    (s2 : starEach [.Name "int" q] X.env = (false, eval (.Name "int" q) X.env) :: starEach [] X.env := by rfl)
    (hpl : (backTo pos (starEach [.Name "int" q] X.env)).any (·.1) = false := by rfl) :
    PE X (.Call (.Name "isinstance" p) [e, .Name "int" q] [] pos) (tIsi X.K te "int") :=
  pe_callB call_isi g1 n.isi (by decide +kernel) (pa_cons he (pa_cons (pe_bltn (v := .ty "int") g2 n.int (by decide +kernel) rfl) pa_nil s2) s1) (he := s1) (hpl := hpl)
theorem pe_isBool (n : Nm X.mg) (he : PE X e te) (g1 : Gl X "isinstance" := by rfl) (g2 : Gl X "bool" := by rfl)
    (s1 : starEach [e, .Name "bool" q] X.env = (false, eval e X.env) :: starEach [.Name "bool" q] X.env := by rfl)
    (s2 : starEach [.Name "bool" q] X.env = (false, eval (.Name "bool" q) X.env) :: starEach [] X.env := by rfl)
    (hpl : (backTo pos (starEach [.Name "bool" q] X.env)).any (·.1) = false := by rfl) :
    PE X (.Call (.Name "isinstance" p) [e, .Name "bool" q] [] pos) (tIsi X.K te "bool") :=
  pe_callB call_isi g1 n.isi (by decide +kernel) (pa_cons he (pa_cons (pe_bltn (v := .ty "bool") g2 n.bool (by decide +kernel) rfl) pa_nil s2) s1) (he := s1) (hpl := hpl)
theorem pe_isTuple (n : Nm X.mg) (he : PE X e te) (g1 : Gl X "isinstance" := by rfl) (g2 : Gl X "tuple" := by rfl)
    (s1 : starEach [e, .Name "tuple" q] X.env = (false, eval e X.env) :: starEach [.Name "tuple" q] X.env := by rfl)
    (s2 : starEach [.Name "tuple" q] X.env = (false, eval (.Name "tuple" q) X.env) :: starEach [] X.env := by rfl)
    (hpl : (backTo pos (starEach [.Name "tuple" q] X.env)).any (·.1) = false := by rfl) :
    PE X (.Call (.Name "isinstance" p) [e, .Name "tuple" q] [] pos) (tIsi X.K te "tuple") :=
  pe_callB call_isi g1 n.isi (by decide +kernel) (pa_cons he (pa_cons (pe_bltn (v := .ty "tuple") g2 n.tuple (by decide +kernel) rfl) pa_nil s2) s1) (he := s1) (hpl := hpl)
theorem pe_isStr (n : Nm X.mg) (he : PE X e te) (g1 : Gl X "isinstance" := by rfl) (g2 : Gl X "str" := by rfl)
    (s1 : starEach [e, .Name "str" q] X.env = (false, eval e X.env) :: starEach [.Name "str" q] X.env := by rfl)
    (s2 : starEach [.Name "str" q] X.env = (false, eval (.Name "str" q) X.env) :: starEach [] X.env := by rfl)
    (hpl : (backTo pos (starEach [.Name "str" q] X.env)).any (·.1) = false := by rfl) :
    PE X (.Call (.Name "isinstance" p) [e, .Name "str" q] [] pos) (tIsi X.K te "str") :=
  pe_callB call_isi g1 n.isi (by decide +kernel) (pa_cons he (pa_cons (pe_bltn (v := .ty "str") g2 n.str (by decide +kernel) rfl) pa_nil s2) s1) (he := s1) (hpl := hpl)
end

theorem yes_ite {σ : L2.St} {H : Hp} {A B : Hp → Prop} (h : A H) : tYes σ H (fun b H3 => if b = true then A H3 else B H3) := by
  show if true = true then A H else B H
  exact iteT h
def spIsInt : Sp := fun vs H Q _ => ∃ i, vs = [.int i] ∧ Q (.bl true) H
theorem scI : FnScope ["value"] ["value"] (defScope sIsInt) := ⟨rfl, rfl, rfl, by decide +kernel, rfl, by decide +kernel, by decide +kernel⟩
theorem ok_isInt {f : Addr} {fd : FuncData} (F : Fun K "is_integer" "is_integer" sIsInt f fd) (n : Nm mg) : FnOk P w K mg base CX0 1 f fd ["value"] spIsInt := by
  refine F.ok scI (fun vs H Q E h => ?_) (fun cdv A outer s H vs Q E hr h => ?_)
  · obtain ⟨i, rfl, _⟩ := h
    rfl
  · obtain ⟨i, rfl, k⟩ := h
    refine ⟨_, pss_one (ps_ret (pe_and (pe_isInt n (pv 0)) (pe_one (pe_not (pe_isBool n (pv 0)))))), ?_⟩
    refine ⟨_, rfl, isi_mk (t := "int") (b := true) (.base (.int _)) (by decide +kernel) ⟨true, rfl, iteT ?_⟩⟩
    exact ⟨_, rfl, isi_mk (t := "int") (b := false) (.base (.int _)) (by decide +kernel) ⟨false, rfl, k⟩⟩

/-- a def called by its name: what a caller needs of it -/
structure Fn (P : Program) (w : World) (K : PySem.W.Frag) (mg : Str → Option Value) (base : Heap) (k : Nat) (x : Str) (ps : List Str) (sp : Sp) : Prop where
  ex : ∃ f fd, mg x = some (.ref f) ∧ PySem.W.keepIn K (.ref f) = true ∧ Binds K fd ps [] ∧ FnOk P w K mg base CX0 k f fd ps sp
theorem pe_fn {X : Cx} {k : Nat} {x : Str} {ps : List Str} {sp : Sp} {e : Expr} {es : List Expr} {t : TA} {p pos : Pos}
    (F : Fn X.prog X.w X.K X.mg X.base k x ps sp) (hr : Room k X.A) (ha : PA X (e :: es) t) (gl : Gl X x := by rfl) (hdb : (x == ("__debug__" : Str)) = false := by decide)
    (he : starEach (e :: es) X.env = (false, eval e X.env) :: starEach es X.env := by rfl)
    (hpl : (backTo pos (starEach es X.env)).any (·.1) = false := by rfl) :
    PE X (.Call (.Name x p) (e :: es) [] pos) (tCall sp [] E0 t) := by
  obtain ⟨f, fd, m, kp, b, G⟩ := F.ex
  exact pe_call G hr gl m kp b .nil pass0 ha hdb he hpl

def spIsCount : Sp := fun vs H Q _ => ∃ i, vs = [.int i] ∧ 0 ≤ i ∧ Q (.bl true) H
theorem scC : FnScope ["value"] ["value"] (defScope sIsCount) := ⟨rfl, rfl, rfl, by decide +kernel, rfl, by decide +kernel, by decide +kernel⟩
theorem ok_isCount {f : Addr} {fd : FuncData} (F : Fun K "is_count" "is_count" sIsCount f fd) (G : Fn P w K mg base 1 "is_integer" ["value"] spIsInt) : FnOk P w K mg base CX0 2 f fd ["value"] spIsCount := by
  refine F.ok scC (fun vs H Q E h => ?_) (fun cdv A outer s H vs Q E hr h => ?_)
  · obtain ⟨i, rfl, _⟩ := h
    rfl
  · obtain ⟨i, rfl, h0, k⟩ := h
    refine ⟨_, pss_one (ps_ret (pe_and (pe_fn G hr (pa_cons (pv 0) pa_nil)) (pe_one (pe_cmpR op_ge (pv 0) pe_int (nomark _))))), ?_⟩
    refine ⟨_, rfl, _, rfl, true, rfl, iteT ?_⟩
    refine ⟨_, rfl, _, _, rfl, rfl, ?_⟩
    exact blT (Q := Q) h0 k

theorem same_upd {H : Hp} {p : Addr} {o : HO} (h : H p = none) : Same H (upd H p o) := fun a u e => by
  rw [upd_ne (ne_of_none e h)]
  exact e
/-- a list or a tuple of these -/
def Seq (K : PySem.W.Frag) (H : Hp) (a : Addr) (xs : List V) : Prop := H a = some (.lst xs) ∨ H a = some (.tup xs)
def spIsList (K : PySem.W.Frag) : Sp := fun vs H Q _ => ∃ a xs, vs = [.ref a] ∧ Seq K H a xs ∧ ∀ H', Same H H' → Q (.bl true) H'
theorem scL : FnScope ["value"] ["value"] (defScope sIsList) := ⟨rfl, rfl, rfl, by decide +kernel, rfl, by decide +kernel, by decide +kernel⟩
theorem ok_isList {f : Addr} {fd : FuncData} (F : Fun K "is_list" "is_list" sIsList f fd) (n : Nm mg) : FnOk P w K mg base CX0 1 f fd ["value"] (spIsList K) := by
  refine F.ok scL (fun vs H Q E h => ?_) (fun cdv A outer s H vs Q E hr h => ?_)
  · obtain ⟨i, _, rfl, _⟩ := h
    rfl
  · obtain ⟨a, xs, rfl, hs, k⟩ := h
    refine ⟨_, pss_one (ps_ret (pe_callB call_isiT (by rfl) n.isi (by decide +kernel) (pa_cons (pv 0) (pa_cons (pe_tup (pa_cons (pe_bltn (v := .ty "list") (by rfl) n.list (by decide +kernel) rfl) (pa_cons (pe_bltn (v := .ty "tuple") (by rfl) n.tuple (by decide +kernel) rfl) pa_nil))) pa_nil)))), ?_⟩
    refine ⟨_, rfl, (by show 2 ≤ sizeLine; decide), fun p hp => ?_⟩
    have cs : Paired ClsV [V.ty "list", V.ty "tuple"] [Value.type "list", Value.type "tuple"] := .cons (.ty _) (.cons (.ty _) .nil)
    rcases hs with hs | hs
    · refine ⟨_, p, _, _, _, true, rfl, upd_same, cs, .base (.lst (by rw [upd_ne (ne_of_none hs hp)]; exact hs)), ?_, k _ (same_upd hp)⟩
      exact kitAny_cons (kit_ty (b := "list") (r := true) (by decide +kernel)) (fun z => nomatch z) (fun _ => rfl)
    · refine ⟨_, p, _, _, _, true, rfl, upd_same, cs, .base (.tup (by rw [upd_ne (ne_of_none hs hp)]; exact hs)), ?_, k _ (same_upd hp)⟩
      exact kitAny_cons (kit_ty (b := "list") (r := false) (by decide +kernel)) (fun _ => kitAny_cons (kit_ty (b := "tuple") (r := true) (by decide +kernel)) (fun z => nomatch z) (fun _ => rfl)) (fun z => nomatch z)

/-! ### is_deed: asked of deeds alone -/
def spIsDeed : Sp := fun vs H Q _ => ∃ (t : Addr) (x : Dd) (n : Int), vs = [.ref t, .int n] ∧ H t = some (.tup x.vs) ∧ x.Ok n ∧ ∀ H', Same H H' → Q (.bl true) H'
theorem scD : FnScope ["value", "places", "place", "change", "goal", "when", "end"] ["value", "places"] (defScope sIsDeed) := ⟨rfl, rfl, rfl, by decide +kernel, rfl, by decide +kernel, by decide +kernel⟩
theorem ok_isDeed {f : Addr} {fd : FuncData} (F : Fun K "is_deed" "is_deed" sIsDeed f fd) (n : Nm mg)
    (GI : Fn P w K mg base 1 "is_integer" ["value"] spIsInt) (GC : Fn P w K mg base 2 "is_count" ["value"] spIsCount) :
    FnOk P w K mg base CX0 3 f fd ["value", "places"] spIsDeed := by
  refine F.ok scD (fun vs H Q E h => ?_) (fun cdv A outer s H vs Q E hr h => ?_)
  · obtain ⟨t, x, m, rfl, _⟩ := h
    rfl
  · obtain ⟨t, x, m, rfl, ht, ok, k⟩ := h
    have nd := scD.nd
    refine ⟨_, pss_cons (ps_if (pw_or (pt_not (pt_val (pe_isTuple n (pv 0))))
          (pw_or1 (pt_cmpR op_ne (pe_callB call_len_seq (by rfl) n.len PySem.boot_len (pa_cons (pv 0) pa_nil)) pe_int (nomark _)))).pt pss_never pss_nil)
      (pss_cons (ps_asg (pv 0) (pg_tup rfl (pgs_cons (pg_name (i := 2) nd rfl (.inl rfl)) (pgs_cons (pg_name (i := 3) nd rfl (.inl rfl)) (pgs_cons (pg_name (i := 4) nd rfl (.inl rfl)) (pgs_cons (pg_name (i := 5) nd rfl (.inl rfl)) pgs_nil))))))
      (pss_cons (ps_if (pt_not (pt_val (pe_callB (cr_all rfl) (by rfl) n.all (by decide +kernel) (pa_cons
          (pe_lc (own := [("end", 6)]) (g := gName 6) (tt := tYes) rfl nd (pi_tup (pe_tup (pa_cons (pv 2) (pa_cons (pv 4) pa_nil)))) (blkOk_by (N := ["value", "places", "place", "change", "goal", "when", "end"]) (sc := defScope sIsDeed) (by decide +kernel))
            (fun _ _ _ _ _ => pg_name (i := 6) nd rfl (.inl rfl)) (fun _ _ _ _ _ => pts_nil)
            (fun _ _ _ _ _ => pe_and (pe_fn GC hr (pa_cons (pv 6) pa_nil)) (pe_one (pe_cmpR op_lt (pv 6) (pv 1) (nomark _))))) pa_nil)))) pss_never pss_nil)
      (pss_cons (ps_if (pw_or (pt_not (pt_val (pe_fn GI (hr.mono (by decide)) (pa_cons (pv 3) pa_nil)))) (pw_or1 (pt_not (pt_val (pe_isStr n (pv 5)))))).pt pss_never pss_nil)
      (pss_one (ps_ret (pe_or (pe_and (pe_cmpR op_eq (pv 5) pe_str (nomark _)) (pe_one (pe_chain op_le op_le (pe_un un_neg pe_int) (pv 3) pe_int)))
        (pe_one (pe_and (pe_cmpR op_eq (pv 5) pe_str (nomark _)) (pe_one (pe_chain op_le op_le pe_int (pv 3) pe_int))))))))) ), ?_⟩
    -- the first test: a tuple, of four
    refine ⟨_, rfl, isi_mk (t := "tuple") (b := true) (.base (.tup ht)) (by decide +kernel) ⟨true, rfl, iteF ?_⟩⟩
    refine ⟨_, rfl, t, x.vs, rfl, .inr (.inl (.inl ht)), rfl, false, rfl, iteF ?_⟩
    refine ⟨_, rfl, t, x.vs, rfl, .inl (.inl ht), rfl, _, _, rfl, _, _, rfl, _, _, rfl, _, _, rfl, rfl, ?_⟩
    -- all([is_count(end) and end < places for end in (place, goal)])
    refine ⟨_, rfl, _, rfl, (by show 2 ≤ sizeLine; decide), fun q hq => ⟨q, rfl, ⟨_, .inl (.inl upd_same)⟩, fun D hD => ?_⟩⟩
    have s1 := same_upd (o := .tup [V.int x.p, V.int x.g]) hq
    have nqD : q ≠ D := ne_of_none upd_same hD
    refine lc_tup (xs := [V.int x.p, V.int x.g]) (fun i H' => H' D = some (.lst (List.replicate i (.bl true))) ∧ ∀ b o, b ≠ D → upd H q (.tup [V.int x.p, V.int x.g]) b = some o → H' b = some o) ⟨upd_same, fun b o hb e => by rw [upd_ne hb]; exact e⟩ (fun i H' _ hI => .inl (.inl (hI.2 _ _ nqD upd_same))) ?_ ?_
    · intro i y H' hi hI
      have hy : ∃ z, y = V.int z ∧ 0 ≤ z ∧ z < m := by
        match i, hi with
        | 0, hi => cases hi; exact ⟨_, rfl, ok.p0, ok.pn⟩
        | 1, hi => cases hi; exact ⟨_, rfl, ok.g0, ok.gn⟩
      obtain ⟨z, rfl, z0, zn⟩ := hy
      refine ⟨rfl, yes_ite ?_⟩
      refine ⟨_, rfl, _, rfl, z0, true, rfl, iteT ?_⟩
      refine ⟨_, rfl, _, rfl, _, _, rfl, rfl, ?_⟩
      have hl : i < 2 := (List.getElem?_eq_some_iff.mp hi).1
      refine ⟨_, hI.1, (by rw [List.length_replicate]; exact small1000 (by omega)), ?_, fun b o hb e => by rw [upd_ne hb]; exact hI.2 b o hb e⟩
      rw [upd_same, List.replicate_succ']
      show some (HO.lst (List.replicate i (V.bl true) ++ [V.bl (decide (z < m))])) = _
      rw [decide_eq_true zn]
    · intro H' ⟨hD', hK'⟩
      have s2 : Same H H' := fun b o e => hK' b o (ne_of_none (s1 b o e) hD) (s1 b o e)
      have ht' : H' t = some (.tup x.vs) := s2 _ _ ht
      refine ⟨D, [true, true], rfl, .inl (.inl hD'), true, rfl, ?_⟩
      refine iteF ?_
      refine ⟨_, rfl, _, rfl, true, rfl, ?_⟩
      refine iteF ?_
      refine ⟨_, rfl, isi_mk (t := "str") (b := true) (.base (.str _)) (by decide +kernel) ⟨true, rfl, ?_⟩⟩
      refine iteF ?_
      have fin := k H' s2
      rcases ok.w with ⟨e, l, u⟩ | ⟨e, l, u⟩
      · refine ⟨_, rfl, rfl, true, congrArg V.bl (decide_eq_true (by rw [e])), ?_⟩
        refine iteT ?_
        refine ⟨1, rfl, _, rfl, _, _, rfl, rfl, true, congrArg V.bl (decide_eq_true l), ?_⟩
        refine iteT ?_
        refine ⟨_, _, rfl, rfl, true, congrArg V.bl (decide_eq_true u), ?_⟩
        exact iteT fin
      · have ne : ¬ V.str x.w = V.str "any" := by
          rw [e]
          decide +kernel
        refine ⟨_, rfl, rfl, false, congrArg V.bl (decide_eq_false ne), ?_⟩
        refine iteF ?_
        refine ⟨false, rfl, ?_⟩
        refine iteF ?_
        refine ⟨_, rfl, rfl, true, congrArg V.bl (decide_eq_true (by rw [e])), ?_⟩
        refine iteT ?_
        refine ⟨_, rfl, _, _, rfl, rfl, true, congrArg V.bl (decide_eq_true l), ?_⟩
        refine iteT ?_
        exact ⟨_, _, rfl, rfl, blT (Q := Q) u fin⟩
end
end L2.K71
end

section
set_option Elab.async false
set_option linter.all false
set_option maxRecDepth 100000
set_option maxHeartbeats 2000000
/-! enumerate of a tuple -/
namespace PyProof.Rows
open PySem
open Sem (wp)
open AutoSeq1 (wpAny_loadPart')
section
variable {prog : Program} {w : World} {A : Around} {E : Value → Shared → Prop} {s : Shared} {I T e : Addr} {i : Nat} {xs : Array Value} {x old : Value}
/-- the tuple's iterator, asked from within a builtin -/
theorem nextOf_tup {Q : Value → Shared → Prop} (it : IsTupIter s.heap I T i) (ht : IsTup s.heap T xs) (hx : xs[i]? = some x)
    (k : ∀ h', IsTupIter h' I T (i + 1) → Heap.SameBut I s.heap h' → Q x { s with heap := h' }) :
    wpAny (model prog w) A (Builtin.SmallTypes.nextOf (.ref I)) Q E s := by
  obtain ⟨o, oi, oc, od⟩ := id it
  obtain ⟨p, op, _, m, pd⟩ := ht
  unfold Builtin.SmallTypes.nextOf
  refine wpAny_bind (wpAny_callSpecial?_slot (name := Str.ofString "__next__") it.typeIs slot_tupleiter_next (wpAny_call_entry slot_tupleiter_next it.typeIs entry_tupleiter_next
    (?a : wpAny _ _ _ _ _ _) (args_tupleiter_next _)))
  show wpAny _ _ (field (.ref I) 0 >>= _) _ _ s
  refine wpAny_bind (wpAny_field oi od (x := .ref T) rfl ?_)
  show wpAny _ _ (if (Value.ref T == Value.none) = true then _ else _) _ _ s
  rw [if_neg (show ¬ ((Value.ref T == Value.none) = true) from Bool.false_ne_true)]
  show wpAny _ _ (field (.ref I) 1 >>= _) _ _ s
  refine wpAny_bind (wpAny_field oi od (x := .int i 0) rfl ?_)
  show wpAny _ _ (seqItems? (.ref T) >>= _) _ _ s
  refine wpAny_bind (wpAny_seqItems op pd ?_)
  simp only [hx, Int.toNat_natCast]
  refine wpAny_bind (wpAny_setField oi od (by simp) (wpAny_pure ⟨x, rfl, wpAny_pure (k _ ⟨_, Heap.get?_update_self _ oi (Obj.isFreed_of_fields (Obj.data_mapFields od _)), (Obj.cls_mapFields ..).trans oc, ?_⟩ (Heap.SameBut.update ..))⟩))
  rw [Obj.data_mapFields od]
  simp [rawInt]
theorem nextOf_tup_end {Q : Value → Shared → Prop} (hh : A.handled = none) (it : IsTupIter s.heap I T i) (ht : IsTup s.heap T xs) (hx : xs[i]? = none)
    (k : ∀ h' c, Heap.ExtBut I s.heap h' → (∃ o, h'.get? c = some o ∧ o.cls = .type "StopIteration") → E (.ref c) { s with heap := h' }) :
    wpAny (model prog w) A (Builtin.SmallTypes.nextOf (.ref I)) Q E s := by
  obtain ⟨o, oi, oc, od⟩ := id it
  obtain ⟨p, op, _, m, pd⟩ := ht
  unfold Builtin.SmallTypes.nextOf
  refine wpAny_bind (wpAny_callSpecial?_slot (name := Str.ofString "__next__") it.typeIs slot_tupleiter_next (wpAny_call_entry slot_tupleiter_next it.typeIs entry_tupleiter_next
    (?a : wpAny _ _ _ _ _ _) (args_tupleiter_next _)))
  show wpAny _ _ (field (.ref I) 0 >>= _) _ _ s
  refine wpAny_bind (wpAny_field oi od (x := .ref T) rfl ?_)
  show wpAny _ _ (if (Value.ref T == Value.none) = true then _ else _) _ _ s
  rw [if_neg (show ¬ ((Value.ref T == Value.none) = true) from Bool.false_ne_true)]
  show wpAny _ _ (field (.ref I) 1 >>= _) _ _ s
  refine wpAny_bind (wpAny_field oi od (x := .int i 0) rfl ?_)
  show wpAny _ _ (seqItems? (.ref T) >>= _) _ _ s
  refine wpAny_bind (wpAny_seqItems op pd ?_)
  simp only [hx, Int.toNat_natCast]
  refine wpAny_bind (wpAny_rule (wpAny_bind (wpAny_setField oi od (by simp) ?_)))
  show wpAny _ _ (newExc (.type "StopIteration") ([] : List Value) >>= _) _ _ _
  refine wpAny_bind ?_
  simp only [newTuple, newExc]
  refine wpAny_bind (wpAny_newObj_type ?_ (by size_fits))
  refine wpAny_bind (m := firstArgMember _ _) (wpAny_of_eq (a := Value.none) rfl ?_)
  refine wpAny_newObj_type ?_ (by size_fits)
  simp only [raiseNew]
  refine wpAny_bind (wpAny_handled ?_)
  rw [show A.in1.handled = none from hh]
  exact wpAny_bind (wpAny_pure (wpAny_throw (k _ _ (((Heap.SameBut.update ..).extBut.push _).push _) ⟨_, Heap.get?_push_size _ rfl, rfl⟩)))
/-- enumerate.__next__ over a tuple's iterator: a pair -/
theorem enumT_item {Q : Value → Shared → Prop} (he : IsEnum s.heap e I i old) (it : IsTupIter s.heap I T i) (ht : IsTup s.heap T xs) (hx : xs[i]? = some x) (ne : e ≠ I)
    (k : ∀ h', IsEnumOut h' e I ((i : Int) + 1) x s.heap.objs.size → IsTupIter h' I T (i + 1) →
      h'.get? s.heap.objs.size = some { cls := .type "tuple", data := .seq #[.int i s.toks, x] } → h'.objs.size = s.heap.objs.size + 1 →
      (∀ b o, b ≠ e → b ≠ I → s.heap.get? b = some o → h'.get? b = some o) → Q (.ref s.heap.objs.size) { s with heap := h', toks := s.toks + 1 }) :
    wpAny (model prog w) A (Builtin.«enumerate.__next__» ⟨[.ref e], []⟩) (fun r s' => ∃ v, r = .done (.ret v) ∧ Q v s') E s := by
  obtain ⟨hp, gs, dr, tk, os⟩ := s
  show wpAny _ _ (field (.ref e) 2 >>= _) _ _ (⟨hp, gs, dr, tk, os⟩ : Shared)
  refine wpAny_bind (wpAny_field he rfl (x := .ref I) rfl (wpAny_bind (nextOf_tup it ht hx ?_)))
  intro a1 ia1 (sa1 : Heap.SameBut I hp a1)
  have e1 : IsEnum a1 e I i old := (sa1.2 e ne).trans he
  show wpAny _ _ (field (.ref e) 3 >>= _) _ _ ⟨a1, gs, dr, tk, os⟩
  refine wpAny_bind (wpAny_field e1 rfl (x := rawInt i) rfl ?_)
  show wpAny _ _ (field (.ref e) 4 >>= _) _ _ ⟨a1, gs, dr, tk, os⟩
  refine wpAny_bind (wpAny_field e1 rfl (x := .none) rfl ?_)
  show wpAny _ _ (mkInt i >>= _) _ _ ⟨a1, gs, dr, tk, os⟩
  refine wpAny_bind (wpAny_mkInt ?_)
  show wpAny _ _ (setField (.ref e) 3 (rawInt ((i : Int) + 1)) >>= _) _ _ ⟨a1, gs, dr, tk + 1, os⟩
  refine wpAny_bind (wpAny_setField_rec e1 (by simp) ?_)
  intro a2 (e2 : IsEnum a2 e I ((i : Int) + 1) old) (sa2 : Heap.SameBut e a1 a2)
  show wpAny _ _ (setField (.ref e) 4 .none >>= _) _ _ ⟨a2, gs, dr, tk + 1, os⟩
  refine wpAny_bind (wpAny_setField_rec e2 (by simp) ?_)
  intro a3 (e3 : IsEnum a3 e I ((i : Int) + 1) old) (sa3 : Heap.SameBut e a2 a3)
  show wpAny _ _ (newTuple [.int i tk, x] >>= _) _ _ ⟨a3, gs, dr, tk + 1, os⟩
  refine wpAny_bind (wpAny_newTuple ?_)
  have z3 : a3.objs.size = hp.objs.size := by rw [sa3.1, sa2.1, sa1.1]
  have le : e < hp.objs.size := Heap.lt_size he
  have nz : hp.objs.size ≠ e := Nat.ne_of_gt le
  rw [z3]
  generalize hq : a3.push { cls := .type "tuple", data := .seq #[.int i tk, x] } = a4
  have e4 : IsEnum a4 e I ((i : Int) + 1) old := by
    rw [← hq]
    exact Heap.get?_push_of_some _ e3
  have t4 : a4.get? hp.objs.size = some { cls := .type "tuple", data := .seq #[.int i tk, x] } := by
    rw [← hq, ← z3]
    exact Heap.get?_push_size _ rfl
  have z4 : a4.objs.size = hp.objs.size + 1 := by rw [← hq, Heap.size_push, z3]
  have k4 : ∀ b o, b ≠ e → b ≠ I → hp.get? b = some o → a4.get? b = some o := by
    intro b o h1 h2 h3
    rw [← hq]
    exact Heap.get?_push_of_some _ (sa3.extBut b o h1 (sa2.extBut b o h1 (sa1.extBut b o h2 h3)))
  have i4 : IsTupIter a4 I T (i + 1) := by
    rw [← hq]
    obtain ⟨o, ho, r⟩ := (ia1.extBut sa2.extBut (Ne.symm ne)).extBut sa3.extBut (Ne.symm ne)
    exact ⟨o, Heap.get?_push_of_some _ ho, r⟩
  show wpAny _ _ (Builtin.SmallTypes.ownedTupleIsFree (.ref e) >>= _) _ _ ⟨a4, gs, dr, tk + 1, os⟩
  refine wpAny_bind ?_
  unfold Builtin.SmallTypes.ownedTupleIsFree
  refine wpAny_bind (wpAny_field e4 rfl (x := .none) rfl (wpAny_pure ?_))
  simp only [if_true]
  refine wpAny_bind (wpAny_rule (wpAny_bind (wpAny_field e4 rfl (x := old) rfl ?_)))
  refine wpAny_bind (wpAny_setField_rec e4 (by simp) ?_)
  intro a5 (e5 : IsEnum a5 e I ((i : Int) + 1) x) (sa5 : Heap.SameBut e a4 a5)
  show wpAny _ _ (Builtin.SmallTypes.ownedTupleHandOut (.ref e) (.ref hp.objs.size) >>= _) _ _ ⟨a5, gs, dr, tk + 1, os⟩
  refine wpAny_bind ?_
  unfold Builtin.SmallTypes.ownedTupleHandOut
  refine wpAny_bind (wpAny_setField_rec e5 (by simp) ?_)
  intro a6 (e6 : IsEnumOut a6 e I ((i : Int) + 1) x hp.objs.size) (sa6 : Heap.SameBut e a5 a6)
  refine wpAny_setField_rec e6 (by simp) ?_
  intro a7 (e7 : IsEnumOut a7 e I ((i : Int) + 1) x hp.objs.size) (sa7 : Heap.SameBut e a6 a7)
  refine wpAny_bind (wpAny_letGo (wpAny_pure ⟨_, rfl, k a7 e7 ?_ ?_ ?_ ?_⟩))
  · exact ((i4.extBut sa5.extBut (Ne.symm ne)).extBut sa6.extBut (Ne.symm ne)).extBut sa7.extBut (Ne.symm ne)
  · exact sa7.extBut _ _ nz (sa6.extBut _ _ nz (sa5.extBut _ _ nz t4))
  · rw [sa7.1, sa6.1, sa5.1, z4]
  · exact fun b o h1 h2 h3 => sa7.extBut b o h1 (sa6.extBut b o h1 (sa5.extBut b o h1 (k4 b o h1 h2 h3)))
theorem pyNext_enumT {Q : Option Value → Shared → Prop} (he : IsEnum s.heap e I i old) (it : IsTupIter s.heap I T i) (ht : IsTup s.heap T xs) (hx : xs[i]? = some x) (ne : e ≠ I)
    (k : ∀ h', IsEnumOut h' e I ((i : Int) + 1) x s.heap.objs.size → IsTupIter h' I T (i + 1) →
      h'.get? s.heap.objs.size = some { cls := .type "tuple", data := .seq #[.int i s.toks, x] } → h'.objs.size = s.heap.objs.size + 1 →
      (∀ b o, b ≠ e → b ≠ I → s.heap.get? b = some o → h'.get? b = some o) → Q (some (.ref s.heap.objs.size)) { s with heap := h', toks := s.toks + 1 }) :
    wpAny (model prog w) A (pyNext (.ref e)) Q E s := by
  have ty : s.TypeIs (.ref e) "enumerate" := ⟨_, he, rfl⟩
  unfold pyNext
  refine wpAny_bind (wpAny_attempt (wpAny_callSpecial?_slot (name := Str.ofString "__next__") ty F.slot_enumerate_next ?_))
  refine wpAny_call_entry F.slot_enumerate_next ty F.entry_enumerate_next ?_ (F.args_enumerate_next_1 _)
  exact enumT_item he it ht hx ne fun h' q1 q2 q3 q4 q5 => wpAny_pure (k h' q1 q2 q3 q4 q5)
theorem pyNext_enumT_end {Q : Option Value → Shared → Prop} (hh : A.handled = none) (he : IsEnum s.heap e I i old) (it : IsTupIter s.heap I T i) (ht : IsTup s.heap T xs) (hx : xs[i]? = none)
    (k : ∀ h', Heap.ExtBut I s.heap h' → Q none { s with heap := h' }) : wpAny (model prog w) A (pyNext (.ref e)) Q E s := by
  have ty : s.TypeIs (.ref e) "enumerate" := ⟨_, he, rfl⟩
  unfold pyNext
  refine wpAny_bind (wpAny_attempt (wpAny_callSpecial?_slot (name := Str.ofString "__next__") ty F.slot_enumerate_next ?_))
  refine wpAny_call_entry F.slot_enumerate_next ty F.entry_enumerate_next ?_ (F.args_enumerate_next_1 _)
  show wpAny _ _ (field (.ref e) 2 >>= _) _ _ s
  refine wpAny_bind (wpAny_field he rfl (x := .ref I) rfl (wpAny_bind (nextOf_tup_end hh it ht hx ?_)))
  rintro h' c q ⟨o, ho, hc⟩
  exact wpAny_bind (wpAny_isInstance (T := "StopIteration") (b := true) ⟨o, ho, hc⟩ isSubtype_stop (wpAny_pure (k _ q)))
/-- enumerate(t) -/
theorem call_enumT {Q : Value → Shared → Prop} (ht : IsTup s.heap T xs)
    (k : ∀ h', IsEnum h' (s.heap.objs.size + 1) s.heap.objs.size 0 .none → IsTupIter h' s.heap.objs.size T 0 →
      (∀ b o, s.heap.get? b = some o → h'.get? b = some o) → Q (.ref (s.heap.objs.size + 1)) { s with heap := h' }) :
    wpAny (model prog w) A (call (.type "enumerate") [.ref T]) Q E s := by
  obtain ⟨o, ho, hc, n, hd⟩ := id ht
  let mid := s.heap.push { cls := .type "tuple_iterator", data := .fields #[.ref T, .int 0 0] }
  let fin := mid.push { cls := .type "enumerate", data := .fields #[.none, .bool false, .ref s.heap.objs.size, rawInt 0, .none, .none] }
  have meets : Meets (Builtin.«enumerate.__new__» ⟨[.type "enumerate", .ref T], []⟩) (fun _ R s' => (∃ o, s'.heap.get? T = some o ∧ o.cls = .type "tuple" ∧ ∃ n, o.data = .seq xs n) ∧
      R (.ok (.ret (.ref (s'.heap.push { cls := .type "tuple_iterator", data := .fields #[.ref T, .int 0 0] }).objs.size)))
        { s' with heap := (s'.heap.push { cls := .type "tuple_iterator", data := .fields #[.ref T, .int 0 0] }).push { cls := .type "enumerate", data := .fields #[.none, .bool false, .ref s'.heap.objs.size, rawInt 0, .none, .none] } }) :=
    .of_wp fun prog w A R s' h => by
      obtain ⟨hp, g, d, tk, os⟩ := s'
      obtain ⟨hT, h⟩ := h
      obtain ⟨o', ho', _⟩ := id hT
      have sub := sub_enumerate
      have tu : IsTup (Shared.heap ⟨hp, g, d, tk, os⟩) T xs := hT
      wp_walk using wpAny_loadPart' ho'
      refine wpAny_stack_any fun st => wpAny_pure ?_
      split
      · rename_i c _ _ _ _ _
        cases (c == Value.type "enumerate") <;> (wp_walk using wpAny_loadPart' ho', iter_tuple tu; exact ⟨_, rfl, h⟩)
      · wp_walk using wpAny_loadPart' ho', iter_tuple tu
        exact ⟨_, rfl, h⟩
  have z : mid.objs.size = s.heap.objs.size + 1 := Heap.size_push ..
  have he : IsEnum fin (s.heap.objs.size + 1) s.heap.objs.size 0 .none := by
    have q := Heap.get?_push_size mid (o := { cls := .type "enumerate", data := .fields #[.none, .bool false, .ref s.heap.objs.size, rawInt 0, .none, .none] }) rfl
    rw [z] at q
    exact q
  refine callType_new F.called_enumerate (by decide) (F.typeCall_enumerate_1 _) (F.newCall_enumerate_1 _) (fun obj => F.args_object_init_2 obj _) F.entry_enumerate_new meets ⟨ht, ?_⟩
  show _ ∧ _
  rw [show (s.heap.push { cls := .type "tuple_iterator", data := .fields #[.ref T, .int 0 0] }).objs.size = s.heap.objs.size + 1 from z]
  exact ⟨⟨_, he, rfl⟩, k fin he ⟨_, Heap.get?_push_of_some _ (Heap.get?_push_size _ rfl), rfl, rfl⟩ fun b o q => Heap.get?_push_of_some _ (Heap.get?_push_of_some _ q)⟩
end
end PyProof.Rows

namespace L2.Gd
open PySem PySem.Spec PyProof.Rows
/-- the tuple at a: each item in a new pair -/
def IteT (K : PySem.W.Frag) (a : Addr) : It where
  go := fun i H => ∃ (xs : List V) (x : V), SqT K H a xs ∧ xs[i]? = some x
  yld := fun i H v H' => ∃ T x, v = .ref T ∧ H T = none ∧ H' = upd H T (.tup [.int (i : Nat), x]) ∧ ∀ xs, SqT K H a xs → xs[i]? = some x
  stop := fun i H => ∃ xs : List V, SqT K H a xs ∧ xs.length ≤ i
theorem turn_enumT {P : Program} {w : World} {K : PySem.W.Frag} {elts : List Expr} {kk : Nat} {tpos : Pos} (a e I : Addr) :
    Turn P w K (.Tuple elts kk tpos) (IteT K a) [e, I] e (fun i h => (∃ old, IsEnum h e I ((i : Nat) : Int) old) ∧ IsTupIter h I a i ∧ e ≠ I) where
  mem := List.mem_cons_self
  obj := by
    rintro i h ⟨⟨old, he⟩, ⟨o, ho, hc, hd⟩, _⟩ b hb
    rcases List.mem_cons.mp hb with rfl | hb
    · exact ⟨_, he, fun v q => nomatch q⟩
    · obtain rfl := List.mem_singleton.mp hb
      exact ⟨o, ho, fun v q => by rw [hd] at q; exact nomatch q⟩
  keep := by
    rintro i h h' ⟨⟨old, he⟩, ⟨o, ho, r⟩, ne⟩ k
    exact ⟨⟨old, k e (by simp) _ he⟩, ⟨o, k I (by simp) _ ho, r⟩, ne⟩
  item := by
    rintro X hP hw hK hc i pins s σ H E J hf ⟨⟨old, he⟩, it, ne⟩ ⟨xs, x, hq, hx⟩
    subst hP hw hK
    obtain ⟨its, rv, tu, _⟩ := J.tuple hq
    obtain ⟨u, hu, ru⟩ := rv.get hx
    have le : e < s.heap.objs.size := Heap.lt_size he
    have li : I < s.heap.objs.size := let ⟨_, q, _⟩ := it; Heap.lt_size q
    refine pyNext_enumT he it tu (x := u) (by simpa using hu) ne ?_
    intro h1 out it1 tup1 z1 k1
    refine ⟨_, rfl, wpAny_letOwnedTupleGo_enum (s := { s with heap := h1, toks := s.toks + 1 }) out ?_⟩
    intro h2 he2 sb
    have tup2 : h2.get? s.heap.objs.size = some { cls := .type "tuple", data := .seq #[.int i s.toks, u] } := (sb.2 _ (Nat.ne_of_gt le)).trans tup1
    have new : ObjOk X.prog X.w (upd H s.heap.objs.size (.tup [.int (i : Nat), x])) h2 s.heap.objs.size (.tup [.int (i : Nat), x]) :=
      ⟨by show 2 ≤ sizeLine; decide, [.int i s.toks, u], .cons ⟨_, rfl⟩ (.cons ru .nil), ⟨_, tup2, rfl, _, rfl⟩⟩
    have J1 : Inv X pins σ (upd H s.heap.objs.size (.tup [.int (i : Nat), x])) { s with heap := h2, toks := s.toks + 1 } := by
      refine J.turnedNew (ch := [e, I]) (fun b o hb q => ?_) hf (Nat.le_refl _) new
      have b1 : b ≠ e := fun z => hb (by simp [z])
      have b2 : b ≠ I := fun z => hb (by simp [z])
      exact (sb.2 b b1).trans (k1 b o b1 b2 q)
    refine ⟨.ref s.heap.objs.size, _, J1, rfl, ⟨_, x, rfl, J.hok.fresh (Nat.le_refl _), rfl, fun ys hy => by rw [J.tuple_inj hy hq]; exact hx⟩, ⟨⟨u, ?_⟩, ?_, ne⟩, ?_⟩
    · rw [show ((i + 1 : Nat) : Int) = (i : Int) + 1 by omega]
      exact he2
    · obtain ⟨o, ho, r⟩ := it1
      exact ⟨o, (sb.2 I (Ne.symm ne)).trans ho, r⟩
    · intro b hb
      have lb : b < s.heap.objs.size := by
        rcases List.mem_cons.mp hb with rfl | q
        · exact le
        · obtain rfl := List.mem_singleton.mp q
          exact li
      rw [upd_ne (Nat.ne_of_lt lb)]
      exact (hf b hb).1
  done := by
    rintro X hP hw hK hc i pins s σ H E J hf ⟨⟨old, he⟩, it, ne⟩ ⟨xs, hq, hx⟩
    subst hP hw hK
    obtain ⟨its, rv, tu, _⟩ := J.tuple hq
    obtain ⟨f0, f1, f2, f3, f4, f5⟩ := hf I (by simp)
    have hl := rv.length
    refine pyNext_enumT_end (J.ok.hd hc) he it tu (by simp; omega) ?_
    intro h1 eb
    exact ⟨rfl, J.turned (t' := s.toks) (fun b o hb q => eb b o hb q) f0 f1 f3 f4 f5⟩
  self := by
    rintro A i s Q E ⟨⟨_, he⟩, _⟩ h
    exact wpAny_pyIter_enum he h
/-- enumerate of a list or of a tuple -/
def iEnumA (K : PySem.W.Frag) (ta : TA) : TI := fun σ H R => ta σ H fun vs H1 => ∃ a xs, vs = [.ref a] ∧
  ((SqL K H1 a xs ∧ R (Ite K a) H1) ∨ (SqT K H1 a xs ∧ R (IteT K a) H1))
theorem pi_enumA {X : Cx} {e : Expr} {ta : TA} {p pos tpos : Pos} {elts : List Expr} {kk : Nat} (hg : Gl X "enumerate") (hm : X.mg "enumerate" = none) (ha : PA X [e] ta)
    (hs : starEach [e] X.env = [(false, eval e X.env)] := by rfl) :
    PI X (.Tuple elts kk tpos) (.Call (.Name "enumerate" p) [e] [] pos) (iEnumA X.K ta) := by
  constructor
  intro pins s σ H R J h
  refine Call_ (ld_blt J hg hm boot_enumerate (PyProof.Rows.callWith_type1 (thn (ha.run pos pins s σ H _ J h) ?_) hs rfl))
  rintro us s1 ⟨vs, H1, J1, r1, a, xs, rfl, q⟩
  cases r1 with
  | cons r rr =>
    cases rr
    cases r
    have fp : ∀ b ∈ [s1.heap.objs.size + 1, s1.heap.objs.size], FpOk X pins H1 b := by
      intro b hb
      have le : s1.heap.objs.size ≤ b := by
        rcases List.mem_cons.mp hb with rfl | q
        · omega
        · obtain rfl := List.mem_singleton.mp q
          exact Nat.le_refl _
      exact J1.fpOk le (J1.hok.fresh le)
    rcases q with ⟨hq, q⟩ | ⟨hq, q⟩
    · obtain ⟨its, rv, pl, _⟩ := J1.list hq
      refine call_enumerate_list pl.isList ?_
      intro h' he it z k
      exact wpAny_pyIter_enum he ⟨_, _, _, _, H1, rfl, J1.kept (t' := s1.toks) k, turn_enum a (s1.heap.objs.size + 1) s1.heap.objs.size,
        ⟨⟨.none, he⟩, it, Nat.succ_ne_self _⟩, fp, q⟩
    · obtain ⟨its, rv, tu, _⟩ := J1.tuple hq
      refine call_enumT tu ?_
      intro h' he it k
      exact wpAny_pyIter_enum he ⟨_, _, _, _, H1, rfl, J1.kept (t' := s1.toks) k, turn_enumT a (s1.heap.objs.size + 1) s1.heap.objs.size,
        ⟨⟨.none, he⟩, it, Nat.succ_ne_self _⟩, fp, q⟩
end L2.Gd
end

section
set_option Elab.async false
set_option linter.all false
set_option maxRecDepth 100000
set_option maxHeartbeats 2000000
namespace L2.K71
open PySem PySem.Spec PyProof.Rows L2.Gd

/-! ### deeds as data -/
theorem DdAt.dp {K : PySem.W.Frag} {H : Hp} {v : V} {x : Dd} (h : DdAt H v x) : Dp K H v x.d := by
  obtain ⟨t, rfl, ht⟩ := h
  exact .tup (.inl (.inl ht)) (.cons (.int _) (.cons (.int _) (.cons (.int _) (.cons (.str _) .nil))))
abbrev DdAll (H : Hp) : List V → List Dd → Prop := Paired (DdAt H)
theorem DdAll.dps {K : PySem.W.Frag} {H : Hp} : ∀ {vs : List V} {ds : List Dd}, DdAll H vs ds → DpAll K H vs (ds.map Dd.d)
  | _, _, .nil => .nil
  | _, _, .cons h t => .cons (DdAt.dp h) (DdAll.dps t)
def Dd.Wd (x : Dd) : Prop := x.w = "any" ∨ x.w = "empty"
theorem Dd.Ok.wd {n : Int} {x : Dd} (h : x.Ok n) : x.Wd := h.w.elim (fun q => .inl q.1) (fun q => .inr q.1)
theorem Dd.lay {x : Dd} (h : x.Wd) : x.d.canLay0 = true := by
  have e : PyData.strOk x.w = true := by
    rcases h with e | e <;> (rw [e]; decide +kernel)
  simp [Dd.d, PyData.canLay0, PyData.canLayAll0, e]
theorem Dd.dep (x : Dd) : x.d.depth = 1 := by simp [Dd.d, PyData.depth, PyData.depthAll]
theorem lays : ∀ {ds : List Dd}, (∀ x ∈ ds, x.Wd) → PyData.canLayAll0 (ds.map Dd.d) = true
  | [], _ => by simp [PyData.canLayAll0]
  | x :: r, h => by simp [PyData.canLayAll0, Dd.lay (h x List.mem_cons_self), lays (ds := r) fun y hy => h y (List.mem_cons_of_mem _ hy)]
theorem deps : ∀ ds : List Dd, PyData.depthAll (ds.map Dd.d) ≤ 1
  | [] => by simp [PyData.depthAll]
  | x :: r => by
    have h1 := deps r
    have h2 := x.dep
    simp only [List.map_cons, PyData.depthAll]
    omega
theorem Dd.shaped {x : Dd} (hx : x.Wd) : SeqAt.shaped x.d = true := by
  have h := x.dep
  show (x.d.canLay0 && decide (x.d.depth ≤ 64)) = true
  rw [Dd.lay hx, decide_eq_true (by omega)]
  rfl
theorem shapedL {ds : List Dd} (hd : ∀ x ∈ ds, x.Wd) : SeqAt.shaped (.list (ds.map Dd.d)) = true := by
  have h := deps ds
  have h2 : PyData.depth (.list (ds.map Dd.d)) ≤ 64 := by
    simp only [PyData.depth]
    omega
  show (PyData.canLay0 (.list (ds.map Dd.d)) && decide (PyData.depth (.list (ds.map Dd.d)) ≤ 64)) = true
  rw [Bool.and_eq_true]
  exact ⟨by simp only [PyData.canLay0]; exact lays hd, decide_eq_true h2⟩
theorem shapedT {ds : List Dd} (hd : ∀ x ∈ ds, x.Wd) : SeqAt.shaped (.tuple (ds.map Dd.d)) = true := by
  have h := deps ds
  have h2 : PyData.depth (.tuple (ds.map Dd.d)) ≤ 64 := by
    simp only [PyData.depth]
    omega
  show (PyData.canLay0 (.tuple (ds.map Dd.d)) && decide (PyData.depth (.tuple (ds.map Dd.d)) ≤ 64)) = true
  rw [Bool.and_eq_true]
  exact ⟨by simp only [PyData.canLay0]; exact lays hd, decide_eq_true h2⟩
theorem Dd.eqv (x y : Dd) : PyData.eqv x.d y.d = decide (x = y) := by
  obtain ⟨p, c, g, w⟩ := x
  obtain ⟨p', c', g', w'⟩ := y
  have e : PyData.eqv (Dd.d ⟨p, c, g, w⟩) (Dd.d ⟨p', c', g', w'⟩) = ((p == p') && ((c == c') && ((g == g') && ((w == w') && true)))) := by
    simp only [Dd.d, PyData.eqv, PyData.eqvAll]
  rw [e, Bool.eq_iff_iff]
  simp
theorem eqvs : ∀ xs ys : List Dd, PyData.eqvAll (xs.map Dd.d) (ys.map Dd.d) = decide (xs = ys)
  | [], [] => by simp [PyData.eqvAll]
  | [], y :: ys => by simp [PyData.eqvAll]
  | x :: xs, [] => by simp [PyData.eqvAll]
  | x :: xs, y :: ys => by
    simp only [List.map_cons, PyData.eqvAll, x.eqv y, eqvs xs ys]
    rw [Bool.eq_iff_iff]
    simp
theorem any_in (x : Dd) (ds : List Dd) : (ds.map Dd.d).any (fun z => PyData.eqv z x.d) = decide (x ∈ ds) := by
  rw [List.any_map, Bool.eq_iff_iff, List.any_eq_true, decide_eq_true_eq]
  constructor
  · rintro ⟨y, hy, e⟩
    have e2 : PyData.eqv y.d x.d = true := e
    rw [y.eqv x, decide_eq_true_eq] at e2
    exact e2 ▸ hy
  · intro h
    refine ⟨x, h, ?_⟩
    show PyData.eqv x.d x.d = true
    rw [x.eqv x]
    simp
theorem DdAt.same {H H' : Hp} {v : V} {x : Dd} (s : Same H H') (h : DdAt H v x) : DdAt H' v x := let ⟨t, e, q⟩ := h; ⟨t, e, s _ _ q⟩
theorem DdAll.same {H H' : Hp} {vs : List V} {ds : List Dd} (s : Same H H') (h : DdAll H vs ds) : DdAll H' vs ds := Paired.mapP h fun _ _ q => q.same s

theorem cutV_take (xs : List V) {i : Nat} (h : i ≤ xs.length) : cutV xs none (some (i : Int)) = xs.take i := by
  have e0 : HT.sIx xs.length 0 none = 0 := by simp [HT.sIx]
  have e1 : HT.sIx xs.length xs.length (some (i : Int)) = i := by
    simp only [HT.sIx]
    split <;> omega
  unfold cutV
  rw [e0, e1, List.drop_zero, Nat.sub_zero]
theorem Paired.at {α β : Type} {R : α → β → Prop} : ∀ {xs : List α} {ys : List β} {i : Nat} {x : α}, Paired R xs ys → xs[i]? = some x → ∃ y, ys[i]? = some y ∧ R x y
  | _, _, _, _, .nil, e => by simp at e
  | _, _, 0, _, .cons r _, e => by simp at e; subst e; exact ⟨_, rfl, r⟩
  | _, _, i + 1, x, .cons _ t, e => by
    obtain ⟨u, h1, h2⟩ := Paired.at (i := i) (x := x) t (by simpa using e)
    exact ⟨u, by simpa using h1, h2⟩
theorem Paired.takeP {α β : Type} {R : α → β → Prop} : ∀ {xs : List α} {ys : List β} (n : Nat), Paired R xs ys → Paired R (xs.take n) (ys.take n)
  | _, _, 0, _ => .nil
  | _, _, _ + 1, .nil => .nil
  | _, _, n + 1, .cons r t => .cons r (Paired.takeP n t)
theorem not_ahead {α : Type} {l : List α} {i : Nat} {x : α} (nd : l.Nodup) (h : l[i]? = some x) : x ∉ l.take i := by
  intro hm
  obtain ⟨j, hj⟩ := List.mem_iff_getElem?.mp hm
  obtain ⟨lt, e⟩ := List.getElem?_eq_some_iff.mp hj
  rw [List.length_take] at lt
  have e2 : l[j]? = some x := by
    rw [List.getElem?_take_of_lt (by omega)] at hj
    exact hj
  obtain ⟨l1, q1⟩ := List.getElem?_eq_some_iff.mp h
  obtain ⟨l2, q2⟩ := List.getElem?_eq_some_iff.mp e2
  exact (List.pairwise_iff_getElem.mp nd) j i l2 l1 (by omega) (q2.trans q1.symm)
theorem hu65 {k : Nat} {A : Around} (hr : Room k A) : A.units + 65 < cLine := by
  have := hr.un
  omega
/-- a for by an invariant, whatever is walked -/
theorem loop_of {J : It} {n : Nat} {g : TG} {tb : TS} {D : Ends} {σ : L2.St} {H : Hp} (Pv : Nat → L2.St → Hp → Prop) (h0 : Pv 0 σ H)
    (hd : ∀ σ H, Pv n σ H → J.stop n H ∧ D.nx σ H)
    (hs : ∀ i σ H, i < n → Pv i σ H → J.go i H ∧ ∀ x H', J.yld i H x H' → g x σ H' fun σ2 H2 => tb { D with nx := Pv (i + 1), ct := Pv (i + 1), bk := D.nx } σ2 H2) :
    ∃ W : Nat → Nat → L2.St → Hp → Prop, (∃ m, W 0 m σ H) ∧ ∀ i m σ H, W i m σ H → (J.stop i H ∧ D.nx σ H) ∨
      (J.go i H ∧ ∃ N : L2.St → Hp → Prop, (∀ σ' H', N σ' H' → ∃ m', m' < m ∧ W (i + 1) m' σ' H') ∧
        ∀ x H', J.yld i H x H' → g x σ H' fun σ2 H2 => tb { D with nx := N, ct := N, bk := D.nx } σ2 H2) := by
  refine ⟨fun i m σ H => m = n - i ∧ i ≤ n ∧ Pv i σ H, ⟨n, by simp, Nat.zero_le _, h0⟩, ?_⟩
  rintro i m σ H ⟨rfl, hi, hp⟩
  by_cases e : i < n
  · obtain ⟨go, k⟩ := hs i σ H e hp
    exact .inr ⟨go, Pv (i + 1), fun σ' H' q => ⟨n - (i + 1), by omega, rfl, e, q⟩, k⟩
  · obtain rfl : i = n := by omega
    exact .inl (hd σ H hp)
/-- x in s, s a list or a tuple -/
theorem op_inDT {X : Cx} (hu : X.A.units + 65 < cLine) : OpR X (compareOp .In) (fun x y H Q => ∃ d ds, Dp X.K H x d ∧ Dp X.K H y (.tuple ds) ∧ SeqAt.shaped d = true ∧ SeqAt.shaped (.tuple ds) = true ∧ Q (.bl (ds.any fun z => PyData.eqv z d)) H) := by
  rintro pins s σ H x y v u Q I rx ry ⟨d, ds, hd, he, sd, se, q⟩
  obtain ⟨as, r1⟩ := Dp.reads I d x v hd rx
  obtain ⟨bs, r2⟩ := Dp.reads I (.tuple ds) y u he ry
  refine SeqAt.in_tuple_reads r2 r1 (SeqAt.canLay_of_shaped se) (SeqAt.canLay_of_shaped sd) ?_ ⟨.bl _, H, I, rfl, q⟩
  exact room_in_shaped sd hu

section
variable {P : Program} {w : World} {K : PySem.W.Frag} {mg : Str → Option Value} {base : Heap}
theorem Seq.len {H : Hp} {a : Addr} {xs : List V} (h : Seq K H a xs) : SqL K H a xs ∨ SqT K H a xs := h.elim (fun q => .inl (.inl (.inl q))) (fun q => .inr (.inl (.inl q)))
theorem Seq.same {H H' : Hp} {a : Addr} {xs : List V} (s : Same H H') (h : Seq K H a xs) : Seq K H' a xs := h.elim (fun q => .inl (s _ _ q)) (fun q => .inr (s _ _ q))
def spCheck (K : PySem.W.Frag) : Sp := fun vs H Q _ => ∃ (m : Int) (a : Addr) (xs : List V) (ds : List Dd), vs = [.int m, .ref a] ∧ Seq K H a xs ∧ DdAll H xs ds ∧
  (∀ d ∈ ds, d.Ok m) ∧ ds.Nodup ∧ ds.length ≤ 60 ∧ ∀ H', Same H H' → Q .non H'
theorem scCk : FnScope ["places", "deeds", "position", "deed"] ["places", "deeds"] (defScope sCheck) := ⟨rfl, rfl, rfl, by decide +kernel, rfl, by decide +kernel, by decide +kernel⟩
theorem ok_check {f : Addr} {fd : FuncData} (F : Fun K "check_deeds" "check_deeds" sCheck f fd) (n : Nm mg)
    (GL : Fn P w K mg base 1 "is_list" ["value"] (spIsList K)) (GD : Fn P w K mg base 3 "is_deed" ["value", "places"] spIsDeed) {tk : Tok} (mm : mg "MOST_DEEDS" = some (.int 60 tk)) :
    FnOk P w K mg base CX0 4 f fd ["places", "deeds"] (spCheck K) := by
  refine F.ok scCk (fun vs H Q E h => ?_) (fun cdv A outer s H vs Q E hr h => ?_)
  · obtain ⟨m, a, xs, ds, rfl, _⟩ := h
    rfl
  · obtain ⟨m, a, xs, ds, rfl, hs, hd, ok, nd, hl, k⟩ := h
    have N := scCk.nd
    have lx : xs.length = ds.length := Paired.length hd
    refine ⟨_, pss_cons (ps_if (pt_not (pt_val (pe_fn GL (hr.mono (by decide)) (pa_cons (pv 1) pa_nil)))) pss_never pss_nil)
      (pss_cons (ps_for PassesOwn.never rfl (pi_enumA (by rfl) n.enumerate (pa_cons (pv 1) pa_nil)) (pg_tup rfl (pgs_cons (pg_name (i := 2) N rfl (.inl rfl)) (pgs_cons (pg_name (i := 3) N rfl (.inl rfl)) pgs_nil)))
        (pss_one (ps_if (pw_or (pt_not (pt_val (pe_fn GD hr (pa_cons (pv 3) (pa_cons (pv 0) pa_nil)))))
          (pw_or1 (pt_cmpR (OpR.or (op_inD (hu65 hr)) (op_inDT (hu65 hr))) (pv 3) (pe_slice (SlR.or sl_list sl_tupA) (pv 1) po_none (po_some (pv 2))) (by rfl)))).pt pss_never pss_nil)))
      (pss_one (ps_if (pt_cmpR op_gt (pe_callB call_len_seq (by rfl) n.len PySem.boot_len (pa_cons (pv 1) pa_nil)) (pe_glob (v := .int 60) (by rfl) mm ⟨_, rfl⟩) (nomark _)) pss_never pss_nil))), ?_⟩
    refine ⟨_, rfl, a, xs, rfl, hs, fun H1 s1 => ⟨true, rfl, ?_⟩⟩
    refine iteF ?_
    have hs1 := hs.same s1
    -- the loop: nothing but new things
    let Pv : Nat → L2.St → Hp → Prop := fun i σ H2 => ∃ v2 v3 : Option V, σ = [some (.int m), some (.ref a), v2, v3] ∧ Same H1 H2
    have body : ∀ (D : Ends) (i : Nat) (T : Addr) (y : V) (H2 : Hp) (v2 v3 : Option V), D.nx = Pv (i + 1) → Same H1 H2 → H2 T = none → xs[i]? = some y →
        (gTup K 2 (gCons (gName 2) (gCons (gName 3) gNil))) (.ref T) [some (.int m), some (.ref a), v2, v3] (upd H2 T (.tup [.int (i : Nat), y])) fun σ3 H3 => (tIfS
          (tOr (tNot (tB (tCall spIsDeed [] E0 (tCons (tVar 3) (tCons (tVar 0) tNil)))))
            (tTest (tOp (fun x y H Q => rInD K x y H Q ∨ ∃ d ds, Dp K H x d ∧ Dp K H y (.tuple ds) ∧ SeqAt.shaped d = true ∧ SeqAt.shaped (.tuple ds) = true ∧ Q (.bl (ds.any fun z => PyData.eqv z d)) H) (tVar 3)
              (tSl (fun x lo hi H Q => rSlL K x lo hi H Q ∨ rSlA K x lo hi H Q) (tVar 1) tNoPart (tPart (tVar 2)))))) tNever tNext) D σ3 H3 := by
      intro D i T y H2 v2 v3 hD s2 hT hy
      have ii : i < xs.length := (List.getElem?_eq_some_iff.mp hy).1
      have s3 : Same H1 (upd H2 T (.tup [.int (i : Nat), y])) := s2.trans (same_upd hT)
      obtain ⟨d, hdi, hdy⟩ := Paired.at hd hy
      have okd := ok d (List.mem_of_getElem? hdi)
      obtain ⟨t, rfl, ht⟩ := hdy
      refine ⟨T, _, rfl, .inl (.inl upd_same), rfl, _, _, rfl, _, _, rfl, rfl, ?_⟩
      refine ⟨_, rfl, _, rfl, t, d, m, rfl, s3 _ _ (s1 _ _ ht), okd, fun H4 s4 => ⟨true, rfl, ?_⟩⟩
      refine iteF ?_
      have sa : Same H H4 := s1.trans (s3.trans s4)
      refine ⟨_, rfl, _, rfl, _, rfl, i, rfl, ?_⟩
      have no : decide (d ∈ ds.take i) = false := decide_eq_false (not_ahead nd hdi)
      have dd : Dp K H4 (.ref t) d.d := DdAt.dp ⟨t, rfl, sa _ _ ht⟩
      have wd : ∀ x ∈ ds.take i, x.Wd := fun x hx => (ok x (List.mem_of_mem_take hx)).wd
      have dl : ∀ {H5 : Hp}, Same H4 H5 → DpAll K H5 (xs.take i) ((ds.take i).map Dd.d) := fun s5 => DdAll.dps (DdAll.same (sa.trans s5) (Paired.takeP i hd))
      rcases hs.same sa with h4 | h4
      · refine .inl ⟨a, xs, rfl, .inl (.inl h4), fun p hp => ?_⟩
        rw [cutV_take xs (Nat.le_of_lt ii)]
        have s5 : Same H4 (upd H4 p (.lst (xs.take i))) := same_upd hp
        refine .inl ⟨_, _, DdAt.dp ⟨t, rfl, s5 _ _ (sa _ _ ht)⟩, .lst (.inl (.inl upd_same)) (dl s5), Dd.shaped okd.wd, shapedL wd, false, ?_, ?_⟩
        · rw [any_in, no]
        · refine iteF ?_
          show D.nx _ _
          rw [hD]
          exact ⟨_, _, rfl, s3.trans (s4.trans s5)⟩
      · refine .inr ⟨a, xs, rfl, .inl (.inl h4), fun q => ?_, fun _ p hp => ?_⟩
        · exfalso
          have e1 : HT.sIx xs.length xs.length (some (i : Int)) = i := by
            simp only [HT.sIx]
            split <;> omega
          omega
        · rw [cutV_take xs (Nat.le_of_lt ii)]
          have s5 : Same H4 (upd H4 p (.tup (xs.take i))) := same_upd hp
          refine .inr ⟨_, _, DdAt.dp ⟨t, rfl, s5 _ _ (sa _ _ ht)⟩, .tup (.inl (.inl upd_same)) (dl s5), Dd.shaped okd.wd, shapedT wd, false, ?_, ?_⟩
          · rw [any_in, no]
          · refine iteF ?_
            show D.nx _ _
            rw [hD]
            exact ⟨_, _, rfl, s3.trans (s4.trans s5)⟩
    refine ⟨_, rfl, a, xs, rfl, ?_⟩
    have after : ∀ σ H2, Pv xs.length σ H2 → tIfS (tTest (tOp (rI0 fun i j => .bl (decide (j < i))) (tCB (fun xs H Q => ∃ p ys, xs = [.ref p] ∧ (SqL K H p ys ∨ SqT K H p ys) ∧ Q (.int ys.length) H) (tCons (tVar 1) tNil)) (tC (.int 60)))) tNever tNext { nx := fun _ H' => Q .non H', rt := Q } σ H2 := by
      rintro σ H2 ⟨v2, v3, rfl, s2⟩
      refine ⟨_, rfl, a, xs, rfl, (hs.same (s1.trans s2)).len, _, _, rfl, rfl, false, congrArg V.bl (decide_eq_false (by omega)), ?_⟩
      exact iteF (k _ (s1.trans s2))
    rcases hs1 with h1 | h1
    · refine .inl ⟨.inl (.inl h1), loop_of (n := xs.length) Pv ⟨none, none, rfl, fun _ _ q => q⟩ (fun σ H2 hp => ?_) ?_⟩
      · obtain ⟨v2, v3, e, s2⟩ := id hp
        exact ⟨⟨xs, .inl (.inl (s2 _ _ h1)), Nat.le_refl _⟩, after σ H2 hp⟩
      · rintro i σ H2 hi ⟨v2, v3, rfl, s2⟩
        refine ⟨⟨xs, _, .inl (.inl (s2 _ _ h1)), List.getElem?_eq_getElem hi⟩, ?_⟩
        rintro x H' ⟨T, y, rfl, hT, rfl, hy⟩
        exact body _ i T y H2 v2 v3 rfl s2 hT (hy xs (.inl (.inl (s2 _ _ h1))))
    · refine .inr ⟨.inl (.inl h1), loop_of (n := xs.length) Pv ⟨none, none, rfl, fun _ _ q => q⟩ (fun σ H2 hp => ?_) ?_⟩
      · obtain ⟨v2, v3, e, s2⟩ := id hp
        exact ⟨⟨xs, .inl (.inl (s2 _ _ h1)), Nat.le_refl _⟩, after σ H2 hp⟩
      · rintro i σ H2 hi ⟨v2, v3, rfl, s2⟩
        refine ⟨⟨xs, _, .inl (.inl (s2 _ _ h1)), List.getElem?_eq_getElem hi⟩, ?_⟩
        rintro x H' ⟨T, y, rfl, hT, rfl, hy⟩
        exact body _ i T y H2 v2 v3 rfl s2 hT (hy xs (.inl (.inl (s2 _ _ h1))))
end
end L2.K71
end

section
set_option Elab.async false
set_option linter.all false
set_option maxRecDepth 100000
set_option maxHeartbeats 2000000
namespace L2.K71
open PySem PySem.Spec PyProof.Rows L2.Gd

/-! ### a house: its attributes, its list -/
theorem kpd : ¬ (("_places" : Str) = "_deeds") := by decide +kernel
def flds (m : Int) (l : Addr) : List (Str × V) := putF "_deeds" (.ref l) (putF "_places" (.int m) [])
theorem flds_eq (m : Int) (l : Addr) : flds m l = ([("_places", V.int m), ("_deeds", V.ref l)] : List (Str × V)) := by
  show (if ("_places" : Str) = "_deeds" then [(("_places" : Str), V.ref l)] else (("_places" : Str), V.int m) :: putF "_deeds" (V.ref l) []) = ([("_places", V.int m), ("_deeds", V.ref l)] : List (Str × V))
  rw [if_neg kpd]
  all_goals rfl
theorem flds_p (m : Int) (l : Addr) : (flds m l).lookup ("_places" : Str) = some (.int m) := by
  unfold flds
  rw [lookup_putF, if_neg kpd, lookup_putF, if_pos rfl]
theorem flds_d (m : Int) (l : Addr) : (flds m l).lookup ("_deeds" : Str) = some (.ref l) := by
  unfold flds
  rw [lookup_putF, if_pos rfl]
theorem flds_no (m : Int) (l : Addr) {x : Str} (h1 : ¬ x = "_deeds") (h2 : ¬ x = "_places") : (flds m l).lookup x = none := by
  unfold flds
  rw [lookup_putF, if_neg h1, lookup_putF, if_neg h2]
  all_goals rfl
/-- a house at h with m places, its own list of the deeds ds at l -/
structure HouseL (C : Addr) (H : Hp) (h l : Addr) (m : Int) (xs : List V) (ds : List Dd) : Prop where
  ob : ∃ dx, H h = some (.ins C dx (flds m l))
  ls : H l = some (.lst xs)
  dd : DdAll H xs ds
structure WF (m : Int) (ds : List Dd) : Prop where
  m1 : 1 ≤ m
  m16 : m ≤ 16
  ok : ∀ d ∈ ds, d.Ok m
  nd : ds.Nodup
  len : ds.length ≤ 60
theorem WF.wd {m : Int} {ds : List Dd} (w : WF m ds) : ∀ d ∈ ds, d.Wd := fun d hd => (w.ok d hd).wd
theorem HouseL.same {C : Addr} {H H' : Hp} {h l : Addr} {m : Int} {xs : List V} {ds : List Dd} (s : Same H H') (x : HouseL C H h l m xs ds) : HouseL C H' h l m xs ds :=
  ⟨let ⟨dx, e⟩ := x.ob; ⟨dx, s _ _ e⟩, s _ _ x.ls, x.dd.same s⟩
theorem HouseL.lenE {C : Addr} {H : Hp} {h l : Addr} {m : Int} {xs : List V} {ds : List Dd} (x : HouseL C H h l m xs ds) : xs.length = ds.length := Paired.length x.dd

/-- what is known of the class -/
structure ClsT (K : PySem.W.Frag) (mg : Str → Option Value) (C : Addr) : Prop where
  isc : C8.InsC K C
  nP : NoAttr K C "_places"
  nD : NoAttr K C "_deeds"
  mgC : mg "House" = some (.ref C)
section
variable {P : Program} {w : World} {K : PySem.W.Frag} {mg : Str → Option Value} {base : Heap} {C : Addr}

/-! ### __init__ -/
def spInit (K : PySem.W.Frag) (C : Addr) : Sp := fun vs H Q _ => ∃ (x dx a : Addr) (m : Int) (xs : List V) (ds : List Dd), vs = [.ref x, .int m, .ref a] ∧ H x = some (.ins C dx []) ∧
  Seq K H a xs ∧ DdAll H xs ds ∧ WF m ds ∧
  ∀ (l : Addr) (H' : Hp), H l = none → H' x = some (.ins C dx (flds m l)) → H' l = some (.lst xs) → (∀ b o, b ≠ x → H b = some o → H' b = some o) → Q .non H'
theorem scIn : FnScope ["self", "places", "deeds"] ["self", "places", "deeds"] (defScope (cHouse 0)) := ⟨rfl, rfl, rfl, by decide +kernel, rfl, by decide +kernel, by decide +kernel⟩
theorem ok_init {f : Addr} {fd : FuncData} (F : Fun K "__init__" "House.__init__" (cHouse 0) f fd) (n : Nm mg) (T : ClsT K mg C)
    (GI : Fn P w K mg base 1 "is_integer" ["value"] spIsInt) (GC : Fn P w K mg base 4 "check_deeds" ["places", "deeds"] (spCheck K))
    {tk : Tok} (mm : mg "MOST_PLACES" = some (.int 16 tk)) : FnOk P w K mg base CX0 5 f fd ["self", "places", "deeds"] (spInit K C) := by
  refine F.ok scIn (fun vs H Q E h => ?_) (fun cdv A outer s H vs Q E hr h => ?_)
  · obtain ⟨x, dx, a, m, xs, ds, rfl, _⟩ := h
    rfl
  · obtain ⟨x, dx, a, m, xs, ds, rfl, hx, hs, hd, wf, k⟩ := h
    refine ⟨_, pss_cons (ps_if (pw_or (pt_not (pt_val (pe_fn GI (hr.mono (by decide)) (pa_cons (pv 1) pa_nil))))
          (pw_or1 (pt_not (pt_chain op_le op_le pe_int (pv 1) (pe_glob (v := .int 16) (by rfl) mm ⟨_, rfl⟩))))).pt pss_never pss_nil)
      (pss_cons (ps_expr (pe_fn GC hr (pa_cons (pv 1) (pa_cons (pv 2) pa_nil))))
      (pss_cons (ps_fld (pv 0) (pv 1) rfl)
      (pss_one (ps_fld (pv 0) (pe_callTy call_list_of (by rfl) n.list (by decide +kernel) (pa_cons (pv 2) pa_nil)) rfl)))), ?_⟩
    refine ⟨_, rfl, _, rfl, true, rfl, ?_⟩
    refine iteF ?_
    refine ⟨_, rfl, _, _, rfl, rfl, true, congrArg V.bl (decide_eq_true wf.m1), ?_⟩
    refine iteT ?_
    refine ⟨_, _, rfl, rfl, true, congrArg V.bl (decide_eq_true wf.m16), ?_⟩
    refine iteF ?_
    refine ⟨_, rfl, _, rfl, m, a, xs, ds, rfl, hs, hd, wf.ok, wf.nd, wf.len, fun H1 s1 => ?_⟩
    refine ⟨_, rfl, _, rfl, x, C, dx, [], rfl, s1 _ _ hx, T.isc.cl, T.nP, (by show 0 < 1000; decide), ?_⟩
    have nxa : ∀ {b : Addr} {ys : List V}, Seq K H b ys → b ≠ x := fun {b ys} q z => by
      subst z
      rcases q with q | q <;> (rw [hx] at q; exact nomatch q)
    have hs1 : Seq K (upd H1 x (.ins C dx (putF "_places" (.int m) []))) a xs := by
      rcases hs with q | q
      · exact .inl (by rw [upd_ne (nxa (.inl q))]; exact s1 _ _ q)
      · exact .inr (by rw [upd_ne (nxa (.inr q))]; exact s1 _ _ q)
    refine ⟨_, rfl, a, xs, rfl, hs1.len, fun l hl => ?_⟩
    have nl : x ≠ l := ne_of_none upd_same hl
    have hl0 : H l = none := by
      rw [upd_ne nl.symm] at hl
      exact s1.free hl
    refine ⟨_, rfl, x, C, dx, _, rfl, (by rw [upd_ne nl]; exact upd_same), T.isc.cl, T.nD, (by show 1 < 1000; decide), ?_⟩
    refine k l _ hl0 upd_same ?_ ?_
    · rw [upd_ne nl.symm, upd_same]
    · intro b o hb e
      rw [upd_ne hb, upd_ne (ne_of_none e hl0), upd_ne hb]
      exact s1 _ _ e
/-- C(..), a house: what the maker's promise wants -/
theorem init_read {H : Hp} {x dx a : Addr} {m : Int} {xs : List V} {ds : List Dd} {Q : VK} {E : XK} (nx : H x = none) (ndx : H dx = none) (ne : dx ≠ x)
    (hs : Seq K H a xs) (hd : DdAll H xs ds) (wf : WF m ds)
    (k : ∀ (l : Addr) (H' : Hp), H l = none → Same H H' → HouseL C H' x l m xs ds → Q (.ref x) H') :
    spInit K C [.ref x, .int m, .ref a] (upd (upd H dx (.own x)) x (.ins C dx [])) (fun v H2 => v = .non ∧ Q (.ref x) H2) E := by
  have s0 : Same H (upd (upd H dx (.own x)) x (.ins C dx [])) := fun b o e => by
    rw [upd_ne (ne_of_none e nx), upd_ne (ne_of_none e ndx)]
    exact e
  refine ⟨x, dx, a, m, xs, ds, rfl, upd_same, hs.same s0, hd.same s0, wf, fun l H' nl hx hl kp => ⟨rfl, ?_⟩⟩
  have s1 : Same H H' := fun b o e => kp b o (ne_of_none e nx) (s0 b o e)
  exact k l H' (s0.free nl) s1 ⟨⟨dx, hx⟩, hl, hd.same s1⟩
structure MkH (P : Program) (w : World) (K : PySem.W.Frag) (mg : Str → Option Value) (base : Heap) (C : Addr) : Prop where
  ex : ∃ f fd, Mk K C f ∧ Binds K fd ["self", "places", "deeds"] [] ∧ FnOk P w K mg base CX0 5 f fd ["self", "places", "deeds"] (spInit K C)
theorem pe_house {X : Cx} {e : Expr} {es : List Expr} {t : TA} {p pos : Pos} (M : MkH X.prog X.w X.K X.mg X.base C) (T : ClsT X.K X.mg C) (hr : Room 6 X.A) (ha : PA X (e :: es) t)
    (hg : Gl X "House" := by rfl) (he : starEach (e :: es) X.env = (false, eval e X.env) :: starEach es X.env := by rfl)
    (hpl : (backTo pos (starEach es X.env)).any (·.1) = false := by rfl) :
    PE X (.Call (.Name "House" p) (e :: es) [] pos) (tMake C (spInit X.K C) [] E0 t) := by
  obtain ⟨f, fd, mk, b, F⟩ := M.ex
  exact pe_make mk F hr hg T.mgC b .nil pass0 ha (by decide) he hpl

/-! ### places, deeds, len, is_plain -/
def spPlaces (C : Addr) : Sp := fun vs H Q _ => ∃ (h dx l : Addr) (m : Int), vs = [.ref h] ∧ H h = some (.ins C dx (flds m l)) ∧ Q (.int m) H
theorem scPl : FnScope ["self"] ["self"] (defScope (cHouse 1)) := ⟨rfl, rfl, rfl, by decide +kernel, rfl, by decide +kernel, by decide +kernel⟩
theorem ok_places {f : Addr} {fd : FuncData} (F : Fun K "places" "House.places" (cHouse 1) f fd) (T : ClsT K mg C) : FnOk P w K mg base CX0 1 f fd ["self"] (spPlaces C) := by
  refine F.ok scPl (fun vs H Q E h => ?_) (fun cdv A outer s H vs Q E hr h => ?_)
  · obtain ⟨h, dx, l, m, rfl, _⟩ := h
    rfl
  · obtain ⟨h, dx, l, m, rfl, hh, k⟩ := h
    refine ⟨_, pss_one (ps_ret (pe_fld (pv 0) rfl)), ?_⟩
    exact ⟨_, rfl, h, C, dx, _, _, rfl, hh, T.isc.cl, T.nP, flds_p _ _, k⟩
def spDeeds (C : Addr) : Sp := fun vs H Q _ => ∃ (h l : Addr) (m : Int) (xs : List V) (ds : List Dd), vs = [.ref h] ∧ HouseL C H h l m xs ds ∧ ∀ p, H p = none → Q (.ref p) (upd H p (.lst xs))
theorem scDe : FnScope ["self"] ["self"] (defScope (cHouse 3)) := ⟨rfl, rfl, rfl, by decide +kernel, rfl, by decide +kernel, by decide +kernel⟩
theorem ok_deeds {f : Addr} {fd : FuncData} (F : Fun K "deeds" "House.deeds" (cHouse 3) f fd) (n : Nm mg) (T : ClsT K mg C) : FnOk P w K mg base CX0 1 f fd ["self"] (spDeeds C) := by
  refine F.ok scDe (fun vs H Q E h => ?_) (fun cdv A outer s H vs Q E hr h => ?_)
  · obtain ⟨h, l, m, xs, ds, rfl, _⟩ := h
    rfl
  · obtain ⟨h, l, m, xs, ds, rfl, hh, k⟩ := h
    obtain ⟨dx, ob⟩ := hh.ob
    refine ⟨_, pss_one (ps_ret (pe_callTy call_list_of (by rfl) n.list (by decide +kernel) (pa_cons (pe_fld (pv 0) rfl) pa_nil))), ?_⟩
    exact ⟨_, rfl, h, C, dx, _, _, rfl, ob, T.isc.cl, T.nD, flds_d _ _, l, xs, rfl, .inl (.inl (.inl hh.ls)), k⟩
def spLen (C : Addr) : Sp := fun vs H Q _ => ∃ (h l : Addr) (m : Int) (xs : List V) (ds : List Dd), vs = [.ref h] ∧ HouseL C H h l m xs ds ∧ Q (.int ds.length) H
theorem scLe : FnScope ["self"] ["self"] (defScope (cHouse 4)) := ⟨rfl, rfl, rfl, by decide +kernel, rfl, by decide +kernel, by decide +kernel⟩
theorem ok_len {f : Addr} {fd : FuncData} (F : Fun K "__len__" "House.__len__" (cHouse 4) f fd) (n : Nm mg) (T : ClsT K mg C) : FnOk P w K mg base CX0 1 f fd ["self"] (spLen C) := by
  refine F.ok scLe (fun vs H Q E h => ?_) (fun cdv A outer s H vs Q E hr h => ?_)
  · obtain ⟨h, l, m, xs, ds, rfl, _⟩ := h
    rfl
  · obtain ⟨h, l, m, xs, ds, rfl, hh, k⟩ := h
    obtain ⟨dx, ob⟩ := hh.ob
    refine ⟨_, pss_one (ps_ret (pe_callB call_len_seq (by rfl) n.len PySem.boot_len (pa_cons (pe_fld (pv 0) rfl) pa_nil))), ?_⟩
    refine ⟨_, rfl, h, C, dx, _, _, rfl, ob, T.isc.cl, T.nD, flds_d _ _, l, xs, rfl, .inl (.inl (.inl hh.ls)), ?_⟩
    have e : ((xs.length : Nat) : Int) = (ds.length : Int) := by rw [hh.lenE]
    show Q (.int (xs.length : Int)) H
    rw [e]
    exact k
end
end L2.K71
end

section
set_option Elab.async false
set_option linter.all false
set_option maxRecDepth 100000
set_option maxHeartbeats 2000000
/-! [f(x) for x in xs if p(x)], xs a list or a tuple: what is made of each element -/
namespace L2.Gd
open PySem PySem.Spec PyProof.Rows
/-- all that stood, but for the list that is being made -/
def ButD (D : Addr) (H H' : Hp) : Prop := ∀ b o, b ≠ D → H b = some o → H' b = some o
theorem ButD.new {D : Addr} {H H' : Hp} (h : H D = none) (b : ButD D H H') : Same H H' := fun a o e => b a o (ne_of_none e h) e
theorem ButD.put {D : Addr} {H H' : Hp} {o : HO} (b : ButD D H H') : ButD D H (L2.upd H' D o) := fun a u ne e => by
  rw [upd_ne ne]
  exact b a u ne e
theorem ButD.more {D : Addr} {H H' H2 : Hp} (b : ButD D H H') (s : Same H' H2) : ButD D H H2 := fun a u ne e => s _ _ (b a u ne e)
theorem ButD.start {D : Addr} {H : Hp} {o : HO} : ButD D H (L2.upd H D o) := fun a u ne e => by
  rw [upd_ne ne]
  exact e
theorem filt_take {α β : Type} (f : α → Option β) {l : List α} {i : Nat} {x : α} (h : l[i]? = some x) : (l.take (i + 1)).filterMap f = (l.take i).filterMap f ++ (f x).toList := by
  rw [List.take_succ, h, List.filterMap_append]
  congr 1
theorem pair_at {α β : Type} {R : α → β → Prop} : ∀ {xs : List α} {ys : List β} {i : Nat} {x : α}, Paired R xs ys → xs[i]? = some x → ∃ y, ys[i]? = some y ∧ R x y
  | _, _, _, _, .nil, e => by simp at e
  | _, _, 0, _, .cons r _, e => by simp at e; subst e; exact ⟨_, rfl, r⟩
  | _, _, i + 1, x, .cons _ t, e => by
    obtain ⟨u, h1, h2⟩ := pair_at (i := i) (x := x) t (by simpa using e)
    exact ⟨u, by simpa using h1, h2⟩
section
variable {α β : Type} {K : PySem.W.Frag} {a : Addr} {xs : List V} {es : List α} {g : TG} {tt : TT} {te : TE} {vs : List Nat} {σ : L2.St} {H1 : Hp} {D : Addr} {Qd : Hp → Prop}
/-- what is promised of one turn -/
def StepOk (F : Hp → V → α → Prop) (G : Hp → V → β → Prop) (f : α → Option β) (g : TG) (tt : TT) (te : TE) (vs : List Nat) (σ : L2.St) (H1 : Hp) (D : Addr) (es : List α) : Prop :=
  ∀ (x : V) (e : α) (H : Hp) (A : V → Hp → Prop) (B : Hp → Prop), e ∈ es → F H1 x e → ButD D H1 H → (∃ zs, H D = some (.lst zs)) →
    (∀ b y H4, f e = some b → Same H H4 → G H4 y b → A y H4) → (∀ H3, f e = none → Same H H3 → B H3) →
    g x (wipe σ vs) H fun σ2 H2 => wipe σ2 vs = wipe σ vs ∧ tt σ2 H2 fun b H3 => if b = true then te σ2 H3 A else B H3
def Stab (G : Hp → V → β → Prop) (D : Addr) : Prop := ∀ (H H' : Hp) (y : V) (b : β), ButD D H H' → (∃ zs, H D = some (.lst zs)) → G H y b → G H' y b
def LcInv (G : Hp → V → β → Prop) (f : α → Option β) (H1 : Hp) (D : Addr) (es : List α) (i : Nat) (H : Hp) : Prop :=
  ∃ ys, H D = some (.lst ys) ∧ ys.length ≤ i ∧ Paired (G H) ys ((es.take i).filterMap f) ∧ ButD D H1 H
variable {F : Hp → V → α → Prop} {G : Hp → V → β → Prop} {f : α → Option β}
theorem lc_turn (st : Stab G D) (h1000 : xs.length ≤ 1000) (pa : Paired (F H1) xs es) (step : StepOk F G f g tt te vs σ H1 D es) {i : Nat} {x : V} {H : Hp} (hx : xs[i]? = some x) (h : LcInv G f H1 D es i H) :
    g x (wipe σ vs) H fun σ2 H2 => wipe σ2 vs = wipe σ vs ∧ tt σ2 H2 fun b H3 =>
      if b = true then te σ2 H3 fun y H4 => ∃ acc, H4 D = some (.lst acc) ∧ acc.length < sizeLine ∧ LcInv G f H1 D es (i + 1) (L2.upd H4 D (.lst (acc ++ [y]))) else LcInv G f H1 D es (i + 1) H3 := by
  obtain ⟨ys, h1, h2, h3, h4⟩ := h
  obtain ⟨e, he, hF⟩ := pair_at pa hx
  have hi : i < xs.length := (List.getElem?_eq_some_iff.mp hx).1
  refine step x e H _ _ (List.mem_of_getElem? he) hF h4 ⟨ys, h1⟩ (fun b y H4 hf s hg => ?_) (fun H3 hf s => ?_)
  · refine ⟨ys, s _ _ h1, by rw [sizeLine_eq]; omega, ys ++ [y], upd_same, by simp; omega, ?_, (h4.more s).put⟩
    rw [filt_take f he, hf]
    have bt : ButD D H4 (L2.upd H4 D (.lst (ys ++ [y]))) := ButD.start
    have hd : ∃ zs, H4 D = some (.lst zs) := ⟨ys, s _ _ h1⟩
    have o1 : Paired (G (L2.upd H4 D (.lst (ys ++ [y])))) ys ((es.take i).filterMap f) := Paired.mapP h3 fun u v q => st _ _ _ _ (show ButD D H _ from fun c o ne z => bt c o ne (s _ _ z)) ⟨ys, h1⟩ q
    exact PySem.Paired.snoc o1 (st _ _ _ _ bt hd hg)
  · refine ⟨ys, s _ _ h1, by omega, ?_, h4.more s⟩
    rw [filt_take f he, hf]
    simp only [Option.toList, List.append_nil]
    exact Paired.mapP h3 fun u v q => st _ _ _ _ (fun c o _ z => s _ _ z) ⟨ys, h1⟩ q
theorem lc_mapL (st : Stab G D) (hl : H1 a = some (.lst xs)) (hD : H1 D = none) (h1000 : xs.length ≤ 1000) (pa : Paired (F H1) xs es) (step : StepOk F G f g tt te vs σ H1 D es)
    (fin : ∀ ys H, H D = some (.lst ys) → Paired (G H) ys (es.filterMap f) → ButD D H1 H → Qd H) :
    ∃ W : Nat → Nat → Hp → Prop, (∃ m, W 0 m (L2.upd H1 D (.lst []))) ∧ ∀ i m H, W i m H →
      ((Itl K a).stop i H ∧ Qd H) ∨ ((Itl K a).go i H ∧ ∃ Nx : Hp → Prop, (∀ H', Nx H' → ∃ m', m' < m ∧ W (i + 1) m' H') ∧ ∀ x H', (Itl K a).yld i H x H' → g x (wipe σ vs) H' fun σ2 H2 => wipe σ2 vs = wipe σ vs ∧ tt σ2 H2 fun b H3 =>
        if b = true then te σ2 H3 fun y H4 => ∃ acc, H4 D = some (.lst acc) ∧ acc.length < sizeLine ∧ Nx (L2.upd H4 D (.lst (acc ++ [y]))) else Nx H3) := by
  refine lc_list (xs := xs) (LcInv G f H1 D es) ⟨[], upd_same, Nat.le_refl _, .nil, .start⟩ (fun i H _ ⟨ys, _, _, _, h4⟩ => .inl (.inl (h4.new hD _ _ hl))) (fun i x H hx h => lc_turn st h1000 pa step hx h) ?_
  rintro H ⟨ys, h1, _, h3, h4⟩
  rw [PySem.Paired.length pa, List.take_length] at h3
  exact fin ys H h1 h3 h4
theorem lc_mapT (st : Stab G D) (hl : H1 a = some (.tup xs)) (hD : H1 D = none) (h1000 : xs.length ≤ 1000) (pa : Paired (F H1) xs es) (step : StepOk F G f g tt te vs σ H1 D es)
    (fin : ∀ ys H, H D = some (.lst ys) → Paired (G H) ys (es.filterMap f) → ButD D H1 H → Qd H) :
    ∃ W : Nat → Nat → Hp → Prop, (∃ m, W 0 m (L2.upd H1 D (.lst []))) ∧ ∀ i m H, W i m H →
      ((Itt K a).stop i H ∧ Qd H) ∨ ((Itt K a).go i H ∧ ∃ Nx : Hp → Prop, (∀ H', Nx H' → ∃ m', m' < m ∧ W (i + 1) m' H') ∧ ∀ x H', (Itt K a).yld i H x H' → g x (wipe σ vs) H' fun σ2 H2 => wipe σ2 vs = wipe σ vs ∧ tt σ2 H2 fun b H3 =>
        if b = true then te σ2 H3 fun y H4 => ∃ acc, H4 D = some (.lst acc) ∧ acc.length < sizeLine ∧ Nx (L2.upd H4 D (.lst (acc ++ [y]))) else Nx H3) := by
  refine lc_tup (xs := xs) (LcInv G f H1 D es) ⟨[], upd_same, Nat.le_refl _, .nil, .start⟩ (fun i H _ ⟨ys, _, _, _, h4⟩ => .inl (.inl (h4.new hD _ _ hl))) (fun i x H hx h => lc_turn st h1000 pa step hx h) ?_
  rintro H ⟨ys, h1, _, h3, h4⟩
  rw [PySem.Paired.length pa, List.take_length] at h3
  exact fin ys H h1 h3 h4
end
end L2.Gd
end

section
set_option Elab.async false
set_option linter.all false
set_option maxRecDepth 100000
set_option maxHeartbeats 2000000
/-! [f(i) for i in range(..)] -/
namespace L2.Gd
open PySem PySem.Spec PyProof.Rows
def rgI (lo : Int) (n : Nat) : List Int := (List.range n).map fun i : Nat => lo + (i : Int)
theorem rgI_len (lo : Int) (n : Nat) : (rgI lo n).length = n := by unfold rgI; rw [List.length_map, List.length_range]
theorem paired_int : ∀ ns : List Int, Paired (fun v e => v = V.int e) (ns.map V.int) ns
  | [] => .nil
  | n :: r => .cons rfl (paired_int r)
section
variable {β : Type} {lo : Int} {n : Nat} {g : TG} {tt : TT} {te : TE} {vs : List Nat} {σ : L2.St} {H1 : Hp} {D : Addr} {Qd : Hp → Prop} {G : Hp → V → β → Prop} {f : Int → Option β}
theorem lc_mapR (st : Stab G D) (h1000 : n ≤ 1000) (step : StepOk (fun _ v e => v = V.int e) G f g tt te vs σ H1 D (rgI lo n))
    (fin : ∀ ys H, H D = some (.lst ys) → Paired (G H) ys ((rgI lo n).filterMap f) → ButD D H1 H → Qd H) :
    ∃ W : Nat → Nat → Hp → Prop, (∃ m, W 0 m (L2.upd H1 D (.lst []))) ∧ ∀ i m H, W i m H →
      ((Itr lo n).stop i H ∧ Qd H) ∨ ((Itr lo n).go i H ∧ ∃ Nx : Hp → Prop, (∀ H', Nx H' → ∃ m', m' < m ∧ W (i + 1) m' H') ∧ ∀ x H', (Itr lo n).yld i H x H' → g x (wipe σ vs) H' fun σ2 H2 => wipe σ2 vs = wipe σ vs ∧ tt σ2 H2 fun b H3 =>
        if b = true then te σ2 H3 fun y H4 => ∃ acc, H4 D = some (.lst acc) ∧ acc.length < sizeLine ∧ Nx (L2.upd H4 D (.lst (acc ++ [y]))) else Nx H3) := by
  have pa := paired_int (rgI lo n)
  have len : ((rgI lo n).map V.int).length = n := by rw [List.length_map, rgI_len]
  refine lc_range (LcInv G f H1 D (rgI lo n)) ⟨[], upd_same, Nat.le_refl _, .nil, .start⟩ (fun i H hi h => ?_) ?_
  · refine lc_turn (xs := (rgI lo n).map V.int) (F := fun _ v e => v = V.int e) st (by rw [len]; exact h1000) pa step (i := i) (x := .int (lo + i)) ?_ h
    unfold rgI
    rw [List.getElem?_map, List.getElem?_map, List.getElem?_range hi]
    rfl
  · rintro H ⟨ys, h1, _, h3, h4⟩
    rw [List.take_of_length_le (Nat.le_of_eq (rgI_len lo n))] at h3
    exact fin ys H h1 h3 h4
end
end L2.Gd
end

section
set_option Elab.async false
set_option linter.all false
set_option maxRecDepth 100000
set_option maxHeartbeats 2000000
/-! a comprehension by an invariant, whatever is walked -/
namespace L2.Gd
open PySem PySem.Spec PyProof.Rows
theorem lc_gen {J : It} {n : Nat} {g : TG} {tt : TT} {te : TE} {vs : List Nat} {σ : L2.St} {H1 : Hp} {D : Addr} {Qd : Hp → Prop} (Iv : Nat → Hp → Prop) (h0 : Iv 0 (L2.upd H1 D (.lst []))) (hd : ∀ H, Iv n H → J.stop n H ∧ Qd H)
    (hs : ∀ i H, i < n → Iv i H → J.go i H ∧ ∀ x H', J.yld i H x H' → g x (wipe σ vs) H' fun σ2 H2 => wipe σ2 vs = wipe σ vs ∧ tt σ2 H2 fun b H3 =>
      if b = true then te σ2 H3 fun y H4 => ∃ acc, H4 D = some (.lst acc) ∧ acc.length < sizeLine ∧ Iv (i + 1) (L2.upd H4 D (.lst (acc ++ [y]))) else Iv (i + 1) H3) :
    ∃ W : Nat → Nat → Hp → Prop, (∃ m, W 0 m (L2.upd H1 D (.lst []))) ∧ ∀ i m H, W i m H →
      (J.stop i H ∧ Qd H) ∨ (J.go i H ∧ ∃ Nx : Hp → Prop, (∀ H', Nx H' → ∃ m', m' < m ∧ W (i + 1) m' H') ∧ ∀ x H', J.yld i H x H' → g x (wipe σ vs) H' fun σ2 H2 => wipe σ2 vs = wipe σ vs ∧ tt σ2 H2 fun b H3 =>
        if b = true then te σ2 H3 fun y H4 => ∃ acc, H4 D = some (.lst acc) ∧ acc.length < sizeLine ∧ Nx (L2.upd H4 D (.lst (acc ++ [y]))) else Nx H3) := by
  refine ⟨fun i m H => m = n - i ∧ i ≤ n ∧ Iv i H, ⟨n, by simp, Nat.zero_le _, h0⟩, ?_⟩
  rintro i m H ⟨rfl, hi, hp⟩
  by_cases e : i < n
  · obtain ⟨go, k⟩ := hs i H e hp
    exact .inr ⟨go, Iv (i + 1), fun H' q => ⟨n - (i + 1), by omega, rfl, e, q⟩, k⟩
  · obtain rfl : i = n := by omega
    exact .inl (hd H hp)
/-! ### [f(i) for i in range(..)], long ones -/
section
variable {β : Type} {lo : Int} {n : Nat} {g : TG} {tt : TT} {te : TE} {vs : List Nat} {σ : L2.St} {H1 : Hp} {D : Addr} {Qd : Hp → Prop} {G : Hp → V → β → Prop} {f : Int → Option β}
theorem lc_mapRL (st : Stab G D) (hn : n ≤ 1000000) (step : StepOk (fun _ v e => v = V.int e) G f g tt te vs σ H1 D (rgI lo n))
    (fin : ∀ ys H, H D = some (.lst ys) → Paired (G H) ys ((rgI lo n).filterMap f) → ButD D H1 H → Qd H) :
    ∃ W : Nat → Nat → Hp → Prop, (∃ m, W 0 m (L2.upd H1 D (.lst []))) ∧ ∀ i m H, W i m H →
      ((Itr lo n).stop i H ∧ Qd H) ∨ ((Itr lo n).go i H ∧ ∃ Nx : Hp → Prop, (∀ H', Nx H' → ∃ m', m' < m ∧ W (i + 1) m' H') ∧ ∀ x H', (Itr lo n).yld i H x H' → g x (wipe σ vs) H' fun σ2 H2 => wipe σ2 vs = wipe σ vs ∧ tt σ2 H2 fun b H3 =>
        if b = true then te σ2 H3 fun y H4 => ∃ acc, H4 D = some (.lst acc) ∧ acc.length < sizeLine ∧ Nx (L2.upd H4 D (.lst (acc ++ [y]))) else Nx H3) := by
  refine lc_range (LcInv G f H1 D (rgI lo n)) ⟨[], upd_same, Nat.le_refl _, .nil, .start⟩ (fun i H hi h => ?_) ?_
  · obtain ⟨ys, h1, h2, h3, h4⟩ := h
    have he : (rgI lo n)[i]? = some (lo + (i : Int)) := by
      unfold rgI
      rw [List.getElem?_map, List.getElem?_range hi]
      rfl
    refine step (.int (lo + i)) (lo + i) H _ _ (List.mem_of_getElem? he) rfl h4 ⟨ys, h1⟩ (fun b y H4 hf s hg => ?_) (fun H3 hf s => ?_)
    · refine ⟨ys, s _ _ h1, by rw [sizeLine_eq]; omega, ys ++ [y], upd_same, by simp; omega, ?_, (h4.more s).put⟩
      rw [filt_take f he, hf]
      have bt : ButD D H4 (L2.upd H4 D (.lst (ys ++ [y]))) := ButD.start
      have hd : ∃ zs, H4 D = some (.lst zs) := ⟨ys, s _ _ h1⟩
      have o1 : Paired (G (L2.upd H4 D (.lst (ys ++ [y])))) ys (((rgI lo n).take i).filterMap f) := Paired.mapP h3 fun u v q => st _ _ _ _ (show ButD D H _ from fun c o ne z => bt c o ne (s _ _ z)) ⟨ys, h1⟩ q
      exact PySem.Paired.snoc o1 (st _ _ _ _ bt hd hg)
    · refine ⟨ys, s _ _ h1, by omega, ?_, h4.more s⟩
      rw [filt_take f he, hf]
      simp only [Option.toList, List.append_nil]
      exact Paired.mapP h3 fun u v q => st _ _ _ _ (fun c o _ z => s _ _ z) ⟨ys, h1⟩ q
  · rintro H ⟨ys, h1, _, h3, h4⟩
    rw [List.take_of_length_le (Nat.le_of_eq (rgI_len lo n))] at h3
    exact fin ys H h1 h3 h4
end
end L2.Gd
end

section
set_option Elab.async false
set_option linter.all false
set_option maxRecDepth 100000
set_option maxHeartbeats 2000000
/-! len of an instance of an own class that has a __len__. -/
namespace L2.Gd
open PySem PySem.Spec PyProof.Rows
section
variable {X : Cx} {C f N : Addr} {n : Nat} {fd : FuncData} {ps : List Str} {sp : Sp}
theorem call_lenOwn (hr : Room (n + 1) X.A) (F : FnOk X.prog X.w X.K X.mg X.base CX0 n f fd ps sp) (hb : Binds X.K fd ps [])
    (hs : PySem.W.findIn X.K (.ref C) "__len__" = some (some (.ref f))) (hf : PySem.W.isFn X.K (.ref f) = true) :
    CallR X (.builtin "len") (fun xs H Q => ∃ (a dx : Addr) (fs : List (Str × V)), xs = [.ref a] ∧ H a = some (.ins C dx fs) ∧
      sp [.ref a] H (fun v H' => (∃ k : Nat, v = .int k ∧ k < 1000000) ∧ Q v H') E0) := by
  rintro pins s σ H xs us Q I r ⟨a, dx, fs, rfl, ha, h⟩
  rw [Vals.ref1 r]
  obtain ⟨mA, J, _⟩ := ins_get I.hok ha
  obtain ⟨od, J, _⟩ := J.look
  obtain ⟨m, fr⟩ := I.fr
  refine PySem.W.len_K fr I.ok.mod.kin J hs hf ?_
  refine thn (run_at (us := [.ref a]) (vs := [.ref a]) F hb (A := X.A.in1) ⟨hr.in1, rfl⟩ I (.cons rfl .nil) h) ?_
  rintro r s' ⟨z, H', I', rz, ⟨k, rfl, hk⟩, q⟩
  obtain ⟨tk, rfl⟩ := rz
  exact ⟨⟨by omega, by omega⟩, .int k, H', I'.tok _, ⟨_, rfl⟩, q⟩
end
end L2.Gd
end

section
set_option Elab.async false
set_option linter.all false
set_option maxRecDepth 100000
set_option maxHeartbeats 2000000
/-! repr of data of any kind -/
namespace L2.Gd
open PySem PySem.Spec PyProof.Rows
section
variable {X : Cx}
theorem call_reprAny (hg : X.A.guards = some []) (hu : X.A.units + 64 < cLine) :
    CallR X (.builtin "repr") (fun xs H Q => ∃ x d, xs = [x] ∧ Dp X.K H x d ∧ Showy d ∧ Q (.str d.shown) H) := by
  rintro pins s σ H xs us Q I r ⟨x, d, rfl, hd, sh, q⟩
  obtain ⟨u, rfl, ru⟩ := vals1 r
  cases hd with
  | non =>
    obtain rfl := ru
    exact PySem.P.repr_of_none ⟨.str _, H, I.tok _, ⟨_, rfl⟩, q⟩
  | bl b =>
    obtain rfl := ru
    refine PySem.P.repr_of_bool ⟨.str _, H, I.tok _, ⟨_, rfl⟩, ?_⟩
    cases b <;> exact q
  | int i =>
    obtain ⟨t, rfl⟩ := ru
    have hz : i.natAbs.log2 < 1920 := by
      have := sh.1
      simpa only [PyData.showable, decide_eq_true_eq] using this
    exact PySem.P.repr_of_int hz ⟨.str _, H, I.tok _, ⟨_, rfl⟩, q⟩
  | str z =>
    obtain ⟨t, rfl⟩ := ru
    have hz := sh.2.2.2
    exact PySem.P.repr_of_str ⟨.str _, H, I.tok _, ⟨_, rfl⟩, q⟩ (by simpa only [PyData.shown] using hz)
  | lst h t => exact call_reprD hg hu pins s σ H _ _ Q I (.cons ru .nil) ⟨_, _, rfl, .lst h t, sh, q⟩
  | tup h t => exact call_reprD hg hu pins s σ H _ _ Q I (.cons ru .nil) ⟨_, _, rfl, .tup h t, sh, q⟩
end
end L2.Gd
namespace L2.Gd
open PySem PySem.Spec PyProof.Rows
/-- a dict of ints by ints -/
def dI (ps : List (Int × Int)) : List (Key × V) := ps.map fun p => (.inl p.1, .int p.2)
def dP (ps : List (Int × Int)) : PyData := .dict (ps.map fun p => (.int p.1, .int p.2))
theorem reads_ints {h : Heap} {P : Program} {w : World} : ∀ (ps : List (Int × Int)) (es : List DictEntry) (vs : List (Key × Value)), KV (dI ps) vs → Pairs (mixKind P w) es vs →
    ReadsAll h (es.map (·.key)) (ps.map fun p => PyData.int p.1) [] ∧ ReadsAll h (es.map (·.val)) (ps.map fun p => PyData.int p.2) []
  | [], es, vs, kv, pr => by
    cases kv
    cases pr
    exact ⟨.nil, .nil⟩
  | p :: ps, es, vs, kv, pr => by
    cases kv with
    | cons k1 k2 =>
      cases pr with
      | cons e1 e2 e3 =>
        obtain ⟨ke, kr⟩ := k1
        obtain ⟨a, b⟩ := reads_ints (h := h) ps _ _ k2 e3
        obtain ⟨t, ev⟩ := kr
        have e1' : keyIs _ _ = true := e1
        rw [← ke] at e1'
        rcases keyIs_shape e1' with ⟨i, u, h1, h2⟩ | ⟨x, u, h1, h2⟩
        · cases h1
          refine ⟨?_, ?_⟩
          · rw [List.map_cons, List.map_cons, h2]
            exact ReadsAll.cons (as := []) (bs := []) (.int _ _) a
          · rw [List.map_cons, List.map_cons, e2, ev]
            exact ReadsAll.cons (as := []) (bs := []) (.int _ _) b
        · exact nomatch h1
section
variable {X : Cx}
/-- repr of such -/
theorem call_reprDI (hg : X.A.guards = some []) (hu : X.A.units + 64 < cLine) :
    CallR X (.builtin "repr") (fun xs H Q => ∃ a ps, xs = [.ref a] ∧ H a = some (.dK (dI ps)) ∧ (dP ps).showable = true ∧ (dP ps).depth ≤ 20 ∧ (dP ps).shown.length ≤ sizeLine ∧ Q (.str (dP ps).shown) H) := by
  rintro pins s σ H xs us Q I r ⟨a, ps, rfl, ha, h1, h2, h3, q⟩
  rw [Vals.ref1 r]
  obtain ⟨hz, ns, vs, kv, o, es, ep, ho, ex, hd, _, prs, _⟩ := (show ObjOk X.prog X.w H s.heap a (.dK (dI ps)) from I.hok a _ ha)
  obtain ⟨r1, r2⟩ := reads_ints (h := s.heap) ps _ _ kv prs
  have rd : Reads s.heap (.ref a) (dP ps) (a :: [] ++ []) := .dict ho ex.1 hd (by rw [List.map_map]; exact r1) (by rw [List.map_map]; exact r2)
  refine repr_of_reads' rd h1 (fun _ hm => ?_) hg (by omega) (fun _ _ q => q) ?_ h3
  · have e : sysModules = a := by simpa using hm
    rw [e] at ns
    simp at ns
  · intro h' u tk k
    exact ⟨.str _, H, I.kept k, ⟨_, rfl⟩, q⟩
end
end L2.Gd
end

section
set_option Elab.async false
set_option linter.all false
set_option maxRecDepth 100000
set_option maxHeartbeats 2000000
/-! s[::-1] of a text; enumerate of a text -/
namespace L2.Gd
open PySem PySem.Spec PyProof.Rows
open Builtin Builtin.Str
def revS (z : Str) : Str := ⟨z.cps.toList.reverse.toArray⟩
theorem revS_ix (n : Nat) : strSliceIndices none none (-1) n = (List.range n).reverse := by
  have e : strSliceIndices none none (-1) n = sliceRange ((n : Int) - 1) (-1) (-1) := rfl
  rw [e, PySem.W.krv_sliceRange, PySem.W.krv_range]
theorem revS_cut (z : Str) : (⟨((strSliceIndices none none (-1) z.length).filterMap (z.cps[·]?)).toArray⟩ : Str) = revS z := by
  rw [revS_ix]
  unfold revS
  rw [List.filterMap_reverse]
  have : (List.range z.length).filterMap (z.cps[·]?) = z.cps.toList := PySem.W.krv_all z.cps
  rw [this]
def tRevS (te : TE) : TE := fun σ H Q => te σ H fun x H1 => ∃ z, x = .str z ∧ z.length ≤ sizeLine ∧ Q (.str (revS z)) H1
theorem pe_revS {X : Cx} {e : Expr} {te : TE} {k : Nat} {p1 p2 p3 pos : Pos} (he : PE X e te) : PE X (.Subscript e (.Slice none none (some (.UnaryOp .USub (.Constant (.int 1) k p1) p2)) p3) pos) (tRevS te) := by
  refine ⟨fun pins s σ H Q I h => ?_⟩
  refine Subscript_ (thn (he.run pins s σ H _ I h) fun v s1 ⟨x, H1, I1, r1, q1⟩ => ?_)
  obtain ⟨z, ex, hz, q⟩ := q1
  subst ex
  obtain ⟨t, rfl⟩ := r1
  have hst : PO X (some (.UnaryOp .USub (.Constant (.int 1) k p1) p2)) (tPart (tUn (rU fun i => .int (-i)) (tC (.int 1)))) := po_some (pe_un un_neg pe_int)
  refine wpAny_Slice (thn (po_none.run pins s1 σ H1 (fun o H2 => o = none ∧ H2 = H1) I1 ⟨rfl, rfl⟩) fun vl s2 ⟨l, H2, I2, pl, el, e2⟩ => ?_)
  subst el e2
  refine thn (po_none.run pins s2 σ H2 (fun o H3 => o = none ∧ H3 = H2) I2 ⟨rfl, rfl⟩) fun vu s3 ⟨u, H3, I3, pu, eu, e3⟩ => ?_
  subst eu e3
  refine thn (hst.run pins s3 σ H3 (fun o H4 => o = some (-1) ∧ H4 = H3) I3 ⟨1, rfl, -1, rfl, rfl, rfl⟩) fun vs s4 ⟨o, H4, I4, ps, eo, e4⟩ => ?_
  subst eo e4
  have I5 : Inv X pins σ H4 { s4 with heap := s4.heap.push { cls := .type "slice", data := .fields #[vl, vu, vs] } } := I4.kept (t' := s4.toks) fun b ob q => Heap.get?_push_of_some _ q
  obtain ⟨l', rfl, el⟩ := IsPart.raw pl
  obtain ⟨u', rfl, eu⟩ := IsPart.raw pu
  obtain ⟨st', rfl, es⟩ := IsPart.raw ps
  show wpAny (model X.prog X.w) X.A (subscriptTail e (.Slice none none (some (.UnaryOp .USub (.Constant (.int 1) k p1) p2)) p3) (.str z t) (.ref s4.heap.objs.size)) (EP X pins σ Q) X.xe { s4 with heap := s4.heap.push { cls := .type "slice", data := .fields #[partValue l', partValue u', partValue st'] } }
  refine tail_any (ops := [.ref s4.heap.objs.size, .str z t]) (typeIs_str _ _ _) (F.slot_str_getitem.lookup) ?_ (by with_unfolding_all rfl)
  refine wpAny_getItem_str_slice (l := l') (u := u') (st := st') ⟨_, Heap.get?_push_size _ rfl, rfl, rfl⟩ (by rw [es]; rfl) ?_
  have e1 : slicePicked z l' u' st' = strSliceIndices none none (-1) z.length := by
    unfold slicePicked
    rw [el, eu, es]
    rfl
  have hl : (revS z).length ≤ sizeLine := by
    show (z.cps.toList.reverse.toArray).size ≤ sizeLine
    rw [List.size_toArray, List.length_reverse, Array.length_toList]
    exact hz
  unfold sliceMade
  rw [e1, es, revS_cut]
  show Made.post (if ((-1 : Int) == 1 && _) = true then _ else _) _ _
  rw [if_neg (fun h => absurd (Bool.and_eq_true_iff.mp h).1 (by decide))]
  exact ⟨hl, .str _, _, I5.tok _, ⟨_, rfl⟩, q⟩
/-! ### enumerate of a text -/
def IteS (x : Str) : It where
  go := fun i _ => i < x.cps.size
  yld := fun i H v H' => ∃ T c, v = .ref T ∧ H T = none ∧ H' = upd H T (.tup [.int (i : Nat), .str ⟨#[c]⟩]) ∧ x.cps[i]? = some c
  stop := fun i _ => x.cps.size ≤ i
theorem drawsS {prog : Program} {w : World} {A : Around} (hh : A.handled = none) (I : Addr) (x : Str) (t : Tok) :
    Draws prog w A I [I] x.cps.size (fun i v => ∃ c u, x.cps[i]? = some c ∧ v = .str ⟨#[c]⟩ u) (fun i h => h.IsStrIter I (strIterType x) x t i) := by
  unfold strIterType
  by_cases h : x.cps.all (· < 128) = true
  · rw [if_pos h]
    exact Draws.strAscii hh I x t
  · rw [if_neg h]
    exact Draws.strWide hh I x t
theorem turn_enumS {P : Program} {w : World} {K : PySem.W.Frag} {elts : List Expr} {kk : Nat} {tpos : Pos} (x : Str) (t : Tok) (e I : Addr) :
    Turn P w K (.Tuple elts kk tpos) (IteS x) [e, I] e (fun i h => (∃ old, IsEnum h e I ((i : Nat) : Int) old) ∧ h.IsStrIter I (strIterType x) x t i ∧ i ≤ x.cps.size ∧ e ≠ I) where
  mem := List.mem_cons_self
  obj := by
    rintro i h ⟨⟨old, he⟩, ⟨o, ho, hc, hd⟩, _⟩ b hb
    rcases List.mem_cons.mp hb with rfl | hb
    · exact ⟨_, he, fun v q => nomatch q⟩
    · obtain rfl := List.mem_singleton.mp hb
      exact ⟨o, ho, fun v q => by rw [hd] at q; exact nomatch q⟩
  keep := by
    rintro i h h' ⟨⟨old, he⟩, ⟨o, ho, r⟩, le, ne⟩ k
    exact ⟨⟨old, k e (by simp) _ he⟩, ⟨o, k I (by simp) _ ho, r⟩, le, ne⟩
  item := by
    rintro X hP hw hK hc i pins s σ H E J hf ⟨⟨old, he⟩, it, lei, ne⟩ lt
    subst hP hw hK
    have lt : i < x.cps.size := lt
    have le : e < s.heap.objs.size := Heap.lt_size he
    have li : I < s.heap.objs.size := let ⟨_, q, _⟩ := it; Heap.lt_size q
    refine wpAny_pyNext_enum_itemD (drawsS (A := X.A.in1) (J.ok.hd hc) I x t) he it lt ne (by simpa using ne) ?_
    intro u h1 tk ⟨c, ut, hcx, hu⟩ out it1 tup1 z1 k1
    subst hu
    refine ⟨_, rfl, wpAny_letOwnedTupleGo_enum (s := { s with heap := h1, toks := tk + 1 }) out ?_⟩
    intro h2 he2 sb
    have tup2 : h2.get? s.heap.objs.size = some { cls := .type "tuple", data := .seq #[.int i tk, .str ⟨#[c]⟩ ut] } := (sb.2 _ (Nat.ne_of_gt le)).trans tup1
    have new : ObjOk X.prog X.w (upd H s.heap.objs.size (.tup [.int (i : Nat), .str ⟨#[c]⟩])) h2 s.heap.objs.size (.tup [.int (i : Nat), .str ⟨#[c]⟩]) :=
      ⟨by show 2 ≤ sizeLine; decide, [.int i tk, .str ⟨#[c]⟩ ut], .cons ⟨_, rfl⟩ (.cons ⟨_, rfl⟩ .nil), ⟨_, tup2, rfl, _, rfl⟩⟩
    have J1 : Inv X pins σ (upd H s.heap.objs.size (.tup [.int (i : Nat), .str ⟨#[c]⟩])) { s with heap := h2, toks := tk + 1 } := by
      refine J.turnedNew (ch := [e, I]) (fun b o hb q => ?_) hf (Nat.le_refl _) new
      have b1 : b ≠ e := fun z => hb (by simp [z])
      have b2 : b ≠ I := fun z => hb (by simp [z])
      exact (sb.2 b b1).trans (k1 b o b1 b2 q)
    refine ⟨.ref s.heap.objs.size, _, J1, rfl, ⟨_, c, rfl, J.hok.fresh (Nat.le_refl _), rfl, hcx⟩, ⟨⟨.str ⟨#[c]⟩ ut, ?_⟩, ?_, lt, ne⟩, ?_⟩
    · rw [show ((i + 1 : Nat) : Int) = (i : Int) + 1 by omega]
      exact he2
    · obtain ⟨o, ho, r⟩ := it1
      exact ⟨o, (sb.2 I (Ne.symm ne)).trans ho, r⟩
    · intro b hb
      have lb : b < s.heap.objs.size := by
        rcases List.mem_cons.mp hb with rfl | q
        · exact le
        · obtain rfl := List.mem_singleton.mp q
          exact li
      rw [upd_ne (Nat.ne_of_lt lb)]
      exact (hf b hb).1
  done := by
    rintro X hP hw hK hc i pins s σ H E J hf ⟨⟨old, he⟩, it, lei, ne⟩ hx
    subst hP hw hK
    have hx : x.cps.size ≤ i := hx
    obtain rfl : i = x.cps.size := by omega
    obtain ⟨f0, f1, f2, f3, f4, f5⟩ := hf I (by simp)
    refine wpAny_pyNext_enum_endD (drawsS (A := X.A.in1) (J.ok.hd hc) I x t) he it ?_
    intro h1 eb
    exact ⟨rfl, J.turned (t' := s.toks) (fun b o hb q => eb b o hb q) f0 f1 f3 f4 f5⟩
  self := by
    rintro A i s Q E ⟨⟨_, he⟩, _⟩ h
    exact wpAny_pyIter_enum he h
def iEnumS (ta : TA) : TI := fun σ H R => ta σ H fun vs H1 => ∃ x, vs = [.str x] ∧ R (IteS x) H1
theorem pi_enumS {X : Cx} {e : Expr} {ta : TA} {p pos tpos : Pos} {elts : List Expr} {kk : Nat} (hg : Gl X "enumerate") (hm : X.mg "enumerate" = none) (ha : PA X [e] ta)
    (hs : starEach [e] X.env = [(false, eval e X.env)] := by rfl) :
    PI X (.Tuple elts kk tpos) (.Call (.Name "enumerate" p) [e] [] pos) (iEnumS ta) := by
  constructor
  intro pins s σ H R J h
  refine Call_ (ld_blt J hg hm boot_enumerate (PyProof.Rows.callWith_type1 (thn (ha.run pos pins s σ H _ J h) ?_) hs rfl))
  rintro us s1 ⟨vs, H1, J1, r1, x, rfl, q⟩
  cases r1 with
  | cons r rr =>
    cases rr
    obtain ⟨t, rfl⟩ := r
    have fp : ∀ b ∈ [s1.heap.objs.size + 1, s1.heap.objs.size], FpOk X pins H1 b := by
      intro b hb
      have le : s1.heap.objs.size ≤ b := by
        rcases List.mem_cons.mp hb with rfl | q
        · omega
        · obtain rfl := List.mem_singleton.mp q
          exact Nat.le_refl _
      exact J1.fpOk le (J1.hok.fresh le)
    refine call_enumerate_str ?_
    intro h' he it z k
    exact wpAny_pyIter_enum he ⟨_, _, _, _, H1, rfl, J1.kept (t' := s1.toks) k, turn_enumS x t (s1.heap.objs.size + 1) s1.heap.objs.size,
      ⟨⟨.none, he⟩, it, Nat.zero_le _, Nat.succ_ne_self _⟩, fp, q⟩
end L2.Gd
end

section
set_option Elab.async false
set_option linter.all false
set_option maxRecDepth 100000
set_option maxHeartbeats 2000000
/-! f"{n:b}" of a number that is not below 0 -/
namespace PyProof.Rows
open PySem Builtin Float
def bitL (n : Nat) : List Nat := (Nat.toDigits 2 n).map Char.toNat
def bitT (n : Nat) : Str := ⟨(bitL n).toArray⟩
def specB : FormatSpec := { align := 62, type := some 98 }
theorem parse_b : parseFormatSpec ("b" : Str).cps.toList "int" 62 = .ok specB := by kernel_rfl
theorem bitT_length (n : Nat) : (bitT n).length = (Nat.toDigits 2 n).length := by
  show (bitL n).toArray.size = _
  unfold bitL
  rw [List.size_toArray, List.length_map]
section
variable {prog : Program} {w : World} {A : Around} {E : Value → Shared → Prop} {s : Shared}
theorem mkStr_to {x y : Str} {Q : Value → Shared → Prop} (e : x = y) (hy : y.length ≤ sizeLine) (h : Q (.str y s.toks) { s with toks := s.toks + 1 }) : wpAny (model prog w) A (mkStr x) Q E s := by
  subst e
  exact wpAny_mkStr h hy
set_option maxRecDepth 100000 in
theorem formatField_bin {n : Nat} {t : Tok} {Q : Value → Shared → Prop} (hl : (Nat.toDigits 2 n).length ≤ sizeLine)
    (h : Q (.str (bitT n) (s.toks + 1)) { s with toks := s.toks + 1 + 1 }) :
    wpAny (model prog w) A (formatField (.int (n : Int) t) ("b" : Str)) Q E s := by
  have hne : (("b" : Str).length == 0) = false := by decide +kernel
  have hasc : ((("b" : Str).cps.toList.drop 1).any (· ≥ 128) || (("b" : Str).cps.getD 0 0 ≥ 128 && !([60, 62, 61, 94] : List Nat).contains (("b" : Str).cps.getD 1 0))) = false := by decide +kernel
  have hlen : (bitT n).length ≤ sizeLine := by rw [bitT_length]; exact hl
  show wpAny _ _ (holding [.int (n : Int) t] (pyFormat (.int (n : Int) t) ("b" : Str))) Q E s
  refine wpAny_holding ?_
  unfold pyFormat
  refine wpAny_bind (wpAny_mkStr ?_ (by rw [sizeLine_eq]; decide +kernel))
  refine wpAny_bind (m := callSpecial? (.int (n : Int) t) (Str.ofString "__format__") [.str ("b" : Str) s.toks]) (wpAny_callSpecial?_slot (name := Str.ofString "__format__") (typeIs_int _ (n : Int) t) slot_int_format ?_)
  refine wpAny_call (codeAny_call_builtin slot_int_format.plain entry_int_format (slot_int_format.check _ _ _ _ _ _ _ _ (typeIs_int _ (n : Int) t) (args_int_format _ _) ?_))
  unfold Builtin.«int.__format__»
  simp only [selfAndOne, noKeywords, Int.intOfSelf, asInt?, asStr?, List.isEmpty_nil, if_true, pure_bind, bind_pure, bind_assoc, hne, hasc, Bool.false_eq_true, if_false,
    show (Value.str ("b" : Str) s.toks == Value.none) = false from rfl]
  refine wpAny_bind (wpAny_typeNameOf (T := "str") (typeIs_str _ _ _) (by decide) fun _ => ?_)
  refine wpAny_bind (wpAny_typeNameOfCut_int ?_)
  simp only [parse_b]
  show wpAny _ _ (if _ then _ else _) _ _ _
  rw [if_pos (by decide +kernel)]
  show wpAny _ _ (retStr _) _ _ _
  unfold retStr
  refine wpAny_bind (mkStr_to (y := bitT n) ?_ hlen (wpAny_pure ?_))
  · have nn : decide ((n : Int) < 0) = false := decide_eq_false (by omega)
    have ab : ((n : Int)).natAbs = n := Int.natAbs_natCast n
    rw [nn, ab]
    have al : specB.alt = false := rfl
    have ty : specB.type = some 98 := rfl
    simp only [al, ty, Bool.false_eq_true, if_false, Option.getD_some, show ((98 : Nat) == 88) = false by decide, show ((2 : Nat) == 10) = false by decide]
    conv => lhs; whnf
    have hne2 : (List.map Char.toNat (Nat.toDigits 2 n)).isEmpty = false := by
      rw [List.isEmpty_map]
      cases hd : Nat.toDigits 2 n with
      | nil => exact absurd hd (by
          have := Nat.length_toDigits_pos (b := 2) (n := n)
          intro z
          rw [z] at this
          exact absurd this (by decide))
      | cons a r => rfl
    have w0 : specB.width = none := rfl
    have g0 : specB.grouping = none := rfl
    have s0 : specB.sign = none := rfl
    have fa : (specB.fill == 48 && specB.align == 61) = false := by decide
    simp only [w0, g0, s0, fa, hne2, Bool.false_eq_true, if_false, List.length_nil, Int.toNat_zero, Nat.zero_sub, List.replicate_zero, List.nil_append, List.append_nil]
    have pz : ∀ m : Nat, ((-1 : Int) - (((0 : Nat) : Int) + ((0 : Nat) : Int) + ((0 : Nat) : Int)) - (m : Int)).toNat = 0 := fun m => by omega
    rw [pz]
    rfl
  · dsimp only
    exact wpAny_bind (wpAny_isInstance (typeIs_str _ _ _) isSubtype_str_str (wpAny_pure h))
end
end PyProof.Rows
namespace PyProof.Rows
open PySem
def revL (n : Nat) : List Nat := (bitL n).reverse
def bitC (b : Bool) : Nat := if b then 49 else 48
theorem revL_small {n : Nat} (h : n < 2) : revL n = [bitC (n.testBit 0)] := by
  unfold revL bitL
  rw [Nat.toDigits_of_lt_base h]
  have : n = 0 ∨ n = 1 := by omega
  rcases this with rfl | rfl <;> rfl
theorem revL_step {n : Nat} (h : 2 ≤ n) : revL n = bitC (n.testBit 0) :: revL (n / 2) := by
  unfold revL bitL
  rw [Nat.toDigits_of_base_le (by decide) h, List.map_append, List.reverse_append]
  show [(n % 2).digitChar.toNat].reverse ++ _ = _
  have e : (n % 2).digitChar.toNat = bitC (n.testBit 0) := by
    rw [Nat.testBit_zero]
    have : n % 2 = 0 ∨ n % 2 = 1 := by omega
    rcases this with z | z <;> rw [z] <;> rfl
  rw [e]
  rfl
theorem revL_at : ∀ (n k : Nat), (∀ c, (revL n)[k]? = some c → c = bitC (n.testBit k)) ∧ ((revL n).length ≤ k → n.testBit k = false) := by
  intro n
  induction n using Nat.strongRecOn with
  | _ n ih =>
    intro k
    by_cases h : n < 2
    · rw [revL_small h]
      cases k with
      | zero => exact ⟨fun c e => (Option.some.inj e).symm, fun z => absurd z (by simp)⟩
      | succ k =>
        refine ⟨fun c e => (nomatch e), fun _ => ?_⟩
        rw [Nat.testBit_succ, show n / 2 = 0 by omega]
        exact Nat.zero_testBit k
    · rw [revL_step (by omega)]
      cases k with
      | zero => exact ⟨fun c e => (Option.some.inj e).symm, fun z => absurd z (by simp)⟩
      | succ k =>
        obtain ⟨h1, h2⟩ := ih (n / 2) (by omega) k
        rw [Nat.testBit_succ]
        refine ⟨fun c e => h1 c e, fun z => h2 ?_⟩
        rw [List.length_cons] at z
        omega
theorem revL_length (n : Nat) : (revL n).length = (bitT n).length := by
  unfold revL
  rw [List.length_reverse]
  rfl
/-- the positions of the ones, rising -/
def onesL (n : Nat) : List Nat := (List.range (revL n).length).filter n.testBit
theorem mem_onesL {n k : Nat} : k ∈ onesL n ↔ n.testBit k = true := by
  unfold onesL
  rw [List.mem_filter, List.mem_range]
  refine ⟨fun h => h.2, fun h => ⟨Nat.lt_of_not_le fun z => ?_, h⟩⟩
  rw [(revL_at n k).2 z] at h
  exact nomatch h
theorem revL_len_le {n m : Nat} (h : n < 2 ^ m) (hm : 0 < m) : (revL n).length ≤ m := by
  unfold revL bitL
  rw [List.length_reverse, List.length_map]
  exact (Nat.length_toDigits_le_iff (by decide) hm).mpr h
/-- the same below any bound of the number -/
theorem onesL_range {n m : Nat} (h : n < 2 ^ m) : onesL n = (List.range m).filter n.testBit := by
  have key : ∀ j, (List.range ((revL n).length + j)).filter n.testBit = onesL n := by
    intro j
    induction j with
    | zero => rfl
    | succ j ih =>
      rw [← Nat.add_assoc, List.range_succ, List.filter_append, ih]
      have z := (revL_at n ((revL n).length + j)).2 (Nat.le_add_right _ _)
      simp [z]
  by_cases hm : 0 < m
  · have := revL_len_le h hm
    rw [← key (m - (revL n).length), show (revL n).length + (m - (revL n).length) = m by omega]
  · obtain rfl : m = 0 := by omega
    obtain rfl : n = 0 := by simpa using h
    decide
end PyProof.Rows
namespace L2
open PySem PySem.Spec PyProof.Rows
section
variable {X : Cx}
/-- {x:b} of a number that is not below 0 -/
def tFmtB (te : TE) : TE := fun σ H Q => te σ H fun x H1 => ∃ n : Nat, x = .int n ∧ (revL n).length ≤ sizeLine ∧ Q (.str (bitT n)) H1
theorem pe_fmtB {e : Expr} {te : TE} {k : Nat} {p1 p2 pos : Pos} (he : PE X e te) : PE X (.FormattedValue e (-1) (some (.JoinedStr [.Constant (.str "b") k p1] p2)) pos) (tFmtB te) := by
  refine ⟨fun pins s σ H Q I h => ?_⟩
  refine wpAny_FormattedValue_spec (thn (he.run pins s σ H _ I h) fun v s1 hv => ?_)
  obtain ⟨x, H1, I1, r1, n, rfl, hz, q⟩ := hv
  obtain ⟨t, rfl⟩ := r1
  refine wpAny_JoinedStr_one (wpAny_Constant_str ?_)
  refine ⟨_, _, rfl, ?_⟩
  exact formatField_bin (by rw [← bitT_length, ← revL_length]; exact hz) ⟨.str (bitT n), H1, (I1.tok _).tok _, ⟨_, rfl⟩, q⟩
end
end L2
end

section
set_option Elab.async false
set_option linter.all false
set_option maxRecDepth 100000
set_option maxHeartbeats 4000000
namespace L2.K71
open PySem PySem.Spec PyProof.Rows L2.Gd
section
variable {P : Program} {w : World} {K : PySem.W.Frag} {mg : Str → Option Value} {base : Heap} {C : Addr}
theorem small_le {n k : Nat} (h : n ≤ k) (hk : k ≤ 1000 := by decide) : n ≤ sizeLine := by
  rw [sizeLine_eq]
  omega
theorem Paired.app {α β : Type} {R : α → β → Prop} : ∀ {xs xs' : List α} {ys ys' : List β}, Paired R xs ys → Paired R xs' ys' → Paired R (xs ++ xs') (ys ++ ys')
  | _, _, _, _, .nil, h => h
  | _, _, _, _, .cons r t, h => .cons r (Paired.app t h)
theorem cutV_drop (xs : List V) {i : Nat} (h : i ≤ xs.length) : cutV xs (some (i : Int)) none = xs.drop i := by
  have e0 : HT.sIx xs.length 0 (some (i : Int)) = i := by
    simp only [HT.sIx]
    split <;> omega
  have e1 : HT.sIx xs.length xs.length none = xs.length := by simp [HT.sIx]
  unfold cutV
  rw [e0, e1]
  exact List.take_of_length_le (by rw [List.length_drop]; omega)
theorem Paired.dropP {α β : Type} {R : α → β → Prop} : ∀ {xs : List α} {ys : List β} (n : Nat), Paired R xs ys → Paired R (xs.drop n) (ys.drop n)
  | _, _, 0, h => h
  | _, _, _ + 1, .nil => .nil
  | _, _, n + 1, .cons r t => Paired.dropP n t
theorem stabD (D : Addr) : Stab DdAt D := fun H H' y d b ⟨zs, hD⟩ ⟨t, e, ht⟩ => ⟨t, e, b _ _ (fun z => by subst z; rw [hD] at ht; exact nomatch ht) ht⟩
theorem stabF (D : Addr) {H1 H : Hp} {t : Addr} {xs ys : List V} (b : ButD D H1 H) (hD : H D = some (.lst ys)) (h : H1 t = some (.tup xs)) (hD1 : H1 D = none) : H t = some (.tup xs) := b.new hD1 _ _ h
def keepD (p : Dd → Bool) (d : Dd) : Option Dd := if p d = true then some d else none
theorem keepD_filter (p : Dd → Bool) (ds : List Dd) : ds.filterMap (keepD p) = ds.filter p := by
  induction ds with
  | nil => rfl
  | cons d r ih =>
    by_cases h : p d = true
    · rw [List.filterMap_cons_some (show keepD p d = some d from if_pos h), List.filter_cons_of_pos h, ih]
    · rw [List.filterMap_cons_none (show keepD p d = none from if_neg h), List.filter_cons_of_neg h, ih]
theorem mapD (f : Dd → Dd) (ds : List Dd) : ds.filterMap (fun d => some (f d)) = ds.map f := by rw [List.filterMap_eq_map']

structure PrH (P : Program) (w : World) (K : PySem.W.Frag) (mg : Str → Option Value) (base : Heap) (C : Addr) (x : Str) (sp : Sp) : Prop where
  ex : ∃ p g fd, PropOf K C x p g ∧ Binds K fd ["self"] [] ∧ FnOk P w K mg base CX0 1 g fd ["self"] sp
theorem pe_prH {X : Cx} {x : Str} {sp : Sp} {e : Expr} {te : TE} {pos : Pos} (G : PrH X.prog X.w X.K X.mg X.base C x sp) (T : ClsT X.K X.mg C) (hr : Room 2 X.A) (he : PE X e te)
    (hab : attributeBase e x X.env (eval e X.env) = eval e X.env := by rfl) : PE X (.Attribute e x pos) (tProp C sp [] E0 te) := by
  obtain ⟨p, g, fd, hp, b, F⟩ := G.ex
  exact pe_prop he T.isc.cl hp F hr b .nil pass0 hab
theorem mapE {α β : Type} (f : α → β) (ds : List α) : ds.filterMap (fun d => some (f d)) = ds.map f := by rw [List.filterMap_eq_map']
theorem bls_of : ∀ {zs : List V} {bs : List Bool}, Paired (fun v b => v = V.bl b) zs bs → zs = bs.map V.bl
  | _, _, .nil => rfl
  | _, _, .cons h t => by rw [h, bls_of t]; rfl
/-! ### the pot -/
abbrev sDraw : Stmt := top 57
def PotAt (H : Hp) (p : Addr) : Prop := ∃ a b : Int, H p = some (.lst [.int a, .int b]) ∧ 0 ≤ a ∧ 0 ≤ b ∧ b < 2147483587
/-! ### a digit of the pot -/
theorem PotAt.same {H H' : Hp} {p : Addr} (s : Same H H') (h : PotAt H p) : PotAt H' p := let ⟨a, b, e, r⟩ := h; ⟨a, b, s _ _ e, r⟩
def spDraw : Sp := fun vs H Q _ => ∃ (p : Addr) (n : Int), vs = [.ref p, .int n] ∧ PotAt H p ∧ 1 ≤ n ∧ n < 1000000 ∧ ∀ d H', 0 ≤ d → d < n → PotAt H' p → ButD p H H' → Q (.int d) H'
theorem scDr : FnScope ["_law_pot_here", "_law_many", "_law_digit"] ["_law_pot_here", "_law_many"] (defScope sDraw) := ⟨rfl, rfl, rfl, by decide +kernel, rfl, by decide +kernel, by decide +kernel⟩
theorem ok_draw {f : Addr} {fd : FuncData} (F : Fun K "_law_draw" "_law_draw" sDraw f fd) (n : Nm mg) : FnOk P w K mg base CX0 1 f fd ["_law_pot_here", "_law_many"] spDraw := by
  refine F.ok scDr (fun vs H Q E h => ?_) (fun cdv A outer s H vs Q E hr h => ?_)
  · obtain ⟨p, m, rfl, _⟩ := h
    rfl
  · obtain ⟨p, m, rfl, ⟨a, b, hp, a0, b0, bu⟩, m1, mu, q⟩ := h
    have N := scDr.nd
    refine ⟨_, pss_cons (ps_if (pt_cmpR op_gt (pe_ix ix_list (pv 0) pe_int (fun _ _ => rfl)) pe_int (nomark _))
        (pss_cons (ps_asg (pe_callB call_divmod (by rfl) n.divmod (by decide +kernel) (pa_cons (pe_ix ix_list (pv 0) pe_int (fun _ _ => rfl)) (pa_cons (pv 1) pa_nil)))
            (pg_tup rfl (pgs_cons (pg_sub (pv 0) pe_int set_list) (pgs_cons (pg_name (i := 2) N rfl (.inl rfl)) pgs_nil))))
          (pss_one (ps_ret (pv 2)))) pss_nil)
      (pss_cons (ps_asg (pe_op op_mod (pe_callTy call_int1 (by rfl) n.int (by decide +kernel) (pa_cons (pe_op op_add (pe_op op_mul (pe_ix ix_list (pv 0) pe_int (fun _ _ => rfl)) pe_int) pe_int) pa_nil)) pe_int) (pg_sub (pv 0) pe_int set_list))
      (pss_one (ps_ret (pe_op op_mod (pe_callTy call_int1 (by rfl) n.int (by decide +kernel) (pa_cons (pe_op op_fdiv (pe_op op_mod (pe_callTy call_int1 (by rfl) n.int (by decide +kernel) (pa_cons
        (pe_op op_mul (pe_ix ix_list (pv 0) pe_int (fun _ _ => rfl)) (pe_ix ix_list (pv 0) pe_int (fun _ _ => rfl))) pa_nil)) pe_int) pe_int) pa_nil)) (pv 1))))), ?_⟩
    refine ⟨_, rfl, p, _, _, _, rfl, rfl, .inl (.inl hp), rfl, _, _, rfl, rfl, decide (a > 0), rfl, ?_⟩
    by_cases ha : a > 0
    · rw [decide_eq_true ha]
      refine iteT ?_
      refine ⟨_, rfl, p, _, _, _, rfl, rfl, .inl (.inl hp), rfl, _, rfl, _, _, rfl, ⟨by omega, by omega⟩, fun t ht => ?_⟩
      have hpt : upd H t (.tup [.int (a / m), .int (a % m)]) p = some (.lst [.int a, .int b]) := same_upd ht _ _ hp
      refine ⟨t, _, rfl, .inl (.inl upd_same), rfl, ?_⟩
      refine ⟨_, _, rfl, _, rfl, p, _, _, 0, rfl, rfl, hpt, rfl, _, _, rfl, rfl, ?_⟩
      refine ⟨_, rfl, q _ _ (Int.emod_nonneg _ (by omega)) (Int.emod_lt_of_pos _ (by omega)) ⟨_, _, upd_same, Int.ediv_nonneg a0 (by omega), b0, bu⟩ ?_⟩
      intro c o ne e
      rw [upd_ne ne]
      exact same_upd ht _ _ e
    · rw [decide_eq_false ha]
      refine iteF ?_
      refine ⟨_, rfl, p, _, _, _, rfl, rfl, .inl (.inl hp), rfl, _, _, rfl, rfl, .inr (by decide), _, _, rfl, rfl, .inl ⟨_, rfl, _, _, rfl, rfl, (by show (0 : Int) < 2147483563; decide), ?_⟩⟩
      refine ⟨_, rfl, p, _, _, 1, rfl, rfl, hp, rfl, ?_⟩
      have c0 : 0 ≤ (b * 40014 + 1109) % 2147483563 := by omega
      have cu : (b * 40014 + 1109) % 2147483563 < 2147483587 := by omega
      have hc : upd H p (.lst ([V.int a, V.int b].set 1 ((fun i j => V.int (i % j)) (b * 40014 + 1109) 2147483563))) p = some (.lst [.int a, .int ((b * 40014 + 1109) % 2147483563)]) := upd_same
      refine ⟨_, rfl, p, _, _, _, rfl, rfl, .inl (.inl hc), rfl, _, rfl, p, _, _, _, rfl, rfl, .inl (.inl hc), rfl, _, _, rfl, rfl, .inl ⟨by omega, by omega⟩, ?_⟩
      refine .inl ⟨_, rfl, _, _, rfl, rfl, (by show (0 : Int) < 2147483587; decide), _, _, rfl, rfl, ⟨by decide, by decide⟩, .inl ⟨_, rfl, _, rfl, _, _, rfl, rfl, (by show (0 : Int) < m; omega), ?_⟩⟩
      refine q _ _ (Int.emod_nonneg _ (by omega)) (Int.emod_lt_of_pos _ (by omega)) ⟨_, _, hc, a0, c0, cu⟩ ?_
      intro k o ne e
      rw [upd_ne ne]
      exact e
theorem ButD.refl {D : Addr} {H : Hp} : ButD D H H := fun _ _ _ e => e
theorem ButD.trans {D : Addr} {H1 H2 H3 : Hp} (a : ButD D H1 H2) (b : ButD D H2 H3) : ButD D H1 H3 := fun c o ne e => b c o ne (a c o ne e)
theorem Same.but {D : Addr} {H1 H2 : Hp} (a : Same H1 H2) : ButD D H1 H2 := fun c o _ e => a c o e
/-- tuples stay, the pot is a list -/
theorem pot_ne {H : Hp} {p t : Addr} {xs : List V} (hp : PotAt H p) (ht : H t = some (.tup xs)) : t ≠ p := by
  rintro rfl
  obtain ⟨a, b, e, _⟩ := hp
  rw [ht] at e
  exact nomatch e
theorem DdAll.pot {H H' : Hp} {p : Addr} {vs : List V} {ds : List Dd} (hp : PotAt H p) (b : ButD p H H') (h : DdAll H vs ds) : DdAll H' vs ds :=
  Paired.mapP h fun _ _ ⟨t, e, q⟩ => ⟨t, e, b _ _ (pot_ne hp q) q⟩

theorem take_map {α β : Type} (f : α → β) {l : List α} {i : Nat} {x : α} (h : l[i]? = some x) : (l.take (i + 1)).map f = (l.take i).map f ++ [f x] := by
  rw [List.take_succ, h, List.map_append]
  rfl
/-- all that stood, but for the list that is being made -/
def But (D : Addr) (H H' : Hp) : Prop := ∀ b o, b ≠ D → H b = some o → H' b = some o
theorem But.new {D : Addr} {H H' : Hp} (h : H D = none) (b : But D H H') : Same H H' := fun a o e => b a o (ne_of_none e h) e
theorem But.upd {D : Addr} {H H' : Hp} {o : HO} (b : But D H H') : But D H (upd H' D o) := fun a u ne e => by
  rw [upd_ne ne]
  exact b a u ne e
theorem But.more {D p : Addr} {H H' : Hp} {o : HO} (b : But D H H') (hp : H' p = none) : But D H (L2.upd H' p o) := fun a u ne e => by
  rw [upd_ne (ne_of_none (b a u ne e) hp)]
  exact b a u ne e
theorem But.start {D : Addr} {H : Hp} {o : HO} : But D H (L2.upd H D o) := fun a u ne e => by
  rw [upd_ne ne]
  exact e
theorem DdAll.but {D : Addr} {H H' : Hp} (hD : ∀ t ys, H t = some (.tup ys) → t ≠ D) (b : But D H H') {vs : List V} {ds : List Dd} (h : DdAll H vs ds) : DdAll H' vs ds :=
  Paired.mapP h fun v x ⟨t, e, q⟩ => ⟨t, e, b _ _ (hD _ _ q) q⟩

def isAny (d : Dd) : Bool := decide (d.w = "any")
def Made (C : Addr) (H : Hp) (Q : VK) (m : Int) (ds : List Dd) : Prop := ∀ (h l : Addr) (xs : List V) (H' : Hp), H h = none → H l = none → Same H H' → HouseL C H' h l m xs ds → Q (.ref h) H'
theorem Made.same {H H' : Hp} {Q : VK} {m : Int} {ds : List Dd} (s : Same H H') (k : Made C H Q m ds) : Made C H' Q m ds := fun h l xs H2 n1 n2 s2 hh => k h l xs H2 (s.free n1) (s.free n2) (s.trans s2) hh
theorem make_end {H : Hp} {a : Addr} {m : Int} {xs : List V} {ds : List Dd} {Q : VK} {E : XK} (hs : Seq K H a xs) (hd : DdAll H xs ds) (wf : WF m ds) (k : Made C H Q m ds) :
    ∀ x dx, H x = none → H dx = none → dx ≠ x → spInit K C (.ref x :: ([.int m, .ref a] ++ [])) (upd (upd H dx (.own x)) x (.ins C dx [])) (fun v H2 => v = .non ∧ Q (.ref x) H2) E :=
  fun x dx nx ndx ne => init_read nx ndx ne hs hd wf fun l H' nl s hh => k x l xs H' nx nl s hh

theorem make_any {K : PySem.W.Frag} {C : Addr} {R : Addr → VK} {H : Hp} {a : Addr} {m : Int} {xs : List V} {ds : List Dd} {E : XK} (hs : Seq K H a xs) (hd : DdAll H xs ds) (wf : WF m ds)
    (k : ∀ (x l : Addr) (H' : Hp), H x = none → H l = none → Same H H' → HouseL C H' x l m xs ds → R x .non H') :
    ∀ x dx, H x = none → H dx = none → dx ≠ x → spInit K C (.ref x :: ([.int m, .ref a] ++ [])) (upd (upd H dx (.own x)) x (.ins C dx [])) (R x) E := by
  intro x dx nx ndx ne
  have s0 : Same H (upd (upd H dx (.own x)) x (.ins C dx [])) := fun b o e => by
    rw [upd_ne (ne_of_none e nx), upd_ne (ne_of_none e ndx)]
    exact e
  refine ⟨x, dx, a, m, xs, ds, rfl, upd_same, hs.same s0, hd.same s0, wf, fun l H' nl hx hl kp => ?_⟩
  have s1 : Same H H' := fun b o e => kp b o (ne_of_none e nx) (s0 b o e)
  exact k x l H' nx (s0.free nl) s1 ⟨⟨dx, hx⟩, hl, hd.same s1⟩
/-! ### plain -/
theorem WF.filter {m : Int} {ds : List Dd} (w : WF m ds) (p : Dd → Bool) : WF m (ds.filter p) :=
  ⟨w.m1, w.m16, fun d hd => w.ok d (List.mem_filter.mp hd).1, w.nd.filter _, Nat.le_trans (List.length_filter_le _ _) w.len⟩
theorem anyE (d : Dd) : decide (V.str d.w = V.str "any") = isAny d := by
  unfold isAny
  rw [Bool.eq_iff_iff]
  simp
theorem seqV {Good : L2.St → Hp → Prop} {t u : TS} {D : Ends} {σ : L2.St} {H : Hp} (h : ∀ nx : L2.St → Hp → Prop, (∀ σ2 H2, Good σ2 H2 → nx σ2 H2) → t { D with nx := nx } σ H)
    (hk : ∀ σ2 H2, Good σ2 H2 → u D σ2 H2) : tSeq t u D σ H := h (u D) hk
theorem via {Good : V → Hp → Prop} {t : TE} {σ : L2.St} {H : Hp} {Q : VK} (h : ∀ Q' : VK, (∀ v H2, Good v H2 → Q' v H2) → t σ H Q') (hk : ∀ v H2, Good v H2 → Q v H2) : t σ H Q := h Q hk
end
end L2.K71
end

section
/-! Levels: the mathematics. Relations over the places below n, told by masks. -/
set_option linter.all false
namespace L2.Lv
abbrev Rl := Nat → Nat → Prop
/-- masks tell a relation -/
structure Rep (n : Nat) (l : List Nat) (r : Rl) : Prop where
  len : l.length = n
  bit : ∀ a b, (l.getD a 0).testBit b = true ↔ r a b
def Sub (r s : Rl) : Prop := ∀ a b, r a b → s a b
def In (n : Nat) (r : Rl) : Prop := ∀ a b, r a b → a < n ∧ b < n
theorem Rep.ext {n : Nat} {l l' : List Nat} {r s : Rl} (h : Rep n l r) (h' : Rep n l' s) : l = l' ↔ ∀ a b, r a b ↔ s a b := by
  constructor
  · rintro rfl a b
    rw [← h.bit, ← h'.bit]
  · intro e
    refine List.ext_getElem (by rw [h.len, h'.len]) fun i h1 h2 => Nat.eq_of_testBit_eq fun j => ?_
    have x := h.bit i j
    have y := h'.bit i j
    rw [List.getD_eq_getElem?_getD, List.getElem?_eq_getElem h1] at x
    rw [List.getD_eq_getElem?_getD, List.getElem?_eq_getElem h2] at y
    have x : l[i].testBit j = true ↔ r i j := x
    have y : l'[i].testBit j = true ↔ s i j := y
    rw [Bool.eq_iff_iff, x, y]
    exact e i j
theorem Rep.iff {n : Nat} {l : List Nat} {r s : Rl} (h : Rep n l r) (e : ∀ a b, r a b ↔ s a b) : Rep n l s := ⟨h.len, fun a b => (h.bit a b).trans (e a b)⟩
theorem Rep.fst {n : Nat} {l : List Nat} {r : Rl} (h : Rep n l r) {a b : Nat} (x : r a b) : a < n := by
  rw [← h.bit] at x
  rw [← h.len]
  refine Nat.lt_of_not_le fun z => ?_
  rw [List.getD_eq_getElem?_getD, List.getElem?_eq_none z] at x
  simp at x
/-! ### closures -/
inductive Star (r : Rl) : Rl
  | refl (a : Nat) : Star r a a
  | step {a b c : Nat} : r a b → Star r b c → Star r a c
theorem Star.one {r : Rl} {a b : Nat} (h : r a b) : Star r a b := .step h (.refl b)
theorem Star.trans {r : Rl} {a b c : Nat} (h : Star r a b) (k : Star r b c) : Star r a c := by
  induction h with
  | refl a => exact k
  | step x _ ih => exact .step x (ih k)
theorem Star.mono {r s : Rl} (h : Sub r s) {a b : Nat} (k : Star r a b) : Star s a b := by
  induction k with
  | refl a => exact .refl a
  | step x _ ih => exact .step (h _ _ x) ih
theorem Star.flat {r s : Rl} (h : ∀ a b, r a b → Star s a b) {a b : Nat} (k : Star r a b) : Star s a b := by
  induction k with
  | refl a => exact .refl a
  | step x _ ih => exact (h _ _ x).trans ih
/-- the closure over the places below n -/
def Cl (n : Nat) (r : Rl) : Rl := fun a b => a < n ∧ b < n ∧ Star r a b
theorem Cl.mono {n : Nat} {r s : Rl} (h : Sub r s) : Sub (Cl n r) (Cl n s) := fun _ _ ⟨x, y, z⟩ => ⟨x, y, z.mono h⟩
theorem Cl.inn {n : Nat} {r : Rl} : In n (Cl n r) := fun _ _ h => ⟨h.1, h.2.1⟩
theorem Cl.trans {n : Nat} {r : Rl} {a b c : Nat} (h : Cl n r a b) (k : Cl n r b c) : Cl n r a c := ⟨h.1, k.2.1, h.2.2.trans k.2.2⟩
theorem Cl.refl {n : Nat} {r : Rl} {a : Nat} (h : a < n) : Cl n r a a := ⟨h, h, .refl a⟩
theorem Cl.sub {n : Nat} {r : Rl} (i : In n r) : Sub r (Cl n r) := fun a b h => ⟨(i a b h).1, (i a b h).2, .one h⟩
/-- the way by the middle places, one more at a time -/
def Wa (r : Rl) (n : Nat) : Nat → Rl
  | 0 => fun a b => r a b ∨ (a = b ∧ a < n)
  | m + 1 => fun a b => Wa r n m a b ∨ (Wa r n m a m ∧ Wa r n m m b)
theorem Wa.thru {r : Rl} {n : Nat} : ∀ (m k a b : Nat), k < m → Wa r n m a k → Wa r n m k b → Wa r n m a b
  | 0, _, _, _, h, _, _ => absurd h (Nat.not_lt_zero _)
  | m + 1, k, a, b, h, x, y => by
    by_cases e : k = m
    · subst e
      have x' : Wa r n k a k := x.elim id fun z => z.1
      have y' : Wa r n k k b := y.elim id fun z => z.2
      exact .inr ⟨x', y'⟩
    · have h' : k < m := by omega
      rcases x with x | ⟨x1, x2⟩ <;> rcases y with y | ⟨y1, y2⟩
      · exact .inl (Wa.thru m k a b h' x y)
      · exact .inr ⟨Wa.thru m k a m h' x y1, y2⟩
      · exact .inr ⟨x1, Wa.thru m k m b h' x2 y⟩
      · exact .inr ⟨x1, y2⟩
theorem Wa.up {r : Rl} {n : Nat} : ∀ (m a b : Nat), Wa r n 0 a b → Wa r n m a b
  | 0, _, _, h => h
  | m + 1, a, b, h => .inl (Wa.up m a b h)
theorem Wa.star {r : Rl} {n : Nat} (i : In n r) : ∀ (m a b : Nat), m ≤ n → Wa r n m a b → Cl n r a b
  | 0, a, b, _, h => h.elim (fun h => Cl.sub i a b h) (fun z => by obtain ⟨e, q⟩ := z; subst e; exact Cl.refl q)
  | m + 1, a, b, hm, h => h.elim (Wa.star i m a b (by omega)) fun ⟨x, y⟩ => (Wa.star i m a m (by omega) x).trans (Wa.star i m m b (by omega) y)
theorem star_wa {r : Rl} {n : Nat} (i : In n r) {a b : Nat} (h : Star r a b) : a < n → Wa r n n a b := by
  induction h with
  | refl a => exact fun ha => Wa.up n a a (.inr ⟨rfl, ha⟩)
  | @step a b c x _ ih => exact fun _ => Wa.thru n b a c (i _ _ x).2 (Wa.up n a b (.inl x)) (ih (i _ _ x).2)
theorem wa_cl {r : Rl} {n : Nat} (i : In n r) (a b : Nat) : Wa r n n a b ↔ Cl n r a b := by
  refine ⟨Wa.star i n a b (Nat.le_refl n), fun z => star_wa i z.2.2 z.1⟩
/-! ### one behind another, both, turned -/
def Cp (r s : Rl) : Rl := fun a b => ∃ x, r a x ∧ s x b
def Or2 (r s : Rl) : Rl := fun a b => r a b ∨ s a b
def Tr (r : Rl) : Rl := fun a b => r b a
theorem In.cp {n : Nat} {r s : Rl} (h : In n r) (k : In n s) : In n (Cp r s) := fun _ _ ⟨_, x, y⟩ => ⟨(h _ _ x).1, (k _ _ y).2⟩
theorem In.or {n : Nat} {r s : Rl} (h : In n r) (k : In n s) : In n (Or2 r s) := fun a b z => z.elim (h a b) (k a b)
theorem Cp.mono {r r' s s' : Rl} (h : Sub r r') (k : Sub s s') : Sub (Cp r s) (Cp r' s') := fun _ _ ⟨x, y, z⟩ => ⟨x, h _ _ y, k _ _ z⟩
theorem Or2.mono {r r' s s' : Rl} (h : Sub r r') (k : Sub s s') : Sub (Or2 r s) (Or2 r' s') := fun a b z => z.imp (h a b) (k a b)
section
variable (n : Nat) (U F D : Rl)
/-- gain 0, never below, at most so much above -/
def Hk : Nat → Rl
  | 0 => Cl n F
  | k + 1 => Cl n (Or2 (Hk k) (Cp (Cp U (Hk k)) D))
/-- gain 0, never below -/
def Gr : Rl := fun a b => ∃ k, Hk n U F D k a b
/-- gain 0 at the number k, never below 0 -/
def Ov : Rl := Or2 F (Cp (Cp U (Gr n U F D)) D)
def Le : Nat → Rl
  | 0 => Gr n U F D
  | k + 1 => Cl n (Or2 (Ov n U F D) (Cp (Cp D (Le k)) U))
end
section
variable {n : Nat} {U F D : Rl}
theorem hk_in : ∀ k, In n (Hk n U F D k)
  | 0 => Cl.inn
  | _ + 1 => Cl.inn
theorem hk_succ (k : Nat) : Sub (Hk n U F D k) (Hk n U F D (k + 1)) := fun a b h => ⟨(hk_in k a b h).1, (hk_in k a b h).2, .one (.inl h)⟩
theorem hk_le {j k : Nat} (h : j ≤ k) : Sub (Hk n U F D j) (Hk n U F D k) := by
  induction h with
  | refl => exact fun _ _ z => z
  | step _ ih => exact fun a b z => hk_succ _ a b (ih a b z)
theorem hk_trans : ∀ (k : Nat) {a b c : Nat}, Hk n U F D k a b → Hk n U F D k b c → Hk n U F D k a c
  | 0, _, _, _, h, i => Cl.trans h i
  | _ + 1, _, _, _, h, i => Cl.trans h i
theorem hk_refl : ∀ (k : Nat) {a : Nat}, a < n → Hk n U F D k a a
  | 0, _, h => Cl.refl h
  | _ + 1, _, h => Cl.refl h
theorem gr_in : In n (Gr n U F D) := fun a b ⟨k, h⟩ => hk_in k a b h
theorem gr_refl {a : Nat} (h : a < n) : Gr n U F D a a := ⟨0, hk_refl 0 h⟩
theorem gr_trans {a b c : Nat} (h : Gr n U F D a b) (i : Gr n U F D b c) : Gr n U F D a c := by
  obtain ⟨j, h⟩ := h
  obtain ⟨k, i⟩ := i
  exact ⟨j + k, hk_trans _ (hk_le (Nat.le_add_right j k) _ _ h) (hk_le (Nat.le_add_left k j) _ _ i)⟩
theorem gr_flat (i : In n F) : Sub F (Gr n U F D) := fun a b h => ⟨0, Cl.sub i a b h⟩
theorem gr_ugd (iu : In n U) (id : In n D) : Sub (Cp (Cp U (Gr n U F D)) D) (Gr n U F D) := fun a b ⟨y, ⟨x, h1, ⟨k, h2⟩⟩, h3⟩ =>
  ⟨k + 1, (iu _ _ h1).1, (id _ _ h3).2, .one (.inr ⟨y, ⟨x, h1, h2⟩, h3⟩)⟩
/-- where two neighbours are alike, all is told -/
theorem hk_stop {k : Nat} (h : Sub (Hk n U F D (k + 1)) (Hk n U F D k)) : Sub (Gr n U F D) (Hk n U F D k) := by
  have key : ∀ j, Sub (Hk n U F D (k + j)) (Hk n U F D k) := by
    intro j
    induction j with
    | zero => exact fun _ _ z => z
    | succ j ih => exact fun a b z => h a b (Cl.mono (Or2.mono ih (Cp.mono (Cp.mono (fun _ _ z => z) ih) fun _ _ z => z)) a b z)
  exact fun a b ⟨j, z⟩ => key j a b (hk_le (Nat.le_add_left j k) a b z)
theorem gr_eq {k : Nat} (h : ∀ a b, Hk n U F D (k + 1) a b ↔ Hk n U F D k a b) (a b : Nat) : Gr n U F D a b ↔ Hk n U F D k a b :=
  ⟨hk_stop (fun a b => (h a b).mp) a b, fun z => ⟨k, z⟩⟩
/-! ### levels -/
theorem le_in : ∀ k, In n (Le n U F D k)
  | 0 => gr_in
  | _ + 1 => Cl.inn
theorem le_refl : ∀ (k : Nat) {a : Nat}, a < n → Le n U F D k a a
  | 0, _, h => gr_refl h
  | _ + 1, _, h => Cl.refl h
theorem le_trans : ∀ (k : Nat) {a b c : Nat}, Le n U F D k a b → Le n U F D k b c → Le n U F D k a c
  | 0, _, _, _, h, i => gr_trans h i
  | _ + 1, _, _, _, h, i => Cl.trans h i
theorem ov_gr (iu : In n U) (i : In n F) (id : In n D) : Sub (Ov n U F D) (Gr n U F D) := fun a b h => h.elim (gr_flat i a b) (gr_ugd iu id a b)
/-- all that never falls below is had by steps of Ov -/
theorem gr_ov (i : In n F) : ∀ (k : Nat) {a b : Nat}, Hk n U F D k a b → Star (Ov n U F D) a b
  | 0, _, _, h => h.2.2.mono fun _ _ z => .inl z
  | k + 1, _, _, h => h.2.2.flat fun a b z => z.elim (gr_ov i k) fun ⟨y, ⟨x, h1, h2⟩, h3⟩ => .one (.inr ⟨y, ⟨x, h1, ⟨k, h2⟩⟩, h3⟩)
theorem ov_le (iu : In n U) (i : In n F) (id : In n D) : ∀ k, Sub (Ov n U F D) (Le n U F D k)
  | 0 => ov_gr iu i id
  | k + 1 => fun a b h => by
    have z := gr_in a b (ov_gr iu i id a b h)
    exact ⟨z.1, z.2, .one (.inl h)⟩
theorem le_succ (i : In n F) : ∀ k, Sub (Le n U F D k) (Le n U F D (k + 1))
  | 0 => fun a b h => by
    have z := gr_in a b h
    obtain ⟨k, h⟩ := h
    exact ⟨z.1, z.2, (gr_ov i k h).mono fun _ _ z => .inl z⟩
  | k + 1 => Cl.mono (Or2.mono (fun _ _ z => z) (Cp.mono (Cp.mono (fun _ _ z => z) (le_succ i k)) fun _ _ z => z))
theorem le_mono (i : In n F) {j k : Nat} (h : j ≤ k) : Sub (Le n U F D j) (Le n U F D k) := by
  induction h with
  | refl => exact fun _ _ z => z
  | step _ ih => exact fun a b z => le_succ i _ a b (ih a b z)
theorem le_stop {k : Nat} (h : ∀ a b, Le n U F D (k + 1) a b ↔ Le n U F D k a b) : ∀ (j a b : Nat), Le n U F D (k + j) a b ↔ Le n U F D k a b
  | 0, _, _ => Iff.rfl
  | j + 1, a, b => by
    have ih := le_stop h j
    rw [← h a b]
    exact ⟨Cl.mono (Or2.mono (fun _ _ z => z) (Cp.mono (Cp.mono (fun _ _ z => z) fun a b => (ih a b).mp) fun _ _ z => z)) a b,
      Cl.mono (Or2.mono (fun _ _ z => z) (Cp.mono (Cp.mono (fun _ _ z => z) fun a b => (ih a b).mpr) fun _ _ z => z)) a b⟩
theorem le_dlu (iu : In n U) (id : In n D) (k : Nat) : Sub (Cp (Cp D (Le n U F D k)) U) (Le n U F D (k + 1)) := fun a b h => by
  obtain ⟨y, ⟨x, h1, h2⟩, h3⟩ := id2 h
  exact ⟨(id _ _ h1).1, (iu _ _ h3).2, .one (.inr h)⟩
where id2 {p : Prop} (h : p) : p := h
/-! ### stand by stand -/
/-- one deed, all numbers from 0 to the cap -/
inductive St1 (cap : Nat) (U F D : Rl) : Nat × Nat → Nat × Nat → Prop
  | up {a b i : Nat} : U a b → i + 1 ≤ cap → St1 cap U F D (a, i) (b, i + 1)
  | flat {a b i : Nat} : F a b → i ≤ cap → St1 cap U F D (a, i) (b, i)
  | down {a b i : Nat} : D a b → i + 1 ≤ cap → St1 cap U F D (a, i + 1) (b, i)
inductive Re (cap : Nat) (U F D : Rl) (s : Nat × Nat) : Nat × Nat → Prop
  | start : Re cap U F D s s
  | next {t u : Nat × Nat} : Re cap U F D s t → St1 cap U F D t u → Re cap U F D s u
theorem Re.trans {cap : Nat} {s t u : Nat × Nat} (h : Re cap U F D s t) (k : Re cap U F D t u) : Re cap U F D s u := by
  induction k with
  | start => exact h
  | next _ x ih => exact .next ih x
theorem Re.one {cap : Nat} {s t : Nat × Nat} (h : St1 cap U F D s t) : Re cap U F D s t := .next .start h
theorem re_mono {cap cap' : Nat} (h : cap ≤ cap') {s t : Nat × Nat} (k : Re cap U F D s t) : Re cap' U F D s t := by
  induction k with
  | start => exact .start
  | next _ x ih =>
    refine .next ih ?_
    cases x with
    | up x y => exact .up x (by omega)
    | flat x y => exact .flat x (by omega)
    | down x y => exact .down x (by omega)
/-- what is told of heights is walked -/
theorem re_star {r : Rl} {cap i : Nat} (h : ∀ a b, r a b → Re cap U F D (a, i) (b, i)) {a b : Nat} (k : Star r a b) : Re cap U F D (a, i) (b, i) := by
  induction k with
  | refl a => exact .start
  | step x _ ih => exact (h _ _ x).trans ih
theorem re_hk : ∀ (k i : Nat) {a b : Nat}, Hk n U F D k a b → Re (i + k) U F D (a, i) (b, i)
  | 0, i, _, _, h => re_star (fun a b z => Re.one (.flat z (by omega))) h.2.2
  | k + 1, i, _, _, h => re_star (fun a b z => z.elim (fun z => re_mono (by omega) (re_hk k i z)) fun ⟨y, ⟨x, h1, h2⟩, h3⟩ => by
      have m := re_hk k (i + 1) h2
      rw [show i + 1 + k = i + (k + 1) by omega] at m
      exact ((Re.one (.up h1 (by omega))).trans m).trans (Re.one (.down h3 (by omega)))) h.2.2
/-- levels are walked, with the height that the ground wants -/
theorem re_le (iu : In n U) (i : In n F) (id : In n D) {M : Nat} (hM : Sub (Gr n U F D) (Hk n U F D M)) : ∀ (k : Nat) {a b : Nat}, Le n U F D k a b → Re (k + M) U F D (a, k) (b, k)
  | 0, _, _, h => re_hk M 0 (hM _ _ h)
  | k + 1, _, _, h => re_star (fun a b z => z.elim (fun z => re_hk M (k + 1) (hM _ _ (ov_gr iu i id a b z))) fun ⟨y, ⟨x, h1, h2⟩, h3⟩ => by
      have m := re_mono (show k + M ≤ k + 1 + M by omega) (re_le iu i id hM k h2)
      exact ((Re.one (.down h1 (by omega))).trans m).trans (Re.one (.up h3 (by omega)))) h.2.2
/-- what is walked is told: below the start .. -/
def Dn (n : Nat) (U F D : Rl) (k a : Nat) : Nat → Nat → Prop
  | 0 => fun c => Le n U F D k a c
  | d + 1 => fun c => ∃ x y, Dn n U F D k a d x ∧ D x y ∧ Le n U F D (k - (d + 1)) y c
/-- .. and above -/
def Up (n : Nat) (U F D : Rl) (k a : Nat) : Nat → Nat → Prop
  | 0 => fun c => Le n U F D k a c
  | d + 1 => fun c => ∃ x y, Up n U F D k a d x ∧ U x y ∧ Gr n U F D y c
theorem dn_le {k a : Nat} : ∀ (d : Nat) {c e : Nat}, Dn n U F D k a d c → Le n U F D (k - d) c e → Dn n U F D k a d e
  | 0, _, _, h, i => le_trans k h i
  | _ + 1, _, _, ⟨x, y, h1, h2, h3⟩, i => ⟨x, y, h1, h2, le_trans _ h3 i⟩
theorem up_gr (iu : In n U) (i : In n F) (id : In n D) {k a : Nat} : ∀ (d : Nat) {c e : Nat}, Up n U F D k a d c → (F c e ∨ Cp (Cp U (Gr n U F D)) D c e) → Up n U F D k a d e
  | 0, _, _, h, z => le_trans k h (ov_le iu i id k _ _ z)
  | _ + 1, _, _, ⟨x, y, h1, h2, h3⟩, z => ⟨x, y, h1, h2, gr_trans h3 (ov_gr iu i id _ _ z)⟩
theorem re_told (iu : In n U) (i : In n F) (id : In n D) {cap k a : Nat} (ha : a < n) {t : Nat × Nat} (h : Re cap U F D (a, k) t) :
    (∃ d, d ≤ k ∧ t.2 = k - d ∧ Dn n U F D k a d t.1) ∨ (∃ d, t.2 = k + d ∧ Up n U F D k a d t.1) := by
  induction h with
  | start => exact .inl ⟨0, Nat.zero_le k, rfl, le_refl k ha⟩
  | @next t u _ x ih =>
    cases x with
    | @flat c e j f _ =>
      rcases ih with ⟨d, hd, e1, h⟩ | ⟨d, e1, h⟩
      · exact .inl ⟨d, hd, e1, dn_le d h (ov_le iu i id _ _ _ (.inl f))⟩
      · exact .inr ⟨d, e1, up_gr iu i id d h (.inl f)⟩
    | @up c e j f _ =>
      rcases ih with ⟨d, hd, e1, h⟩ | ⟨d, e1, h⟩
      · have e1 : j = k - d := e1
        cases d with
        | zero => exact .inr ⟨1, by show j + 1 = k + 1; omega, c, e, h, f, gr_refl (iu _ _ f).2⟩
        | succ d =>
          obtain ⟨x, y, h1, h2, h3⟩ := h
          refine .inl ⟨d, by omega, by show j + 1 = k - d; omega, dn_le d h1 ?_⟩
          have := le_dlu iu id (k - (d + 1)) x e ⟨c, ⟨y, h2, h3⟩, f⟩
          rw [show k - (d + 1) + 1 = k - d by omega] at this
          exact this
      · have e1 : j = k + d := e1
        exact .inr ⟨d + 1, by show j + 1 = k + (d + 1); omega, c, e, h, f, gr_refl (iu _ _ f).2⟩
    | @down c e j f _ =>
      rcases ih with ⟨d, hd, e1, h⟩ | ⟨d, e1, h⟩
      · have e1 : j + 1 = k - d := e1
        exact .inl ⟨d + 1, by omega, by show j = k - (d + 1); omega, c, e, h, f, le_refl _ (id _ _ f).2⟩
      · have e1 : j + 1 = k + d := e1
        cases d with
        | zero => exact .inl ⟨1, by omega, by show j = k - 1; omega, c, e, h, f, le_refl _ (id _ _ f).2⟩
        | succ d =>
          obtain ⟨x, y, h1, h2, h3⟩ := h
          exact .inr ⟨d, by show j = k + d; omega, up_gr iu i id d h1 (.inr ⟨c, ⟨y, h2, h3⟩, f⟩)⟩
theorem re_level (iu : In n U) (i : In n F) (id : In n D) {cap k a b : Nat} (ha : a < n) (h : Re cap U F D (a, k) (b, k)) : Le n U F D k a b := by
  rcases re_told iu i id ha h with ⟨d, hd, e1, h⟩ | ⟨d, e1, h⟩
  · have e1 : k = k - d := e1
    by_cases z : d = 0
    · subst z
      exact h
    · have : k = 0 := by omega
      omega
  · have e1 : k = k + d := e1
    obtain rfl : d = 0 := by omega
    exact h
end
end L2.Lv
end

section
set_option Elab.async false
set_option linter.all false
set_option maxRecDepth 100000
set_option maxHeartbeats 4000000
namespace L2.K71
open PySem PySem.Spec PyProof.Rows L2.Gd
def iN (l : List Nat) : List V := l.map fun n : Nat => V.int (n : Int)
theorem iN_len (l : List Nat) : (iN l).length = l.length := List.length_map _
theorem iN_at {l : List Nat} {i : Nat} (h : i < l.length) : (iN l)[i]? = some (.int (l.getD i 0 : Nat)) := by
  unfold iN
  rw [List.getElem?_map, List.getElem?_eq_getElem h, List.getD_eq_getElem?_getD, List.getElem?_eq_getElem h]
  rfl
theorem iN_app (a b : List Nat) : iN (a ++ b) = iN a ++ iN b := List.map_append
theorem gn {i : Nat} {v : V} {σ : L2.St} {H : Hp} {Q : L2.St → Hp → Prop} (h : Q (σ.set i (some v)) H) : gName i v σ H Q := h
theorem Same.refl {H : Hp} : Same H H := fun _ _ e => e
section
variable {P : Program} {w : World} {K : PySem.W.Frag} {mg : Str → Option Value} {base : Heap} {C : Addr}
/-! ### ones -/
def spOnes : Sp := fun vs H Q _ => ∃ n : Nat, vs = [.int n] ∧ n < 2 ^ 1000000 ∧ ∀ p H', H p = none → Same H H' → H' p = some (.lst (iN (onesL n))) → Q (.ref p) H'
def NOn : List Str := ["bits", "k", "sign"]
theorem scOn : FnScope NOn ["bits"] (defScope (top 18)) := ⟨rfl, rfl, rfl, by decide +kernel, rfl, by decide +kernel, by decide +kernel⟩
theorem bitT_cps (n : Nat) : (revS (bitT n)).cps = (revL n).toArray := by
  show ((bitL n).toArray.toList.reverse).toArray = _
  rfl
theorem rev_at {n i c : Nat} (h : (revS (bitT n)).cps[i]? = some c) : c = bitC (n.testBit i) := by
  rw [bitT_cps, List.getElem?_toArray] at h
  exact (revL_at n i).1 c h
theorem bitC_one (b : Bool) : decide (V.str ⟨#[bitC b]⟩ = V.str ("1" : Str)) = b := by
  cases b
  · exact decide_eq_false (fun z => by
      have := congrArg (fun v => match v with | V.str s => s.cps.toList | _ => []) z
      exact absurd this (by decide +kernel))
  · exact decide_eq_true (by decide +kernel)
theorem ok_ones {f : Addr} {fd : FuncData} (F : Fun K "ones" "ones" (top 18) f fd) (n : Nm mg) : FnOk P w K mg base CX0 1 f fd ["bits"] spOnes := by
  refine F.ok scOn (fun vs H Q E h => ?_) (fun cdv A outer s H vs Q E hr h => ?_)
  · obtain ⟨m, rfl, _⟩ := h
    rfl
  · obtain ⟨m, rfl, hm, q⟩ := h
    have N := scOn.nd
    have len : (revL m).length ≤ 1000000 := revL_len_le hm (by decide)
    have sz : (bitT m).length ≤ sizeLine := by
      rw [← revL_length, sizeLine_eq]
      omega
    refine ⟨_, pss_one (ps_ret (pe_lc (own := [("k", 1), ("sign", 2)]) (g := gTup K 2 (gCons (gName 1) (gCons (gName 2) gNil))) rfl N (pi_enumS (by rfl) n.enumerate (pa_cons (pe_revS (pe_joined1 (pe_fmtB (pv 0)))) pa_nil))
        (blkOk_by (N := NOn) (sc := defScope (top 18)) (by decide +kernel))
        (fun _ _ _ _ _ => pg_tup rfl (pgs_cons (pg_name (i := 1) N rfl (.inl rfl)) (pgs_cons (pg_name (i := 2) N rfl (.inl rfl)) pgs_nil)))
        (fun _ _ _ _ _ => pts_one (pt_cmpR op_eq (pv 2) pe_str (nomark _))) (fun _ _ _ _ _ => pv 1))), ?_⟩
    refine ⟨_, rfl, m, rfl, (by rw [sizeLine_eq]; omega), bitT m, rfl, sz, revS (bitT m), rfl, fun D hD => ?_⟩
    have cz : (revS (bitT m)).cps.size = (revL m).length := by rw [bitT_cps, List.size_toArray]
    refine lc_gen (n := (revL m).length) (fun i H3 => ButD D H H3 ∧ H3 D = some (.lst (iN ((List.range i).filter m.testBit)))) ⟨.start, upd_same⟩ ?_ ?_
    · rintro H3 ⟨b3, h3⟩
      exact ⟨(by show (revS (bitT m)).cps.size ≤ _; omega), q D H3 hD (b3.new hD) h3⟩
    · rintro i H3 hi ⟨b3, h3⟩
      refine ⟨(by show i < (revS (bitT m)).cps.size; omega), ?_⟩
      rintro x H' ⟨T, c, rfl, hT, rfl, hc⟩
      have s4 : Same H3 (upd H3 T (.tup [.int (i : Nat), .str ⟨#[c]⟩])) := same_upd hT
      obtain rfl := rev_at hc
      refine ⟨T, _, rfl, .inl (.inl upd_same), rfl, _, _, rfl, _, _, rfl, rfl, rfl, _, rfl, rfl, _, congrArg V.bl (bitC_one (m.testBit i)), ?_⟩
      have b4 : ButD D H (upd H3 T (.tup [.int (i : Nat), .str ⟨#[bitC (m.testBit i)]⟩])) := b3.more s4
      have rs : (List.range (i + 1)).filter m.testBit = (List.range i).filter m.testBit ++ (if m.testBit i = true then [i] else []) := by
        rw [List.range_succ, List.filter_append]
        congr 1
        cases hb : m.testBit i <;> simp [hb]
      cases hb : m.testBit i with
      | true =>
        rw [hb, if_pos rfl] at rs
        rw [hb] at s4 b4
        refine iteT ⟨_, rfl, _, s4 _ _ h3, ?_, b4.put, ?_⟩
        · rw [iN_len, sizeLine_eq]
          have := List.length_filter_le m.testBit (List.range i)
          rw [List.length_range] at this
          omega
        · rw [upd_same, rs, iN_app]
          rfl
      | false =>
        rw [hb, if_neg (by decide), List.append_nil] at rs
        rw [hb] at s4 b4
        exact iteF ⟨b4, by rw [rs]; exact s4 _ _ h3⟩
end
end L2.K71
end

section
set_option Elab.async false
set_option linter.all false
set_option maxRecDepth 100000
set_option maxHeartbeats 4000000
namespace L2.K71
open PySem PySem.Spec PyProof.Rows L2.Gd L2.Lv
theorem or_nat (a b : Nat) : Builtin.bitOr (a : Int) (b : Int) = ((a ||| b : Nat) : Int) := by
  rw [Bits.bitOr_pp (Int.natCast_nonneg a) (Int.natCast_nonneg b), Int.toNat_natCast, Int.toNat_natCast]
theorem and_nat (a b : Nat) : Builtin.bitAnd (a : Int) (b : Int) = ((a &&& b : Nat) : Int) := by
  rw [PyProof.Rows.bitAnd_pp (Int.natCast_nonneg a) (Int.natCast_nonneg b), Int.toNat_natCast, Int.toNat_natCast]
theorem zeros_flat (m : Nat) : (List.replicate ((m : Int)).toNat [V.int 0]).flatten = iN (List.replicate m 0) := by
  rw [Int.toNat_natCast]
  induction m with
  | zero => rfl
  | succ m ih =>
    rw [List.replicate_succ, List.flatten_cons, ih]
    rfl
theorem shl_nat (g : Nat) : (1 : Int) * 2 ^ ((g : Int)).toNat = ((2 ^ g : Nat) : Int) := by
  rw [Int.toNat_natCast, Int.one_mul]
  simp
theorem shr_nat (m g : Nat) : (m : Int) / 2 ^ ((g : Int)).toNat = ((m / 2 ^ g : Nat) : Int) := by
  rw [Int.toNat_natCast]
  simp
/-- a mask with one more -/
def more (m g : Nat) : Nat := m ||| 2 ^ g
theorem more_bit (m g b : Nat) : (more m g).testBit b = true ↔ m.testBit b = true ∨ b = g := by
  unfold more
  rw [Nat.testBit_or, Nat.testBit_two_pow, Bool.or_eq_true, decide_eq_true_eq]
  exact ⟨fun h => h.imp id Eq.symm, fun h => h.imp id Eq.symm⟩
theorem getD_set {l : List Nat} {i j v : Nat} (h : i < l.length) : (l.set i v).getD j 0 = if j = i then v else l.getD j 0 := by
  rw [List.getD_eq_getElem?_getD, List.getD_eq_getElem?_getD, List.getElem?_set]
  by_cases e : i = j
  · subst e
    rw [if_pos rfl, if_pos rfl, if_pos h]
    rfl
  · rw [if_neg e, if_neg (fun z => e z.symm)]
theorem iN_set (l : List Nat) (i v : Nat) : (iN l).set i (.int (v : Nat)) = iN (l.set i v) := by
  unfold iN
  rw [List.map_set]
theorem rep_zero (n : Nat) : Rep n (List.replicate n 0) (fun _ _ => False) := by
  refine ⟨List.length_replicate, fun a b => ⟨fun h => ?_, False.elim⟩⟩
  have : (List.replicate n 0).getD a 0 = 0 := by
    rw [List.getD_eq_getElem?_getD, List.getElem?_replicate]
    split <;> rfl
  rw [this] at h
  simp at h
theorem rep_set {n : Nat} {l : List Nat} {r : Rl} (h : Rep n l r) {p g : Nat} (hp : p < n) : Rep n (l.set p (more (l.getD p 0) g)) (fun a b => r a b ∨ (a = p ∧ b = g)) := by
  refine ⟨by rw [List.length_set, h.len], fun a b => ?_⟩
  rw [getD_set (by rw [h.len]; exact hp)]
  by_cases e : a = p
  · subst e
    rw [if_pos rfl, more_bit, h.bit]
    exact ⟨fun z => z.imp id fun z => ⟨rfl, z⟩, fun z => z.imp id fun z => z.2⟩
  · rw [if_neg e, h.bit]
    exact ⟨.inl, fun z => z.elim id fun z => absurd z.1 e⟩
/-- pairs as tuples -/
def PrAt (H : Hp) (v : V) (p : Nat × Nat) : Prop := ∃ t, v = .ref t ∧ H t = some (.tup [.int (p.1 : Nat), .int (p.2 : Nat)])
def PrAll (H : Hp) (vs : List V) (ps : List (Nat × Nat)) : Prop := Paired (PrAt H) vs ps
theorem PrAll.same {H H' : Hp} {vs : List V} {ps : List (Nat × Nat)} (s : Same H H') (h : PrAll H vs ps) : PrAll H' vs ps := Paired.mapP h fun _ _ ⟨t, e, q⟩ => ⟨t, e, s _ _ q⟩
theorem PrAll.but {D : Addr} {H H' : Hp} {vs : List V} {ps : List (Nat × Nat)} (b : ButD D H H') (hD : ∃ zs, H D = some (.lst zs)) (h : PrAll H vs ps) : PrAll H' vs ps := Paired.mapP h fun _ _ ⟨t, e, q⟩ => ⟨t, e, b _ _ (fun z => by
  subst z
  obtain ⟨zs, hz⟩ := hD
  rw [q] at hz
  exact nomatch hz) q⟩
section
variable {P : Program} {w : World} {K : PySem.W.Frag} {mg : Str → Option Value} {base : Heap} {C : Addr}
/-! ### relation_of -/
def spRel : Sp := fun vs H Q _ => ∃ (n : Nat) (a : Addr) (xs : List V) (ps : List (Nat × Nat)), vs = [.int n, .ref a] ∧ n ≤ 100 ∧ H a = some (.lst xs) ∧ PrAll H xs ps ∧ (∀ p ∈ ps, p.1 < n ∧ p.2 < n) ∧
  ∀ p H' l, H p = none → Same H H' → H' p = some (.lst (iN l)) → Rep n l (fun a b => (a, b) ∈ ps) → Q (.ref p) H'
def NRe : List Str := ["many", "pairs", "out", "place", "goal"]
theorem scRel : FnScope NRe ["many", "pairs"] (defScope (top 20)) := ⟨rfl, rfl, rfl, by decide +kernel, rfl, by decide +kernel, by decide +kernel⟩
theorem ok_rel {f : Addr} {fd : FuncData} (F : Fun K "relation_of" "relation_of" (top 20) f fd) (n : Nm mg) : FnOk P w K mg base CX0 1 f fd ["many", "pairs"] spRel := by
  refine F.ok scRel (fun vs H Q E h => ?_) (fun cdv A outer s H vs Q E hr h => ?_)
  · obtain ⟨m, a, xs, ps, rfl, _⟩ := h
    rfl
  · obtain ⟨m, a, xs, ps, rfl, m100, ha, pa, lt, q⟩ := h
    have N := scRel.nd
    refine ⟨_, pss_cons (ps_set (i := 2) N rfl (.inl rfl) (pe_op op_rep (pe_lst (pa_cons pe_int pa_nil)) (pv 0)))
      (pss_cons (ps_for PassesOwn.never rfl (pi_list (pv 1)) (pg_tup rfl (pgs_cons (pg_name (i := 3) N rfl (.inl rfl)) (pgs_cons (pg_name (i := 4) N rfl (.inl rfl)) pgs_nil)))
        (pss_one (ps_asg (pe_op op_or (pe_ix ix_list (pv 2) (pv 3) (fun _ _ => rfl)) (pe_op op_shl pe_int (pv 4))) (pg_sub (pv 2) (pv 3) set_list))))
      (pss_one (ps_ret (pv 2)))), ?_⟩
    refine ⟨(by show 1 ≤ sizeLine; decide), fun z hz => ?_⟩
    have s0 := same_upd (o := .lst [V.int 0]) hz
    refine ⟨_, rfl, z, m, _, rfl, rfl, upd_same, by omega, by omega, (by rw [sizeLine_eq]; show 1 * ((m : Int)).toNat ≤ _; omega), fun o ho => ?_⟩
    have s1 := same_upd (o := .lst (List.replicate ((m : Int)).toNat [V.int 0]).flatten) ho
    have ez := zeros_flat m
    show gName _ _ _ _ _
    rw [ez] at s1 ⊢
    have s01 := s0.trans s1
    have hno : H o = none := s0.free ho
    refine ⟨_, rfl, a, rfl, ⟨_, .inl (.inl (s01 _ _ ha))⟩, ?_⟩
    refine loop_of (n := xs.length) (fun i σ H2 => ∃ (v3 v4 : Option V) (l : List Nat), σ = [some (.int m), some (.ref a), some (.ref o), v3, v4] ∧ H2 o = some (.lst (iN l)) ∧ ButD o H H2 ∧ Rep m l (fun a b => (a, b) ∈ ps.take i))
      ⟨none, none, _, rfl, upd_same, Same.but s01, (rep_zero m).iff (by simp)⟩ ?_ ?_
    · rintro σ H2 ⟨v3, v4, l, rfl, hl, b2, rp⟩
      refine ⟨⟨_, .inl (.inl (b2.new hno _ _ ha)), Nat.le_refl _⟩, ?_⟩
      rw [show xs.length = ps.length from Paired.length pa, List.take_length] at rp
      exact ⟨_, rfl, q o H2 l hno (b2.new hno) hl rp⟩
    · rintro i σ H2 hi ⟨v3, v4, l, rfl, hl, b2, rp⟩
      have s2 := b2.new hno
      refine ⟨⟨_, _, .inl (.inl (s2 _ _ ha)), List.getElem?_eq_getElem hi⟩, ?_⟩
      rintro v H3 ⟨rfl, hy⟩
      have hvi := hy _ (.inl (.inl (s2 _ _ ha)))
      obtain ⟨⟨p, g⟩, hp, t, rfl, ht⟩ := Paired.at pa hvi
      obtain ⟨pm, gm⟩ := lt _ (List.mem_of_getElem? hp)
      have pm : p < m := pm
      have gm : g < m := gm
      have pl : p < l.length := by rw [rp.len]; exact pm
      refine ⟨t, _, rfl, .inl (.inl (s2 _ _ ht)), rfl, _, _, rfl, _, _, rfl, rfl, ?_⟩
      refine ⟨_, rfl, _, rfl, o, iN l, _, _, rfl, rfl, .inl (.inl hl), atI_nat (iN_at pl), _, rfl, _, _, rfl, rfl, ⟨by omega, by omega, by decide⟩, _, _, rfl, rfl, ?_⟩
      have hix : ixN (iN l).length (p : Int) = some p := by
        unfold ixN
        rw [iN_len]
        rw [if_pos (by omega), if_pos (by omega), Int.toNat_natCast]
      refine ⟨_, rfl, _, rfl, o, _, _, p, rfl, rfl, hl, hix, ?_⟩
      have ev : V.int (Builtin.bitOr ((l.getD p 0 : Nat) : Int) ((1 : Int) * 2 ^ ((g : Int)).toNat)) = V.int ((more (l.getD p 0) g : Nat) : Int) := by
        rw [shl_nat, or_nat]
        rfl
      refine ⟨_, _, l.set p (more (l.getD p 0) g), rfl, ?_, b2.put, ?_⟩
      · rw [upd_same]
        show some (HO.lst ((iN l).set p (V.int (Builtin.bitOr _ _)))) = _
        rw [ev, iN_set]
      · refine (rep_set rp pm).iff fun x y => ?_
        rw [List.take_succ, hp]
        simp
end
end L2.K71
end

section
set_option Elab.async false
set_option linter.all false
set_option maxRecDepth 100000
set_option maxHeartbeats 4000000
namespace L2.K71
open PySem PySem.Spec PyProof.Rows L2.Gd L2.Lv
/-- the second clause's loop, by an invariant -/
theorem lc_in {J : It} {n : Nat} {g : TG} {tt : TT} {te : TE} {vs : List Nat} {σ : L2.St} {H0 : Hp} {D : Addr} {Nx : Hp → Prop} (Iv : Nat → Hp → Prop) (h0 : Iv 0 H0) (hd : ∀ H, Iv n H → J.stop n H ∧ Nx H)
    (hs : ∀ i H, i < n → Iv i H → J.go i H ∧ ∀ x H', J.yld i H x H' → g x (wipe σ vs) H' fun σ2 H2 => wipe σ2 vs = wipe σ vs ∧ tt σ2 H2 fun b H3 =>
      if b = true then te σ2 H3 fun y H4 => ∃ acc, H4 D = some (.lst acc) ∧ acc.length < sizeLine ∧ Iv (i + 1) (L2.upd H4 D (.lst (acc ++ [y]))) else Iv (i + 1) H3) :
    ∃ W : Nat → Nat → Hp → Prop, (∃ m, W 0 m H0) ∧ ∀ i m H, W i m H →
      (J.stop i H ∧ Nx H) ∨ (J.go i H ∧ ∃ Nx1 : Hp → Prop, (∀ H', Nx1 H' → ∃ m', m' < m ∧ W (i + 1) m' H') ∧ ∀ x H', J.yld i H x H' → g x (wipe σ vs) H' fun σ2 H2 => wipe σ2 vs = wipe σ vs ∧ tt σ2 H2 fun b H3 =>
        if b = true then te σ2 H3 fun y H4 => ∃ acc, H4 D = some (.lst acc) ∧ acc.length < sizeLine ∧ Nx1 (L2.upd H4 D (.lst (acc ++ [y]))) else Nx1 H3) := by
  refine ⟨fun i m H => m = n - i ∧ i ≤ n ∧ Iv i H, ⟨n, by simp, Nat.zero_le _, h0⟩, ?_⟩
  rintro i m H ⟨rfl, hi, hp⟩
  by_cases e : i < n
  · obtain ⟨go, k⟩ := hs i H e hp
    exact .inr ⟨go, Iv (i + 1), fun H' q => ⟨n - (i + 1), by omega, rfl, e, q⟩, k⟩
  · obtain rfl : i = n := by omega
    exact .inl (hd H hp)
theorem lc_out {J : It} {n : Nat} {g : TG} {tt : TT} {vs : List Nat} {σ : L2.St} {H1 : Hp} {D : Addr} {Qd : Hp → Prop} {B : (Hp → Prop) → L2.St → Hp → Prop} (Iv : Nat → Hp → Prop) (h0 : Iv 0 (L2.upd H1 D (.lst []))) (hd : ∀ H, Iv n H → J.stop n H ∧ Qd H)
    (hs : ∀ i H, i < n → Iv i H → J.go i H ∧ ∀ x H', J.yld i H x H' → g x (wipe σ vs) H' fun σ2 H2 => wipe σ2 vs = wipe σ vs ∧ tt σ2 H2 fun b H3 => if b = true then B (Iv (i + 1)) σ2 H3 else Iv (i + 1) H3) :
    ∃ W : Nat → Nat → Hp → Prop, (∃ m, W 0 m (L2.upd H1 D (.lst []))) ∧ ∀ i m H, W i m H →
      (J.stop i H ∧ Qd H) ∨ (J.go i H ∧ ∃ Nx : Hp → Prop, (∀ H', Nx H' → ∃ m', m' < m ∧ W (i + 1) m' H') ∧ ∀ x H', J.yld i H x H' → g x (wipe σ vs) H' fun σ2 H2 => wipe σ2 vs = wipe σ vs ∧ tt σ2 H2 fun b H3 =>
        if b = true then B Nx σ2 H3 else Nx H3) := by
  refine ⟨fun i m H => m = n - i ∧ i ≤ n ∧ Iv i H, ⟨n, by simp, Nat.zero_le _, h0⟩, ?_⟩
  rintro i m H ⟨rfl, hi, hp⟩
  by_cases e : i < n
  · obtain ⟨go, k⟩ := hs i H e hp
    exact .inr ⟨go, Iv (i + 1), fun H' q => ⟨n - (i + 1), by omega, rfl, e, q⟩, k⟩
  · obtain rfl : i = n := by omega
    exact .inl (hd H hp)
/-! ### masks, pure -/
theorem lt_pow {x n : Nat} (h : ∀ b, x.testBit b = true → b < n) : x < 2 ^ n :=
  Nat.lt_pow_two_of_testBit x fun i hi => by
    cases e : x.testBit i with
    | false => rfl
    | true => exact absurd (h i e) (by omega)
theorem Rep.inn {n : Nat} {l : List Nat} {r : Rl} (h : Rep n l r) (i : In n r) {m : Nat} (hm : m ∈ l) : ∀ k, m.testBit k = true → k < n := by
  intro k hk
  obtain ⟨a, ha, e⟩ := List.getElem_of_mem hm
  have : (l.getD a 0).testBit k = true := by
    rw [List.getD_eq_getElem?_getD, List.getElem?_eq_getElem ha]
    show l[a].testBit k = true
    rw [e]
    exact hk
  exact (i a k ((h.bit a k).mp this)).2
theorem ones_len {m n : Nat} (h : ∀ k, m.testBit k = true → k < n) : (onesL m).length ≤ n := by
  rw [onesL_range (lt_pow h)]
  exact Nat.le_trans (List.length_filter_le _ _) (Nat.le_of_eq List.length_range)
def rowP (l : List Nat) (a : Nat) : List (Nat × Nat) := (onesL (l.getD a 0)).map fun b => (a, b)
theorem take_row (i : Nat) (z : List Nat) {j : Nat} (hj : j < z.length) : (z.map fun b => (i, b)).take (j + 1) = (z.map fun b => (i, b)).take j ++ [(i, z.getD j 0)] := by
  rw [List.take_succ, List.getElem?_map, List.getElem?_eq_getElem hj, List.getD_eq_getElem?_getD, List.getElem?_eq_getElem hj]
  rfl
def prsL (l : List Nat) : List (Nat × Nat) := (List.range l.length).flatMap (rowP l)
theorem mem_prsL {n : Nat} {l : List Nat} {r : Rl} (h : Rep n l r) {a b : Nat} : (a, b) ∈ prsL l ↔ r a b := by
  unfold prsL rowP
  rw [List.mem_flatMap]
  constructor
  · rintro ⟨c, _, h2⟩
    obtain ⟨d, hd, e⟩ := List.mem_map.mp h2
    obtain ⟨rfl, rfl⟩ := Prod.mk.inj e
    exact (h.bit _ _).mp (mem_onesL.mp hd)
  · intro z
    exact ⟨a, by rw [List.mem_range, h.len]; exact h.fst z, List.mem_map.mpr ⟨b, mem_onesL.mpr ((h.bit _ _).mpr z), rfl⟩⟩
section
variable {P : Program} {w : World} {K : PySem.W.Frag} {mg : Str → Option Value} {base : Heap} {C : Addr}
/-! ### pairs_of -/
def spPrs : Sp := fun vs H Q _ => ∃ (a : Addr) (l : List Nat), vs = [.ref a] ∧ H a = some (.lst (iN l)) ∧ l.length ≤ 100 ∧ (∀ m ∈ l, ∀ k, m.testBit k = true → k < 100) ∧
  ∀ p H' xs, H p = none → Same H H' → H' p = some (.lst xs) → PrAll H' xs (prsL l) → Q (.ref p) H'
def NPr : List Str := ["relation", "place", "mask", "goal"]
theorem scPrs : FnScope NPr ["relation"] (defScope (top 21)) := ⟨rfl, rfl, rfl, by decide +kernel, rfl, by decide +kernel, by decide +kernel⟩
theorem flat_len (l : List Nat) (h : ∀ m ∈ l, ∀ k, m.testBit k = true → k < 100) (n : Nat) : ((List.range n).flatMap (rowP l)).length ≤ n * 100 := by
  induction n with
  | zero => exact Nat.le_refl _
  | succ n ih =>
    rw [List.range_succ, List.flatMap_append, List.length_append]
    have : ([n].flatMap (rowP l)).length ≤ 100 := by
      rw [List.flatMap_cons, List.flatMap_nil, List.append_nil]
      unfold rowP
      rw [List.length_map]
      by_cases hn : n < l.length
      · rw [List.getD_eq_getElem?_getD, List.getElem?_eq_getElem hn]
        exact ones_len (h _ (List.getElem_mem hn))
      · rw [List.getD_eq_getElem?_getD, List.getElem?_eq_none (by omega)]
        exact ones_len (fun k hk => by simp at hk)
    omega
theorem ok_prs {f : Addr} {fd : FuncData} (F : Fun K "pairs_of" "pairs_of" (top 21) f fd) (n : Nm mg) (GO : Fn P w K mg base 1 "ones" ["bits"] spOnes) : FnOk P w K mg base CX0 2 f fd ["relation"] spPrs := by
  refine F.ok scPrs (fun vs H Q E h => ?_) (fun cdv A outer s H vs Q E hr h => ?_)
  · obtain ⟨a, l, rfl, _⟩ := h
    rfl
  · obtain ⟨a, l, rfl, ha, l100, bd, q⟩ := h
    have N := scPrs.nd
    refine ⟨_, pss_one (ps_ret (pe_lc2 (own := [("place", 1), ("mask", 2), ("goal", 3)]) (vs1 := [3]) (wi1 := iList K (tCall spOnes [] E0 (tCons (tVar 2) tNil))) (g := gTup K 2 (gCons (gName 1) (gCons (gName 2) gNil))) (g1 := gName 3) (tt := tYes) (tt1 := tYes) rfl N (pi_enumA (by rfl) n.enumerate (pa_cons (pv 0) pa_nil))
        (blkOk_by (N := NPr) (sc := defScope (top 21)) (by decide +kernel)) (by decide)
        (fun _ _ _ _ _ => pg_tup rfl (pgs_cons (pg_name (i := 1) N rfl (.inl rfl)) (pgs_cons (pg_name (i := 2) N rfl (.inl rfl)) pgs_nil)))
        (fun _ _ _ _ _ => pts_nil) (fun _ _ _ _ _ => pi_list (pe_fn GO hr (pa_cons (pv 2) pa_nil))) (fun _ _ _ _ _ => pg_name (i := 3) N rfl (.inl rfl)) (fun _ _ _ _ _ => pts_nil)
        (fun _ _ _ _ _ => pe_tup (pa_cons (pv 1) (pa_cons (pv 3) pa_nil))))), ?_⟩
    refine ⟨_, rfl, a, iN l, rfl, .inl ⟨.inl (.inl ha), fun D hD => ?_⟩⟩
    refine lc_out (n := l.length) (fun i H3 => ButD D H H3 ∧ ∃ xs, H3 D = some (.lst xs) ∧ PrAll H3 xs ((List.range i).flatMap (rowP l))) ⟨.start, [], upd_same, .nil⟩ ?_ ?_
    · rintro H3 ⟨b3, xs, h3, p3⟩
      have s3 := b3.new hD
      exact ⟨⟨_, .inl (.inl (s3 _ _ ha)), by rw [iN_len]; exact Nat.le_refl _⟩, q D H3 xs hD s3 h3 p3⟩
    · rintro i H3 hi ⟨b3, xs, h3, p3⟩
      have s3 := b3.new hD
      have hi2 : i < (iN l).length := by rw [iN_len]; exact hi
      refine ⟨⟨_, _, .inl (.inl (s3 _ _ ha)), List.getElem?_eq_getElem hi2⟩, ?_⟩
      rintro x H' ⟨T, y, rfl, hT, rfl, hy⟩
      have hyi := hy _ (.inl (.inl (s3 _ _ ha)))
      rw [iN_at hi] at hyi
      obtain rfl := Option.some.inj hyi
      have s4 : Same H3 (upd H3 T (.tup [.int (i : Nat), .int (l.getD i 0 : Nat)])) := same_upd hT
      have mem : l.getD i 0 ∈ l := by
        rw [List.getD_eq_getElem?_getD, List.getElem?_eq_getElem hi]
        exact List.getElem_mem hi
      have mb := bd _ mem
      refine ⟨T, _, rfl, .inl (.inl upd_same), rfl, _, _, rfl, _, _, rfl, rfl, rfl, yes_ite ?_⟩
      refine ⟨_, rfl, l.getD i 0, rfl, Nat.lt_of_lt_of_le (lt_pow mb) (Nat.pow_le_pow_right (by decide) (by decide)), fun o H5 no s5 ho => ?_⟩
      have s35 := s4.trans s5
      refine ⟨o, rfl, ⟨_, .inl (.inl ho)⟩, ?_⟩
      have b5 : ButD D H H5 := b3.more s35
      have oD : o ≠ D := fun z => by
        subst z
        rw [s4 _ _ h3] at no
        exact nomatch no
      refine lc_in (n := (onesL (l.getD i 0)).length) (fun j H6 => ButD D H5 H6 ∧ ∃ ys, H6 D = some (.lst ys) ∧ PrAll H6 ys ((List.range i).flatMap (rowP l) ++ (rowP l i).take j)) ⟨fun _ _ _ e => e, xs, s35 _ _ h3, by rw [List.take_zero, List.append_nil]; exact p3.same s35⟩ ?_ ?_
      · rintro H6 ⟨b6, ys, h6, p6⟩
        refine ⟨⟨_, .inl (.inl (b6 _ _ oD ho)), by rw [iN_len]; exact Nat.le_refl _⟩, ⟨fun c u ne e => b6 c u ne (b5 c u ne e), ys, h6, ?_⟩⟩
        have e1 : (rowP l i).take (onesL (l.getD i 0)).length = rowP l i := List.take_of_length_le (by unfold rowP; rw [List.length_map]; exact Nat.le_refl _)
        rw [e1] at p6
        rw [List.range_succ, List.flatMap_append, List.flatMap_cons, List.flatMap_nil, List.append_nil]
        exact p6
      · rintro j H6 hj ⟨b6, ys, h6, p6⟩
        have hj2 : j < (iN (onesL (l.getD i 0))).length := by rw [iN_len]; exact hj
        refine ⟨⟨_, _, .inl (.inl (b6 _ _ oD ho)), List.getElem?_eq_getElem hj2⟩, ?_⟩
        rintro x H7 ⟨rfl, hx⟩
        have hxj := hx _ (.inl (.inl (b6 _ _ oD ho)))
        rw [iN_at hj] at hxj
        obtain rfl := Option.some.inj hxj
        refine ⟨rfl, yes_ite ?_⟩
        refine ⟨_, rfl, _, rfl, (by show 2 ≤ sizeLine; decide), fun u hu => ?_⟩
        have s7 := same_upd (o := .tup [V.int (i : Nat), V.int ((onesL (l.getD i 0)).getD j 0 : Nat)]) hu
        have yl := Paired.length p6
        refine ⟨ys, s7 _ _ h6, ?_, (b6.more s7).put, _, upd_same, ?_⟩
        · rw [yl, List.length_append, sizeLine_eq]
          have f1 := flat_len l bd i
          have f2 : ((rowP l i).take j).length ≤ j := List.length_take_le _ _
          have f3 := ones_len mb
          omega
        · have e2 : (rowP l i).take (j + 1) = (rowP l i).take j ++ [(i, (onesL (l.getD i 0)).getD j 0)] := take_row i _ hj
          rw [e2, ← List.append_assoc]
          have bt : ButD D (upd H7 u (.tup [V.int (i : Nat), V.int ((onesL (l.getD i 0)).getD j 0 : Nat)])) (L2.upd (upd H7 u (.tup [V.int (i : Nat), V.int ((onesL (l.getD i 0)).getD j 0 : Nat)])) D (.lst (ys ++ [V.ref u]))) := ButD.start
          have dl : ∃ zs, upd H7 u (.tup [V.int (i : Nat), V.int ((onesL (l.getD i 0)).getD j 0 : Nat)]) D = some (.lst zs) := ⟨ys, s7 _ _ h6⟩
          refine PySem.Paired.snoc ((p6.same s7).but bt dl) ⟨u, rfl, bt _ _ (fun z => ?_) upd_same⟩
          subst z
          rw [hu] at h6
          exact nomatch h6
end
end L2.K71
end

section
set_option Elab.async false
set_option linter.all false
set_option maxRecDepth 100000
set_option maxHeartbeats 4000000
namespace L2.K71
open PySem PySem.Spec PyProof.Rows L2.Gd L2.Lv
theorem p100 {x : Nat} (h : x < 2 ^ 100) : x < 2 ^ 1000000 := Nat.lt_of_lt_of_le h (Nat.pow_le_pow_right (by decide) (by decide))
theorem lt100 {n m : Nat} (hn : n ≤ 100) (h : ∀ k, m.testBit k = true → k < n) : ∀ k, m.testBit k = true → k < 100 := fun k hk => Nat.lt_of_lt_of_le (h k hk) hn
section
variable {P : Program} {w : World} {K : PySem.W.Frag} {mg : Str → Option Value} {base : Heap} {C : Addr}
/-! ### image -/
def spImg : Sp := fun vs H Q _ => ∃ (a : Addr) (l : List Nat) (m n : Nat) (r : Rl), vs = [.ref a, .int m] ∧ H a = some (.lst (iN l)) ∧ Rep n l r ∧ n ≤ 100 ∧ (∀ k, m.testBit k = true → k < n) ∧
  ∀ (x : Nat) H', Same H H' → (∀ b, x.testBit b = true ↔ ∃ k, m.testBit k = true ∧ r k b) → Q (.int x) H'
def NIm : List Str := ["relation", "mask", "out", "place"]
theorem scImg : FnScope NIm ["relation", "mask"] (defScope (top 22)) := ⟨rfl, rfl, rfl, by decide +kernel, rfl, by decide +kernel, by decide +kernel⟩
theorem ok_img {f : Addr} {fd : FuncData} (F : Fun K "image" "image" (top 22) f fd) (n : Nm mg) (GO : Fn P w K mg base 1 "ones" ["bits"] spOnes) : FnOk P w K mg base CX0 2 f fd ["relation", "mask"] spImg := by
  refine F.ok scImg (fun vs H Q E h => ?_) (fun cdv A outer s H vs Q E hr h => ?_)
  · obtain ⟨a, l, m, k, r, rfl, _⟩ := h
    rfl
  · obtain ⟨a, l, m, k, r, rfl, ha, rp, k100, mb, q⟩ := h
    have N := scImg.nd
    refine ⟨_, pss_cons (ps_set (i := 2) N rfl (.inl rfl) pe_int)
      (pss_cons (ps_for PassesOwn.never rfl (pi_list (pe_fn GO hr (pa_cons (pv 1) pa_nil))) (pg_name (i := 3) N rfl (.inl rfl))
        (pss_one (ps_set (i := 2) N rfl (.inl rfl) (pe_op op_or (pv 2) (pe_ix ix_list (pv 0) (pv 3) (fun _ _ => rfl))))))
      (pss_one (ps_ret (pv 2)))), ?_⟩
    refine ⟨_, rfl, m, rfl, p100 (lt_pow (lt100 k100 mb)), fun o H1 no s1 ho => ?_⟩
    refine ⟨o, rfl, ⟨_, .inl (.inl ho)⟩, ?_⟩
    refine loop_of (n := (onesL m).length) (fun i σ H2 => ∃ (v3 : Option V) (x : Nat), σ = [some (.ref a), some (.int m), some (.int x), v3] ∧ Same H1 H2 ∧ ∀ b, x.testBit b = true ↔ ∃ k ∈ (onesL m).take i, r k b)
      ⟨none, 0, rfl, Same.refl, fun b => by simp⟩ ?_ ?_
    · rintro σ H2 ⟨v3, x, rfl, s2, hx⟩
      refine ⟨⟨_, .inl (.inl (s2 _ _ ho)), by rw [iN_len]; exact Nat.le_refl _⟩, ?_⟩
      rw [List.take_length] at hx
      exact ⟨_, rfl, q x H2 (s1.trans s2) fun b => by rw [hx]; exact ⟨fun ⟨k, h1, h2⟩ => ⟨k, mem_onesL.mp h1, h2⟩, fun ⟨k, h1, h2⟩ => ⟨k, mem_onesL.mpr h1, h2⟩⟩⟩
    · rintro i σ H2 hi ⟨v3, x, rfl, s2, hx⟩
      have hi2 : i < (iN (onesL m)).length := by rw [iN_len]; exact hi
      refine ⟨⟨_, _, .inl (.inl (s2 _ _ ho)), List.getElem?_eq_getElem hi2⟩, ?_⟩
      rintro v H3 ⟨rfl, hy⟩
      have hvi := hy _ (.inl (.inl (s2 _ _ ho)))
      rw [iN_at hi] at hvi
      obtain rfl := Option.some.inj hvi
      have hg : (onesL m).getD i 0 = (onesL m)[i] := by rw [List.getD_eq_getElem?_getD, List.getElem?_eq_getElem hi]; rfl
      have hp : (onesL m).getD i 0 < l.length := by
        rw [rp.len, hg]
        exact mb _ (mem_onesL.mp (List.getElem_mem hi))
      refine gn ?_
      refine ⟨_, rfl, _, rfl, _, rfl, a, iN l, _, _, rfl, rfl, .inl (.inl ((s1.trans s2) _ _ ha)), atI_nat (iN_at hp), _, _, rfl, rfl, ?_⟩
      refine ⟨some (.int ((onesL m).getD i 0 : Nat)), x ||| l.getD ((onesL m).getD i 0) 0, ?_, s2, fun b => ?_⟩
      · show [some (V.ref a), some (V.int m), some (V.int (Builtin.bitOr (x : Int) ((l.getD ((onesL m).getD i 0) 0 : Nat) : Int))), some (V.int ((onesL m).getD i 0 : Nat))] = _
        rw [or_nat]
      · rw [Nat.testBit_or, Bool.or_eq_true, hx, rp.bit, List.take_succ, List.getElem?_eq_getElem hi, hg]
        constructor
        · rintro (⟨k, h1, h2⟩ | h)
          · exact ⟨k, List.mem_append_left _ h1, h2⟩
          · exact ⟨_, List.mem_append_right _ (by simp), h⟩
        · rintro ⟨k, h1, h2⟩
          rcases List.mem_append.mp h1 with h1 | h1
          · exact .inl ⟨k, h1, h2⟩
          · have : k = (onesL m)[i] := by simpa using h1
            subst this
            exact .inr h2
/-! ### followed -/
def spFol : Sp := fun vs H Q _ => ∃ (a c : Addr) (l z : List Nat) (n : Nat) (r s : Rl), vs = [.ref a, .ref c] ∧ H a = some (.lst (iN l)) ∧ H c = some (.lst (iN z)) ∧ Rep n l r ∧ Rep n z s ∧ n ≤ 100 ∧ In n r ∧
  ∀ p H' y, H p = none → Same H H' → H' p = some (.lst (iN y)) → Rep n y (Cp r s) → Q (.ref p) H'
def NFo : List Str := ["one", "two", "mask"]
theorem scFol : FnScope NFo ["one", "two"] (defScope (top 23)) := ⟨rfl, rfl, rfl, by decide +kernel, rfl, by decide +kernel, by decide +kernel⟩
/-- masks of the first rows -/
structure RepT (n i : Nat) (l : List Nat) (r : Rl) : Prop where
  len : l.length = i
  bit : ∀ a b, (l.getD a 0).testBit b = true ↔ (a < i ∧ r a b)
theorem RepT.nil {n : Nat} {r : Rl} : RepT n 0 [] r := ⟨rfl, fun a b => by simp⟩
theorem RepT.snoc {n i : Nat} {l : List Nat} {r : Rl} (h : RepT n i l r) {x : Nat} (hx : ∀ b, x.testBit b = true ↔ r i b) : RepT n (i + 1) (l ++ [x]) r := by
  refine ⟨by rw [List.length_append, h.len]; rfl, fun a b => ?_⟩
  rw [List.getD_eq_getElem?_getD, List.getElem?_append, h.len]
  by_cases e : a < i
  · rw [if_pos e, ← List.getD_eq_getElem?_getD, h.bit]
    exact ⟨fun z => ⟨by omega, z.2⟩, fun z => ⟨e, z.2⟩⟩
  · rw [if_neg e]
    by_cases e2 : a = i
    · subst e2
      rw [Nat.sub_self]
      show x.testBit b = true ↔ _
      rw [hx]
      exact ⟨fun z => ⟨by omega, z⟩, fun z => z.2⟩
    · have : ([x] : List Nat)[a - i]? = none := by
        rw [List.getElem?_eq_none]
        simp
        omega
      rw [this]
      simp
      omega
theorem RepT.whole {n : Nat} {l : List Nat} {r : Rl} (h : RepT n n l r) (i : ∀ a b, r a b → a < n) : Rep n l r := ⟨h.len, fun a b => (h.bit a b).trans ⟨fun z => z.2, fun z => ⟨i a b z, z⟩⟩⟩
theorem ok_fol {f : Addr} {fd : FuncData} (F : Fun K "followed" "followed" (top 23) f fd) (n : Nm mg) (GI : Fn P w K mg base 2 "image" ["relation", "mask"] spImg) : FnOk P w K mg base CX0 3 f fd ["one", "two"] spFol := by
  refine F.ok scFol (fun vs H Q E h => ?_) (fun cdv A outer s H vs Q E hr h => ?_)
  · obtain ⟨a, c, l, z, k, r, t, rfl, _⟩ := h
    rfl
  · obtain ⟨a, c, l, z, k, r, t, rfl, ha, hc, rp, rz, k100, ir, q⟩ := h
    have N := scFol.nd
    refine ⟨_, pss_one (ps_ret (pe_lc (own := [("mask", 2)]) (g := gName 2) (tt := tYes) rfl N (pi_list (pv 0)) (blkOk_by (N := NFo) (sc := defScope (top 23)) (by decide +kernel)) (fun _ _ _ _ _ => pg_name (i := 2) N rfl (.inl rfl))
      (fun _ _ _ _ _ => pts_nil) (fun _ _ _ _ _ => pe_fn GI hr (pa_cons (pv 1) (pa_cons (pv 2) pa_nil))))), ?_⟩
    refine ⟨_, rfl, a, rfl, ⟨_, .inl (.inl ha)⟩, fun D hD => ?_⟩
    refine lc_gen (n := l.length) (fun i H3 => ButD D H H3 ∧ ∃ y, H3 D = some (.lst (iN y)) ∧ RepT k i y (Cp r t)) ⟨.start, [], upd_same, .nil⟩ ?_ ?_
    · rintro H3 ⟨b3, y, h3, ry⟩
      have s3 := b3.new hD
      rw [rp.len] at ry
      exact ⟨⟨_, .inl (.inl (s3 _ _ ha)), by rw [iN_len]; exact Nat.le_refl _⟩, q D H3 y hD s3 h3 (ry.whole fun a b ⟨x, h1, _⟩ => rp.fst h1)⟩
    · rintro i H3 hi ⟨b3, y, h3, ry⟩
      have s3 := b3.new hD
      have hi2 : i < (iN l).length := by rw [iN_len]; exact hi
      refine ⟨⟨_, _, .inl (.inl (s3 _ _ ha)), List.getElem?_eq_getElem hi2⟩, ?_⟩
      rintro x H4 ⟨rfl, hy⟩
      have hvi := hy _ (.inl (.inl (s3 _ _ ha)))
      rw [iN_at hi] at hvi
      obtain rfl := Option.some.inj hvi
      refine ⟨rfl, yes_ite ?_⟩
      refine ⟨_, rfl, _, rfl, c, z, l.getD i 0, k, t, rfl, s3 _ _ hc, rz, k100, ?_, fun x H5 s5 hx => ?_⟩
      · intro j hj
        exact (ir i j ((rp.bit i j).mp hj)).2
      · refine ⟨_, s5 _ _ h3, by rw [iN_len, ry.len, sizeLine_eq]; have := rp.len; omega, (b3.more s5).put, y ++ [x], by rw [upd_same, iN_app]; rfl, ry.snoc fun b => ?_⟩
        rw [hx]
        exact ⟨fun ⟨j, h1, h2⟩ => ⟨j, (rp.bit i j).mp h1, h2⟩, fun ⟨j, h1, h2⟩ => ⟨j, (rp.bit i j).mpr h1, h2⟩⟩
/-! ### joined -/
def spJoi : Sp := fun vs H Q _ => ∃ (a c : Addr) (l z : List Nat) (n : Nat) (r s : Rl), vs = [.ref a, .ref c] ∧ H a = some (.lst (iN l)) ∧ H c = some (.lst (iN z)) ∧ Rep n l r ∧ Rep n z s ∧ n ≤ 100 ∧
  ∀ p H' y, H p = none → Same H H' → H' p = some (.lst (iN y)) → Rep n y (Or2 r s) → Q (.ref p) H'
def NJo : List Str := ["one", "two", "place"]
theorem scJoi : FnScope NJo ["one", "two"] (defScope (top 24)) := ⟨rfl, rfl, rfl, by decide +kernel, rfl, by decide +kernel, by decide +kernel⟩
theorem ok_joi {f : Addr} {fd : FuncData} (F : Fun K "joined" "joined" (top 24) f fd) (n : Nm mg) : FnOk P w K mg base CX0 1 f fd ["one", "two"] spJoi := by
  refine F.ok scJoi (fun vs H Q E h => ?_) (fun cdv A outer s H vs Q E hr h => ?_)
  · obtain ⟨a, c, l, z, k, r, t, rfl, _⟩ := h
    rfl
  · obtain ⟨a, c, l, z, k, r, t, rfl, ha, hc, rp, rz, k100, q⟩ := h
    have N := scJoi.nd
    refine ⟨_, pss_one (ps_ret (pe_lc (own := [("place", 2)]) (g := gName 2) (tt := tYes) rfl N (pi_range1 (by rfl) n.range (pa_cons (pe_callB call_len_seq (by rfl) n.len PySem.boot_len (pa_cons (pv 0) pa_nil)) pa_nil)) (blkOk_by (N := NJo) (sc := defScope (top 24)) (by decide +kernel)) (fun _ _ _ _ _ => pg_name (i := 2) N rfl (.inl rfl))
      (fun _ _ _ _ _ => pts_nil) (fun _ _ _ _ _ => pe_op op_or (pe_ix (r := rIxL K) ix_list (pv 0) (pv 2) (fun _ _ => rfl)) (pe_ix (r := rIxL K) ix_list (pv 1) (pv 2) (fun _ _ => rfl))))), ?_⟩
    have ll : (iN l).length = k := by rw [iN_len, rp.len]
    refine ⟨_, rfl, a, _, rfl, .inl (.inl (.inl ha)), _, rfl, by rw [ll]; omega, by rw [ll]; omega, fun D hD => ?_⟩
    rw [ll]
    refine lc_range (lo := 0) (n := ((k : Int)).toNat) (fun i H3 => ButD D H H3 ∧ ∃ y, H3 D = some (.lst (iN y)) ∧ RepT k i y (Or2 r t)) ⟨.start, [], upd_same, .nil⟩ ?_ ?_
    · rintro i H3 hi ⟨b3, y, h3, ry⟩
      have s3 := b3.new hD
      have hik : i < k := by omega
      refine ⟨rfl, yes_ite ?_⟩
      have e0 : (0 : Int) + (i : Int) = (i : Int) := Int.zero_add _
      refine ⟨_, rfl, _, rfl, a, iN l, (0 : Int) + (i : Int), _, rfl, rfl, .inl (.inl (s3 _ _ ha)), by rw [e0]; exact atI_nat (iN_at (by rw [rp.len]; exact hik)), _, rfl, _, rfl, c, iN z, (0 : Int) + (i : Int), _, rfl, rfl, .inl (.inl (s3 _ _ hc)), by rw [e0]; exact atI_nat (iN_at (by rw [rz.len]; exact hik)), _, _, rfl, rfl, ?_⟩
      refine ⟨_, h3, by rw [iN_len, ry.len, sizeLine_eq]; omega, b3.put, y ++ [l.getD i 0 ||| z.getD i 0], ?_, ry.snoc fun b => ?_⟩
      · rw [upd_same, iN_app]
        show some (HO.lst (iN y ++ [V.int (Builtin.bitOr ((l.getD i 0 : Nat) : Int) ((z.getD i 0 : Nat) : Int))])) = _
        rw [or_nat]
        rfl
      · rw [Nat.testBit_or, Bool.or_eq_true, rp.bit, rz.bit]
        rfl
    · rintro H3 ⟨b3, y, h3, ry⟩
      rw [Int.toNat_natCast] at ry
      exact q D H3 y hD (b3.new hD) h3 (ry.whole fun a b h => h.elim (fun h => rp.fst h) fun h => rz.fst h)
end
end L2.K71
end

section
set_option Elab.async false
set_option linter.all false
set_option maxRecDepth 100000
set_option maxHeartbeats 4000000
namespace L2.K71
open PySem PySem.Spec PyProof.Rows L2.Gd L2.Lv
theorem bit_test (m i : Nat) : decide (V.int (Builtin.bitAnd ((m : Int) / 2 ^ ((i : Int)).toNat) 1) = V.int 1) = m.testBit i := by
  rw [shr_nat, show (1 : Int) = ((1 : Nat) : Int) from rfl, and_nat, Nat.and_one_is_mod, Nat.testBit_eq_decide_div_mod_eq]
  have e : ∀ k : Nat, (V.int ((k : Nat) : Int) = V.int ((1 : Nat) : Int)) = (k = 1) := fun k => by
    simp
    omega
  simp only [e]
theorem Wa.repl {r : Rl} {n i : Nat} {y z : List Nat} (hy : Rep n y (Wa r n i)) (hz : ∀ a b, (z.getD a 0).testBit b = true ↔ ((y.getD a 0).testBit b = true ∨ ((y.getD a 0).testBit i = true ∧ (y.getD i 0).testBit b = true))) (hl : z.length = n) : Rep n z (Wa r n (i + 1)) := by
  refine ⟨hl, fun a b => ?_⟩
  rw [hz, hy.bit, hy.bit, hy.bit]
  exact Iff.rfl
theorem wa_in {r : Rl} {n : Nat} (i : In n r) (m : Nat) (h : m ≤ n) : In n (Wa r n m) := fun a b z => Cl.inn a b (Wa.star i m a b h z)
/-! ### lists of ints as data -/
theorem ints_eqv : ∀ ns ms : List Int, PyData.eqvAll (ns.map PyData.int) (ms.map PyData.int) = decide (ns = ms)
  | [], [] => by simp [PyData.eqvAll]
  | [], _ :: _ => by simp [PyData.eqvAll]
  | _ :: _, [] => by simp [PyData.eqvAll]
  | x :: r, y :: t => by
    rw [List.map_cons, List.map_cons, PyData.eqvAll, ints_eqv r t]
    simp [PyData.eqv]
    rfl
theorem ints_lay : ∀ ns : List Int, PyData.canLayAll0 (ns.map PyData.int) = true
  | [] => by simp [PyData.canLayAll0]
  | x :: r => by simp [PyData.canLayAll0, PyData.canLay0, ints_lay r]
theorem ints_dep : ∀ ns : List Int, PyData.depthAll (ns.map PyData.int) = 0
  | [] => by simp [PyData.depthAll]
  | x :: r => by simp [PyData.depthAll, PyData.depth, ints_dep r]
theorem ints_shaped (ns : List Int) : SeqAt.shaped (.list (ns.map PyData.int)) = true := by
  show (PyData.canLay0 (.list (ns.map PyData.int)) && decide (PyData.depth (.list (ns.map PyData.int)) ≤ 64)) = true
  rw [Bool.and_eq_true]
  refine ⟨by simp only [PyData.canLay0]; exact ints_lay ns, decide_eq_true ?_⟩
  simp only [PyData.depth, ints_dep]
  decide
def intsD (l : List Nat) : PyData := .list ((l.map fun n : Nat => (n : Int)).map PyData.int)
theorem iN_ints (l : List Nat) : iN l = (l.map fun n : Nat => (n : Int)).map V.int := by
  unfold iN
  rw [List.map_map]
  rfl
theorem eqv_ints (l z : List Nat) : PyData.eqv (intsD l) (intsD z) = decide (l = z) := by
  unfold intsD
  rw [PyData.eqv, ints_eqv, Bool.eq_iff_iff, decide_eq_true_eq, decide_eq_true_eq]
  exact ⟨fun h => (List.map_inj_right fun a b h => Int.ofNat.inj h).mp h, fun h => by rw [h]⟩
section
variable {P : Program} {w : World} {K : PySem.W.Frag} {mg : Str → Option Value} {base : Heap} {C : Addr}
theorem dps_ints {H : Hp} : ∀ ns : List Int, DpAll K H (ns.map V.int) (ns.map PyData.int)
  | [] => .nil
  | n :: r => .cons (.int n) (dps_ints r)
theorem dp_ints {H : Hp} {a : Addr} {l : List Nat} (h : H a = some (.lst (iN l))) : Dp K H (.ref a) (intsD l) := by
  rw [iN_ints] at h
  exact .lst (.inl (.inl h)) (dps_ints _)
/-! ### closed -/
def spCl : Sp := fun vs H Q _ => ∃ (a : Addr) (l : List Nat) (n : Nat) (r : Rl), vs = [.ref a] ∧ H a = some (.lst (iN l)) ∧ Rep n l r ∧ n ≤ 100 ∧ In n r ∧
  ∀ p H' y, H p = none → Same H H' → H' p = some (.lst (iN y)) → Rep n y (Cl n r) → Q (.ref p) H'
def NCl : List Str := ["relation", "out", "middle", "more", "place", "mask"]
theorem scCl : FnScope NCl ["relation"] (defScope (top 26)) := ⟨rfl, rfl, rfl, by decide +kernel, rfl, by decide +kernel, by decide +kernel⟩
theorem rep_self {n i : Nat} {y l : List Nat} {r : Rl} (h : RepT n i y (fun a b => r a b ∨ (a = b ∧ a < n))) (hl : Rep n l r) : RepT n (i + 1) (y ++ [more (l.getD i 0) i]) (fun a b => r a b ∨ (a = b ∧ a < n)) ∨ ¬ i < n := by
  by_cases hi : i < n
  · refine .inl (h.snoc fun b => ?_)
    rw [more_bit, hl.bit]
    exact ⟨fun z => z.imp id fun z => ⟨z.symm, hi⟩, fun z => z.imp id fun z => z.1.symm⟩
  · exact .inr hi
theorem ok_cl {f : Addr} {fd : FuncData} (F : Fun K "closed" "closed" (top 26) f fd) (n : Nm mg) : FnOk P w K mg base CX0 1 f fd ["relation"] spCl := by
  refine F.ok scCl (fun vs H Q E h => ?_) (fun cdv A outer s H vs Q E hr h => ?_)
  · obtain ⟨a, l, k, r, rfl, _⟩ := h
    rfl
  · obtain ⟨a, l, k, r, rfl, ha, rp, k100, ir, q⟩ := h
    have N := scCl.nd
    refine ⟨_, pss_cons (ps_setLc (i := 1) (own := [("place", 4), ("mask", 5)]) (g := gTup K 2 (gCons (gName 4) (gCons (gName 5) gNil))) (tt := tYes) (by rfl) N rfl rfl (sw_true rfl rfl rfl (by decide +kernel)) (pi_enumA (by rfl) n.enumerate (pa_cons (pv 0) pa_nil)) (blkOk_by (N := NCl) (sc := defScope (top 26)) (by decide +kernel))
        (fun _ _ _ _ _ => pg_tup rfl (pgs_cons (pg_name (i := 4) N rfl (.inl rfl)) (pgs_cons (pg_name (i := 5) N rfl (.inl rfl)) pgs_nil)))
        (fun _ _ _ _ _ => pts_nil) (fun _ _ _ _ _ => pe_op op_or (pv 5) (pe_op op_shl pe_int (pv 4))))
      (pss_cons (ps_for PassesOwn.never rfl (pi_range1 (by rfl) n.range (pa_cons (pe_callB call_len_seq (by rfl) n.len PySem.boot_len (pa_cons (pv 1) pa_nil)) pa_nil)) (pg_name (i := 2) N rfl (.inr rfl))
        (pss_cons (ps_set (i := 3) N rfl (.inr rfl) (pe_ix ix_list (pv 1) (pv 2) (fun _ _ => rfl)))
        (pss_one (ps_setLc (i := 1) (own := [("mask", 5)]) (g := gName 5) (tt := tYes) (by rfl) N rfl rfl (sw_true rfl rfl rfl (by decide +kernel)) (pi_list (pv 1)) (blkOk_by (N := NCl) (sc := defScope (top 26)) (by decide +kernel))
          (fun _ _ _ _ _ => pg_name (i := 5) N rfl (.inl rfl)) (fun _ _ _ _ _ => pts_nil)
          (fun _ _ _ _ _ => pe_ifExp (pt_cmpR op_eq (pe_op op_and (pe_op op_shr (pv 5) (pv 2)) pe_int) pe_int (nomark _)) (pe_op op_or (pv 5) (pv 3)) (pv 5))))))
      (pss_one (ps_ret (pv 1)))), ?_⟩
    refine seqV (Good := fun σ2 H2 => ∃ (o : Addr) (y : List Nat), H o = none ∧ Same H H2 ∧ H2 o = some (.lst (iN y)) ∧ Rep k y (Wa r k 0) ∧ σ2 = [some (.ref a), some (.ref o), none, none, none, none]) ?_ ?_
    · intro nx hnx
      refine ⟨_, rfl, a, iN l, rfl, .inl ⟨.inl (.inl ha), fun D hD => ?_⟩⟩
      refine lc_gen (n := l.length) (fun i H3 => ButD D H H3 ∧ ∃ y, H3 D = some (.lst (iN y)) ∧ RepT k i y (fun a b => r a b ∨ (a = b ∧ a < k))) ⟨.start, [], upd_same, .nil⟩ ?_ ?_
      · rintro H3 ⟨b3, y, h3, ry⟩
        have s3 := b3.new hD
        rw [rp.len] at ry
        exact ⟨⟨_, .inl (.inl (s3 _ _ ha)), by rw [iN_len]; exact Nat.le_refl _⟩, hnx _ _ ⟨D, y, hD, s3, h3, ry.whole fun a b h => h.elim (fun h => rp.fst h) fun h => h.2, rfl⟩⟩
      · rintro i H3 hi ⟨b3, y, h3, ry⟩
        have s3 := b3.new hD
        have hi2 : i < (iN l).length := by rw [iN_len]; exact hi
        have hik : i < k := by rw [← rp.len]; exact hi
        refine ⟨⟨_, _, .inl (.inl (s3 _ _ ha)), List.getElem?_eq_getElem hi2⟩, ?_⟩
        rintro x H' ⟨T, v, rfl, hT, rfl, hy⟩
        have hyi := hy _ (.inl (.inl (s3 _ _ ha)))
        rw [iN_at hi] at hyi
        obtain rfl := Option.some.inj hyi
        have s4 : Same H3 (upd H3 T (.tup [.int (i : Nat), .int (l.getD i 0 : Nat)])) := same_upd hT
        refine ⟨T, _, rfl, .inl (.inl upd_same), rfl, _, _, rfl, _, _, rfl, rfl, rfl, yes_ite ?_⟩
        refine ⟨_, rfl, _, rfl, _, _, rfl, rfl, ⟨by omega, by omega, by decide⟩, _, _, rfl, rfl, ?_⟩
        refine ⟨_, s4 _ _ h3, by rw [iN_len, ry.len, sizeLine_eq]; omega, (b3.more s4).put, y ++ [more (l.getD i 0) i], ?_, (rep_self ry rp).resolve_right (fun z => z hik)⟩
        rw [upd_same, iN_app]
        show some (HO.lst (iN y ++ [V.int (Builtin.bitOr ((l.getD i 0 : Nat) : Int) ((1 : Int) * 2 ^ ((i : Int)).toNat))])) = _
        rw [shl_nat, or_nat]
        rfl
    rintro _ H1 ⟨o1, y1, no1, s1, ho1, ry1, rfl⟩
    have ll : (iN y1).length = k := by rw [iN_len, ry1.len]
    refine ⟨_, rfl, o1, _, rfl, .inl (.inl (.inl ho1)), ?_⟩
    rw [ll]
    refine ⟨_, rfl, by omega, by omega, for_range (lo := 0) (n := ((k : Int)).toNat) (fun i σ H2 => ∃ (o : Addr) (y : List Nat) (v2 v3 : Option V), H o = none ∧ Same H H2 ∧ H2 o = some (.lst (iN y)) ∧ Rep k y (Wa r k i) ∧ σ = [some (.ref a), some (.ref o), v2, v3, none, none])
      ⟨o1, y1, none, none, no1, s1, ho1, ry1, rfl⟩ ?_ ?_⟩
    · rintro i σ H2 hi ⟨o, y, v2, v3, no, s2, ho, ry, rfl⟩
      have hik : i < k := by omega
      have e0 : (0 : Int) + (i : Int) = (i : Int) := Int.zero_add _
      refine gn ?_
      rw [e0]
      have hyl : i < y.length := by rw [ry.len]; exact hik
      refine ⟨_, rfl, _, rfl, o, iN y, _, _, rfl, rfl, .inl (.inl ho), atI_nat (iN_at hyl), ?_⟩
      refine ⟨_, rfl, o, rfl, ⟨_, .inl (.inl ho)⟩, fun D hD => ?_⟩
      refine lc_gen (n := y.length) (fun j H3 => ButD D H2 H3 ∧ ∃ z, H3 D = some (.lst (iN z)) ∧ RepT k j z (Wa r k (i + 1))) ⟨.start, [], upd_same, .nil⟩ ?_ ?_
      · rintro H3 ⟨b3, z, h3, rz⟩
        have s3 := b3.new hD
        rw [ry.len] at rz
        refine ⟨⟨_, .inl (.inl (s3 _ _ ho)), by rw [iN_len]; exact Nat.le_refl _⟩, ⟨D, z, _, _, s2.free hD, s2.trans s3, h3, rz.whole fun a b h => ?_, rfl⟩⟩
        exact ((wa_in ir (i + 1) (by omega) a b h)).1
      · rintro j H3 hj ⟨b3, z, h3, rz⟩
        have s3 := b3.new hD
        have hj2 : j < (iN y).length := by rw [iN_len]; exact hj
        refine ⟨⟨_, _, .inl (.inl (s3 _ _ ho)), List.getElem?_eq_getElem hj2⟩, ?_⟩
        rintro x H4 ⟨rfl, hx⟩
        have hxj := hx _ (.inl (.inl (s3 _ _ ho)))
        rw [iN_at hj] at hxj
        obtain rfl := Option.some.inj hxj
        refine ⟨rfl, yes_ite ?_⟩
        refine ⟨_, rfl, _, rfl, _, _, rfl, rfl, (by omega), _, _, rfl, rfl, rfl, _, congrArg V.bl (bit_test (y.getD j 0) i), ?_⟩
        have hb := ry.bit j i
        have wn : ∀ b, (Wa r k (i + 1)) j b ↔ (Wa r k i j b ∨ (Wa r k i j i ∧ Wa r k i i b)) := fun b => Iff.rfl
        cases ht : (y.getD j 0).testBit i with
        | true =>
          refine iteT ⟨_, rfl, _, rfl, _, _, rfl, rfl, ?_⟩
          refine ⟨_, h3, by rw [iN_len, rz.len, sizeLine_eq]; have := ry.len; omega, b3.put, z ++ [y.getD j 0 ||| y.getD i 0], ?_, rz.snoc fun b => ?_⟩
          · rw [upd_same, iN_app]
            show some (HO.lst (iN z ++ [V.int (Builtin.bitOr ((y.getD j 0 : Nat) : Int) ((y.getD i 0 : Nat) : Int))])) = _
            rw [or_nat]
            rfl
          · rw [Nat.testBit_or, Bool.or_eq_true, ry.bit, ry.bit, wn]
            exact ⟨fun q => q.imp id fun q => ⟨hb.mp ht, q⟩, fun q => q.imp id fun q => q.2⟩
        | false =>
          refine iteF ⟨_, rfl, _, h3, by rw [iN_len, rz.len, sizeLine_eq]; have := ry.len; omega, b3.put, z ++ [y.getD j 0], ?_, rz.snoc fun b => ?_⟩
          · rw [upd_same, iN_app]
            rfl
          · rw [ry.bit, wn]
            refine ⟨.inl, fun q => q.elim id fun q => ?_⟩
            rw [hb.mpr q.1] at ht
            exact nomatch ht
    · rintro σ H2 ⟨o, y, v2, v3, no, s2, ho, ry, rfl⟩
      rw [Int.toNat_natCast] at ry
      exact ⟨_, rfl, q o H2 y no s2 ho (ry.iff (wa_cl ir))⟩
end
end L2.K71
end

section
set_option linter.all false
namespace L2.Lv
/-! Counting: a chain of relations that grows strictly is short. -/
def sq (n : Nat) : List (Nat × Nat) := (List.range n).flatMap fun a => (List.range n).map fun b => (a, b)
theorem sq_len (n : Nat) : (sq n).length = n * n := by
  unfold sq
  have : ∀ k, ((List.range k).flatMap fun a => (List.range n).map fun b => (a, b)).length = k * n := by
    intro k
    induction k with
    | zero => simp
    | succ k ih => rw [List.range_succ, List.flatMap_append, List.length_append, ih]; simp [Nat.succ_mul]
  exact this n
theorem mem_sq {n a b : Nat} : (a, b) ∈ sq n ↔ a < n ∧ b < n := by
  unfold sq
  simp only [List.mem_flatMap, List.mem_map, List.mem_range, Prod.mk.injEq]
  constructor
  · rintro ⟨x, hx, y, hy, rfl, rfl⟩
    exact ⟨hx, hy⟩
  · rintro ⟨h1, h2⟩
    exact ⟨a, h1, b, h2, rfl, rfl⟩
def has (l : List Nat) (p : Nat × Nat) : Bool := (l.getD p.1 0).testBit p.2
def cnt (n : Nat) (l : List Nat) : Nat := (sq n).countP (has l)
theorem cnt_le (n : Nat) (l : List Nat) : cnt n l ≤ n * n := by
  rw [← sq_len n]
  exact List.countP_le_length
theorem countP_lt {α : Type} {p q : α → Bool} {x : α} : ∀ {l : List α}, (∀ a ∈ l, p a = true → q a = true) → x ∈ l → p x = false → q x = true → l.countP p < l.countP q
  | [], _, h, _, _ => nomatch h
  | y :: r, i, h, px, qx => by
    have mono : r.countP p ≤ r.countP q := List.countP_mono_left fun a ha => i a (List.mem_cons_of_mem _ ha)
    rcases List.mem_cons.mp h with rfl | h
    · rw [List.countP_cons_of_neg (by rw [px]; decide), List.countP_cons_of_pos qx]
      omega
    · have ih := countP_lt (fun a ha => i a (List.mem_cons_of_mem _ ha)) h px qx
      by_cases py : p y = true
      · rw [List.countP_cons_of_pos py, List.countP_cons_of_pos (i y List.mem_cons_self py)]
        omega
      · rw [List.countP_cons_of_neg py]
        have := List.countP_le_length (p := q) (l := r)
        by_cases qy : q y = true
        · rw [List.countP_cons_of_pos qy]
          omega
        · rw [List.countP_cons_of_neg qy]
          exact ih
theorem cnt_lt {n : Nat} {l z : List Nat} {r s : Rl} (hl : Rep n l r) (hz : Rep n z s) (i : In n s) (h : Sub r s) (ne : l ≠ z) : cnt n l < cnt n z := by
  have : ∃ a b, s a b ∧ ¬ r a b := Classical.byContradiction fun c => ne ((hl.ext hz).mpr fun a b => ⟨h a b, fun x => Classical.byContradiction fun y => c ⟨a, b, x, y⟩⟩)
  obtain ⟨a, b, x, y⟩ := this
  refine countP_lt (x := (a, b)) (fun p _ hp => (hz.bit _ _).mpr (h _ _ ((hl.bit _ _).mp hp))) (mem_sq.mpr (i a b x)) ?_ ((hz.bit _ _).mpr x)
  cases e : has l (a, b) with
  | false => rfl
  | true => exact absurd ((hl.bit _ _).mp e) y
end L2.Lv
namespace L2.Lv
/-! every relation has masks -/
def bitsOf (l : List Nat) : Nat := l.foldr (fun b x => x ||| 2 ^ b) 0
theorem bitsOf_bit (b : Nat) : ∀ l : List Nat, (bitsOf l).testBit b = true ↔ b ∈ l
  | [] => by simp [bitsOf]
  | c :: r => by
    show (bitsOf r ||| 2 ^ c).testBit b = true ↔ _
    rw [Nat.testBit_or, Nat.testBit_two_pow, Bool.or_eq_true, decide_eq_true_eq, bitsOf_bit b r, List.mem_cons]
    exact ⟨fun h => h.elim .inr fun e => .inl e.symm, fun h => h.elim (fun e => .inr e.symm) .inl⟩
open Classical in
noncomputable def repOf (n : Nat) (r : Rl) : List Nat := (List.range n).map fun a => bitsOf ((List.range n).filter fun b => decide (r a b))
open Classical in
theorem repOf_ok {n : Nat} {r : Rl} (i : In n r) : Rep n (repOf n r) r := by
  refine ⟨by simp [repOf], fun a b => ?_⟩
  unfold repOf
  rw [List.getD_eq_getElem?_getD, List.getElem?_map]
  by_cases h : a < n
  · rw [List.getElem?_range h]
    show (bitsOf _).testBit b = true ↔ _
    rw [bitsOf_bit, List.mem_filter, List.mem_range, decide_eq_true_eq]
    exact ⟨fun z => z.2, fun z => ⟨(i a b z).2, z⟩⟩
  · rw [List.getElem?_eq_none (by rw [List.length_range]; omega)]
    exact ⟨fun z => by simp at z, fun z => absurd (i a b z).1 h⟩
theorem least_of {p : Nat → Prop} : ∀ (m : Nat), p m → ∃ k, k ≤ m ∧ p k ∧ ∀ j, j < k → ¬ p j := by
  intro m
  induction m using Nat.strongRecOn with
  | _ m ih =>
    intro h
    by_cases c : ∃ j, j < m ∧ p j
    · obtain ⟨j, hj, pj⟩ := c
      obtain ⟨k, h1, h2, h3⟩ := ih j hj pj
      exact ⟨k, by omega, h2, h3⟩
    · exact ⟨m, Nat.le_refl m, h, fun j hj pj => c ⟨j, hj, pj⟩⟩
def Stops (f : Nat → Rl) (k : Nat) : Prop := ∀ a b, f (k + 1) a b ↔ f k a b
theorem chain {n : Nat} {f : Nat → Rl} (i : ∀ k, In n (f k)) (h : ∀ k, Sub (f k) (f (k + 1))) : ∃ m, m ≤ n * n ∧ Stops f m ∧ ∀ j, j < m → ¬ Stops f j := by
  have key : ∀ k, (∃ m, m < k ∧ Stops f m) ∨ k ≤ cnt n (repOf n (f k)) := by
    intro k
    induction k with
    | zero => exact .inr (Nat.zero_le _)
    | succ k ih =>
      rcases ih with ⟨m, h1, h2⟩ | ih
      · exact .inl ⟨m, by omega, h2⟩
      · by_cases c : Stops f k
        · exact .inl ⟨k, by omega, c⟩
        · refine .inr ?_
          have := cnt_lt (repOf_ok (i k)) (repOf_ok (i (k + 1))) (i (k + 1)) (h k) (fun e => c fun a b => (((repOf_ok (i k)).ext (repOf_ok (i (k + 1)))).mp e a b).symm)
          omega
  have : ∃ m, m < n * n + 1 ∧ Stops f m := (key (n * n + 1)).resolve_right fun z => by
    have := cnt_le n (repOf n (f (n * n + 1)))
    omega
  obtain ⟨m, h1, h2⟩ := this
  obtain ⟨k, k1, k2, k3⟩ := least_of m h2
  exact ⟨k, by omega, k2, k3⟩
section
variable {n : Nat} {U F D : Rl}
theorem ov_in (iu : In n U) (i : In n F) (id : In n D) : In n (Ov n U F D) := i.or ((iu.cp gr_in).cp id)
theorem gr_bound : ∃ M, M ≤ n * n ∧ Sub (Gr n U F D) (Hk n U F D M) := by
  obtain ⟨m, h1, h2, _⟩ := chain (f := Hk n U F D) hk_in hk_succ
  exact ⟨m, h1, hk_stop fun a b => (h2 a b).mp⟩
/-- the levels, by walking under the roof -/
theorem level_walk (iu : In n U) (i : In n F) (id : In n D) {k cap a b : Nat} (hc : k + n * n ≤ cap) (ha : a < n) : Le n U F D k a b ↔ Re cap U F D (a, k) (b, k) := by
  obtain ⟨M, h1, h2⟩ := gr_bound (n := n) (U := U) (F := F) (D := D)
  exact ⟨fun h => re_mono (by omega) (re_le iu i id h2 k h), fun h => re_level iu i id ha h⟩
theorem le_chain (i : In n F) : ∃ m, m ≤ n * n ∧ Stops (Le n U F D) m ∧ ∀ j, j < m → ¬ Stops (Le n U F D) j := chain le_in (le_succ i)
/-! turned -/
theorem star_tr {r s : Rl} (h : ∀ a b, r a b → s b a) {a b : Nat} (k : Star r a b) : Star s b a := by
  induction k with
  | refl a => exact .refl a
  | step x _ ih => exact ih.trans (.one (h _ _ x))
theorem cl_tr {r s : Rl} (h : ∀ a b, r a b → s b a) {a b : Nat} (k : Cl n r a b) : Cl n s b a := ⟨k.2.1, k.1, star_tr h k.2.2⟩
theorem cp_tr {r s r' s' : Rl} (h : ∀ a b, r a b → r' b a) (i : ∀ a b, s a b → s' b a) {a b : Nat} (k : Cp r s a b) : Cp s' r' b a := let ⟨x, p, q⟩ := k; ⟨x, i _ _ q, h _ _ p⟩
theorem cp3_tr {r s t r' s' t' : Rl} (h : ∀ a b, r a b → r' b a) (i : ∀ a b, s a b → s' b a) (j : ∀ a b, t a b → t' b a) {a b : Nat} (k : Cp (Cp r s) t a b) : Cp (Cp t' s') r' b a :=
  let ⟨y, ⟨x, p, q⟩, z⟩ := k; ⟨x, ⟨y, j _ _ z, i _ _ q⟩, h _ _ p⟩
theorem hk_tr : ∀ (k : Nat) {a b : Nat}, Hk n U F D k a b → Hk n (Tr D) (Tr F) (Tr U) k b a
  | 0, _, _, h => cl_tr (fun _ _ z => z) h
  | k + 1, _, _, h => cl_tr (fun a b z => z.imp (fun z => hk_tr k z) fun z => cp3_tr (fun _ _ z => z) (fun a b z => hk_tr k z) (fun _ _ z => z) z) h
theorem gr_tr {a b : Nat} (h : Gr n U F D a b) : Gr n (Tr D) (Tr F) (Tr U) b a := let ⟨k, h⟩ := h; ⟨k, hk_tr k h⟩
theorem ov_tr {a b : Nat} (h : Ov n U F D a b) : Ov n (Tr D) (Tr F) (Tr U) b a := h.imp id fun z => cp3_tr (fun _ _ z => z) (fun a b z => gr_tr z) (fun _ _ z => z) z
theorem le_tr : ∀ (k : Nat) {a b : Nat}, Le n U F D k a b → Le n (Tr D) (Tr F) (Tr U) k b a
  | 0, _, _, h => gr_tr h
  | k + 1, _, _, h => cl_tr (fun a b z => z.imp (fun z => ov_tr z) fun z => cp3_tr (fun _ _ z => z) (fun a b z => le_tr k z) (fun _ _ z => z) z) h
theorem le_tr_iff (k a b : Nat) : Le n (Tr D) (Tr F) (Tr U) k b a ↔ Le n U F D k a b := ⟨fun h => le_tr k h, fun h => le_tr k h⟩
theorem gr_tr_iff (a b : Nat) : Gr n (Tr D) (Tr F) (Tr U) b a ↔ Gr n U F D a b := ⟨fun h => gr_tr h, fun h => gr_tr h⟩
end
end L2.Lv
end

section
set_option Elab.async false
set_option linter.all false
set_option maxRecDepth 100000
set_option maxHeartbeats 4000000
namespace L2.K71
open PySem PySem.Spec PyProof.Rows L2.Gd L2.Lv
section
variable {P : Program} {w : World} {K : PySem.W.Frag} {mg : Str → Option Value} {base : Heap} {C : Addr}
/-- what the relations' functions are -/
structure RelK (P : Program) (w : World) (K : PySem.W.Frag) (mg : Str → Option Value) (base : Heap) : Prop where
  cl : Fn P w K mg base 1 "closed" ["relation"] spCl
  jo : Fn P w K mg base 1 "joined" ["one", "two"] spJoi
  fo : Fn P w K mg base 3 "followed" ["one", "two"] spFol
/-- the three relations -/
structure Udf (n : Nat) (U F D : Rl) (H : Hp) (u f d : Addr) (lu lf ld : List Nat) : Prop where
  u : H u = some (.lst (iN lu))
  f : H f = some (.lst (iN lf))
  d : H d = some (.lst (iN ld))
  ru : Rep n lu U
  rf : Rep n lf F
  rd : Rep n ld D
  iu : In n U
  if_ : In n F
  id : In n D
  n100 : n ≤ 100
theorem Udf.same {n : Nat} {U F D : Rl} {H H' : Hp} {u f d : Addr} {lu lf ld : List Nat} (h : Udf n U F D H u f d lu lf ld) (s : Same H H') : Udf n U F D H' u f d lu lf ld :=
  ⟨s _ _ h.u, s _ _ h.f, s _ _ h.d, h.ru, h.rf, h.rd, h.iu, h.if_, h.id, h.n100⟩
def spGro : Sp := fun vs H Q _ => ∃ (u f d : Addr) (lu lf ld : List Nat) (n : Nat) (U F D : Rl), vs = [.ref u, .ref f, .ref d] ∧ Udf n U F D H u f d lu lf ld ∧
  ∀ p H' y, H p = none → Same H H' → H' p = some (.lst (iN y)) → Rep n y (Gr n U F D) → Q (.ref p) H'
def NGr : List Str := ["ups", "flats", "downs", "ground", "more"]
theorem scGro : FnScope NGr ["ups", "flats", "downs"] (defScope (top 32)) := ⟨rfl, rfl, rfl, by decide +kernel, rfl, by decide +kernel, by decide +kernel⟩
theorem ok_gro {f : Addr} {fd : FuncData} (Fu : Fun K "ground_of" "ground_of" (top 32) f fd) (k : RelK P w K mg base) : FnOk P w K mg base CX0 4 f fd ["ups", "flats", "downs"] spGro := by
  refine Fu.ok scGro (fun vs H Q E h => ?_) (fun cdv A outer s H vs Q E hr h => ?_)
  · obtain ⟨u, f, d, lu, lf, ld, n, U, F, D, rfl, _⟩ := h
    rfl
  · obtain ⟨u, f, d, lu, lf, ld, n, U, F, D, rfl, g, q⟩ := h
    have N := scGro.nd
    have r1 := hr.mono (k := 3) (j := 1) (by decide)
    refine ⟨_, pss_cons (ps_set (i := 3) N rfl (.inl rfl) (pe_fn k.cl r1 (pa_cons (pv 1) pa_nil)))
      (pss_one (ps_while PassesOwn.never (pt_val pe_bl)
        (pss_cons (ps_set (i := 4) N rfl (.inl rfl) (pe_fn k.cl r1 (pa_cons (pe_fn k.jo r1 (pa_cons (pv 3) (pa_cons (pe_fn k.fo hr (pa_cons (pe_fn k.fo hr (pa_cons (pv 0) (pa_cons (pv 3) pa_nil))) (pa_cons (pv 2) pa_nil))) pa_nil))) pa_nil)))
        (pss_cons (ps_if (pt_cmpR (op_eqD hr.units) (pv 4) (pv 3) (nomark _)) (pss_one (ps_ret (pv 3))) pss_nil)
        (pss_one (ps_set (i := 3) N rfl (.inl rfl) (pv 4))))))), ?_⟩
    refine ⟨_, rfl, f, lf, n, F, rfl, g.f, g.rf, g.n100, g.if_, fun g0 H1 y0 ng s1 hg rg => ?_⟩
    refine ⟨fun m σ H2 => ∃ (p : Addr) (y : List Nat) (j : Nat) (v4 : Option V), m = n * n - j ∧ σ = [some (.ref u), some (.ref f), some (.ref d), some (.ref p), v4] ∧ H p = none ∧ Same H H2 ∧ H2 p = some (.lst (iN y)) ∧ Rep n y (Hk n U F D j) ∧ j ≤ Lv.cnt n y,
      ⟨n * n - 0, g0, _, 0, none, rfl, rfl, ng, s1, hg, rg, Nat.zero_le _⟩, ?_⟩
    rintro m σ H2 ⟨p, y, j, v4, rfl, rfl, np, s2, hp, rp, jc⟩
    have g2 := g.same s2
    refine ⟨true, rfl, iteT ?_⟩
    refine ⟨_, fun σ' H' h => h, ?_⟩
    -- more
    refine seqV (Good := fun σ3 H3 => ∃ (o : Addr) (z : List Nat), H2 o = none ∧ Same H2 H3 ∧ H3 o = some (.lst (iN z)) ∧ Rep n z (Hk n U F D (j + 1)) ∧ σ3 = [some (.ref u), some (.ref f), some (.ref d), some (.ref p), some (.ref o)]) ?_ ?_
    · intro nx hnx
      refine ⟨_, rfl, _, rfl, _, rfl, u, p, lu, y, n, U, Hk n U F D j, rfl, g2.u, hp, g2.ru, rp, g.n100, g.iu, fun a1 H3 _ _ s3 h3 r3 => ?_⟩
      refine ⟨_, rfl, a1, d, _, ld, n, _, D, rfl, h3, (g2.same s3).d, r3, g.rd, g.n100, g.iu.cp (hk_in j), fun a2 H4 _ _ s4 h4 r4 => ?_⟩
      refine ⟨p, a2, y, _, n, _, _, rfl, s4 _ _ (s3 _ _ hp), h4, rp, r4, g.n100, fun a3 H5 _ _ s5 h5 r5 => ?_⟩
      refine ⟨a3, _, n, _, rfl, h5, r5, g.n100, (hk_in j).or ((g.iu.cp (hk_in j)).cp g.id), fun a4 H6 _ n6 s6 h6 r6 => ?_⟩
      have s26 := s3.trans (s4.trans (s5.trans s6))
      exact hnx _ _ ⟨a4, _, (s3.trans (s4.trans s5)).free n6, s26, h6, r6, rfl⟩
    rintro _ H3 ⟨o, z, no, s3, ho, rz, rfl⟩
    have hp3 := s3 _ _ hp
    refine seqV (Good := fun σ4 H4 => y ≠ z ∧ H4 = H3 ∧ σ4 = [some (.ref u), some (.ref f), some (.ref d), some (.ref p), some (.ref o)]) ?_ ?_
    · intro nx hnx
      refine ⟨_, rfl, _, rfl, _, _, dp_ints ho, dp_ints hp3, ints_shaped _, ints_shaped _, _, congrArg V.bl (eqv_ints z y), ?_⟩
      by_cases e : z = y
      · rw [decide_eq_true e]
        refine iteT ⟨_, rfl, q p H3 y np (s2.trans s3) hp3 (rp.iff fun a b => ?_)⟩
        subst e
        exact (gr_eq ((rz.ext rp).mp rfl) a b).symm
      · rw [decide_eq_false e]
        exact iteF (hnx _ _ ⟨fun z => e z.symm, rfl, rfl⟩)
    rintro _ _ ⟨ne, rfl, rfl⟩
    have cl := cnt_lt rp rz (hk_in (j + 1)) (hk_succ j) ne
    have cz := cnt_le n z
    exact ⟨_, rfl, n * n - (j + 1), by omega, o, z, j + 1, some (.ref o), rfl, rfl, s2.free no, s2.trans s3, ho, rz, by omega⟩
end
end L2.K71
end

section
set_option Elab.async false
set_option linter.all false
set_option maxRecDepth 100000
set_option maxHeartbeats 4000000
namespace L2.K71
open PySem PySem.Spec PyProof.Rows L2.Gd L2.Lv
/-- lists of masks, apart from the list that holds them -/
def MsAt (p : Addr) (H : Hp) (v : V) (y : List Nat) : Prop := ∃ a, v = .ref a ∧ a ≠ p ∧ H a = some (.lst (iN y))
def MsAll (p : Addr) (H : Hp) (vs : List V) (ys : List (List Nat)) : Prop := Paired (MsAt p H) vs ys
theorem MsAll.but {p : Addr} {H H' : Hp} {vs : List V} {ys : List (List Nat)} (b : ButD p H H') (h : MsAll p H vs ys) : MsAll p H' vs ys := Paired.mapP h fun _ _ ⟨a, e, ne, q⟩ => ⟨a, e, ne, b _ _ ne q⟩
section
variable {P : Program} {w : World} {K : PySem.W.Frag} {mg : Str → Option Value} {base : Heap} {C : Addr}
/-- the levels' masks, up to the first one that is like the next one -/
structure LeOk (n : Nat) (U F D : Rl) (ys : List (List Nat)) (m : Nat) : Prop where
  len : ys.length = m + 1
  rep : ∀ k y, ys[k]? = some y → Rep n y (Le n U F D k)
  stop : Stops (Le n U F D) m
  go : ∀ j, j < m → ¬ Stops (Le n U F D) j
def spGra : Sp := fun vs H Q _ => ∃ (u f d : Addr) (lu lf ld : List Nat) (n : Nat) (U F D : Rl), vs = [.ref u, .ref f, .ref d] ∧ Udf n U F D H u f d lu lf ld ∧
  ∀ p H' xs ys m, H p = none → Same H H' → H' p = some (.lst xs) → MsAll p H' xs ys → LeOk n U F D ys m → m ≤ n * n → Q (.ref p) H'
def NGa : List Str := ["ups", "flats", "downs", "ground", "over", "out", "more"]
theorem scGra : FnScope NGa ["ups", "flats", "downs"] (defScope (top 33)) := ⟨rfl, rfl, rfl, by decide +kernel, rfl, by decide +kernel, by decide +kernel⟩
theorem ok_gra {f : Addr} {fd : FuncData} (Fu : Fun K "grades_of" "grades_of" (top 33) f fd) (k : RelK P w K mg base) (GG : Fn P w K mg base 4 "ground_of" ["ups", "flats", "downs"] spGro) : FnOk P w K mg base CX0 5 f fd ["ups", "flats", "downs"] spGra := by
  refine Fu.ok scGra (fun vs H Q E h => ?_) (fun cdv A outer s H vs Q E hr h => ?_)
  · obtain ⟨u, f, d, lu, lf, ld, n, U, F, D, rfl, _⟩ := h
    rfl
  · obtain ⟨u, f, d, lu, lf, ld, n, U, F, D, rfl, g, q⟩ := h
    have N := scGra.nd
    have r1 := hr.mono (k := 4) (j := 1) (by decide)
    have r3 := hr.mono (k := 4) (j := 3) (by decide)
    refine ⟨_, pss_cons (ps_set (i := 3) N rfl (.inl rfl) (pe_fn GG hr (pa_cons (pv 0) (pa_cons (pv 1) (pa_cons (pv 2) pa_nil)))))
      (pss_cons (ps_set (i := 4) N rfl (.inl rfl) (pe_fn k.jo r1 (pa_cons (pv 1) (pa_cons (pe_fn k.fo r3 (pa_cons (pe_fn k.fo r3 (pa_cons (pv 0) (pa_cons (pv 3) pa_nil))) (pa_cons (pv 2) pa_nil))) pa_nil))))
      (pss_cons (ps_set (i := 5) N rfl (.inl rfl) (pe_lst (pa_cons (pv 3) pa_nil)))
      (pss_one (ps_while PassesOwn.never (pt_val pe_bl)
        (pss_cons (ps_set (i := 6) N rfl (.inl rfl) (pe_fn k.cl r1 (pa_cons (pe_fn k.jo r1 (pa_cons (pv 4) (pa_cons (pe_fn k.fo r3 (pa_cons (pe_fn k.fo r3 (pa_cons (pv 2) (pa_cons (pe_ix ix_list (pv 5) (pe_un un_neg pe_int) (fun _ _ => rfl)) pa_nil))) (pa_cons (pv 0) pa_nil))) pa_nil))) pa_nil)))
        (pss_cons (ps_if (pt_cmpR (op_eqD hr.units) (pv 6) (pe_ix ix_list (pv 5) (pe_un un_neg pe_int) (fun _ _ => rfl)) (nomark _)) (pss_one (ps_ret (pv 5))) pss_nil)
        (pss_one (ps_expr (pe_bm PySem.F.plainAttrs_list PySem.F.slot_list_append PySem.F.type_list_append mt_append (pv 5) (pa_cons (pv 6) pa_nil)))))))))), ?_⟩
    refine ⟨_, rfl, _, rfl, _, rfl, u, f, d, lu, lf, ld, n, U, F, D, rfl, g, fun g0 H1 y0 ng s1 hg rg => ?_⟩
    have g1 := g.same s1
    refine ⟨_, rfl, _, rfl, _, rfl, u, g0, lu, y0, n, U, _, rfl, g1.u, hg, g1.ru, rg, g.n100, g.iu, fun a1 H2 z1 n2 s2 h2 r2 => ?_⟩
    refine ⟨_, rfl, a1, d, z1, ld, n, _, D, rfl, h2, (g1.same s2).d, r2, g.rd, g.n100, g.iu.cp gr_in, fun a2 H3 z2 n3 s3 h3 r3' => ?_⟩
    refine ⟨f, a2, lf, z2, n, _, _, rfl, ((g1.same s2).same s3).f, h3, g.rf, r3', g.n100, fun ov H4 z3 n4 s4 h4 r4 => ?_⟩
    have s14 := s2.trans (s3.trans s4)
    have hg4 := s14 _ _ hg
    have ovr : Rep n z3 (Ov n U F D) := r4
    refine ⟨_, rfl, (by show 1 ≤ sizeLine; decide), fun p hp => ?_⟩
    have s5 := same_upd (o := .lst [V.ref g0]) hp
    have s05 := s1.trans (s14.trans s5)
    have np : H p = none := (s1.trans s14).free hp
    have ne0 : g0 ≠ p := ne_of_none hg4 hp
    have neo : ov ≠ p := ne_of_none h4 hp
    refine ⟨fun m σ H2 => ∃ (a : Addr) (y : List Nat) (j : Nat) (vs0 : List V) (ys0 : List (List Nat)) (v6 : Option V), m = n * n - j ∧ σ = [some (.ref u), some (.ref f), some (.ref d), some (.ref g0), some (.ref ov), some (.ref p), v6] ∧ ButD p H H2 ∧ H2 ov = some (.lst (iN z3)) ∧
        H2 p = some (.lst (vs0 ++ [.ref a])) ∧ MsAll p H2 vs0 ys0 ∧ a ≠ p ∧ H2 a = some (.lst (iN y)) ∧ ys0.length = j ∧ (∀ k z, ys0[k]? = some z → Rep n z (Le n U F D k)) ∧ Rep n y (Le n U F D j) ∧ (∀ i, i < j → ¬ Stops (Le n U F D) i) ∧ j ≤ Lv.cnt n y,
      ⟨n * n - 0, g0, y0, 0, [], [], none, rfl, rfl, Same.but s05, s5 _ _ h4, upd_same, .nil, ne0, s5 _ _ hg4, rfl, fun k z e => (nomatch e), rg, fun i h => absurd h (Nat.not_lt_zero _), Nat.zero_le _⟩, ?_⟩
    rintro m σ H5 ⟨a, y, j, vs0, ys0, v6, rfl, rfl, b5, hov, hp5, ms, na, ha, yl, ry0, ry, go, jc⟩
    have s05 := b5.new np
    have g5 := g.same s05
    refine ⟨true, rfl, iteT ?_⟩
    refine ⟨_, fun σ' H' h => h, ?_⟩
    -- more
    refine seqV (Good := fun σ3 H6 => ∃ (o : Addr) (z : List Nat), H5 o = none ∧ Same H5 H6 ∧ H6 o = some (.lst (iN z)) ∧ Rep n z (Le n U F D (j + 1)) ∧ σ3 = [some (.ref u), some (.ref f), some (.ref d), some (.ref g0), some (.ref ov), some (.ref p), some (.ref o)]) ?_ ?_
    · intro nx hnx
      refine ⟨_, rfl, _, rfl, _, rfl, 1, rfl, p, _, _, _, rfl, rfl, .inl (.inl hp5), atI_last _ _, d, a, ld, y, n, D, _, rfl, g5.d, ha, g.rd, ry, g.n100, g.id, fun a1 H6 z1 _ s6 h6 r6 => ?_⟩
      refine ⟨_, rfl, a1, u, z1, lu, n, _, U, rfl, h6, (g5.same s6).u, r6, g.ru, g.n100, g.id.cp (le_in j), fun a2 H7 z2 _ s7 h7 r7 => ?_⟩
      refine ⟨ov, a2, z3, z2, n, _, _, rfl, s7 _ _ (s6 _ _ hov), h7, ovr, r7, g.n100, fun a3 H8 z4 _ s8 h8 r8 => ?_⟩
      refine ⟨a3, z4, n, _, rfl, h8, r8, g.n100, (ov_in g.iu g.if_ g.id).or ((g.id.cp (le_in j)).cp g.iu), fun a4 H9 z5 n9 s9 h9 r9 => ?_⟩
      exact hnx _ _ ⟨a4, z5, (s6.trans (s7.trans s8)).free n9, s6.trans (s7.trans (s8.trans s9)), h9, r9, rfl⟩
    rintro _ H6 ⟨o, z, no, s6, ho, rz, rfl⟩
    have hp6 := s6 _ _ hp5
    have ha6 := s6 _ _ ha
    have b6 : ButD p H H6 := b5.more s6
    have ms6 := ms.but (Same.but s6)
    refine seqV (Good := fun σ4 H7 => y ≠ z ∧ H6 = H7 ∧ σ4 = [some (.ref u), some (.ref f), some (.ref d), some (.ref g0), some (.ref ov), some (.ref p), some (.ref o)]) ?_ ?_
    · intro nx hnx
      refine ⟨_, rfl, _, rfl, 1, rfl, p, _, _, _, rfl, rfl, .inl (.inl hp6), atI_last _ _, ?_⟩
      refine ⟨_, _, dp_ints ho, dp_ints ha6, ints_shaped _, ints_shaped _, _, congrArg V.bl (eqv_ints z y), ?_⟩
      by_cases e : z = y
      · rw [decide_eq_true e]
        refine iteT ⟨_, rfl, q p H6 _ (ys0 ++ [y]) j np (b6.new np) hp6 (PySem.Paired.snoc ms6 ⟨a, rfl, na, ha6⟩) ⟨by rw [List.length_append, yl]; rfl, fun k' z' e' => ?_, ?_, go⟩ (Nat.le_trans jc (cnt_le n y))⟩
        · rw [List.getElem?_append] at e'
          split at e'
          · exact ry0 k' z' e'
          · rename_i c
            have : k' = j := by
              have := (List.getElem?_eq_some_iff.mp e').1
              simp at this
              omega
            subst this
            rw [yl, Nat.sub_self] at e'
            obtain rfl := Option.some.inj e'
            exact ry
        · subst e
          exact (rz.ext ry).mp rfl
      · rw [decide_eq_false e]
        exact iteF (hnx _ _ ⟨fun z => e z.symm, rfl, rfl⟩)
    rintro _ _ ⟨ne, rfl, rfl⟩
    have cl := cnt_lt ry rz (le_in (j + 1)) (le_succ g.if_ j) ne
    have cz := cnt_le n z
    refine ⟨_, rfl, .inl ⟨rfl, _, .inl (.inl hp6)⟩, _, rfl, p, _, _, rfl, rfl, hp6, ?_, ?_⟩
    · have := Paired.length ms
      rw [List.length_append, sizeLine_eq]
      have n100 := g.n100
      have : n * n ≤ 100 * 100 := Nat.mul_le_mul n100 n100
      have c0 := cnt_le n y
      show vs0.length + 1 < _
      omega
    · have nop : o ≠ p := fun e => by
        subst e
        rw [hp5] at no
        exact nomatch no
      have bp : ButD p H6 (upd H6 p (.lst ((vs0 ++ [V.ref a]) ++ [V.ref o]))) := ButD.start
      refine ⟨n * n - (j + 1), by omega, o, z, j + 1, vs0 ++ [.ref a], ys0 ++ [y], some (.ref o), rfl, rfl, b6.put, bp _ _ (fun z => neo z) (s6 _ _ hov), upd_same, MsAll.but bp (PySem.Paired.snoc ms6 ⟨a, rfl, na, ha6⟩), nop, bp _ _ nop ho, by rw [List.length_append, yl]; rfl, fun k' z' e' => ?_, rz, fun i hi => ?_, by omega⟩
      · rw [List.getElem?_append] at e'
        split at e'
        · exact ry0 k' z' e'
        · have : k' = j := by
            have := (List.getElem?_eq_some_iff.mp e').1
            simp at this
            omega
          subst this
          rw [yl, Nat.sub_self] at e'
          obtain rfl := Option.some.inj e'
          exact ry
      · by_cases e : i = j
        · subst e
          exact fun st => ne ((ry.ext rz).mpr fun a b => (st a b).symm)
        · exact go i (by omega)
end
end L2.K71
end

section
set_option Elab.async false
set_option linter.all false
set_option maxRecDepth 100000
set_option maxHeartbeats 4000000
namespace L2.K71
open PySem PySem.Spec PyProof.Rows L2.Gd L2.Lv
/-- a method -/
structure MeH (P : Program) (w : World) (K : PySem.W.Frag) (mg : Str → Option Value) (base : Heap) (C : Addr) (x : Str) (k : Nat) (ps : List Str) (sp : Sp) : Prop where
  ex : ∃ f fd, Meth K C x f ∧ Binds K fd ps [] ∧ FnOk P w K mg base CX0 k f fd ps sp
section
variable {X : Cx} {C : Addr} {x : Str} {k : Nat} {ps : List Str} {sp : Sp} {o : Expr} {ta : TE} {apos pos : Pos}
theorem pe_mH0 {pl : Sem Bool} (M : MeH X.prog X.w X.K X.mg X.base C x k ps sp) (T : ClsT X.K X.mg C) (hr : Room k X.A) (he : PE X o ta)
    (ht : eval (.Call (.Attribute o x apos) [] [] pos) X.env = (do
      let ov ← eval o X.env
      standAt apos.atName
      let (f, first) ← holding [ov] (getMethod ov x pl)
      callWith pos f first (backTo pos (starEach [] X.env)) (backToKw pos (keywordEach [] X.env))) := by rfl) :
    PE X (.Call (.Attribute o x apos) [] [] pos) (tMeth C x sp [] E0 ta tNil) := by
  obtain ⟨f, fd, hm, b, F⟩ := M.ex
  exact pe_meth0 he T.isc.cl hm F hr b .nil pass0 ht
end
section
variable {X : Cx} {C : Addr} {x : Str} {k : Nat} {ps : List Str} {sp : Sp} {o e : Expr} {es : List Expr} {ta : TE} {t : TA} {apos pos : Pos}
theorem pe_mH {pl : Sem Bool} (M : MeH X.prog X.w X.K X.mg X.base C x k ps sp) (T : ClsT X.K X.mg C) (hr : Room k X.A) (he : PE X o ta) (ha : PA X (e :: es) t)
    (hst : starEach (e :: es) X.env = (false, eval e X.env) :: starEach es X.env := by rfl) (hpl : (backTo pos (starEach es X.env)).any (·.1) = false := by rfl)
    (ht : eval (.Call (.Attribute o x apos) (e :: es) [] pos) X.env = (do
      let ov ← eval o X.env
      standAt apos.atName
      let (f, first) ← holding [ov] (getMethod ov x pl)
      callWith pos f first (backTo pos (starEach (e :: es) X.env)) (backToKw pos (keywordEach [] X.env))) := by rfl) :
    PE X (.Call (.Attribute o x apos) (e :: es) [] pos) (tMeth C x sp [] E0 ta t) := by
  obtain ⟨f, fd, hm, b, F⟩ := M.ex
  exact pe_meth he T.isc.cl hm F hr b .nil pass0 ha hst hpl ht
end
section
variable {P : Program} {w : World} {K : PySem.W.Frag} {mg : Str → Option Value} {base : Heap} {C : Addr}
/-- the deeds of one change that may be done at any number -/
def Dl (ds : List Dd) (c : Int) : Rl := fun a b => ∃ d ∈ ds, d.p = (a : Int) ∧ d.g = (b : Int) ∧ d.c = c ∧ d.w = "any"
def isC (c : Int) (d : Dd) : Bool := decide (d.c = c) && isAny d
def prD (c : Int) (d : Dd) : Option (Nat × Nat) := if isC c d = true then some (d.p.toNat, d.g.toNat) else none
theorem isAny_w (d : Dd) : isAny d = true ↔ d.w = "any" := decide_eq_true_iff
theorem Dl.inn {n : Nat} {ds : List Dd} (ok : ∀ d ∈ ds, d.Ok n) (c : Int) : In n (Dl ds c) := fun a b ⟨d, hd, e1, e2, _⟩ => by
  have o := ok d hd
  have := o.pn
  have := o.gn
  omega
theorem mem_pr {n : Int} {ds : List Dd} (ok : ∀ d ∈ ds, d.Ok n) (c : Int) (a b : Nat) : (a, b) ∈ ds.filterMap (prD c) ↔ Dl ds c a b := by
  rw [List.mem_filterMap]
  constructor
  · rintro ⟨d, hd, e⟩
    unfold prD at e
    split at e
    · rename_i q
      have o := ok d hd
      have := o.p0
      have := o.g0
      obtain ⟨q1, q2⟩ := Bool.and_eq_true_iff.mp q
      obtain ⟨e1, e2⟩ := Prod.mk.inj (Option.some.inj e)
      exact ⟨d, hd, by omega, by omega, of_decide_eq_true q1, (isAny_w d).mp q2⟩
    · exact nomatch e
  · rintro ⟨d, hd, e1, e2, e3, e4⟩
    refine ⟨d, hd, ?_⟩
    unfold prD
    rw [if_pos (show isC c d = true by unfold isC; rw [decide_eq_true e3, (isAny_w d).mpr e4]; rfl), e1, e2]
    rfl
def spDR (C : Addr) : Sp := fun vs H Q _ => ∃ (h l : Addr) (n : Nat) (c : Int) (xs : List V) (ds : List Dd), vs = [.ref h, .int c, .str "any"] ∧ HouseL C H h l n xs ds ∧ WF n ds ∧
  ∀ p H' y, H p = none → Same H H' → H' p = some (.lst (iN y)) → Rep n y (Dl ds c) → Q (.ref p) H'
def NDR : List Str := ["house", "change", "when", "deed"]
theorem scDR : FnScope NDR ["house", "change", "when"] (defScope (top 31)) := ⟨rfl, rfl, rfl, by decide +kernel, rfl, by decide +kernel, by decide +kernel⟩
theorem stabP (D : Addr) : Stab PrAt D := fun H H' y d b ⟨zs, hD⟩ ⟨t, e, ht⟩ => ⟨t, e, b _ _ (fun z => by subst z; rw [hD] at ht; exact nomatch ht) ht⟩
theorem ok_dr {f : Addr} {fd : FuncData} (F : Fun K "deed_relation" "deed_relation" (top 31) f fd) (T : ClsT K mg C) (PL : PrH P w K mg base C "places" (spPlaces C)) (DE : MeH P w K mg base C "deeds" 1 ["self"] (spDeeds C)) (GR : Fn P w K mg base 1 "relation_of" ["many", "pairs"] spRel) :
    FnOk P w K mg base CX0 3 f fd ["house", "change", "when"] (spDR C) := by
  refine F.ok scDR (fun vs H Q E h => ?_) (fun cdv A outer s H vs Q E hr h => ?_)
  · obtain ⟨h, l, n, c, xs, ds, rfl, _⟩ := h
    rfl
  · obtain ⟨h, l, n, c, xs, ds, rfl, hh, wf, q⟩ := h
    have N := scDR.nd
    have r1 := hr.mono (k := 2) (j := 1) (by decide)
    obtain ⟨dx, ob⟩ := hh.ob
    refine ⟨_, pss_one (ps_ret (pe_fn GR r1 (pa_cons (pe_prH PL T hr (pv 0)) (pa_cons
      (pe_lc (own := [("deed", 3)]) (g := gName 3) rfl N (pi_list (pe_mH0 DE T r1 (pv 0))) (blkOk_by (N := NDR) (sc := defScope (top 31)) (by decide +kernel)) (fun _ _ _ _ _ => pg_name (i := 3) N rfl (.inl rfl))
        (fun _ _ _ _ _ => pts_one (PW.pt (pw_and (pt_cmpR op_eq (pe_ix (r := rIxT K) ix_tup (pv 3) pe_int (fun _ _ => rfl)) (pv 1) (nomark _)) (pw_and1 (pt_cmpR op_eq (pe_ix (r := rIxT K) ix_tup (pv 3) pe_int (fun _ _ => rfl)) (pv 2) (nomark _))))))
        (fun _ _ _ _ _ => pe_tup (pa_cons (pe_ix (r := rIxT K) ix_tup (pv 3) pe_int (fun _ _ => rfl)) (pa_cons (pe_ix (r := rIxT K) ix_tup (pv 3) pe_int (fun _ _ => rfl)) pa_nil)))) pa_nil)))), ?_⟩
    refine ⟨_, rfl, h, dx, _, rfl, ob, h, dx, l, n, rfl, ob, ?_⟩
    refine ⟨_, rfl, h, dx, _, rfl, ob, flds_no _ _ (by decide +kernel) (by decide +kernel), h, l, n, xs, ds, rfl, hh, fun o ho => ?_⟩
    have s1 := same_upd (o := .lst xs) ho
    have hh1 := hh.same s1
    refine ⟨o, rfl, ⟨xs, .inl (.inl upd_same)⟩, fun D hD => ?_⟩
    refine lc_mapL (es := ds) (F := DdAt) (G := PrAt) (f := prD c) (stabP D) upd_same hD (Nat.le_trans (Nat.le_of_eq hh.lenE) (Nat.le_trans wf.len (by decide))) hh1.dd ?_ ?_
    · rintro x e H2 A B he ⟨t, rfl, ht⟩ b ⟨zs, hz⟩ hA hB
      have ht2 := b.new hD _ _ ht
      have ok := wf.ok e he
      obtain ⟨pp, hp⟩ : ∃ k : Nat, e.p = k := ⟨e.p.toNat, by have := ok.p0; omega⟩
      obtain ⟨gg, hg⟩ : ∃ k : Nat, e.g = k := ⟨e.g.toNat, by have := ok.g0; omega⟩
      refine ⟨rfl, ?_⟩
      have ec : decide (V.int e.c = V.int c) = decide (e.c = c) := by simp
      refine ⟨_, rfl, t, _, _, _, rfl, rfl, .inl (.inl ht2), rfl, _, rfl, rfl, decide (e.c = c), congrArg V.bl ec, ?_⟩
      by_cases h1 : e.c = c
      · rw [decide_eq_true h1]
        refine iteT ⟨_, rfl, t, _, _, _, rfl, rfl, .inl (.inl ht2), rfl, _, rfl, rfl, isAny e, congrArg V.bl (anyE e), ?_⟩
        cases h2 : isAny e with
        | true =>
          refine iteT ⟨_, rfl, t, _, _, _, rfl, rfl, .inl (.inl ht2), rfl, _, rfl, t, _, _, _, rfl, rfl, .inl (.inl ht2), rfl, (by show 2 ≤ sizeLine; decide), fun p np => ?_⟩
          refine hA (pp, gg) _ _ ?_ (same_upd np) ⟨p, rfl, by rw [upd_same, hp, hg]⟩
          unfold prD
          rw [if_pos (show isC c e = true by unfold isC; rw [decide_eq_true h1, h2]; rfl), hp, hg]
          rfl
        | false =>
          refine iteF (hB H2 ?_ fun _ _ z => z)
          unfold prD
          rw [if_neg (show ¬ isC c e = true by unfold isC; rw [h2, Bool.and_false]; decide)]
      · rw [decide_eq_false h1]
        refine iteF (hB H2 ?_ fun _ _ z => z)
        unfold prD
        rw [if_neg (show ¬ isC c e = true by unfold isC; rw [decide_eq_false h1, Bool.false_and]; decide)]
    · intro ys H2 h1 h2 h3
      have s2 := s1.trans (h3.new hD)
      refine ⟨n, D, ys, _, rfl, by have := wf.m16; omega, h1, h2, fun p hp => ?_, fun p H' y np s' hy rp => q p H' y (s2.free np) (s2.trans s') hy (rp.iff (mem_pr wf.ok c))⟩
      exact Dl.inn wf.ok c p.1 p.2 ((mem_pr wf.ok c p.1 p.2).mp hp)
end
end L2.K71
end

section
set_option linter.all false
namespace L2.Lv
/-! Walks of any gain, plain and with zeros: what the relations tell. -/
/-- so many steps -/
def Pw (r : Rl) : Nat → Rl
  | 0 => fun a b => a = b
  | d + 1 => Cp (Pw r d) r
theorem pw_add {r : Rl} : ∀ (e d : Nat) {a b c : Nat}, Pw r d a b → Pw r e b c → Pw r (d + e) a c
  | 0, _, _, _, _, h, rfl => h
  | e + 1, d, _, _, _, h, ⟨x, h1, h2⟩ => ⟨x, pw_add e d h h1, h2⟩
theorem pw_one {r : Rl} {a b : Nat} (h : r a b) : Pw r 1 a b := ⟨a, rfl, h⟩
theorem pw_head {r : Rl} {d : Nat} {a b c : Nat} (h : r a b) (k : Pw r d b c) : Pw r (d + 1) a c := by
  have := pw_add d 1 (pw_one h) k
  rw [Nat.add_comm] at this
  exact this
theorem pw_tr {r s : Rl} (h : ∀ a b, r a b → s b a) : ∀ (d : Nat) {a b : Nat}, Pw r d a b → Pw s d b a
  | 0, _, _, rfl => rfl
  | d + 1, _, _, ⟨x, h1, h2⟩ => pw_head (h _ _ h2) (pw_tr h d h1)
theorem pw_congr {r s : Rl} (h : ∀ a b, r a b ↔ s a b) : ∀ (d a b : Nat), Pw r d a b ↔ Pw s d a b
  | 0, _, _ => Iff.rfl
  | d + 1, a, b => ⟨fun ⟨x, h1, h2⟩ => ⟨x, (pw_congr h d a x).mp h1, (h x b).mp h2⟩, fun ⟨x, h1, h2⟩ => ⟨x, (pw_congr h d a x).mpr h1, (h x b).mpr h2⟩⟩
section
variable {n : Nat} {U F D : Rl}
theorem up_pw {k a : Nat} : ∀ (d : Nat) {c : Nat}, Up n U F D k a d c ↔ ∃ m, Le n U F D k a m ∧ Pw (Cp U (Gr n U F D)) d m c
  | 0, c => ⟨fun h => ⟨c, h, rfl⟩, fun ⟨_, h, e⟩ => by cases e; exact h⟩
  | d + 1, c => by
    constructor
    · rintro ⟨x, y, h1, h2, h3⟩
      obtain ⟨m, h4, h5⟩ := (up_pw d).mp h1
      exact ⟨m, h4, x, h5, y, h2, h3⟩
    · rintro ⟨m, h4, x, h5, y, h2, h3⟩
      exact ⟨x, y, (up_pw d).mpr ⟨m, h4, h5⟩, h2, h3⟩
theorem st_rev {cap : Nat} {s t : Nat × Nat} (h : St1 cap U F D s t) : St1 cap (Tr D) (Tr F) (Tr U) t s := by
  cases h with
  | up h l => exact .down h l
  | flat h l => exact .flat h l
  | down h l => exact .up h l
theorem re_rev {cap : Nat} {s t : Nat × Nat} (h : Re cap U F D s t) : Re cap (Tr D) (Tr F) (Tr U) t s := by
  induction h with
  | start => exact .start
  | next _ k ih => exact (Re.one (st_rev k)).trans ih
theorem re_up (iu : In n U) (i : In n F) (id : In n D) {cap k d a c : Nat} (ha : a < n) (h : Re cap U F D (a, k) (c, k + d)) : ∃ m, Le n U F D k a m ∧ Pw (Cp U (Gr n U F D)) d m c := by
  rcases re_told iu i id ha h with ⟨d', l, e, h1⟩ | ⟨d', e, h1⟩
  · have e : k + d = k - d' := e
    obtain rfl : d = 0 := by omega
    have : k = 0 ∨ d' = 0 := by omega
    rcases this with z | z
    · subst z
      obtain rfl : d' = 0 := by omega
      exact ⟨c, h1, rfl⟩
    · subst z
      exact ⟨c, h1, rfl⟩
  · have e : k + d = k + d' := e
    obtain rfl : d = d' := by omega
    exact (up_pw d).mp h1
theorem gr_re {i a b : Nat} {M : Nat} (hM : Sub (Gr n U F D) (Hk n U F D M)) (h : Gr n U F D a b) : Re (i + M) U F D (a, i) (b, i) := re_hk M i (hM _ _ h)
theorem pw_re {M : Nat} (hM : Sub (Gr n U F D) (Hk n U F D M)) {k : Nat} : ∀ (d : Nat) {a c : Nat}, Pw (Cp U (Gr n U F D)) d a c → Re (k + d + M) U F D (a, k) (c, k + d)
  | 0, _, _, rfl => .start
  | d + 1, _, _, ⟨x, h1, y, h2, h3⟩ => by
    have e1 := re_mono (cap' := k + (d + 1) + M) (by omega) (pw_re hM (k := k) d h1)
    have e2 : St1 (k + (d + 1) + M) U F D (x, k + d) (y, k + d + 1) := .up h2 (by omega)
    have e3 := gr_re (i := k + (d + 1)) hM h3
    exact (e1.trans (Re.one e2)).trans e3
theorem up_re (iu : In n U) (i : In n F) (id : In n D) {cap k d a m c : Nat} (hc : k + d + n * n ≤ cap) (h1 : Le n U F D k a m) (h2 : Pw (Cp U (Gr n U F D)) d m c) : Re cap U F D (a, k) (c, k + d) := by
  obtain ⟨M, l, hM⟩ := gr_bound (n := n) (U := U) (F := F) (D := D)
  exact (re_mono (by omega) (re_le iu i id hM k h1)).trans (re_mono (by omega) (pw_re hM d h2))
theorem tr_in {r : Rl} (h : In n r) : In n (Tr r) := fun a b k => ⟨(h b a k).2, (h b a k).1⟩
theorem pw_gd (d a c : Nat) : Pw (Cp (Tr D) (Gr n (Tr D) (Tr F) (Tr U))) d c a ↔ Pw (Cp (Gr n U F D) D) d a c :=
  ⟨pw_tr (fun x y ⟨z, h1, h2⟩ => ⟨z, (gr_tr_iff y z).mp h2, h1⟩) d, pw_tr (fun x y ⟨z, h1, h2⟩ => ⟨z, h2, (gr_tr_iff x z).mpr h1⟩) d⟩
theorem re_dn (iu : In n U) (i : In n F) (id : In n D) {cap e d a c : Nat} (hc : c < n) (h : Re cap U F D (a, e + d) (c, e)) : ∃ m, Pw (Cp (Gr n U F D) D) d a m ∧ Le n U F D e m c := by
  obtain ⟨m, h1, h2⟩ := re_up (tr_in id) (tr_in i) (tr_in iu) hc (re_rev h)
  exact ⟨m, (pw_gd d a m).mp h2, (le_tr_iff e m c).mp h1⟩
theorem dn_re (iu : In n U) (i : In n F) (id : In n D) {cap e d a m c : Nat} (hc : e + d + n * n ≤ cap) (h1 : Pw (Cp (Gr n U F D) D) d a m) (h2 : Le n U F D e m c) : Re cap U F D (a, e + d) (c, e) :=
  re_rev (up_re (tr_in id) (tr_in i) (tr_in iu) hc ((le_tr_iff e m c).mpr h2) ((pw_gd d a m).mpr h1))
/-- what lies between two stands -/
def Led (n : Nat) (U F D : Rl) (s t : Nat × Nat) : Prop :=
  (∃ d, t.2 = s.2 + d ∧ ∃ m, Le n U F D s.2 s.1 m ∧ Pw (Cp U (Gr n U F D)) d m t.1) ∨ (∃ d, s.2 = t.2 + d ∧ ∃ m, Pw (Cp (Gr n U F D) D) d s.1 m ∧ Le n U F D t.2 m t.1)
theorem led_iff (iu : In n U) (i : In n F) (id : In n D) {cap : Nat} {s t : Nat × Nat} (hs : s.1 < n) (ht : t.1 < n) (c1 : s.2 + n * n ≤ cap) (c2 : t.2 + n * n ≤ cap) : Re cap U F D s t ↔ Led n U F D s t := by
  obtain ⟨a, x⟩ := s
  obtain ⟨b, y⟩ := t
  constructor
  · intro h
    rcases Nat.le_total x y with l | l
    · obtain ⟨d, rfl⟩ : ∃ d, y = x + d := ⟨y - x, by omega⟩
      exact .inl ⟨d, rfl, re_up iu i id hs h⟩
    · obtain ⟨d, rfl⟩ : ∃ d, x = y + d := ⟨x - y, by omega⟩
      exact .inr ⟨d, rfl, re_dn iu i id ht h⟩
  · rintro (⟨d, e, m, h1, h2⟩ | ⟨d, e, m, h1, h2⟩)
    · have e : y = x + d := e
      subst e
      exact up_re iu i id c2 h1 h2
    · have e : x = y + d := e
      subst e
      exact dn_re iu i id c1 h1 h2
/-! ### over the empty till -/
inductive St0 (cap : Nat) (E0 E1 : Rl) : Nat × Nat → Nat × Nat → Prop
  | last {a b : Nat} : E0 a b → St0 cap E0 E1 (a, 0) (b, 0)
  | lift {a b : Nat} : E1 a b → 1 ≤ cap → St0 cap E0 E1 (a, 0) (b, 1)
inductive Rz (cap : Nat) (U F D E0 E1 : Rl) (s : Nat × Nat) : Nat × Nat → Prop
  | start : Rz cap U F D E0 E1 s s
  | next {t u : Nat × Nat} : Rz cap U F D E0 E1 s t → St1 cap U F D t u → Rz cap U F D E0 E1 s u
  | zero {t u : Nat × Nat} : Rz cap U F D E0 E1 s t → St0 cap E0 E1 t u → Rz cap U F D E0 E1 s u
/-- from zero to zero -/
def Tn1 (n : Nat) (U F D E0 E1 : Rl) : Rl := Or2 (Or2 (Gr n U F D) E0) (Cp (Cp E1 (Cp (Gr n U F D) D)) (Gr n U F D))
def Tns (n : Nat) (U F D E0 E1 : Rl) : Rl := Cl n (Tn1 n U F D E0 E1)
/-- from a zero up to a stand -/
def Rise (n : Nat) (U F D E1 : Rl) (z : Nat) (t : Nat × Nat) : Prop :=
  (∃ m, Gr n U F D z m ∧ Pw (Cp U (Gr n U F D)) t.2 m t.1) ∨ (∃ e, t.2 = e + 1 ∧ ∃ y, E1 z y ∧ ∃ m, Gr n U F D y m ∧ Pw (Cp U (Gr n U F D)) e m t.1)
/-- from a stand down to a zero -/
def Fall (n : Nat) (U F D : Rl) (s : Nat × Nat) (z : Nat) : Prop := ∃ m, Pw (Cp (Gr n U F D) D) s.2 s.1 m ∧ Gr n U F D m z
variable {E0 E1 : Rl} {cap : Nat}
theorem Rz.trans {s t u : Nat × Nat} (h : Rz cap U F D E0 E1 s t) (k : Rz cap U F D E0 E1 t u) : Rz cap U F D E0 E1 s u := by
  induction k with
  | start => exact h
  | next _ k ih => exact ih.next k
  | zero _ k ih => exact ih.zero k
theorem Re.z {s t : Nat × Nat} (h : Re cap U F D s t) : Rz cap U F D E0 E1 s t := by
  induction h with
  | start => exact .start
  | next _ k ih => exact ih.next k
theorem st_shift {s t : Nat × Nat} (h : St1 cap U F D s t) : St1 (cap + 1) U F D (s.1, s.2 + 1) (t.1, t.2 + 1) := by
  cases h with
  | up h l => exact .up h (by omega)
  | flat h l => exact .flat h (by omega)
  | down h l => exact .down h (by omega)
theorem re_shift {s t : Nat × Nat} (h : Re cap U F D s t) : Re (cap + 1) U F D (s.1, s.2 + 1) (t.1, t.2 + 1) := by
  induction h with
  | start => exact .start
  | next _ k ih => exact ih.next (st_shift k)
/-- a walk from zero to zero is ground -/
theorem re_zero (iu : In n U) (i : In n F) (id : In n D) {a b : Nat} (ha : a < n) (h : Re cap U F D (a, 0) (b, 0)) : Gr n U F D a b := re_level iu i id (k := 0) ha h
theorem rz_told (iu : In n U) (i : In n F) (id : In n D) (i0 : In n E0) (i1 : In n E1) {s t : Nat × Nat} (hs : s.1 < n) (h : Rz cap U F D E0 E1 s t) :
    Re cap U F D s t ∨ ∃ z z', Re cap U F D s (z, 0) ∧ z < n ∧ z' < n ∧ Tns n U F D E0 E1 z z' ∧ (Re cap U F D (z', 0) t ∨ ∃ y j, E1 z' y ∧ t.2 = j + 1 ∧ Re cap U F D (y, 0) (t.1, j)) := by
  have fn : ∀ {a i' : Nat}, a < n → ∀ {t : Nat × Nat}, Re cap U F D (a, i') t → t.1 < n := fun {a i'} ha t h => by
    induction h with
    | start => exact ha
    | next _ k _ =>
      cases k with
      | up h _ => exact (iu _ _ h).2
      | flat h _ => exact (i _ _ h).2
      | down h _ => exact (id _ _ h).2
  induction h with
  | start => exact .inl .start
  | @next t u _ k ih =>
    rcases ih with h | ⟨z, z', h1, hz, hz', h2, h3 | ⟨y, j, h3, h4, h5⟩⟩
    · exact .inl (h.next k)
    · exact .inr ⟨z, z', h1, hz, hz', h2, .inl (h3.next k)⟩
    · have hy := (i1 _ _ h3).2
      cases k with
      | @up a b x hk l =>
        have h4 : x = j + 1 := h4
        subst h4
        exact .inr ⟨z, z', h1, hz, hz', h2, .inr ⟨y, j + 1, h3, rfl, h5.next (.up hk (by omega))⟩⟩
      | @flat a b x hk l =>
        have h4 : x = j + 1 := h4
        subst h4
        exact .inr ⟨z, z', h1, hz, hz', h2, .inr ⟨y, j, h3, rfl, h5.next (.flat hk (by omega))⟩⟩
      | @down a b x hk l =>
        have h4 : x + 1 = j + 1 := h4
        obtain rfl : x = j := by omega
        cases x with
        | zero =>
          have g := re_zero iu i id hy h5
          have hb := (id _ _ hk).2
          refine .inr ⟨z, b, h1, hz, hb, h2.trans ⟨hz', hb, .one (.inr ⟨b, ⟨y, h3, ⟨a, g, hk⟩⟩, gr_refl hb⟩)⟩, .inl .start⟩
        | succ j =>
          exact .inr ⟨z, z', h1, hz, hz', h2, .inr ⟨y, j, h3, rfl, h5.next (.down hk (by omega))⟩⟩
  | @zero t u _ k ih =>
    have key : ∀ {a : Nat}, t = (a, 0) → ∃ z, Re cap U F D s (z, 0) ∧ z < n ∧ a < n ∧ Tns n U F D E0 E1 z a := by
      rintro a rfl
      rcases ih with h | ⟨z, z', h1, hz, hz', h2, h3 | ⟨y, j, h3, h4, h5⟩⟩
      · have ha : a < n := fn hs h
        exact ⟨a, h, ha, ha, Cl.refl ha⟩
      · have ha : a < n := fn hz' h3
        exact ⟨z, h1, hz, ha, h2.trans ⟨hz', ha, .one (.inl (.inl (re_zero iu i id hz' h3)))⟩⟩
      · exact absurd h4 (by omega)
    cases k with
    | last h0 =>
      obtain ⟨z, h1, hz, ha, h2⟩ := key rfl
      have hb := (i0 _ _ h0).2
      exact .inr ⟨z, _, h1, hz, hb, h2.trans ⟨ha, hb, .one (.inl (.inr h0))⟩, .inl .start⟩
    | lift h0 l =>
      obtain ⟨z, h1, hz, ha, h2⟩ := key rfl
      exact .inr ⟨z, _, h1, hz, ha, h2, .inr ⟨_, 0, h0, rfl, .start⟩⟩
theorem tn1_rz (iu : In n U) (i : In n F) (id : In n D) (hc : 1 + n * n ≤ cap) {a b : Nat} (h : Tn1 n U F D E0 E1 a b) : Rz cap U F D E0 E1 (a, 0) (b, 0) := by
  obtain ⟨M, l, hM⟩ := gr_bound (n := n) (U := U) (F := F) (D := D)
  rcases h with (h | h) | ⟨x, ⟨y, h1, z, h2, h3⟩, h4⟩
  · exact (re_mono (by omega) (gr_re (i := 0) hM h)).z
  · exact .zero .start (.last h)
  · have e1 : Rz cap U F D E0 E1 (a, 0) (y, 1) := .zero .start (.lift h1 (by omega))
    have e2 : Re cap U F D (y, 1) (z, 1) := re_mono (by omega) (gr_re (i := 1) hM h2)
    have e3 : St1 cap U F D (z, 0 + 1) (x, 0) := .down h3 (by omega)
    have e4 : Re cap U F D (x, 0) (b, 0) := re_mono (by omega) (gr_re (i := 0) hM h4)
    exact ((e1.trans e2.z).next e3).trans e4.z
theorem tns_rz (iu : In n U) (i : In n F) (id : In n D) (hc : 1 + n * n ≤ cap) {a b : Nat} (h : Tns n U F D E0 E1 a b) : Rz cap U F D E0 E1 (a, 0) (b, 0) := by
  obtain ⟨z1, z2, h⟩ := h
  clear z1 z2
  induction h with
  | refl => exact .start
  | step h _ ih => exact (tn1_rz iu i id hc h).trans ih
/-- what lies between two stands, with zeros -/
theorem rz_iff (iu : In n U) (i : In n F) (id : In n D) (i0 : In n E0) (i1 : In n E1) {s t : Nat × Nat} (hs : s.1 < n) (ht : t.1 < n) (c0 : 1 + n * n ≤ cap) (c1 : s.2 + n * n ≤ cap) (c2 : t.2 + n * n ≤ cap) :
    Rz cap U F D E0 E1 s t ↔ Led n U F D s t ∨ ∃ z z', Fall n U F D s z ∧ Tns n U F D E0 E1 z z' ∧ Rise n U F D E1 z' t := by
  obtain ⟨M, l, hM⟩ := gr_bound (n := n) (U := U) (F := F) (D := D)
  constructor
  · intro h
    rcases rz_told iu i id i0 i1 hs h with h | ⟨z, z', h1, hz, hz', h2, h3⟩
    · exact .inl ((led_iff iu i id hs ht c1 c2).mp h)
    · refine .inr ⟨z, z', ?_, h2, ?_⟩
      · have : Re cap U F D (s.1, 0 + s.2) (z, 0) := by rw [Nat.zero_add]; exact h1
        exact re_dn iu i id hz this
      · rcases h3 with h3 | ⟨y, j, h3, h4, h5⟩
        · have : Re cap U F D (z', 0) (t.1, 0 + t.2) := by rw [Nat.zero_add]; exact h3
          exact .inl (re_up iu i id hz' this)
        · have : Re cap U F D (y, 0) (t.1, 0 + j) := by rw [Nat.zero_add]; exact h5
          exact .inr ⟨j, h4, y, h3, re_up iu i id (i1 _ _ h3).2 this⟩
  · rintro (h | ⟨z, z', ⟨m, h1, h2⟩, h3, h4⟩)
    · exact ((led_iff iu i id hs ht c1 c2).mpr h).z
    · have e1 : Re cap U F D (s.1, 0 + s.2) (z, 0) := dn_re iu i id (by omega) h1 h2
      rw [Nat.zero_add] at e1
      have e2 := tns_rz (cap := cap) iu i id c0 h3
      refine (e1.z.trans e2).trans ?_
      rcases h4 with ⟨m', h5, h6⟩ | ⟨e, h7, y, h8, m', h5, h6⟩
      · have e3 : Re cap U F D (z', 0) (t.1, 0 + t.2) := up_re iu i id (by omega) h5 h6
        rw [Nat.zero_add] at e3
        exact e3.z
      · have e3 : Re (e + n * n) U F D (y, 0) (t.1, 0 + e) := up_re iu i id (by omega) h5 h6
        have e4 := re_mono (cap' := cap) (by omega) (re_shift e3)
        have e4 : Re cap U F D (y, 0 + 1) (t.1, 0 + e + 1) := e4
        have et : t = (t.1, 0 + e + 1) := Prod.ext rfl (by show t.2 = _; omega)
        have e5 : Rz cap U F D E0 E1 (z', 0) (y, 0 + 1) := .zero .start (.lift h8 (by omega))
        rw [et]
        exact e5.trans e4.z
end
end L2.Lv
end

section
set_option Elab.async false
set_option linter.all false
set_option maxRecDepth 100000
set_option maxHeartbeats 4000000
namespace L2.K71
open PySem PySem.Spec PyProof.Rows L2.Gd L2.Lv
/-! ### images, again and again -/
def imN (l : List Nat) (m : Nat) : Nat := bitsOf ((List.range l.length).filter fun b => (onesL m).any fun k => (l.getD k 0).testBit b)
theorem imN_bit {n : Nat} {l : List Nat} {r : Rl} (rp : Rep n l r) (i : In n r) {m : Nat} (b : Nat) : (imN l m).testBit b = true ↔ ∃ k, m.testBit k = true ∧ r k b := by
  unfold imN
  rw [bitsOf_bit, List.mem_filter, List.mem_range, List.any_eq_true, rp.len]
  constructor
  · rintro ⟨_, k, hk, h⟩
    exact ⟨k, mem_onesL.mp hk, (rp.bit k b).mp h⟩
  · rintro ⟨k, hk, h⟩
    exact ⟨(i k b h).2, k, mem_onesL.mpr hk, (rp.bit k b).mpr h⟩
theorem imN_of {n : Nat} {l : List Nat} {r : Rl} (rp : Rep n l r) (i : In n r) {m x : Nat} (h : ∀ b, x.testBit b = true ↔ ∃ k, m.testBit k = true ∧ r k b) : x = imN l m := by
  refine Nat.eq_of_testBit_eq fun b => ?_
  rw [Bool.eq_iff_iff, h b, imN_bit rp i b]
def orb (l : List Nat) (m : Nat) : Nat → Nat
  | 0 => m
  | k + 1 => imN l (orb l m k)
theorem orb_bit {n : Nat} {l : List Nat} {r : Rl} (rp : Rep n l r) (i : In n r) {m : Nat} : ∀ (k b : Nat), (orb l m k).testBit b = true ↔ ∃ a, m.testBit a = true ∧ Pw r k a b
  | 0, b => ⟨fun h => ⟨b, h, rfl⟩, fun ⟨a, h, e⟩ => by cases e; exact h⟩
  | k + 1, b => by
    show (imN l (orb l m k)).testBit b = true ↔ _
    rw [imN_bit rp i b]
    constructor
    · rintro ⟨x, h1, h2⟩
      obtain ⟨a, h3, h4⟩ := (orb_bit rp i k x).mp h1
      exact ⟨a, h3, x, h4, h2⟩
    · rintro ⟨a, h3, x, h4, h2⟩
      exact ⟨x, (orb_bit rp i k x).mpr ⟨a, h3, h4⟩, h2⟩
theorem orb_low {n : Nat} {l : List Nat} {r : Rl} (rp : Rep n l r) (i : In n r) {m : Nat} (hm : ∀ k, m.testBit k = true → k < n) : ∀ k b, (orb l m k).testBit b = true → b < n
  | 0, b, h => hm b h
  | k + 1, b, h => by
    obtain ⟨x, _, h2⟩ := (imN_bit rp i b).mp h
    exact (i x b h2).2
theorem orb_add (l : List Nat) (m a : Nat) : ∀ x, orb l m (a + x) = orb l (orb l m a) x
  | 0 => rfl
  | x + 1 => congrArg (imN l) (orb_add l m a x)
theorem orb_cycle {l : List Nat} {m j back : Nat} (hb : back < j) (e : orb l m j = orb l m back) : ∀ y, orb l m (back + y) = orb l m (back + y % (j - back)) := by
  intro y
  induction y using Nat.strongRecOn with
  | _ y ih =>
    by_cases h : y < j - back
    · rw [Nat.mod_eq_of_lt h]
    · have e1 : back + y = j + (y - (j - back)) := by omega
      rw [e1, orb_add, e, ← orb_add, ih (y - (j - back)) (by omega), Nat.mod_eq_sub_mod (a := y) (by omega)]
/-- masks and where they were met first -/
def dM : List Nat → Nat → List (Key × V)
  | [], _ => []
  | m :: r, i => (.inl (m : Int), .int (i : Int)) :: dM r (i + 1)
theorem dM_app : ∀ (ms : List Nat) (x i : Nat), dM (ms ++ [x]) i = dM ms i ++ [(.inl (x : Int), .int ((i + ms.length : Nat) : Int))]
  | [], x, i => rfl
  | m :: r, x, i => by
    have := dM_app r x (i + 1)
    show _ :: dM (r ++ [x]) (i + 1) = _ :: (dM r (i + 1) ++ _)
    rw [this, List.length_cons, show i + 1 + r.length = i + (r.length + 1) by omega]
theorem dM_len : ∀ (ms : List Nat) (i : Nat), (dM ms i).length = ms.length
  | [], _ => rfl
  | _ :: r, i => congrArg Nat.succ (dM_len r (i + 1))
theorem dM_none : ∀ (ms : List Nat) (i x : Nat), x ∉ ms → valV (dM ms i) (.inl (x : Int)) = none
  | [], _, _, _ => rfl
  | m :: r, i, x, h => by
    show valV ((.inl (m : Int), .int (i : Int)) :: dM r (i + 1)) _ = _
    rw [valV_neg (fun z => h (by
      have := Sum.inl.inj z
      have : m = x := by omega
      rw [this]
      exact List.mem_cons_self))]
    exact dM_none r (i + 1) x fun z => h (List.mem_cons_of_mem _ z)
theorem dM_some : ∀ (ms : List Nat) (i x : Nat), x ∈ ms → ∃ b, ms[b]? = some x ∧ valV (dM ms i) (.inl (x : Int)) = some (.int ((i + b : Nat) : Int))
  | m :: r, i, x, h => by
    by_cases e : m = x
    · subst e
      exact ⟨0, rfl, valV_pos rfl⟩
    · obtain ⟨b, h1, h2⟩ := dM_some r (i + 1) x ((List.mem_cons.mp h).resolve_left fun z => e z.symm)
      refine ⟨b + 1, h1, ?_⟩
      show valV ((.inl (m : Int), .int (i : Int)) :: dM r (i + 1)) _ = _
      rw [valV_neg (fun z => e (by have := Sum.inl.inj z; omega)), h2, show i + 1 + b = i + (b + 1) by omega]
def orL (l : List Nat) (m j : Nat) : List Nat := (List.range j).map (orb l m)
theorem orL_len (l : List Nat) (m j : Nat) : (orL l m j).length = j := by
  unfold orL
  rw [List.length_map, List.length_range]
theorem orL_succ (l : List Nat) (m j : Nat) : orL l m (j + 1) = orL l m j ++ [orb l m j] := by
  unfold orL
  rw [List.range_succ, List.map_append]
  rfl
theorem orL_at {l : List Nat} {m j k : Nat} (h : k < j) : (orL l m j)[k]? = some (orb l m k) := by
  unfold orL
  rw [List.getElem?_map, List.getElem?_range h]
  rfl
theorem few_masks {n : Nat} {ms : List Nat} (n16 : n ≤ 16) (nd : ms.Nodup) (h : ∀ m ∈ ms, ∀ b, m.testBit b = true → b < n) : ms.length ≤ 65536 := by
  have := nat_nodup_len ms (List.range (2 ^ n)) nd fun m hm => List.mem_range.mpr (lt_pow (h m hm))
  rw [List.length_range] at this
  have e : (2 : Nat) ^ n ≤ 2 ^ 16 := Nat.pow_le_pow_right (by decide) n16
  have e2 : (2 : Nat) ^ 16 = 65536 := by decide
  omega
section
variable {P : Program} {w : World} {K : PySem.W.Frag} {mg : Str → Option Value} {base : Heap} {C : Addr}
/-- an orbit: its masks, where it comes again -/
def OrbAt (H : Hp) (t : Addr) (l : List Nat) (m : Nat) : Prop := ∃ p j back, H t = some (.tup [.ref p, .int (back : Nat)]) ∧ H p = some (.lst (iN (orL l m j))) ∧ back < j ∧ orb l m j = orb l m back ∧ j ≤ 65536
theorem OrbAt.same {H H' : Hp} {t : Addr} {l : List Nat} {m : Nat} (s : Same H H') (h : OrbAt H t l m) : OrbAt H' t l m := let ⟨p, j, b, h1, h2, h3⟩ := h; ⟨p, j, b, s _ _ h1, s _ _ h2, h3⟩
def spOrb : Sp := fun vs H Q _ => ∃ (a : Addr) (l : List Nat) (m n : Nat) (r : Rl), vs = [.ref a, .int m] ∧ H a = some (.lst (iN l)) ∧ Rep n l r ∧ In n r ∧ n ≤ 16 ∧ (∀ k, m.testBit k = true → k < n) ∧
  ∀ t H', H t = none → Same H H' → OrbAt H' t l m → Q (.ref t) H'
def NOr : List Str := ["relation", "mask", "masks", "seen"]
theorem scOr : FnScope NOr ["relation", "mask"] (defScope (top 28)) := ⟨rfl, rfl, rfl, by decide +kernel, rfl, by decide +kernel, by decide +kernel⟩
theorem ok_orb {f : Addr} {fd : FuncData} (F : Fun K "orbit_of" "orbit_of" (top 28) f fd) (n : Nm mg) (GI : Fn P w K mg base 2 "image" ["relation", "mask"] spImg) : FnOk P w K mg base CX0 3 f fd ["relation", "mask"] spOrb := by
  refine F.ok scOr (fun vs H Q E h => ?_) (fun cdv A outer s H vs Q E hr h => ?_)
  · obtain ⟨a, l, m, k, r, rfl, _⟩ := h
    rfl
  · obtain ⟨a, l, m, k, r, rfl, ha, rp, ir, k16, mb, q⟩ := h
    have N := scOr.nd
    have hu := hu_of hr
    refine ⟨_, pss_cons (ps_set (i := 2) N rfl (.inl rfl) (pe_lst pa_nil))
      (pss_cons (ps_set (i := 3) N rfl (.inl rfl) pe_dnewK)
      (pss_cons (ps_while PassesOwn.never (pt_cmp (pc_dnotin hu (pv 1) (pv 3)))
        (pss_cons (ps_dput hu (pv 3) (pv 1) (pe_callB call_len_seq (by rfl) n.len PySem.boot_len (pa_cons (pv 2) pa_nil)) rfl)
        (pss_cons (ps_expr (pe_bm PySem.F.plainAttrs_list PySem.F.slot_list_append PySem.F.type_list_append mt_append (pv 2) (pa_cons (pv 1) pa_nil)))
        (pss_one (ps_set (i := 1) N rfl (.inl rfl) (pe_fn GI hr (pa_cons (pv 0) (pa_cons (pv 1) pa_nil))))))))
      (pss_one (ps_ret (pe_tup (pa_cons (pv 2) (pa_cons (pe_dget hu (pv 3) (pv 1) (fun _ _ => rfl)) pa_nil))))))), ?_⟩
    refine ⟨(by show 0 ≤ sizeLine; decide), fun p hp => ?_⟩
    have s1 := same_upd (o := .lst []) hp
    intro d hd
    have s2 := same_upd (o := .dK []) hd
    have pd : p ≠ d := ne_of_none (show upd H p (.lst []) p = some _ from upd_same) hd
    have nd0 : H d = none := s1.free hd
    refine ⟨fun z σ H2 => ∃ j, z = 65537 - j ∧ σ = [some (.ref a), some (.int (orb l m j : Nat)), some (.ref p), some (.ref d)] ∧ (orL l m j).Nodup ∧ H2 p = some (.lst (iN (orL l m j))) ∧ H2 d = some (.dK (dM (orL l m j) 0)) ∧ Same H H2,
      ⟨65537 - 0, 0, rfl, rfl, List.nodup_nil, s2 _ _ upd_same, upd_same, s1.trans s2⟩, ?_⟩
    rintro z σ H2 ⟨j, rfl, rfl, nd, h1, h2, s3⟩
    have jl := orL_len l m j
    have low : ∀ x ∈ orL l m j, ∀ b, x.testBit b = true → b < k := fun x hx b hb => by
      obtain ⟨i, _, rfl⟩ := List.mem_map.mp hx
      exact orb_low rp ir mb i b hb
    have j5 : j ≤ 65536 := by rw [← jl]; exact few_masks k16 nd low
    refine ⟨_, rfl, _, rfl, d, _, rfl, .k (k := .inl ((orb l m j : Nat) : Int)) h2, _, rfl, ?_⟩
    by_cases hm : orb l m j ∈ orL l m j
    · obtain ⟨back, hb, hv⟩ := dM_some (orL l m j) 0 _ hm
      have bj : back < j := by
        have := (List.getElem?_eq_some_iff.mp hb).1
        omega
      rw [orL_at bj] at hb
      rw [hv]
      have dg := DGet.k (k := .inl ((orb l m j : Nat) : Int)) h2
      rw [hv] at dg
      refine iteF ⟨_, rfl, _, rfl, _, rfl, d, V.int ((0 + back : Nat) : Int), rfl, dg, (by show 2 ≤ sizeLine; decide), fun t ht => ?_⟩
      · have s4 := same_upd (o := .tup [V.ref p, V.int ((0 + back : Nat) : Int)]) ht
        refine q t _ (s3.free ht) (s3.trans s4) ⟨p, j, back, ?_, s4 _ _ h1, bj, (Option.some.inj hb).symm, j5⟩
        rw [upd_same, Nat.zero_add]
    · rw [dM_none _ _ _ hm]
      refine iteT ⟨_, fun σ' H' h => h, ?_⟩
      have nd' : (orL l m (j + 1)).Nodup := by
        rw [orL_succ, List.nodup_append]
        exact ⟨nd, by simp, fun x hx y hy => by rw [List.mem_singleton.mp hy]; exact fun e => hm (e ▸ hx)⟩
      have j6 : j + 1 ≤ 65536 := by
        rw [← orL_len l m (j + 1)]
        refine few_masks (n := k) k16 nd' fun x hx b hb => ?_
        obtain ⟨i, _, rfl⟩ := List.mem_map.mp hx
        exact orb_low rp ir mb i b hb
      refine ⟨_, rfl, p, _, rfl, .inl (.inl (.inl h1)), _, rfl, _, rfl, d, _, rfl, .k (k := .inl ((orb l m j : Nat) : Int)) h2 (by rw [dM_len, jl, sizeLine_eq]; omega), ?_⟩
      rw [putK_new _ (dM_none _ _ _ hm), iN_len]
      have e1 : dM (orL l m j) 0 ++ [(.inl ((orb l m j : Nat) : Int), V.int ((orL l m j).length : Int))] = dM (orL l m (j + 1)) 0 := by
        rw [orL_succ, dM_app, Nat.zero_add]
      rw [e1]
      have h3 : upd H2 d (.dK (dM (orL l m (j + 1)) 0)) p = some (.lst (iN (orL l m j))) := by rw [upd_ne pd]; exact h1
      refine ⟨_, rfl, .inl ⟨rfl, _, .inl (.inl h3)⟩, _, rfl, p, _, _, rfl, rfl, h3, by rw [iN_len, jl, sizeLine_eq]; omega, ?_⟩
      have s5 : Same H (upd (upd H2 d (.dK (dM (orL l m (j + 1)) 0))) p (.lst (iN (orL l m j) ++ [V.int (orb l m j : Nat)]))) := fun b o e => by
        rw [upd_ne (ne_of_none e hp), upd_ne (ne_of_none e nd0)]
        exact s3 _ _ e
      refine ⟨_, rfl, _, rfl, a, l, orb l m j, k, r, rfl, s5 _ _ ha, rp, by omega, orb_low rp ir mb j, fun x H3 s6 hx => ?_⟩
      obtain rfl := imN_of rp ir hx
      refine ⟨65537 - (j + 1), by omega, j + 1, rfl, rfl, nd', s6 _ _ ?_, s6 _ _ ?_, s5.trans s6⟩
      · rw [upd_same, orL_succ, iN_app]
        rfl
      · rw [upd_ne pd.symm, upd_same]
/-! ### orbit_at -/
def spOat : Sp := fun vs H Q _ => ∃ (t : Addr) (l : List Nat) (m s : Nat), vs = [.ref t, .int s] ∧ OrbAt H t l m ∧ Q (.int (orb l m s : Nat)) H
def NOa : List Str := ["orbit", "steps", "masks", "back"]
theorem scOa : FnScope NOa ["orbit", "steps"] (defScope (top 29)) := ⟨rfl, rfl, rfl, by decide +kernel, rfl, by decide +kernel, by decide +kernel⟩
theorem ok_oat {f : Addr} {fd : FuncData} (F : Fun K "orbit_at" "orbit_at" (top 29) f fd) (n : Nm mg) : FnOk P w K mg base CX0 1 f fd ["orbit", "steps"] spOat := by
  refine F.ok scOa (fun vs H Q E h => ?_) (fun cdv A outer s H vs Q E hr h => ?_)
  · obtain ⟨t, l, m, s, rfl, _⟩ := h
    rfl
  · obtain ⟨t, l, m, st, rfl, ⟨p, j, back, ht, hp, bj, e, j5⟩, q⟩ := h
    have N := scOa.nd
    refine ⟨_, pss_cons (ps_asg (pv 0) (pg_tup rfl (pgs_cons (pg_name (i := 2) N rfl (.inl rfl)) (pgs_cons (pg_name (i := 3) N rfl (.inl rfl)) pgs_nil))))
      (pss_cons (ps_if (pt_cmpR op_lt (pv 1) (pe_callB call_len_seq (by rfl) n.len PySem.boot_len (pa_cons (pv 2) pa_nil)) (nomark _)) (pss_one (ps_ret (pe_ix ix_list (pv 2) (pv 1) (fun _ _ => rfl)))) pss_nil)
      (pss_one (ps_ret (pe_ix ix_list (pv 2) (pe_op op_add (pv 3) (pe_op op_mod (pe_op op_sub (pv 1) (pv 3)) (pe_op op_sub (pe_callB call_len_seq (by rfl) n.len PySem.boot_len (pa_cons (pv 2) pa_nil)) (pv 3)))) (fun _ _ => rfl))))), ?_⟩
    have jl := orL_len l m j
    have at_ : ∀ i, i < j → (iN (orL l m j))[i]? = some (.int (orb l m i : Nat)) := fun i hi => by
      unfold iN
      rw [List.getElem?_map, orL_at hi]
      rfl
    refine ⟨_, rfl, t, _, rfl, .inl (.inl ht), rfl, _, _, rfl, _, _, rfl, rfl, ?_⟩
    refine ⟨_, rfl, _, rfl, p, _, rfl, .inl (.inl (.inl hp)), _, _, rfl, rfl, decide (st < j), ?_, ?_⟩
    · show V.bl (decide ((st : Int) < ((iN (orL l m j)).length : Int))) = _
      rw [iN_len, jl]
      congr 1
      rw [decide_eq_decide]
      omega
    · by_cases c : st < j
      · rw [decide_eq_true c]
        exact iteT ⟨_, rfl, _, rfl, p, _, _, _, rfl, rfl, .inl (.inl hp), atI_nat (at_ st c), q⟩
      · rw [decide_eq_false c]
        refine iteF ⟨_, rfl, _, rfl, _, rfl, _, rfl, _, _, rfl, rfl, _, rfl, p, _, rfl, .inl (.inl (.inl hp)), _, rfl, _, _, rfl, rfl, _, _, rfl, rfl, ?_, _, _, rfl, rfl, p, _, _, _, rfl, rfl, .inl (.inl hp), ?_, q⟩
        · rw [iN_len, jl]
          show (0 : Int) < (j : Int) - (back : Int)
          omega
        · rw [iN_len, jl]
          have e1 : (back : Int) + ((st : Int) - (back : Int)) % ((j : Int) - (back : Int)) = ((back + (st - back) % (j - back) : Nat) : Int) := by
            rw [show (st : Int) - (back : Int) = ((st - back : Nat) : Int) by omega, show (j : Int) - (back : Int) = ((j - back : Nat) : Int) by omega, ← Int.natCast_emod]
            simp
          rw [e1]
          have e2 : orb l m st = orb l m (back + (st - back) % (j - back)) := by
            have := orb_cycle bj e (st - back)
            rw [show back + (st - back) = st by omega] at this
            exact this
          have lt := Nat.mod_lt (st - back) (show 0 < j - back by omega)
          rw [e2]
          exact atI_nat (at_ _ (by omega))
end
end L2.K71
end

section
set_option Elab.async false
set_option linter.all false
set_option maxRecDepth 100000
set_option maxHeartbeats 2000000
/-! min(xs, default = d), xs a list of ints -/
namespace L2.Gd
open PySem PySem.Spec PyProof.Rows
section
variable {prog : Program} {w : World} {A : Around} {E : Value → Shared → Prop} {s : Shared} {l : Addr} {its : List Value} {ns : List Int} {Q : Value → Shared → Prop} {d : Value}
theorem minD_raw (hh : A.handled = none) (hl : s.heap.IsList l its.toArray) (hi : IntsAre its ns)
    (h0 : ∀ h' tk, ns = [] → (∀ b o, s.heap.get? b = some o → h'.get? b = some o) → Q d { s with heap := h', toks := tk })
    (h : ∀ h' tk M t', (∀ b o, s.heap.get? b = some o → h'.get? b = some o) → M ∈ ns → (∀ a, a ∈ ns → M ≤ a) → Q (.int M t') { s with heap := h', toks := tk }) : wpAny (model prog w) A (call (.builtin "min") [.ref l] [(Str.ofString "default", d)]) Q E s := by
  obtain ⟨xs, e⟩ := hi.allInts.items
  have hn : numsOf (intItems xs).toList = ns := by rw [← e]; exact hi.numsOf
  rw [nums_intItems] at hn
  subst hn
  rw [e] at hl
  have old : ∀ {s' : Shared}, Moved [s.heap.objs.size] (fun a b => b = a) { s with heap := s.heap.push { cls := .type "list_iterator", data := .fields #[.ref l, .int 0 0] } } s' → s' = { s with heap := s'.heap, toks := s'.toks } ∧ ∀ b o, s.heap.get? b = some o → s'.heap.get? b = some o := by
    intro s' hm
    refine ⟨?_, old_kept hm.heap⟩
    have h1 := hm.gens
    have h2 := hm.drawn
    have h3 := hm.os
    cases s'
    cases s
    cases h1
    cases h2
    cases h3
    rfl
  refine PySem.call_min_walkD (iter_intList hl fun s₂ e2 st hfp hlI => ?_)
  subst e2
  refine ⟨_, _, _, _, _, _, _, s.heap, fun i j => decide (numAt xs i < numAt xs j), rfl, (Walks.list (A := A.in1) hh _ l hlI (intItems xs)).toS, st, hfp, fun b o eb hb => ?_, fun b o eb => Heap.get?_push_of_some _ eb, fun hz s' hm => ?_, fun hz => ⟨fun i j vi vj s3 Q3 E3 _ hi3 hj3 hq => CmpOf.ints_lt (numAt xs) (fun _ _ => intItems_at) i j vi vj s3 Q3 E3 hi3 hj3 hq, fun v s' hP hm => ?_⟩⟩
  · have := Heap.lt_size eb
    rw [List.mem_singleton.mp hb] at this
    exact Nat.lt_irrefl _ this
  · obtain ⟨e1, e2⟩ := old hm
    rw [e1]
    refine h0 _ _ ?_ e2
    have : xs.toList = [] := by
      have : xs.size = 0 := by simpa [intItems] using hz
      exact List.eq_nil_of_length_eq_zero (by rw [Array.length_toList]; exact this)
    rw [this]
    rfl
  · obtain ⟨e1, e2⟩ := old hm
    rw [e1]
    have hsz : 0 < xs.size := by simpa [intItems] using hz
    have hP : (intItems xs)[argBest (fun i j => decide (numAt xs i < numAt xs j)) (xs.size - 1)]? = some v := by simpa [intItems] using hP
    obtain ⟨t, rfl⟩ := intItems_at hP
    obtain ⟨h1, h2⟩ := argBest_lt (numAt xs) (xs.size - 1)
    refine h _ _ _ t e2 ?_ fun a ha => ?_
    · rw [numAt_eq]; exact PySem.getD_mem (by rw [List.length_map, Array.length_toList]; omega)
    · obtain ⟨j, hj, rfl⟩ := mem_getD ha
      rw [List.length_map, Array.length_toList] at hj
      rw [← numAt_eq]; exact h2 j (by omega)
end
def rMinD (K : PySem.W.Frag) : List V → List V → Hp → VK → Prop := fun vs zs H Q => ∃ (a : Addr) (ns : List Int) (d : V), vs = [V.ref a] ∧ zs = [d] ∧ SqL K H a (ns.map V.int) ∧ (ns = [] → Q d H) ∧ ∀ m ∈ ns, (∀ y ∈ ns, m ≤ y) → Q (.int m) H
theorem cr_minD {X : Cx} (hc : X.calm = true) : CallRK X (.builtin "min") ["default"] (rMinD X.K) := by
  intro pins s σ H vs zs us ws Q I r rz h
  obtain ⟨a, ns, d, rfl, rfl, hs, q0, q1⟩ := h
  obtain ⟨its, rv, hl, _⟩ := I.list hs
  rw [Vals.ref1 r]
  cases rz with
  | cons r1 t =>
    cases t
    exact minD_raw (I.ok.hd hc) hl.isList rv.ints (fun h' tk e hk => ⟨d, H, I.kept hk, r1, q0 e⟩) fun h' tk m t' hk h1 h2 => ⟨.int _, H, I.kept hk, ⟨_, rfl⟩, q1 m h1 h2⟩
end L2.Gd
end

section
set_option Elab.async false
set_option linter.all false
set_option maxRecDepth 100000
set_option maxHeartbeats 4000000
namespace L2.K71
open PySem PySem.Spec PyProof.Rows L2.Gd L2.Lv
section
variable {P : Program} {w : World} {K : PySem.W.Frag} {mg : Str → Option Value} {base : Heap} {C : Addr}
/-! ### led_back -/
def spLb : Sp := fun vs H Q _ => ∃ (a : Addr) (l : List Nat) (n : Nat) (r : Rl), vs = [.ref a] ∧ H a = some (.lst (iN l)) ∧ Rep n l r ∧ In n r ∧ n ≤ 16 ∧
  ∀ p H' z, H p = none → Same H H' → H' p = some (.lst (iN z)) → Rep n z (Tr r) → Q (.ref p) H'
def NLb : List Str := ["relation", "place", "goal"]
theorem scLb : FnScope NLb ["relation"] (defScope (top 25)) := ⟨rfl, rfl, rfl, by decide +kernel, rfl, by decide +kernel, by decide +kernel⟩
theorem ok_lb {f : Addr} {fd : FuncData} (F : Fun K "led_back" "led_back" (top 25) f fd) (n : Nm mg) (GR : Fn P w K mg base 1 "relation_of" ["many", "pairs"] spRel) (GP : Fn P w K mg base 2 "pairs_of" ["relation"] spPrs) : FnOk P w K mg base CX0 3 f fd ["relation"] spLb := by
  refine F.ok scLb (fun vs H Q E h => ?_) (fun cdv A outer s H vs Q E hr h => ?_)
  · obtain ⟨a, l, k, r, rfl, _⟩ := h
    rfl
  · obtain ⟨a, l, k, r, rfl, ha, rp, ir, k16, q⟩ := h
    have N := scLb.nd
    have r1 := hr.mono (k := 2) (j := 1) (by decide)
    refine ⟨_, pss_one (ps_ret (pe_fn GR r1 (pa_cons (pe_callB call_len_seq (by rfl) n.len PySem.boot_len (pa_cons (pv 0) pa_nil)) (pa_cons
      (pe_lc (own := [("place", 1), ("goal", 2)]) (g := gTup K 2 (gCons (gName 1) (gCons (gName 2) gNil))) (tt := tYes) rfl N (pi_list (pe_fn GP hr (pa_cons (pv 0) pa_nil))) (blkOk_by (N := NLb) (sc := defScope (top 25)) (by decide +kernel))
        (fun _ _ _ _ _ => pg_tup rfl (pgs_cons (pg_name (i := 1) N rfl (.inl rfl)) (pgs_cons (pg_name (i := 2) N rfl (.inl rfl)) pgs_nil)))
        (fun _ _ _ _ _ => pts_nil) (fun _ _ _ _ _ => pe_tup (pa_cons (pv 2) (pa_cons (pv 1) pa_nil)))) pa_nil)))), ?_⟩
    refine ⟨_, rfl, a, _, rfl, .inl (.inl (.inl ha)), _, rfl, a, l, rfl, ha, by rw [rp.len]; omega, fun m hm => lt100 (by omega) (Rep.inn rp ir hm), fun o H1 xs no s1 ho pa => ?_⟩
    refine ⟨o, rfl, ⟨_, .inl (.inl ho)⟩, fun D hD => ?_⟩
    have xl := Paired.length pa
    have pl : (prsL l).length ≤ 16 * 100 := by
      have := flat_len l (fun m hm => lt100 (by omega) (Rep.inn rp ir hm)) l.length
      have e : prsL l = (List.range l.length).flatMap (rowP l) := rfl
      rw [e]
      have : l.length * 100 ≤ 16 * 100 := Nat.mul_le_mul_right _ (by rw [rp.len]; exact k16)
      omega
    refine lc_list (xs := xs) (fun i H' => ButD D H1 H' ∧ ∃ zs, H' D = some (.lst zs) ∧ PrAll H' zs (((prsL l).take i).map Prod.swap)) ⟨.start, [], upd_same, .nil⟩
      (fun i H' _ hI => .inl (.inl (hI.1.new hD _ _ ho))) ?_ ?_
    · rintro i x H' hx ⟨b, zs, h1, h2⟩
      have s2 := b.new hD
      obtain ⟨y, hy, t, rfl, ht⟩ := Paired.at pa hx
      refine ⟨t, _, rfl, .inl (.inl (s2 _ _ ht)), rfl, _, _, rfl, _, _, rfl, rfl, rfl, yes_ite ?_⟩
      refine ⟨_, rfl, _, rfl, (by show 2 ≤ sizeLine; decide), fun u hu => ?_⟩
      have su := same_upd (o := .tup [V.int (y.2 : Nat), V.int (y.1 : Nat)]) hu
      have zl := Paired.length h2
      rw [List.length_map, List.length_take] at zl
      have bt : ButD D (upd H' u (.tup [V.int (y.2 : Nat), V.int (y.1 : Nat)])) (L2.upd (upd H' u (.tup [V.int (y.2 : Nat), V.int (y.1 : Nat)])) D (.lst (zs ++ [V.ref u]))) := ButD.start
      refine ⟨zs, su _ _ h1, by rw [sizeLine_eq]; omega, (b.more su).put, _, upd_same, ?_⟩
      rw [take_map _ hy]
      exact PrAll.but bt ⟨_, su _ _ h1⟩ (PySem.Paired.snoc (PrAll.same su h2) ⟨u, rfl, upd_same⟩)
    · rintro H' ⟨b, zs, h1, h2⟩
      have s2 := b.new hD
      rw [xl, List.take_length] at h2
      have mem : ∀ c d, (c, d) ∈ (prsL l).map Prod.swap ↔ Tr r c d := fun c d => by
        rw [List.mem_map]
        constructor
        · rintro ⟨⟨x, y⟩, hxy, e⟩
          obtain ⟨rfl, rfl⟩ := Prod.mk.inj e
          exact (mem_prsL rp).mp hxy
        · intro h
          exact ⟨(d, c), (mem_prsL rp).mpr h, rfl⟩
      refine ⟨k, D, zs, _, by rw [iN_len, rp.len]; rfl, by omega, h1, h2, fun p hp => ?_, fun p H2 z np s3 hp rz => q p H2 z ((s1.trans s2).free np) (s1.trans (s2.trans s3)) hp (rz.iff mem)⟩
      have := (mem p.1 p.2).mp hp
      exact ⟨(ir _ _ this).2, (ir _ _ this).1⟩
/-! ### least_known -/
def oV : Option Nat → V
  | none => .non
  | some k => .int (k : Int)
/-- the least of these, if there is one -/
def Least (os : List (Option Nat)) (x : Option Nat) : Prop := match x with
  | none => ∀ k, some k ∉ os
  | some k => some k ∈ os ∧ ∀ j, some j ∈ os → k ≤ j
def spLk : Sp := fun vs H Q _ => ∃ (a : Addr) (os : List (Option Nat)), vs = [.ref a] ∧ H a = some (.lst (os.map oV)) ∧ os.length ≤ 1000 ∧ ∀ x H', Same H H' → Least os x → Q (oV x) H'
def NLk : List Str := ["values", "value"]
theorem scLk : FnScope NLk ["values"] (defScope (top 39)) := ⟨rfl, rfl, rfl, by decide +kernel, rfl, by decide +kernel, by decide +kernel⟩
def kn (os : List (Option Nat)) : List Int := os.filterMap fun o => o.map fun k : Nat => (k : Int)
theorem kn_mem {os : List (Option Nat)} {m : Int} : m ∈ kn os ↔ ∃ k : Nat, some k ∈ os ∧ m = (k : Int) := by
  unfold kn
  rw [List.mem_filterMap]
  constructor
  · rintro ⟨o, ho, e⟩
    cases o with
    | none => exact nomatch e
    | some k => exact ⟨k, ho, (Option.some.inj e).symm⟩
  · rintro ⟨k, h, e⟩
    exact ⟨some k, h, by rw [e]; rfl⟩
theorem ok_lk {f : Addr} {fd : FuncData} (F : Fun K "least_known" "least_known" (top 39) f fd) (n : Nm mg) : FnOk P w K mg base CX0 1 f fd ["values"] spLk := by
  refine F.ok scLk (fun vs H Q E h => ?_) (fun cdv A outer s H vs Q E hr h => ?_)
  · obtain ⟨a, os, rfl, _⟩ := h
    rfl
  · obtain ⟨a, os, rfl, ha, ol, q⟩ := h
    have N := scLk.nd
    refine ⟨_, pss_one (ps_ret (pe_callBK (cr_minD rfl) (by rfl) n.min (by decide +kernel) (pa_cons
      (pe_lc (own := [("value", 1)]) (g := gName 1) rfl N (pi_list (pv 0)) (blkOk_by (N := NLk) (sc := defScope (top 39)) (by decide +kernel)) (fun _ _ _ _ _ => pg_name (i := 1) N rfl (.inl rfl))
        (fun _ _ _ _ _ => pts_one (pt_cmp (pc_notN (pv 1)))) (fun _ _ _ _ _ => pv 1)) pa_nil) (pk_cons pe_non pk_nil))), ?_⟩
    refine ⟨_, rfl, a, rfl, ⟨_, .inl (.inl ha)⟩, fun D hD => ?_⟩
    have ki : ∀ i o, os[i]? = some o → kn (os.take (i + 1)) = kn (os.take i) ++ (match o with | none => [] | some k => [(k : Int)]) := fun i o h => by
      unfold kn
      rw [List.take_succ, h, List.filterMap_append]
      cases o <;> rfl
    have kl : ∀ i, (kn (os.take i)).length ≤ 1000 := fun i => by
      have h1 : (kn (os.take i)).length ≤ (os.take i).length := List.length_filterMap_le _ _
      have h2 : (os.take i).length ≤ os.length := by rw [List.length_take]; omega
      omega
    refine lc_list (xs := os.map oV) (fun i H' => ButD D H H' ∧ H' D = some (.lst ((kn (os.take i)).map V.int))) ⟨.start, upd_same⟩ (fun i H' _ hI => .inl (.inl (hI.1.new hD _ _ ha))) ?_ ?_
    · rintro i x H' hx ⟨b, h1⟩
      rw [List.getElem?_map] at hx
      obtain ⟨o, ho, rfl⟩ := Option.map_eq_some_iff.mp hx
      have e := ki i o ho
      have l := kl i
      refine ⟨rfl, ?_⟩
      cases o with
      | none =>
        rw [show (match (none : Option Nat) with | none => ([] : List Int) | some k => [(k : Int)]) = [] from rfl, List.append_nil] at e
        exact ⟨_, rfl, false, rfl, iteF ⟨b, by rw [e]; exact h1⟩⟩
      | some k =>
        refine ⟨_, rfl, true, rfl, iteT ⟨_, rfl, _, h1, by rw [List.length_map, sizeLine_eq]; omega, b.put, ?_⟩⟩
        rw [upd_same, e, List.map_append]
        rfl
    · rintro H' ⟨b, h1⟩
      rw [List.length_map, List.take_length] at h1
      have s1 := b.new hD
      refine ⟨D, kn os, .non, rfl, rfl, .inl (.inl h1), fun e => q none H' s1 fun k hk => ?_, fun m hm hmin => ?_⟩
      · have : (k : Int) ∈ kn os := kn_mem.mpr ⟨k, hk, rfl⟩
        rw [e] at this
        exact nomatch this
      · obtain ⟨k, hk, rfl⟩ := kn_mem.mp hm
        exact q (some k) H' s1 ⟨hk, fun j hj => by
          have := hmin (j : Int) (kn_mem.mpr ⟨j, hj, rfl⟩)
          omega⟩
end
end L2.K71
end

section
set_option Elab.async false
set_option linter.all false
set_option maxRecDepth 100000
set_option maxHeartbeats 4000000
namespace L2.K71
open PySem PySem.Spec PyProof.Rows L2.Gd L2.Lv
/-! ### a table of needs -/
open Classical in
noncomputable def tb (f : Nat → Rl) (M : Nat) : Nat → Nat → Nat → Option Nat
  | 0, _, _ => none
  | c + 1, a, b => if f (M - c) a b then some (M - c) else tb f M c a b
open Classical in
theorem tb_succ {f : Nat → Rl} {M c a b : Nat} : tb f M (c + 1) a b = if f (M - c) a b then some (M - c) else tb f M c a b := rfl
theorem tb_some {f : Nat → Rl} {M a b k : Nat} : ∀ c, c ≤ M + 1 → tb f M c a b = some k → f k a b ∧ k ≤ M ∧ M < k + c ∧ ∀ j, M < j + c → j ≤ M → f j a b → k ≤ j
  | 0, _, h => nomatch h
  | c + 1, hc, h => by
    unfold tb at h
    by_cases x : f (M - c) a b
    · rw [if_pos x] at h
      obtain rfl := Option.some.inj h
      exact ⟨x, by omega, by omega, fun j _ _ _ => by omega⟩
    · rw [if_neg x] at h
      obtain ⟨h1, h2, h3, h4⟩ := tb_some c (by omega) h
      refine ⟨h1, h2, by omega, fun j l m hj => ?_⟩
      by_cases e : j = M - c
      · subst e
        exact absurd hj x
      · exact h4 j (by omega) m hj
theorem tb_none {f : Nat → Rl} {M a b : Nat} : ∀ c, c ≤ M + 1 → tb f M c a b = none → ∀ j, M < j + c → j ≤ M → ¬ f j a b
  | 0, _, _, j, l, m => by omega
  | c + 1, hc, h, j, l, m => by
    unfold tb at h
    by_cases x : f (M - c) a b
    · rw [if_pos x] at h
      exact nomatch h
    · rw [if_neg x] at h
      by_cases e : j = M - c
      · subst e
        exact x
      · exact tb_none c (by omega) h j (by omega) m
def rowT (n : Nat) (T : Nat → Option Nat) : List V := (List.range n).map fun b => oV (T b)
theorem rowT_at {n b : Nat} {T : Nat → Option Nat} (h : b < n) : (rowT n T)[b]? = some (oV (T b)) := by
  unfold rowT
  rw [List.getElem?_map, List.getElem?_range h]
  rfl
theorem rowT_len {n : Nat} {T : Nat → Option Nat} : (rowT n T).length = n := by
  unfold rowT
  rw [List.length_map, List.length_range]
theorem rowT_set {n b : Nat} {T : Nat → Option Nat} {x : Option Nat} : (rowT n T).set b (oV x) = rowT n (fun c => if c = b then x else T c) := by
  refine List.ext_getElem? fun i => ?_
  rw [List.getElem?_set]
  by_cases hi : i < n
  · by_cases e : b = i
    · subst e
      rw [if_pos rfl, if_pos (by rw [rowT_len]; exact hi), rowT_at hi, if_pos rfl]
    · rw [if_neg e, rowT_at hi, rowT_at hi, if_neg (fun z => e z.symm)]
  · have e1 : (rowT n fun c => if c = b then x else T c)[i]? = none := List.getElem?_eq_none (by rw [rowT_len]; omega)
    rw [e1]
    by_cases e : b = i
    · subst e
      rw [if_pos rfl, if_neg (by rw [rowT_len]; exact hi)]
    · rw [if_neg e]
      exact List.getElem?_eq_none (by rw [rowT_len]; omega)
/-- rows of needs -/
structure TabAt (H : Hp) (p : Addr) (R : List Addr) (n : Nat) (T : Nat → Nat → Option Nat) : Prop where
  ob : H p = some (.lst (R.map V.ref))
  len : R.length = n
  row : ∀ a ra, R[a]? = some ra → H ra = some (.lst (rowT n (T a)))
theorem TabAt.same {H H' : Hp} {p : Addr} {R : List Addr} {n : Nat} {T : Nat → Nat → Option Nat} (s : Same H H') (h : TabAt H p R n T) : TabAt H' p R n T := ⟨s _ _ h.ob, h.len, fun a ra e => s _ _ (h.row a ra e)⟩
theorem TabAt.cg {H : Hp} {p : Addr} {R : List Addr} {n : Nat} {T T' : Nat → Nat → Option Nat} (e : ∀ a, a < n → ∀ b, T a b = T' a b) (h : TabAt H p R n T) : TabAt H p R n T' := ⟨h.ob, h.len, fun a ra q => by
  have hlt : a < n := by
    have := (List.getElem?_eq_some_iff.mp q).1
    rw [h.len] at this
    exact this
  rw [h.row a ra q, show T a = T' a from funext (e a hlt)]⟩
theorem same_put {H H' : Hp} {x : Addr} {o : HO} (s : Same H H') (n : H x = none) : Same H (upd H' x o) := fun b u e => by
  rw [upd_ne (ne_of_none e n)]
  exact s _ _ e
theorem tab_set {H : Hp} {p : Addr} {R : List Addr} {n a0 b0 ra : Nat} {T : Nat → Nat → Option Nat} {x : Option Nat} (h : TabAt H p R n T) (nd : R.Nodup) (np : p ∉ R) (e : R[a0]? = some ra) :
    TabAt (upd H ra (.lst ((rowT n (T a0)).set b0 (oV x)))) p R n (fun a b => if a = a0 ∧ b = b0 then x else T a b) := by
  refine ⟨?_, h.len, fun a r' e' => ?_⟩
  · rw [upd_ne (fun z => np (by rw [z]; exact List.mem_of_getElem? e))]
    exact h.ob
  · by_cases c : a = a0
    · subst c
      rw [e] at e'
      obtain rfl := Option.some.inj e'
      rw [upd_same, rowT_set]
      congr 3
      funext b
      by_cases d : b = b0 <;> simp [d]
    · have ne : r' ≠ ra := fun z => c (by
        subst z
        have h1 := (List.getElem?_eq_some_iff.mp e).1
        have h2 := (List.getElem?_eq_some_iff.mp e').1
        exact (List.getElem_inj nd).mp ((List.getElem?_eq_some_iff.mp e').2.trans (List.getElem?_eq_some_iff.mp e).2.symm))
      rw [upd_ne ne, h.row a r' e']
      congr 3
      funext b
      simp [c]
section
variable {P : Program} {w : World} {K : PySem.W.Frag} {mg : Str → Option Value} {base : Heap} {C : Addr}
def spNd : Sp := fun vs H Q _ => ∃ (g : Addr) (xs : List V) (ys : List (List Nat)) (n M : Nat) (f : Nat → Rl), vs = [.ref g] ∧ H g = some (.lst xs) ∧ MsAll g H xs ys ∧ ys.length = M + 1 ∧ (∀ k y, ys[k]? = some y → Rep n y (f k)) ∧ (∀ k, In n (f k)) ∧ n ≤ 16 ∧ M ≤ 1000 ∧
  ∀ p H' R, H p = none → Same H H' → TabAt H' p R n (tb f M (M + 1)) → Q (.ref p) H'
def NNd : List Str := ["grades", "many", "out", "need", "place", "mask", "goal", "_"]
theorem scNd : FnScope NNd ["grades"] (defScope (top 38)) := ⟨rfl, rfl, rfl, by decide +kernel, rfl, by decide +kernel, by decide +kernel⟩
theorem nons_flat (m : Nat) : (List.replicate ((m : Int)).toNat [V.non]).flatten = rowT m (fun _ => none) := by
  rw [Int.toNat_natCast]
  refine List.ext_getElem? fun i => ?_
  have e : (List.replicate m [V.non]).flatten = List.replicate m V.non := by
    induction m with
    | zero => rfl
    | succ m ih => rw [List.replicate_succ, List.flatten_cons, ih]; rfl
  rw [e]
  by_cases hi : i < m
  · rw [rowT_at hi, List.getElem?_replicate, if_pos hi]
    rfl
  · rw [List.getElem?_eq_none (by rw [List.length_replicate]; omega), List.getElem?_eq_none (by rw [rowT_len]; omega)]
theorem ok_nd {f : Addr} {fd : FuncData} (F : Fun K "needs_of" "needs_of" (top 38) f fd) (n : Nm mg) (GO : Fn P w K mg base 1 "ones" ["bits"] spOnes) : FnOk P w K mg base CX0 2 f fd ["grades"] spNd := by
  refine F.ok scNd (fun vs H Q E h => ?_) (fun cdv A outer s H vs Q E hr h => ?_)
  · obtain ⟨g, xs, ys, m, M, fk, rfl, _⟩ := h
    rfl
  · obtain ⟨g, xs, ys, m, M, fk, rfl, hg, ms, yl, rep, ifk, m16, M1000, q⟩ := h
    have N := scNd.nd
    refine ⟨_, pss_cons (ps_set (i := 1) N rfl (.inr rfl) (pe_callB call_len_seq (by rfl) n.len PySem.boot_len (pa_cons (pe_ix ix_list (pv 0) pe_int (fun _ _ => rfl)) pa_nil)))
      (pss_cons (ps_setLc (i := 2) (own := [("_", 7)]) (g := gName 7) (tt := tYes) (by rfl) N rfl rfl (sw_true rfl rfl rfl (by decide +kernel)) (pi_range1 (by rfl) n.range (pa_cons (pv 1) pa_nil)) (blkOk_by (N := NNd) (sc := defScope (top 38)) (by decide +kernel)) (fun _ _ _ _ _ => pg_name (i := 7) N rfl (.inl rfl))
        (fun _ _ _ _ _ => pts_nil) (fun _ _ _ _ _ => pe_op op_rep (pe_lst (pa_cons pe_non pa_nil)) (pv 1)))
      (pss_cons (ps_for PassesOwn.never rfl (pi_range3 (by rfl) n.range (pa_cons (pe_op op_sub (pe_callB call_len_seq (by rfl) n.len PySem.boot_len (pa_cons (pv 0) pa_nil)) pe_int) (pa_cons (pe_un un_neg pe_int) (pa_cons (pe_un un_neg pe_int) pa_nil)))) (pg_name (i := 3) N rfl (.inl rfl))
        (pss_one (ps_for PassesOwn.never rfl (pi_enumA (by rfl) n.enumerate (pa_cons (pe_ix ix_list (pv 0) (pv 3) (fun _ _ => rfl)) pa_nil)) (pg_tup rfl (pgs_cons (pg_name (i := 4) N rfl (.inl rfl)) (pgs_cons (pg_name (i := 5) N rfl (.inl rfl)) pgs_nil)))
          (pss_one (ps_for PassesOwn.never rfl (pi_list (pe_fn GO hr (pa_cons (pv 5) pa_nil))) (pg_name (i := 6) N rfl (.inl rfl))
            (pss_one (ps_asg (pv 3) (pg_sub (pe_ix ix_list (pv 2) (pv 4) (fun _ _ => rfl)) (pv 6) set_list))))))))
      (pss_one (ps_ret (pv 2))))), ?_⟩
    have xl : xs.length = M + 1 := by rw [Paired.length ms, yl]
    obtain ⟨x0, hx0⟩ : ∃ x, xs[0]? = some x := ⟨_, List.getElem?_eq_getElem (by omega)⟩
    obtain ⟨y0, hy0, a0, rfl, na0, ha0⟩ := Paired.at ms hx0
    have ry0 := rep 0 y0 hy0
    refine seqV (Good := fun σ2 H2 => H = H2 ∧ σ2 = [some (.ref g), some (.int m), none, none, none, none, none, none]) ?_ ?_
    · intro nx hnx
      exact ⟨_, rfl, g, _, _, _, rfl, rfl, .inl (.inl hg), atI_nat (j := 0) hx0, a0, _, rfl, .inl (.inl (.inl ha0)), hnx _ _ ⟨rfl, by rw [iN_len, ry0.len]; rfl⟩⟩
    rintro _ _ ⟨rfl, rfl⟩
    refine seqV (Good := fun σ2 H2 => ∃ (p : Addr) (R : List Addr), H p = none ∧ Same H H2 ∧ R.Nodup ∧ p ∉ R ∧ (∀ r ∈ R, H r = none) ∧ TabAt H2 p R m (fun _ _ => none) ∧ σ2 = [some (.ref g), some (.int m), some (.ref p), none, none, none, none, none]) ?_ ?_
    · intro nx hnx
      refine ⟨_, rfl, m, rfl, by omega, by omega, fun D hD => ?_⟩
      refine lc_range (lo := 0) (n := ((m : Int)).toNat) (fun i H3 => ButD D H H3 ∧ ∃ R : List Addr, R.length = i ∧ R.Nodup ∧ D ∉ R ∧ (∀ r ∈ R, H r = none) ∧ H3 D = some (.lst (R.map V.ref)) ∧ ∀ r ∈ R, H3 r = some (.lst (rowT m fun _ => none)))
        ⟨.start, [], rfl, List.nodup_nil, (by simp), (fun r h => nomatch h), upd_same, (fun r h => nomatch h)⟩ ?_ ?_
      · rintro i H3 hi ⟨b3, R, rl, nd, nD, fr, h3, rows⟩
        have s3 := b3.new hD
        refine ⟨rfl, yes_ite ⟨(by show 1 ≤ sizeLine; decide), fun z hz => ?_⟩⟩
        have sz := same_upd (o := .lst [V.non]) hz
        refine ⟨_, rfl, z, m, _, rfl, rfl, upd_same, by omega, by omega, (by rw [sizeLine_eq]; show 1 * ((m : Int)).toNat ≤ _; omega), fun o ho => ?_⟩
        rw [nons_flat]
        have so := same_upd (o := .lst (rowT m fun _ => none)) ho
        have s35 := sz.trans so
        have h5 := s35 _ _ h3
        have oD : o ≠ D := fun e => by
          subst e
          rw [sz _ _ h3] at ho
          exact nomatch ho
        have oR : o ∉ R := fun e => by
          rw [sz _ _ (rows o e)] at ho
          exact nomatch ho
        refine ⟨_, h5, by rw [List.length_map, rl, sizeLine_eq]; omega, (b3.more s35).put, R ++ [o], by rw [List.length_append, rl]; rfl, ?_, ?_, ?_, ?_, ?_⟩
        · rw [List.nodup_append]
          exact ⟨nd, by simp, fun x hx y hy => by rw [List.mem_singleton.mp hy]; exact fun e => oR (e ▸ hx)⟩
        · rw [List.mem_append]
          exact fun e => e.elim nD fun e => oD (List.mem_singleton.mp e).symm
        · intro r hr2
          rcases List.mem_append.mp hr2 with h | h
          · exact fr r h
          · rw [List.mem_singleton.mp h]
            exact (s3.trans sz).free ho
        · rw [upd_same, List.map_append]
          rfl
        · intro r hr2
          rcases List.mem_append.mp hr2 with h | h
          · rw [upd_ne (show r ≠ D from fun e => nD (by rw [← e]; exact h))]
            exact s35 _ _ (rows r h)
          · rw [List.mem_singleton.mp h, upd_ne oD]
            exact upd_same
      · rintro H3 ⟨b3, R, rl, nd, nD, fr, h3, rows⟩
        rw [Int.toNat_natCast] at rl
        exact hnx _ _ ⟨D, R, hD, b3.new hD, nd, nD, fr, ⟨h3, rl, fun a ra e => rows ra (List.mem_of_getElem? e)⟩, rfl⟩
    rintro _ H1 ⟨p, R, np, s1, nd, nR, fr, tab, rfl⟩
    refine seqV (Good := fun σ2 H2 => ∃ v3 v4 v5 v6 : Option V, Same H H2 ∧ TabAt H2 p R m (tb fk M (M + 1)) ∧ σ2 = [some (.ref g), some (.int m), some (.ref p), v3, v4, v5, v6, none]) ?_ ?_
    · intro nx hnx
      refine ⟨_, rfl, g, _, rfl, .inl (.inl (.inl (s1 _ _ hg))), _, _, rfl, rfl, 1, rfl, 1, rfl, _, _, _, M + 1, rfl, ?_, ?_⟩
      · rw [xl]
        have := RgC.neg (i := (M : Int)) (j := -1) (by omega) (by omega) (by decide) (by decide)
        have e1 : (((M + 1 : Nat)) : Int) - 1 = (M : Int) := by omega
        have e2 : ((M : Int) - -1).toNat = M + 1 := by omega
        rw [e2] at this
        show RgC (((M + 1 : Nat) : Int) - 1) (-1) (-1) (M + 1)
        rw [e1]
        exact this
      rw [xl]
      refine for_rangeC (fun c σ2 H2 => ∃ v3 v4 v5 v6 : Option V, Same H H2 ∧ TabAt H2 p R m (tb fk M c) ∧ σ2 = [some (.ref g), some (.int m), some (.ref p), v3, v4, v5, v6, none]) ⟨none, none, none, none, s1, tab, rfl⟩ ?_ ?_
      · rintro c σ2 H2 hc ⟨v3, v4, v5, v6, s2, tab, rfl⟩
        have ev : (((M + 1 : Nat)) : Int) - 1 + (c : Int) * -1 = ((M - c : Nat) : Int) := by omega
        show gName 3 (V.int ((((M + 1 : Nat)) : Int) - 1 + (c : Int) * -1)) _ _ _
        rw [ev]
        refine gn ?_
        obtain ⟨x, hx⟩ : ∃ x, xs[M - c]? = some x := ⟨_, List.getElem?_eq_getElem (by omega)⟩
        obtain ⟨y, hy, ga, rfl, nga, hga⟩ := Paired.at ms hx
        have ry := rep _ y hy
        refine ⟨_, rfl, _, rfl, g, _, _, _, rfl, rfl, .inl (.inl (s2 _ _ hg)), atI_nat hx, ga, iN y, rfl, .inl ⟨.inl (.inl (s2 _ _ hga)), ?_⟩⟩
        refine loop_of (n := m) (fun i σ3 H3 => ∃ v4 v5 v6 : Option V, Same H H3 ∧ TabAt H3 p R m (fun a b => if a < i then tb fk M (c + 1) a b else tb fk M c a b) ∧ σ3 = [some (.ref g), some (.int m), some (.ref p), some (.int (M - c : Nat)), v4, v5, v6, none])
          ⟨_, _, _, s2, by simpa using tab, rfl⟩ ?_ ?_
        · rintro σ3 H3 ⟨v4, v5, v6, s3, tab, rfl⟩
          refine ⟨⟨_, .inl (.inl (s3 _ _ hga)), by rw [iN_len, ry.len]; exact Nat.le_refl _⟩, _, _, _, _, s3, ⟨tab.ob, tab.len, fun a ra e => ?_⟩, rfl⟩
          have hlt : a < m := by
            have := (List.getElem?_eq_some_iff.mp e).1
            rw [tab.len] at this
            exact this
          rw [tab.row a ra e]
          congr 3
          funext b
          exact if_pos hlt
        · rintro i σ3 H3 hi ⟨v4, v5, v6, s3, tab, rfl⟩
          have hi2 : i < (iN y).length := by rw [iN_len, ry.len]; exact hi
          have hi3 : i < y.length := by rw [ry.len]; exact hi
          refine ⟨⟨_, _, .inl (.inl (s3 _ _ hga)), List.getElem?_eq_getElem hi2⟩, ?_⟩
          rintro x H' ⟨T, z, rfl, hT, rfl, hz⟩
          have hzi := hz _ (.inl (.inl (s3 _ _ hga)))
          rw [iN_at hi3] at hzi
          obtain rfl := Option.some.inj hzi
          have s4 : Same H3 (upd H3 T (.tup [.int (i : Nat), .int (y.getD i 0 : Nat)])) := same_upd hT
          refine ⟨T, _, rfl, .inl (.inl upd_same), rfl, _, _, rfl, _, _, rfl, rfl, ?_⟩
          have mem : y.getD i 0 ∈ y := by
            rw [List.getD_eq_getElem?_getD, List.getElem?_eq_getElem hi3]
            exact List.getElem_mem hi3
          refine ⟨_, rfl, y.getD i 0, rfl, p100 (lt_pow (lt100 (n := m) (by omega) (Rep.inn ry (ifk (M - c)) mem))), fun o H5 no s5 ho => ?_⟩
          refine ⟨o, rfl, ⟨_, .inl (.inl ho)⟩, ?_⟩
          have s45 := s4.trans s5
          have s35 := s3.trans s45
          have oR : ∀ ra ∈ R, o ≠ ra := fun ra hra e => by
            subst e
            obtain ⟨a, ha⟩ := List.getElem?_of_mem hra
            rw [s4 _ _ (tab.row a o ha)] at no
            exact nomatch no
          replace tab := tab.same s45
          have bits : ∀ b, b ∈ onesL (y.getD i 0) ↔ fk (M - c) i b := fun b => mem_onesL.trans (ry.bit i b)
          generalize hO : onesL (y.getD i 0) = O at ho bits
          refine loop_of (n := O.length) (fun j σ4 H6 => ∃ v6 : Option V, Same H H6 ∧ H6 o = some (.lst (iN O)) ∧ TabAt H6 p R m (fun a b => if a < i then tb fk M (c + 1) a b else if a = i ∧ b ∈ O.take j then some (M - c) else tb fk M c a b) ∧
              σ4 = [some (.ref g), some (.int m), some (.ref p), some (.int (M - c : Nat)), some (.int (i : Nat)), some (.int (y.getD i 0 : Nat)), v6, none])
            ⟨_, s35, ho, tab.cg fun a _ b => by simp, rfl⟩ ?_ ?_
          · rintro σ4 H6 ⟨v6, s6, ho6, tab, rfl⟩
            refine ⟨⟨_, .inl (.inl ho6), by rw [iN_len]; exact Nat.le_refl _⟩, _, _, _, s6, tab.cg fun a _ b => ?_, rfl⟩
            rw [List.take_length]
            by_cases e1 : a < i
            · rw [if_pos e1, if_pos (by omega)]
            · rw [if_neg e1]
              by_cases e2 : a = i
              · subst e2
                rw [if_pos (show a < a + 1 by omega), tb_succ]
                by_cases e3 : b ∈ O
                · rw [if_pos (show a = a ∧ b ∈ O from ⟨rfl, e3⟩), if_pos ((bits b).mp e3)]
                · rw [if_neg (show ¬ (a = a ∧ b ∈ O) from fun z => e3 z.2), if_neg (fun z => e3 ((bits b).mpr z))]
              · rw [if_neg (show ¬ (a = i ∧ b ∈ O) from fun z => e2 z.1), if_neg (show ¬ a < i + 1 by omega)]
          · rintro j σ4 H6 hj ⟨v6, s6, ho6, tab, rfl⟩
            have hj2 : j < (iN O).length := by rw [iN_len]; exact hj
            refine ⟨⟨_, _, .inl (.inl ho6), List.getElem?_eq_getElem hj2⟩, ?_⟩
            rintro x H7 ⟨rfl, hz2⟩
            have hzj := hz2 _ (.inl (.inl ho6))
            rw [iN_at hj] at hzj
            obtain rfl := Option.some.inj hzj
            have hoj : O[j]? = some (O.getD j 0) := by rw [List.getD_eq_getElem?_getD, List.getElem?_eq_getElem hj]; rfl
            have gm : O.getD j 0 < m := (ifk _ _ _ ((bits _).mp (List.mem_of_getElem? hoj))).2
            have il : i < R.length := by rw [tab.len]; exact hi
            obtain ⟨ra, hra⟩ : ∃ ra, R[i]? = some ra := ⟨_, List.getElem?_eq_getElem il⟩
            have hrow := tab.row i ra hra
            have raR := List.mem_of_getElem? hra
            have hix : ixN (rowT m (fun b => if i < i then tb fk M (c + 1) i b else if i = i ∧ b ∈ O.take j then some (M - c) else tb fk M c i b)).length ((O.getD j 0 : Nat) : Int) = some (O.getD j 0) := by
              unfold ixN
              rw [rowT_len]
              rw [if_pos (by omega), if_pos (by omega), Int.toNat_natCast]
            refine gn ?_
            refine ⟨_, rfl, _, rfl, _, rfl, p, _, _, _, rfl, rfl, .inl (.inl tab.ob), atI_nat (j := i) (by rw [List.getElem?_map, hra]; rfl), _, rfl, ra, _, _, O.getD j 0, rfl, rfl, hrow, hix, ?_⟩
            refine ⟨_, same_put s6 (fr ra raR), ?_, (tab_set (b0 := O.getD j 0) (x := some (M - c)) tab nd nR hra).cg fun a _ b => ?_, rfl⟩
            · rw [upd_ne (oR ra raR)]
              exact ho6
            · rw [List.take_succ, hoj]
              by_cases e1 : a < i
              · rw [if_neg (fun z => by omega), if_pos e1, if_pos e1]
              · rw [if_neg e1, if_neg e1]
                by_cases e2 : a = i
                · subst e2
                  by_cases e3 : b = O.getD j 0
                  · rw [if_pos ⟨rfl, e3⟩, if_pos ⟨rfl, by rw [e3]; simp⟩]
                  · rw [if_neg (fun z => e3 z.2)]
                    by_cases e4 : b ∈ O.take j
                    · rw [if_pos ⟨rfl, e4⟩, if_pos ⟨rfl, List.mem_append_left _ e4⟩]
                    · rw [if_neg (fun z => e4 z.2), if_neg (fun z => by
                        rcases List.mem_append.mp z.2 with h | h
                        · exact e4 h
                        · exact e3 (List.mem_singleton.mp h))]
                · rw [if_neg (fun z => e2 z.1), if_neg (fun z => e2 z.1), if_neg (fun z => e2 z.1)]
      · rintro σ2 H2 ⟨v3, v4, v5, v6, s2, tab, rfl⟩
        exact hnx _ _ ⟨v3, v4, v5, v6, s2, tab, rfl⟩
    rintro _ H2 ⟨v3, v4, v5, v6, s2, tab, rfl⟩
    exact ⟨_, rfl, q p H2 R np s2 tab⟩
end
end L2.K71
end

section
set_option Elab.async false
set_option linter.all false
set_option maxRecDepth 100000
set_option maxHeartbeats 4000000
namespace L2.K71
open PySem PySem.Spec PyProof.Rows L2.Gd L2.Lv
theorem putF_le {f : Str} {v : V} {l : List (Str × V)} {n : Nat} (h : l.length ≤ n) : (putF f v l).length ≤ n + 1 := Nat.le_trans (length_putF f v l) (Nat.succ_le_succ h)
theorem lt_of20 {l : List (Str × V)} {n : Nat} (h : l.length ≤ n) (hn : n ≤ 20 := by decide) : l.length < 1000 := by omega
def fPl (u f d g nd cl dr cb ot fr : Addr) : List (Str × V) := putF "_orbits_from" (.ref fr) (putF "_orbits_to" (.ref ot) (putF "_climbs_back" (.ref cb) (putF "dropping" (.ref dr) (putF "climbing" (.ref cl) (putF "needs" (.ref nd) (putF "grades" (.ref g) (putF "downs" (.ref d) (putF "flats" (.ref f) (putF "ups" (.ref u) [])))))))))
theorem fPl_u (u f d g nd cl dr cb ot fr : Addr) : (fPl u f d g nd cl dr cb ot fr).lookup ("ups" : Str) = some (.ref u) := by
  unfold fPl
  rw [lookup_putF, if_neg (by decide +kernel), lookup_putF, if_neg (by decide +kernel), lookup_putF, if_neg (by decide +kernel), lookup_putF, if_neg (by decide +kernel), lookup_putF, if_neg (by decide +kernel), lookup_putF, if_neg (by decide +kernel), lookup_putF, if_neg (by decide +kernel), lookup_putF, if_neg (by decide +kernel), lookup_putF, if_neg (by decide +kernel), lookup_putF, if_pos rfl]
theorem fPl_f (u f d g nd cl dr cb ot fr : Addr) : (fPl u f d g nd cl dr cb ot fr).lookup ("flats" : Str) = some (.ref f) := by
  unfold fPl
  rw [lookup_putF, if_neg (by decide +kernel), lookup_putF, if_neg (by decide +kernel), lookup_putF, if_neg (by decide +kernel), lookup_putF, if_neg (by decide +kernel), lookup_putF, if_neg (by decide +kernel), lookup_putF, if_neg (by decide +kernel), lookup_putF, if_neg (by decide +kernel), lookup_putF, if_neg (by decide +kernel), lookup_putF, if_pos rfl]
theorem fPl_d (u f d g nd cl dr cb ot fr : Addr) : (fPl u f d g nd cl dr cb ot fr).lookup ("downs" : Str) = some (.ref d) := by
  unfold fPl
  rw [lookup_putF, if_neg (by decide +kernel), lookup_putF, if_neg (by decide +kernel), lookup_putF, if_neg (by decide +kernel), lookup_putF, if_neg (by decide +kernel), lookup_putF, if_neg (by decide +kernel), lookup_putF, if_neg (by decide +kernel), lookup_putF, if_neg (by decide +kernel), lookup_putF, if_pos rfl]
theorem fPl_g (u f d g nd cl dr cb ot fr : Addr) : (fPl u f d g nd cl dr cb ot fr).lookup ("grades" : Str) = some (.ref g) := by
  unfold fPl
  rw [lookup_putF, if_neg (by decide +kernel), lookup_putF, if_neg (by decide +kernel), lookup_putF, if_neg (by decide +kernel), lookup_putF, if_neg (by decide +kernel), lookup_putF, if_neg (by decide +kernel), lookup_putF, if_neg (by decide +kernel), lookup_putF, if_pos rfl]
theorem fPl_n (u f d g nd cl dr cb ot fr : Addr) : (fPl u f d g nd cl dr cb ot fr).lookup ("needs" : Str) = some (.ref nd) := by
  unfold fPl
  rw [lookup_putF, if_neg (by decide +kernel), lookup_putF, if_neg (by decide +kernel), lookup_putF, if_neg (by decide +kernel), lookup_putF, if_neg (by decide +kernel), lookup_putF, if_neg (by decide +kernel), lookup_putF, if_pos rfl]
theorem fPl_cl (u f d g nd cl dr cb ot fr : Addr) : (fPl u f d g nd cl dr cb ot fr).lookup ("climbing" : Str) = some (.ref cl) := by
  unfold fPl
  rw [lookup_putF, if_neg (by decide +kernel), lookup_putF, if_neg (by decide +kernel), lookup_putF, if_neg (by decide +kernel), lookup_putF, if_neg (by decide +kernel), lookup_putF, if_pos rfl]
theorem fPl_dr (u f d g nd cl dr cb ot fr : Addr) : (fPl u f d g nd cl dr cb ot fr).lookup ("dropping" : Str) = some (.ref dr) := by
  unfold fPl
  rw [lookup_putF, if_neg (by decide +kernel), lookup_putF, if_neg (by decide +kernel), lookup_putF, if_neg (by decide +kernel), lookup_putF, if_pos rfl]
theorem fPl_cb (u f d g nd cl dr cb ot fr : Addr) : (fPl u f d g nd cl dr cb ot fr).lookup ("_climbs_back" : Str) = some (.ref cb) := by
  unfold fPl
  rw [lookup_putF, if_neg (by decide +kernel), lookup_putF, if_neg (by decide +kernel), lookup_putF, if_pos rfl]
theorem fPl_ot (u f d g nd cl dr cb ot fr : Addr) : (fPl u f d g nd cl dr cb ot fr).lookup ("_orbits_to" : Str) = some (.ref ot) := by
  unfold fPl
  rw [lookup_putF, if_neg (by decide +kernel), lookup_putF, if_pos rfl]
theorem fPl_fr (u f d g nd cl dr cb ot fr : Addr) : (fPl u f d g nd cl dr cb ot fr).lookup ("_orbits_from" : Str) = some (.ref fr) := by
  unfold fPl
  rw [lookup_putF, if_pos rfl]
theorem fPl_climbs_to (u f d g nd cl dr cb ot fr : Addr) : (fPl u f d g nd cl dr cb ot fr).lookup ("climbs_to" : Str) = none := by
  unfold fPl
  rw [lookup_putF, if_neg (by decide +kernel), lookup_putF, if_neg (by decide +kernel), lookup_putF, if_neg (by decide +kernel), lookup_putF, if_neg (by decide +kernel), lookup_putF, if_neg (by decide +kernel), lookup_putF, if_neg (by decide +kernel), lookup_putF, if_neg (by decide +kernel), lookup_putF, if_neg (by decide +kernel), lookup_putF, if_neg (by decide +kernel), lookup_putF, if_neg (by decide +kernel)]
  rfl
theorem fPl_drops_from (u f d g nd cl dr cb ot fr : Addr) : (fPl u f d g nd cl dr cb ot fr).lookup ("drops_from" : Str) = none := by
  unfold fPl
  rw [lookup_putF, if_neg (by decide +kernel), lookup_putF, if_neg (by decide +kernel), lookup_putF, if_neg (by decide +kernel), lookup_putF, if_neg (by decide +kernel), lookup_putF, if_neg (by decide +kernel), lookup_putF, if_neg (by decide +kernel), lookup_putF, if_neg (by decide +kernel), lookup_putF, if_neg (by decide +kernel), lookup_putF, if_neg (by decide +kernel), lookup_putF, if_neg (by decide +kernel)]
  rfl
theorem fPl_need_among (u f d g nd cl dr cb ot fr : Addr) : (fPl u f d g nd cl dr cb ot fr).lookup ("need_among" : Str) = none := by
  unfold fPl
  rw [lookup_putF, if_neg (by decide +kernel), lookup_putF, if_neg (by decide +kernel), lookup_putF, if_neg (by decide +kernel), lookup_putF, if_neg (by decide +kernel), lookup_putF, if_neg (by decide +kernel), lookup_putF, if_neg (by decide +kernel), lookup_putF, if_neg (by decide +kernel), lookup_putF, if_neg (by decide +kernel), lookup_putF, if_neg (by decide +kernel), lookup_putF, if_neg (by decide +kernel)]
  rfl
theorem fPl_need_from (u f d g nd cl dr cb ot fr : Addr) : (fPl u f d g nd cl dr cb ot fr).lookup ("need_from" : Str) = none := by
  unfold fPl
  rw [lookup_putF, if_neg (by decide +kernel), lookup_putF, if_neg (by decide +kernel), lookup_putF, if_neg (by decide +kernel), lookup_putF, if_neg (by decide +kernel), lookup_putF, if_neg (by decide +kernel), lookup_putF, if_neg (by decide +kernel), lookup_putF, if_neg (by decide +kernel), lookup_putF, if_neg (by decide +kernel), lookup_putF, if_neg (by decide +kernel), lookup_putF, if_neg (by decide +kernel)]
  rfl
theorem fPl_extra (u f d g nd cl dr cb ot fr : Addr) : (fPl u f d g nd cl dr cb ot fr).lookup ("extra" : Str) = none := by
  unfold fPl
  rw [lookup_putF, if_neg (by decide +kernel), lookup_putF, if_neg (by decide +kernel), lookup_putF, if_neg (by decide +kernel), lookup_putF, if_neg (by decide +kernel), lookup_putF, if_neg (by decide +kernel), lookup_putF, if_neg (by decide +kernel), lookup_putF, if_neg (by decide +kernel), lookup_putF, if_neg (by decide +kernel), lookup_putF, if_neg (by decide +kernel), lookup_putF, if_neg (by decide +kernel)]
  rfl
theorem fPl_least_start (u f d g nd cl dr cb ot fr : Addr) : (fPl u f d g nd cl dr cb ot fr).lookup ("least_start" : Str) = none := by
  unfold fPl
  rw [lookup_putF, if_neg (by decide +kernel), lookup_putF, if_neg (by decide +kernel), lookup_putF, if_neg (by decide +kernel), lookup_putF, if_neg (by decide +kernel), lookup_putF, if_neg (by decide +kernel), lookup_putF, if_neg (by decide +kernel), lookup_putF, if_neg (by decide +kernel), lookup_putF, if_neg (by decide +kernel), lookup_putF, if_neg (by decide +kernel), lookup_putF, if_neg (by decide +kernel)]
  rfl
theorem fPl_leads (u f d g nd cl dr cb ot fr : Addr) : (fPl u f d g nd cl dr cb ot fr).lookup ("leads" : Str) = none := by
  unfold fPl
  rw [lookup_putF, if_neg (by decide +kernel), lookup_putF, if_neg (by decide +kernel), lookup_putF, if_neg (by decide +kernel), lookup_putF, if_neg (by decide +kernel), lookup_putF, if_neg (by decide +kernel), lookup_putF, if_neg (by decide +kernel), lookup_putF, if_neg (by decide +kernel), lookup_putF, if_neg (by decide +kernel), lookup_putF, if_neg (by decide +kernel), lookup_putF, if_neg (by decide +kernel)]
  rfl
abbrev cPl (i : Nat) : Stmt := inClass (top 40) i
/-- what is known of the class -/
structure ClsP (K : PySem.W.Frag) (mg : Str → Option Value) (C : Addr) : Prop where
  cl : Cls K C
  n_u : NoAttr K C "ups"
  n_f : NoAttr K C "flats"
  n_d : NoAttr K C "downs"
  n_g : NoAttr K C "grades"
  n_n : NoAttr K C "needs"
  n_cl : NoAttr K C "climbing"
  n_dr : NoAttr K C "dropping"
  n_cb : NoAttr K C "_climbs_back"
  n_ot : NoAttr K C "_orbits_to"
  n_fr : NoAttr K C "_orbits_from"
  mgC : mg "Plains" = some (.ref C)
/-- orbits that were told -/
def OdAt (H : Hp) (p : Addr) (n : Nat) (l : List Nat) : Prop := ∃ gs : List (Nat × Addr), H p = some (.dK (gs.map fun q => ((.inl (q.1 : Int) : Key), V.ref q.2))) ∧ (gs.map (·.1)).Nodup ∧ ∀ q ∈ gs, q.1 < n ∧ OrbAt H q.2 l (2 ^ q.1)
/-- all but the two dicts -/
def Fr (ot fr : Addr) (H H' : Hp) : Prop := ∀ b o, b ≠ ot → b ≠ fr → H b = some o → H' b = some o
abbrev gU (ds : List Dd) : Rl := Dl ds 1
abbrev gD (ds : List Dd) : Rl := Dl ds (-1)
abbrev gG (n : Nat) (ds : List Dd) : Rl := Gr n (Dl ds 1) (Dl ds 0) (Dl ds (-1))
abbrev LeD (n : Nat) (ds : List Dd) (k : Nat) : Rl := Le n (Dl ds 1) (Dl ds 0) (Dl ds (-1)) k
/-- a Plains -/
structure PlnAt (C : Addr) (H : Hp) (x : Addr) (n : Nat) (ds : List Dd) (g nd dr ot fr : Addr) (ldr lcb : List Nat) (M : Nat) : Prop where
  ob : ∃ dx u f d cl cb, H x = some (.ins C dx (fPl u f d g nd cl dr cb ot fr)) ∧ H cb = some (.lst (iN lcb))
  gr : ∃ xs ys, H g = some (.lst xs) ∧ MsAll g H xs ys ∧ LeOk n (Dl ds 1) (Dl ds 0) (Dl ds (-1)) ys M
  ta : ∃ R, TabAt H nd R n (tb (LeD n ds) M (M + 1))
  hdr : H dr = some (.lst (iN ldr))
  rdr : Rep n ldr (Cp (gG n ds) (gD ds))
  rcb : Rep n lcb (Tr (Cp (gU ds) (gG n ds)))
  hot : OdAt H ot n lcb
  hfr : OdAt H fr n ldr
  ne : ot ≠ fr
section
variable {P : Program} {w : World} {K : PySem.W.Frag} {mg : Str → Option Value} {base : Heap} {C C2 : Addr}
theorem HouseL.butX {C2 h l x : Addr} {m : Int} {xs : List V} {ds : List Dd} {H H' : Hp} (hx : ∃ C dx fs, H x = some (.ins C dx fs)) (ne : h ≠ x) (b : ButD x H H') (hh : HouseL C2 H h l m xs ds) : HouseL C2 H' h l m xs ds := by
  obtain ⟨C, dx, fs, hx⟩ := hx
  obtain ⟨dh, ob⟩ := hh.ob
  refine ⟨⟨dh, b _ _ ne ob⟩, b _ _ (fun z => ?_) hh.ls, Paired.mapP hh.dd fun _ _ ⟨t, e, q⟩ => ⟨t, e, b _ _ (fun z => ?_) q⟩⟩
  · have := hh.ls
    rw [z, hx] at this
    exact nomatch this
  · rw [z, hx] at q
    exact nomatch q
theorem put_x {x : Addr} {H H1 : Hp} {o : HO} (s : Same H H1) : ButD x H (upd H1 x o) := fun b u ne e => by
  rw [upd_ne ne]
  exact s _ _ e
theorem ne_ins {H : Hp} {a x C dx : Addr} {fs : List (Str × V)} {xs : List V} (ha : H a = some (.lst xs)) (hx : H x = some (.ins C dx fs)) : a ≠ x := fun z => by
  rw [z, hx] at ha
  exact nomatch ha
theorem ne_insK {H : Hp} {a x C dx : Addr} {fs : List (Str × V)} {xs : List (Key × V)} (ha : H a = some (.dK xs)) (hx : H x = some (.ins C dx fs)) : a ≠ x := fun z => by
  rw [z, hx] at ha
  exact nomatch ha
theorem MsAll.butX {p x : Addr} {H H' : Hp} {vs : List V} {ys : List (List Nat)} (hx : ∃ C dx fs, H x = some (.ins C dx fs)) (b : ButD x H H') (h : MsAll p H vs ys) : MsAll p H' vs ys := Paired.mapP h fun _ _ ⟨a, e, ne, q⟩ => ⟨a, e, ne, b _ _ (by
  obtain ⟨C, dx, fs, hx⟩ := hx
  exact ne_ins q hx) q⟩
theorem MsAll.same {p : Addr} {H H' : Hp} {vs : List V} {ys : List (List Nat)} (s : Same H H') (h : MsAll p H vs ys) : MsAll p H' vs ys := Paired.mapP h fun _ _ ⟨a, e, ne, q⟩ => ⟨a, e, ne, s _ _ q⟩
theorem TabAt.butX {p x : Addr} {H H' : Hp} {R : List Addr} {n : Nat} {T : Nat → Nat → Option Nat} (hx : ∃ C dx fs, H x = some (.ins C dx fs)) (b : ButD x H H') (h : TabAt H p R n T) : TabAt H' p R n T := by
  obtain ⟨C, dx, fs, hx⟩ := hx
  exact ⟨b _ _ (ne_ins h.ob hx) h.ob, h.len, fun a ra e => b _ _ (ne_ins (h.row a ra e) hx) (h.row a ra e)⟩
def spPi (C C2 : Addr) : Sp := fun vs H Q _ => ∃ (x dx h l : Addr) (n : Nat) (xs : List V) (ds : List Dd), vs = [.ref x, .ref h] ∧ H x = some (.ins C dx []) ∧ HouseL C2 H h l n xs ds ∧ WF n ds ∧
  ∀ H' g nd dr ot fr ldr lcb M, ButD x H H' → PlnAt C H' x n ds g nd dr ot fr ldr lcb M → (∀ b, b = ot ∨ b = fr → H b = none) → M ≤ n * n → Q .non H'
theorem scPi : FnScope ["self", "house"] ["self", "house"] (defScope (cPl 0)) := ⟨rfl, rfl, rfl, by decide +kernel, rfl, by decide +kernel, by decide +kernel⟩
structure PlK (P : Program) (w : World) (K : PySem.W.Frag) (mg : Str → Option Value) (base : Heap) (C C2 : Addr) : Prop where
  n : Nm mg
  T : ClsP K mg C
  T2 : ClsT K mg C2
  dr : Fn P w K mg base 3 "deed_relation" ["house", "change", "when"] (spDR C2)
  ga : Fn P w K mg base 5 "grades_of" ["ups", "flats", "downs"] spGra
  nd : Fn P w K mg base 2 "needs_of" ["grades"] spNd
  fo : Fn P w K mg base 3 "followed" ["one", "two"] spFol
  lb : Fn P w K mg base 3 "led_back" ["relation"] spLb
  ob : Fn P w K mg base 3 "orbit_of" ["relation", "mask"] spOrb
  oa : Fn P w K mg base 1 "orbit_at" ["orbit", "steps"] spOat
  lk : Fn P w K mg base 1 "least_known" ["values"] spLk
  on : Fn P w K mg base 1 "ones" ["bits"] spOnes
theorem ok_pi {f : Addr} {fd : FuncData} (F : Fun K "__init__" "Plains.__init__" (cPl 0) f fd) (k : PlK P w K mg base C C2) : FnOk P w K mg base CX0 6 f fd ["self", "house"] (spPi C C2) := by
  refine F.ok scPi (fun vs H Q E h => ?_) (fun cdv A outer s H vs Q E hr h => ?_)
  · obtain ⟨x, dx, h, l, n, xs, ds, rfl, _⟩ := h
    rfl
  · obtain ⟨x, dx, h, l, n, xs, ds, rfl, hx, hh, wf, q⟩ := h
    have N := scPi.nd
    have r3 := hr.mono (k := 5) (j := 3) (by decide)
    have r2 := hr.mono (k := 5) (j := 2) (by decide)
    refine ⟨_, pss_cons (ps_fld (pv 0) (pe_fn k.dr r3 (pa_cons (pv 1) (pa_cons pe_int (pa_cons pe_str pa_nil)))) rfl)
      (pss_cons (ps_fld (pv 0) (pe_fn k.dr r3 (pa_cons (pv 1) (pa_cons pe_int (pa_cons pe_str pa_nil)))) rfl)
      (pss_cons (ps_fld (pv 0) (pe_fn k.dr r3 (pa_cons (pv 1) (pa_cons (pe_un un_neg pe_int) (pa_cons pe_str pa_nil)))) rfl)
      (pss_cons (ps_fld (pv 0) (pe_fn k.ga hr (pa_cons (pe_fld (pv 0) rfl) (pa_cons (pe_fld (pv 0) rfl) (pa_cons (pe_fld (pv 0) rfl) pa_nil)))) rfl)
      (pss_cons (ps_fld (pv 0) (pe_fn k.nd r2 (pa_cons (pe_fld (pv 0) rfl) pa_nil)) rfl)
      (pss_cons (ps_fld (pv 0) (pe_fn k.fo r3 (pa_cons (pe_fld (pv 0) rfl) (pa_cons (pe_ix ix_list (pe_fld (pv 0) rfl) pe_int (fun _ _ => rfl)) pa_nil))) rfl)
      (pss_cons (ps_fld (pv 0) (pe_fn k.fo r3 (pa_cons (pe_ix ix_list (pe_fld (pv 0) rfl) pe_int (fun _ _ => rfl)) (pa_cons (pe_fld (pv 0) rfl) pa_nil))) rfl)
      (pss_cons (ps_fld (pv 0) (pe_fn k.lb r3 (pa_cons (pe_fld (pv 0) rfl) pa_nil)) rfl)
      (pss_cons (ps_fld (pv 0) pe_dnewK rfl) (pss_one (ps_fld (pv 0) pe_dnewK rfl)))))))))), ?_⟩
    obtain ⟨dh, hob⟩ := hh.ob
    have hne : h ≠ x := fun z => by
      rw [z, hx, flds_eq] at hob
      have := (HO.ins.inj (Option.some.inj hob)).2.2
      exact nomatch this
    have ok := wf.ok
    have n16 : n ≤ 16 := by have := wf.m16; omega
    -- ups
    refine ⟨_, rfl, h, l, n, 1, xs, ds, rfl, hh, wf, fun u H1 lu n1 s1 h1 ru => ⟨_, rfl, x, C, dx, _, rfl, s1 _ _ hx, k.T.cl, k.T.n_u, lt_of20 (Nat.le_refl 0), ?_⟩⟩
    have b1 : ButD x H (upd H1 x (.ins C dx (putF "ups" (.ref u) []))) := put_x s1
    have ux : u ≠ x := ne_ins h1 (s1 _ _ hx)
    have hu1 : upd H1 x (.ins C dx (putF "ups" (.ref u) [])) u = some (.lst (iN lu)) := by rw [upd_ne ux]; exact h1
    have hx1 : upd H1 x (.ins C dx (putF "ups" (.ref u) [])) x = some (.ins C dx (putF "ups" (.ref u) [])) := upd_same
    replace hh := hh.butX ⟨_, _, _, hx⟩ hne b1
    generalize upd H1 x (.ins C dx (putF "ups" (.ref u) [])) = G1 at b1 hu1 hx1 hh ⊢
    clear h1 s1 n1 hob H1
    -- flats
    refine ⟨_, rfl, h, l, n, 0, xs, ds, rfl, hh, wf, fun f1 H1 lf n1 s1 h1 rf => ⟨_, rfl, x, C, dx, _, rfl, s1 _ _ hx1, k.T.cl, k.T.n_f, lt_of20 (putF_le (Nat.le_refl 0)), ?_⟩⟩
    have b2 : ButD x G1 (upd H1 x (.ins C dx (putF "flats" (.ref f1) (putF "ups" (.ref u) [])))) := put_x s1
    have fx : f1 ≠ x := ne_ins h1 (s1 _ _ hx1)
    have hf2 : upd H1 x (.ins C dx (putF "flats" (.ref f1) (putF "ups" (.ref u) []))) f1 = some (.lst (iN lf)) := by rw [upd_ne fx]; exact h1
    have hu2 := b2 _ _ ux hu1
    have hx2 : upd H1 x (.ins C dx (putF "flats" (.ref f1) (putF "ups" (.ref u) []))) x = some (.ins C dx (putF "flats" (.ref f1) (putF "ups" (.ref u) []))) := upd_same
    replace hh := hh.butX ⟨_, _, _, hx1⟩ hne b2
    have B2 := ButD.trans b1 b2
    generalize upd H1 x (.ins C dx (putF "flats" (.ref f1) (putF "ups" (.ref u) []))) = G2 at b2 hu2 hf2 hx2 hh B2 ⊢
    clear h1 s1 n1 b1 b2 hu1 hx1 H1 G1
    -- downs
    refine ⟨_, rfl, 1, rfl, h, l, n, -1, xs, ds, rfl, hh, wf, fun d1 H1 ld n1 s1 h1 rd => ⟨_, rfl, x, C, dx, _, rfl, s1 _ _ hx2, k.T.cl, k.T.n_d, lt_of20 (putF_le (putF_le (Nat.le_refl 0))), ?_⟩⟩
    generalize hF3 : putF "downs" (V.ref d1) (putF "flats" (.ref f1) (putF "ups" (.ref u) [])) = F3
    have l3 : F3.length ≤ 3 := by rw [← hF3]; exact putF_le (putF_le (putF_le (Nat.le_refl 0)))
    have b3 : ButD x G2 (upd H1 x (.ins C dx F3)) := put_x s1
    have dx' : d1 ≠ x := ne_ins h1 (s1 _ _ hx2)
    have hd3 : upd H1 x (.ins C dx F3) d1 = some (.lst (iN ld)) := by rw [upd_ne dx']; exact h1
    have hu3 := b3 _ _ ux hu2
    have hf3 := b3 _ _ fx hf2
    have hx3 : upd H1 x (.ins C dx F3) x = some (.ins C dx F3) := upd_same
    have B3 := ButD.trans B2 b3
    have e3u : F3.lookup ("ups" : Str) = some (.ref u) := by rw [← hF3, lookup_putF, if_neg (by decide +kernel), lookup_putF, if_neg (by decide +kernel), lookup_putF, if_pos rfl]
    have e3f : F3.lookup ("flats" : Str) = some (.ref f1) := by rw [← hF3, lookup_putF, if_neg (by decide +kernel), lookup_putF, if_pos rfl]
    have e3d : F3.lookup ("downs" : Str) = some (.ref d1) := by rw [← hF3, lookup_putF, if_pos rfl]
    generalize upd H1 x (.ins C dx F3) = G3 at b3 hu3 hf3 hd3 hx3 B3 ⊢
    clear h1 s1 n1 b3 hu2 hf2 hx2 B2 H1 G2 hh
    -- grades
    have g3 : Udf n (Dl ds 1) (Dl ds 0) (Dl ds (-1)) G3 u f1 d1 lu lf ld := ⟨hu3, hf3, hd3, ru, rf, rd, Dl.inn ok _, Dl.inn ok _, Dl.inn ok _, by omega⟩
    refine ⟨_, rfl, x, C, dx, _, _, rfl, hx3, k.T.cl, k.T.n_u, e3u, _, rfl, x, C, dx, _, _, rfl, hx3, k.T.cl, k.T.n_f, e3f, _, rfl, x, C, dx, _, _, rfl, hx3, k.T.cl, k.T.n_d, e3d, u, f1, d1, lu, lf, ld, n, _, _, _, rfl, g3, fun g H1 gx gys M n1 s1 h1 ms le mn => ⟨_, rfl, x, C, dx, _, rfl, s1 _ _ hx3, k.T.cl, k.T.n_g, lt_of20 l3, ?_⟩⟩
    generalize hF4 : putF "grades" (V.ref g) F3 = F4
    have l4 : F4.length ≤ 4 := by rw [← hF4]; exact putF_le l3
    have b4 : ButD x G3 (upd H1 x (.ins C dx F4)) := put_x s1
    have gx' : g ≠ x := ne_ins h1 (s1 _ _ hx3)
    have hg4 : upd H1 x (.ins C dx F4) g = some (.lst gx) := by rw [upd_ne gx']; exact h1
    have ms4 : MsAll g (upd H1 x (.ins C dx F4)) gx gys := ms.butX ⟨_, _, _, s1 _ _ hx3⟩ (put_x Same.refl)
    have hu4 := b4 _ _ ux hu3
    have hd4 := b4 _ _ dx' hd3
    have hx4 : upd H1 x (.ins C dx F4) x = some (.ins C dx F4) := upd_same
    have B4 := ButD.trans B3 b4
    have e4u : F4.lookup ("ups" : Str) = some (.ref u) := by rw [← hF4, lookup_putF, if_neg (by decide +kernel)]; exact e3u
    have e4d : F4.lookup ("downs" : Str) = some (.ref d1) := by rw [← hF4, lookup_putF, if_neg (by decide +kernel)]; exact e3d
    have e4g : F4.lookup ("grades" : Str) = some (.ref g) := by rw [← hF4, lookup_putF, if_pos rfl]
    generalize upd H1 x (.ins C dx F4) = G4 at b4 hu4 hd4 hg4 hx4 ms4 B4 ⊢
    clear h1 s1 n1 b4 hu3 hf3 hd3 hx3 B3 g3 ms H1 G3 e3u e3f e3d
    -- needs
    have mn2 : n * n ≤ 16 * 16 := Nat.mul_le_mul n16 n16
    refine ⟨_, rfl, x, C, dx, _, _, rfl, hx4, k.T.cl, k.T.n_g, e4g, g, gx, gys, n, M, LeD n ds, rfl, hg4, ms4, le.len, le.rep, (fun j => le_in j), n16, by omega, fun nd H1 R n1 s1 tab => ⟨_, rfl, x, C, dx, _, rfl, s1 _ _ hx4, k.T.cl, k.T.n_n, lt_of20 l4, ?_⟩⟩
    generalize hF5 : putF "needs" (V.ref nd) F4 = F5
    have l5 : F5.length ≤ 5 := by rw [← hF5]; exact putF_le l4
    have b5 : ButD x G4 (upd H1 x (.ins C dx F5)) := put_x s1
    have tab5 : TabAt (upd H1 x (.ins C dx F5)) nd R n (tb (LeD n ds) M (M + 1)) := tab.butX ⟨_, _, _, s1 _ _ hx4⟩ (put_x Same.refl)
    have ms5 : MsAll g (upd H1 x (.ins C dx F5)) gx gys := ms4.butX ⟨_, _, _, hx4⟩ b5
    have hg5 := b5 _ _ gx' hg4
    have hu5 := b5 _ _ ux hu4
    have hd5 := b5 _ _ dx' hd4
    have hx5 : upd H1 x (.ins C dx F5) x = some (.ins C dx F5) := upd_same
    have B5 := ButD.trans B4 b5
    have e5u : F5.lookup ("ups" : Str) = some (.ref u) := by rw [← hF5, lookup_putF, if_neg (by decide +kernel)]; exact e4u
    have e5d : F5.lookup ("downs" : Str) = some (.ref d1) := by rw [← hF5, lookup_putF, if_neg (by decide +kernel)]; exact e4d
    have e5g : F5.lookup ("grades" : Str) = some (.ref g) := by rw [← hF5, lookup_putF, if_neg (by decide +kernel)]; exact e4g
    generalize upd H1 x (.ins C dx F5) = G5 at b5 tab5 hu5 hd5 hg5 hx5 ms5 B5 ⊢
    clear tab s1 n1 b5 hu4 hd4 hg4 hx4 B4 ms4 H1 G4 e4u e4d e4g
    -- grades[0]
    obtain ⟨x0, hx0⟩ : ∃ x0, gx[0]? = some x0 := ⟨_, List.getElem?_eq_getElem (by rw [Paired.length ms5, le.len]; omega)⟩
    obtain ⟨y0, hy0, g0, rfl, ng0, hg0⟩ := Paired.at ms5 hx0
    have ry0 : Rep n y0 (gG n ds) := le.rep 0 y0 hy0
    have g0x : g0 ≠ x := ne_ins hg0 hx5
    -- climbing
    refine ⟨_, rfl, x, C, dx, _, _, rfl, hx5, k.T.cl, k.T.n_u, e5u, _, rfl, x, C, dx, _, _, rfl, hx5, k.T.cl, k.T.n_g, e5g, g, _, _, _, rfl, rfl, .inl (.inl hg5), atI_nat (j := 0) hx0, u, g0, lu, y0, n, _, _, rfl, hu5, hg0, ru, ry0, by omega, Dl.inn ok _, fun cl H1 lcl n1 s1 h1 rcl => ⟨_, rfl, x, C, dx, _, rfl, s1 _ _ hx5, k.T.cl, k.T.n_cl, lt_of20 l5, ?_⟩⟩
    generalize hF6 : putF "climbing" (V.ref cl) F5 = F6
    have l6 : F6.length ≤ 6 := by rw [← hF6]; exact putF_le l5
    have b6 : ButD x G5 (upd H1 x (.ins C dx F6)) := put_x s1
    have clx : cl ≠ x := ne_ins h1 (s1 _ _ hx5)
    have hcl6 : upd H1 x (.ins C dx F6) cl = some (.lst (iN lcl)) := by rw [upd_ne clx]; exact h1
    have tab6 := tab5.butX ⟨_, _, _, hx5⟩ b6
    have ms6 := ms5.butX ⟨_, _, _, hx5⟩ b6
    have hg6 := b6 _ _ gx' hg5
    have hg06 := b6 _ _ g0x hg0
    have hd6 := b6 _ _ dx' hd5
    have hx6 : upd H1 x (.ins C dx F6) x = some (.ins C dx F6) := upd_same
    have B6 := ButD.trans B5 b6
    have e6d : F6.lookup ("downs" : Str) = some (.ref d1) := by rw [← hF6, lookup_putF, if_neg (by decide +kernel)]; exact e5d
    have e6g : F6.lookup ("grades" : Str) = some (.ref g) := by rw [← hF6, lookup_putF, if_neg (by decide +kernel)]; exact e5g
    have e6c : F6.lookup ("climbing" : Str) = some (.ref cl) := by rw [← hF6, lookup_putF, if_pos rfl]
    generalize upd H1 x (.ins C dx F6) = G6 at b6 tab6 hcl6 hd6 hg6 hg06 hx6 ms6 B6 ⊢
    clear s1 n1 h1 b6 hu5 hd5 hg5 hg0 hx5 B5 ms5 tab5 H1 G5 e5u e5d e5g
    -- dropping
    refine ⟨_, rfl, x, C, dx, _, _, rfl, hx6, k.T.cl, k.T.n_g, e6g, g, _, _, _, rfl, rfl, .inl (.inl hg6), atI_nat (j := 0) hx0, _, rfl, x, C, dx, _, _, rfl, hx6, k.T.cl, k.T.n_d, e6d, g0, d1, y0, ld, n, _, _, rfl, hg06, hd6, ry0, rd, by omega, gr_in, fun dr H1 ldr n1 s1 h1 rdr => ⟨_, rfl, x, C, dx, _, rfl, s1 _ _ hx6, k.T.cl, k.T.n_dr, lt_of20 l6, ?_⟩⟩
    generalize hF7 : putF "dropping" (V.ref dr) F6 = F7
    have l7 : F7.length ≤ 7 := by rw [← hF7]; exact putF_le l6
    have b7 : ButD x G6 (upd H1 x (.ins C dx F7)) := put_x s1
    have drx : dr ≠ x := ne_ins h1 (s1 _ _ hx6)
    have hdr7 : upd H1 x (.ins C dx F7) dr = some (.lst (iN ldr)) := by rw [upd_ne drx]; exact h1
    have tab7 := tab6.butX ⟨_, _, _, hx6⟩ b7
    have ms7 := ms6.butX ⟨_, _, _, hx6⟩ b7
    have hg7 := b7 _ _ gx' hg6
    have hcl7 := b7 _ _ clx hcl6
    have hx7 : upd H1 x (.ins C dx F7) x = some (.ins C dx F7) := upd_same
    have B7 := ButD.trans B6 b7
    have e7c : F7.lookup ("climbing" : Str) = some (.ref cl) := by rw [← hF7, lookup_putF, if_neg (by decide +kernel)]; exact e6c
    generalize upd H1 x (.ins C dx F7) = G7 at b7 tab7 hdr7 hcl7 hg7 hx7 ms7 B7 ⊢
    clear s1 n1 h1 b7 hd6 hg6 hg06 hcl6 hx6 B6 ms6 tab6 H1 G6 e6d e6g e6c
    -- climbs back
    refine ⟨_, rfl, x, C, dx, _, _, rfl, hx7, k.T.cl, k.T.n_cl, e7c, cl, lcl, n, _, rfl, hcl7, rcl, (Dl.inn ok 1).cp gr_in, n16, fun cb H1 lcb n1 s1 h1 rcb => ⟨_, rfl, x, C, dx, _, rfl, s1 _ _ hx7, k.T.cl, k.T.n_cb, lt_of20 l7, ?_⟩⟩
    generalize hF8 : putF "_climbs_back" (V.ref cb) F7 = F8
    have l8 : F8.length ≤ 8 := by rw [← hF8]; exact putF_le l7
    have b8 : ButD x G7 (upd H1 x (.ins C dx F8)) := put_x s1
    have cbx : cb ≠ x := ne_ins h1 (s1 _ _ hx7)
    have hcb8 : upd H1 x (.ins C dx F8) cb = some (.lst (iN lcb)) := by rw [upd_ne cbx]; exact h1
    have tab8 := tab7.butX ⟨_, _, _, hx7⟩ b8
    have ms8 := ms7.butX ⟨_, _, _, hx7⟩ b8
    have hg8 := b8 _ _ gx' hg7
    have hdr8 := b8 _ _ drx hdr7
    have hx8 : upd H1 x (.ins C dx F8) x = some (.ins C dx F8) := upd_same
    have B8 := ButD.trans B7 b8
    generalize upd H1 x (.ins C dx F8) = G8 at b8 tab8 hcb8 hdr8 hg8 hx8 ms8 B8 ⊢
    clear s1 n1 h1 b8 hg7 hcl7 hdr7 hx7 B7 ms7 tab7 H1 G7 e7c
    -- the two dicts
    intro ot hot
    have s1 := same_upd (o := .dK []) hot
    refine ⟨_, rfl, x, C, dx, _, rfl, s1 _ _ hx8, k.T.cl, k.T.n_ot, lt_of20 l8, ?_⟩
    generalize hF9 : putF "_orbits_to" (V.ref ot) F8 = F9
    have l9 : F9.length ≤ 9 := by rw [← hF9]; exact putF_le l8
    have b9 : ButD x G8 (upd (upd G8 ot (.dK [])) x (.ins C dx F9)) := put_x s1
    have otx : ot ≠ x := (ne_of_none hx8 hot).symm
    have hot9 : upd (upd G8 ot (.dK [])) x (.ins C dx F9) ot = some (.dK []) := by rw [upd_ne otx, upd_same]
    have tab9 := tab8.butX ⟨_, _, _, hx8⟩ b9
    have ms9 := ms8.butX ⟨_, _, _, hx8⟩ b9
    have hg9 := b9 _ _ gx' hg8
    have hdr9 := b9 _ _ drx hdr8
    have hcb9 := b9 _ _ cbx hcb8
    have hx9 : upd (upd G8 ot (.dK [])) x (.ins C dx F9) x = some (.ins C dx F9) := upd_same
    have B9 := ButD.trans B8 b9
    have not0 : H ot = none := by
      cases e : H ot with
      | none => rfl
      | some o => exact absurd (B8 _ _ otx e) (by rw [hot]; exact fun z => nomatch z)
    intro fr hfr
    have s2 := same_upd (o := .dK []) hfr
    refine ⟨_, rfl, x, C, dx, _, rfl, s2 _ _ hx9, k.T.cl, k.T.n_fr, lt_of20 l9, ?_⟩
    have b10 : ButD x (upd (upd G8 ot (.dK [])) x (.ins C dx F9)) (upd (upd (upd (upd G8 ot (.dK [])) x (.ins C dx F9)) fr (.dK [])) x (.ins C dx (putF "_orbits_from" (V.ref fr) F9))) := put_x s2
    have frx : fr ≠ x := (ne_of_none hx9 hfr).symm
    have otfr : ot ≠ fr := ne_of_none hot9 hfr
    have B10 := ButD.trans B9 b10
    have nfr0 : H fr = none := by
      cases e : H fr with
      | none => rfl
      | some o => exact absurd (B9 _ _ frx e) (by rw [hfr]; exact fun z => nomatch z)
    have tab10 := tab9.butX ⟨_, _, _, hx9⟩ b10
    have ms10 := ms9.butX ⟨_, _, _, hx9⟩ b10
    refine q _ g nd dr ot fr ldr lcb M B10 ⟨⟨dx, u, f1, d1, cl, cb, ?_, b10 _ _ cbx hcb9⟩, ⟨gx, gys, b10 _ _ gx' hg9, ms10, le⟩, ⟨R, tab10⟩, b10 _ _ drx hdr9, rdr, rcb, ⟨[], b10 _ _ otx hot9, List.nodup_nil, (fun q h => nomatch h)⟩, ⟨[], ?_, List.nodup_nil, (fun q h => nomatch h)⟩, otfr⟩ (fun b hb => ?_) mn
    · rw [upd_same, ← hF9, ← hF8, ← hF7, ← hF6, ← hF5, ← hF4, ← hF3]
      rfl
    · rw [upd_ne frx, upd_same]
      rfl
    · rcases hb with rfl | rfl
      · exact not0
      · exact nfr0
end
end L2.K71
end

section
set_option Elab.async false
set_option linter.all false
set_option maxRecDepth 100000
set_option maxHeartbeats 4000000
namespace L2.K71
open PySem PySem.Spec PyProof.Rows L2.Gd L2.Lv
section
variable {P : Program} {w : World} {K : PySem.W.Frag} {mg : Str → Option Value} {base : Heap} {C C2 : Addr}
theorem Fr.refl {ot fr : Addr} {H : Hp} : Fr ot fr H H := fun _ _ _ _ e => e
theorem Fr.trans {ot fr : Addr} {H1 H2 H3 : Hp} (a : Fr ot fr H1 H2) (b : Fr ot fr H2 H3) : Fr ot fr H1 H3 := fun c o n1 n2 e => b c o n1 n2 (a c o n1 n2 e)
theorem Fr.of {ot fr : Addr} {H1 H2 : Hp} (a : Same H1 H2) : Fr ot fr H1 H2 := fun c o _ _ e => a c o e
theorem od_get : ∀ (gs : List (Nat × Addr)) (a : Nat), (∃ t, (a, t) ∈ gs ∧ valV (gs.map fun q => ((.inl (q.1 : Int) : Key), V.ref q.2)) (.inl (a : Int)) = some (V.ref t)) ∨ (a ∉ gs.map (·.1) ∧ valV (gs.map fun q => ((.inl (q.1 : Int) : Key), V.ref q.2)) (.inl (a : Int)) = none)
  | [], a => .inr ⟨by simp, rfl⟩
  | q :: r, a => by
    by_cases e : q.1 = a
    · subst e
      exact .inl ⟨q.2, List.mem_cons_self, valV_pos rfl⟩
    · have hn : valV ((q :: r).map fun q => ((.inl (q.1 : Int) : Key), V.ref q.2)) (.inl (a : Int)) = valV (r.map fun q => ((.inl (q.1 : Int) : Key), V.ref q.2)) (.inl (a : Int)) := valV_neg (fun z => e (by have := Sum.inl.inj z; omega))
      rcases od_get r a with ⟨t, h1, h2⟩ | ⟨h1, h2⟩
      · exact .inl ⟨t, List.mem_cons_of_mem _ h1, by rw [hn]; exact h2⟩
      · refine .inr ⟨fun z => ?_, by rw [hn]; exact h2⟩
        rw [List.map_cons] at z
        rcases List.mem_cons.mp z with z | z
        · exact e z.symm
        · exact h1 z
section
variable {H H' : Hp} {x g nd dr ot fr : Addr} {n M : Nat} {ds : List Dd} {ldr lcb : List Nat}
theorem PlnAt.nk (p : PlnAt C H x n ds g nd dr ot fr ldr lcb M) {b : Addr} {o : HO} (e : H b = some o) (h : ∀ ks, o ≠ .dK ks) : b ≠ ot ∧ b ≠ fr := by
  obtain ⟨_, h1, _⟩ := p.hot
  obtain ⟨_, h2, _⟩ := p.hfr
  refine ⟨fun z => ?_, fun z => ?_⟩
  · rw [z, h1] at e
    exact h _ (Option.some.inj e).symm
  · rw [z, h2] at e
    exact h _ (Option.some.inj e).symm
theorem PlnAt.lst (p : PlnAt C H x n ds g nd dr ot fr ldr lcb M) (f : Fr ot fr H H') {b : Addr} {o : HO} (e : H b = some o) (h : ∀ ks, o ≠ .dK ks) : H' b = some o := let ⟨a, c⟩ := p.nk e h; f _ _ a c e
theorem OrbAt.mv (ho : OrbAt H t l m) (p : PlnAt C H x n ds g nd dr ot fr ldr lcb M) (f : Fr ot fr H H') : OrbAt H' t l m := by
  obtain ⟨q, j, b, h1, h2, h3⟩ := ho
  exact ⟨q, j, b, p.lst f h1 (fun _ z => nomatch z), p.lst f h2 (fun _ z => nomatch z), h3⟩
theorem PlnAt.move (p : PlnAt C H x n ds g nd dr ot fr ldr lcb M) (f : Fr ot fr H H') (h1 : OdAt H' ot n lcb) (h2 : OdAt H' fr n ldr) : PlnAt C H' x n ds g nd dr ot fr ldr lcb M := by
  obtain ⟨dx, u, f1, d, cl, cb, hx, hcb⟩ := p.ob
  obtain ⟨xs, ys, hg, ms, le⟩ := p.gr
  obtain ⟨R, tab⟩ := p.ta
  exact ⟨⟨dx, u, f1, d, cl, cb, p.lst f hx (fun _ z => nomatch z), p.lst f hcb (fun _ z => nomatch z)⟩, ⟨xs, ys, p.lst f hg (fun _ z => nomatch z), Paired.mapP ms fun _ _ ⟨a, e, ne, q⟩ => ⟨a, e, ne, p.lst f q (fun _ z => nomatch z)⟩, le⟩,
    ⟨R, p.lst f tab.ob (fun _ z => nomatch z), tab.len, fun a ra e => p.lst f (tab.row a ra e) (fun _ z => nomatch z)⟩, p.lst f p.hdr (fun _ z => nomatch z), p.rdr, p.rcb, h1, h2, p.ne⟩
theorem OdAt.same {d : Addr} {l : List Nat} (s : Same H H') (h : OdAt H d n l) : OdAt H' d n l := let ⟨gs, h1, h2, h3⟩ := h; ⟨gs, s _ _ h1, h2, fun q hq => ⟨(h3 q hq).1, (h3 q hq).2.same s⟩⟩
theorem PlnAt.same (p : PlnAt C H x n ds g nd dr ot fr ldr lcb M) (s : Same H H') : PlnAt C H' x n ds g nd dr ot fr ldr lcb M := p.move (Fr.of s) (p.hot.same s) (p.hfr.same s)
end
/-! ### climbs_to -/
def spCt (C : Addr) : Sp := fun vs H Q _ => ∃ (x : Addr) (a n : Nat) (ds : List Dd) (g nd dr ot fr : Addr) (ldr lcb : List Nat) (M : Nat), vs = [.ref x, .int a] ∧ a < n ∧ n ≤ 16 ∧ (∀ d ∈ ds, d.Ok (n : Int)) ∧ PlnAt C H x n ds g nd dr ot fr ldr lcb M ∧
  ∀ t H', Fr ot fr H H' → PlnAt C H' x n ds g nd dr ot fr ldr lcb M → OrbAt H' t lcb (2 ^ a) → Q (.ref t) H'
theorem scCt : FnScope ["self", "goal"] ["self", "goal"] (defScope (cPl 1)) := ⟨rfl, rfl, rfl, by decide +kernel, rfl, by decide +kernel, by decide +kernel⟩
theorem ok_ct {f : Addr} {fd : FuncData} (F : Fun K "climbs_to" "Plains.climbs_to" (cPl 1) f fd) (k : PlK P w K mg base C C2) : FnOk P w K mg base CX0 4 f fd ["self", "goal"] (spCt C) := by
  refine F.ok scCt (fun vs H Q E h => ?_) (fun cdv A outer s H vs Q E hr h => ?_)
  · obtain ⟨x, a, n, ds, g, nd, dr, ot, fr, ldr, lcb, M, rfl, _⟩ := h
    rfl
  · obtain ⟨x, a, n, ds, g, nd, dr, ot, fr, ldr, lcb, M, rfl, an, n16, ok, pl, q⟩ := h
    have N := scCt.nd
    have hu := hu_of hr
    refine ⟨_, pss_cons (ps_if (pt_cmp (pc_dnotin hu (pv 1) (pe_fld (pv 0) rfl))) (pss_one (ps_dput hu (pe_fld (pv 0) rfl) (pv 1) (pe_fn k.ob hr (pa_cons (pe_fld (pv 0) rfl) (pa_cons (pe_op op_shl pe_int (pv 1)) pa_nil))) rfl)) pss_nil)
      (pss_one (ps_ret (pe_dget hu (pe_fld (pv 0) rfl) (pv 1) (fun _ _ => rfl)))), ?_⟩
    obtain ⟨dx, u, f1, d1, cl, cb, hx, hcb⟩ := pl.ob
    obtain ⟨gs, hot, gnd, gok⟩ := pl.hot
    refine ⟨_, rfl, _, rfl, x, C, dx, _, _, rfl, hx, k.T.cl, k.T.n_ot, fPl_ot .., ot, _, rfl, .k (k := .inl (a : Int)) hot, _, rfl, ?_⟩
    rcases od_get gs a with ⟨t, hm, hv⟩ | ⟨hm, hv⟩
    · rw [hv]
      have dg := DGet.k (k := .inl (a : Int)) hot
      rw [hv] at dg
      exact iteF ⟨_, rfl, x, C, dx, _, _, rfl, hx, k.T.cl, k.T.n_ot, fPl_ot .., _, rfl, ot, _, rfl, dg, q t H Fr.refl pl (gok _ hm).2⟩
    · rw [hv]
      refine iteT ⟨_, rfl, x, C, dx, _, _, rfl, hx, k.T.cl, k.T.n_cb, fPl_cb .., _, rfl, _, _, rfl, rfl, ⟨by omega, by omega, by decide⟩, cb, lcb, 2 ^ a, n, _, ?_, hcb, pl.rcb, tr_in ((Dl.inn ok 1).cp gr_in), n16, fun b hb => ?_, fun t H1 nt s1 ho => ?_⟩
      · show [V.ref cb, V.int ((1 : Int) * 2 ^ ((a : Int)).toNat)] ++ [] = _
        rw [shl_nat]
        rfl
      · rw [Nat.testBit_two_pow] at hb
        have := of_decide_eq_true hb
        omega
      have hx1 := s1 _ _ hx
      have ho1 := s1 _ _ hot
      have gl : gs.length ≤ n := by
        have := nat_nodup_len (gs.map (·.1)) (List.range n) gnd (fun y hy => by
          obtain ⟨q1, hq1, rfl⟩ := List.mem_map.mp hy
          exact List.mem_range.mpr (gok q1 hq1).1)
        rw [List.length_map, List.length_range] at this
        exact this
      refine ⟨_, rfl, x, C, dx, _, _, rfl, hx1, k.T.cl, k.T.n_ot, fPl_ot .., _, rfl, ot, _, rfl, .k (k := .inl (a : Int)) ho1 (by rw [List.length_map, sizeLine_eq]; omega), ?_⟩
      rw [putK_new _ hv]
      have pl1 := pl.same s1
      have e1 : gs.map (fun q => ((.inl (q.1 : Int) : Key), V.ref q.2)) ++ [((.inl (a : Int) : Key), V.ref t)] = (gs ++ [(a, t)]).map (fun q => ((.inl (q.1 : Int) : Key), V.ref q.2)) := by
        rw [List.map_append]
        rfl
      rw [e1]
      have f1' : Fr ot fr H1 (upd H1 ot (.dK ((gs ++ [(a, t)]).map fun q => ((.inl (q.1 : Int) : Key), V.ref q.2)))) := fun b o n1 n2 e => by
        rw [upd_ne n1]
        exact e
      have hoD : upd H1 ot (.dK ((gs ++ [(a, t)]).map fun q => ((.inl (q.1 : Int) : Key), V.ref q.2))) ot = some (.dK ((gs ++ [(a, t)]).map fun q => ((.inl (q.1 : Int) : Key), V.ref q.2))) := upd_same
      have ho2 : OrbAt (upd H1 ot (.dK ((gs ++ [(a, t)]).map fun q => ((.inl (q.1 : Int) : Key), V.ref q.2)))) t lcb (2 ^ a) := ho.mv pl1 f1'
      have od : OdAt (upd H1 ot (.dK ((gs ++ [(a, t)]).map fun q => ((.inl (q.1 : Int) : Key), V.ref q.2)))) ot n lcb := by
        refine ⟨gs ++ [(a, t)], hoD, ?_, fun q1 hq1 => ?_⟩
        · rw [List.map_append, List.nodup_append]
          exact ⟨gnd, by simp, fun y hy z hz => by
            have : z = a := by simpa using hz
            rw [this]
            exact fun e => hm (e ▸ hy)⟩
        · rcases List.mem_append.mp hq1 with h | h
          · exact ⟨(gok q1 h).1, ((gok q1 h).2.same s1).mv pl1 f1'⟩
          · rw [List.mem_singleton.mp h]
            exact ⟨an, ho2⟩
      obtain ⟨gs2, g1, g2, g3⟩ := pl1.hfr
      have od2 : OdAt (upd H1 ot (.dK ((gs ++ [(a, t)]).map fun q => ((.inl (q.1 : Int) : Key), V.ref q.2)))) fr n ldr :=
        ⟨gs2, by rw [upd_ne pl.ne.symm]; exact g1, g2, fun q1 hq1 => ⟨(g3 q1 hq1).1, (g3 q1 hq1).2.mv pl1 f1'⟩⟩
      have pl2 := pl1.move f1' od od2
      have fH : Fr ot fr H (upd H1 ot (.dK ((gs ++ [(a, t)]).map fun q => ((.inl (q.1 : Int) : Key), V.ref q.2)))) := fun b o n1 n2 e => f1' b o n1 n2 (s1 b o e)
      have hx2 : upd H1 ot (.dK ((gs ++ [(a, t)]).map fun q => ((.inl (q.1 : Int) : Key), V.ref q.2))) x = some (.ins C dx (fPl u f1 d1 g nd cl dr cb ot fr)) := by
        rw [upd_ne (ne_insK ho1 hx1).symm]
        exact hx1
      have dg := DGet.k (k := .inl (a : Int)) hoD
      have hv2 : valV ((gs ++ [(a, t)]).map fun q => ((.inl (q.1 : Int) : Key), V.ref q.2)) (.inl (a : Int)) = some (V.ref t) := by
        rcases od_get (gs ++ [(a, t)]) a with ⟨t', hm', hv'⟩ | ⟨hm', hv'⟩
        · rcases List.mem_append.mp hm' with h | h
          · exact absurd (List.mem_map.mpr ⟨_, h, rfl⟩) hm
          · rw [hv', (Prod.mk.inj (List.mem_singleton.mp h)).2]
        · exact absurd (by simp) hm'
      rw [hv2] at dg
      exact ⟨_, rfl, x, C, dx, _, _, rfl, hx2, k.T.cl, k.T.n_ot, fPl_ot .., _, rfl, ot, _, rfl, dg, q t _ fH pl2 ho2⟩
/-! ### drops_from -/
def spDf (C : Addr) : Sp := fun vs H Q _ => ∃ (x : Addr) (a n : Nat) (ds : List Dd) (g nd dr ot fr : Addr) (ldr lcb : List Nat) (M : Nat), vs = [.ref x, .int a] ∧ a < n ∧ n ≤ 16 ∧ (∀ d ∈ ds, d.Ok (n : Int)) ∧ PlnAt C H x n ds g nd dr ot fr ldr lcb M ∧
  ∀ t H', Fr ot fr H H' → PlnAt C H' x n ds g nd dr ot fr ldr lcb M → OrbAt H' t ldr (2 ^ a) → Q (.ref t) H'
theorem scDf : FnScope ["self", "place"] ["self", "place"] (defScope (cPl 2)) := ⟨rfl, rfl, rfl, by decide +kernel, rfl, by decide +kernel, by decide +kernel⟩
theorem ok_df {f : Addr} {fd : FuncData} (F : Fun K "drops_from" "Plains.drops_from" (cPl 2) f fd) (k : PlK P w K mg base C C2) : FnOk P w K mg base CX0 4 f fd ["self", "place"] (spDf C) := by
  refine F.ok scDf (fun vs H Q E h => ?_) (fun cdv A outer s H vs Q E hr h => ?_)
  · obtain ⟨x, a, n, ds, g, nd, dr, ot, fr, ldr, lcb, M, rfl, _⟩ := h
    rfl
  · obtain ⟨x, a, n, ds, g, nd, dr, ot, fr, ldr, lcb, M, rfl, an, n16, ok, pl, q⟩ := h
    have N := scDf.nd
    have hu := hu_of hr
    refine ⟨_, pss_cons (ps_if (pt_cmp (pc_dnotin hu (pv 1) (pe_fld (pv 0) rfl))) (pss_one (ps_dput hu (pe_fld (pv 0) rfl) (pv 1) (pe_fn k.ob hr (pa_cons (pe_fld (pv 0) rfl) (pa_cons (pe_op op_shl pe_int (pv 1)) pa_nil))) rfl)) pss_nil)
      (pss_one (ps_ret (pe_dget hu (pe_fld (pv 0) rfl) (pv 1) (fun _ _ => rfl)))), ?_⟩
    obtain ⟨dx, u, f1, d1, cl, cb, hx, hcb⟩ := pl.ob
    obtain ⟨gs, hfr, gnd, gok⟩ := pl.hfr
    refine ⟨_, rfl, _, rfl, x, C, dx, _, _, rfl, hx, k.T.cl, k.T.n_fr, fPl_fr .., fr, _, rfl, .k (k := .inl (a : Int)) hfr, _, rfl, ?_⟩
    rcases od_get gs a with ⟨t, hm, hv⟩ | ⟨hm, hv⟩
    · rw [hv]
      have dg := DGet.k (k := .inl (a : Int)) hfr
      rw [hv] at dg
      exact iteF ⟨_, rfl, x, C, dx, _, _, rfl, hx, k.T.cl, k.T.n_fr, fPl_fr .., _, rfl, fr, _, rfl, dg, q t H Fr.refl pl (gok _ hm).2⟩
    · rw [hv]
      refine iteT ⟨_, rfl, x, C, dx, _, _, rfl, hx, k.T.cl, k.T.n_dr, fPl_dr .., _, rfl, _, _, rfl, rfl, ⟨by omega, by omega, by decide⟩, dr, ldr, 2 ^ a, n, _, ?_, pl.hdr, pl.rdr, gr_in.cp (Dl.inn ok (-1)), n16, fun b hb => ?_, fun t H1 nt s1 ho => ?_⟩
      · show [V.ref dr, V.int ((1 : Int) * 2 ^ ((a : Int)).toNat)] ++ [] = _
        rw [shl_nat]
        rfl
      · rw [Nat.testBit_two_pow] at hb
        have := of_decide_eq_true hb
        omega
      have hx1 := s1 _ _ hx
      have ho1 := s1 _ _ hfr
      have gl : gs.length ≤ n := by
        have := nat_nodup_len (gs.map (·.1)) (List.range n) gnd (fun y hy => by
          obtain ⟨q1, hq1, rfl⟩ := List.mem_map.mp hy
          exact List.mem_range.mpr (gok q1 hq1).1)
        rw [List.length_map, List.length_range] at this
        exact this
      refine ⟨_, rfl, x, C, dx, _, _, rfl, hx1, k.T.cl, k.T.n_fr, fPl_fr .., _, rfl, fr, _, rfl, .k (k := .inl (a : Int)) ho1 (by rw [List.length_map, sizeLine_eq]; omega), ?_⟩
      rw [putK_new _ hv]
      have pl1 := pl.same s1
      have e1 : gs.map (fun q => ((.inl (q.1 : Int) : Key), V.ref q.2)) ++ [((.inl (a : Int) : Key), V.ref t)] = (gs ++ [(a, t)]).map (fun q => ((.inl (q.1 : Int) : Key), V.ref q.2)) := by
        rw [List.map_append]
        rfl
      rw [e1]
      have f1' : Fr ot fr H1 (upd H1 fr (.dK ((gs ++ [(a, t)]).map fun q => ((.inl (q.1 : Int) : Key), V.ref q.2)))) := fun b o n1 n2 e => by
        rw [upd_ne n2]
        exact e
      have hoD : upd H1 fr (.dK ((gs ++ [(a, t)]).map fun q => ((.inl (q.1 : Int) : Key), V.ref q.2))) fr = some (.dK ((gs ++ [(a, t)]).map fun q => ((.inl (q.1 : Int) : Key), V.ref q.2))) := upd_same
      have ho2 : OrbAt (upd H1 fr (.dK ((gs ++ [(a, t)]).map fun q => ((.inl (q.1 : Int) : Key), V.ref q.2)))) t ldr (2 ^ a) := ho.mv pl1 f1'
      have od : OdAt (upd H1 fr (.dK ((gs ++ [(a, t)]).map fun q => ((.inl (q.1 : Int) : Key), V.ref q.2)))) fr n ldr := by
        refine ⟨gs ++ [(a, t)], hoD, ?_, fun q1 hq1 => ?_⟩
        · rw [List.map_append, List.nodup_append]
          exact ⟨gnd, by simp, fun y hy z hz => by
            have : z = a := by simpa using hz
            rw [this]
            exact fun e => hm (e ▸ hy)⟩
        · rcases List.mem_append.mp hq1 with h | h
          · exact ⟨(gok q1 h).1, ((gok q1 h).2.same s1).mv pl1 f1'⟩
          · rw [List.mem_singleton.mp h]
            exact ⟨an, ho2⟩
      obtain ⟨gs2, g1, g2, g3⟩ := pl1.hot
      have od2 : OdAt (upd H1 fr (.dK ((gs ++ [(a, t)]).map fun q => ((.inl (q.1 : Int) : Key), V.ref q.2)))) ot n lcb :=
        ⟨gs2, by rw [upd_ne pl.ne]; exact g1, g2, fun q1 hq1 => ⟨(g3 q1 hq1).1, (g3 q1 hq1).2.mv pl1 f1'⟩⟩
      have pl2 := pl1.move f1' od2 od
      have fH : Fr ot fr H (upd H1 fr (.dK ((gs ++ [(a, t)]).map fun q => ((.inl (q.1 : Int) : Key), V.ref q.2)))) := fun b o n1 n2 e => f1' b o n1 n2 (s1 b o e)
      have hx2 : upd H1 fr (.dK ((gs ++ [(a, t)]).map fun q => ((.inl (q.1 : Int) : Key), V.ref q.2))) x = some (.ins C dx (fPl u f1 d1 g nd cl dr cb ot fr)) := by
        rw [upd_ne (ne_insK ho1 hx1).symm]
        exact hx1
      have dg := DGet.k (k := .inl (a : Int)) hoD
      have hv2 : valV ((gs ++ [(a, t)]).map fun q => ((.inl (q.1 : Int) : Key), V.ref q.2)) (.inl (a : Int)) = some (V.ref t) := by
        rcases od_get (gs ++ [(a, t)]) a with ⟨t', hm', hv'⟩ | ⟨hm', hv'⟩
        · rcases List.mem_append.mp hm' with h | h
          · exact absurd (List.mem_map.mpr ⟨_, h, rfl⟩) hm
          · rw [hv', (Prod.mk.inj (List.mem_singleton.mp h)).2]
        · exact absurd (by simp) hm'
      rw [hv2] at dg
      exact ⟨_, rfl, x, C, dx, _, _, rfl, hx2, k.T.cl, k.T.n_fr, fPl_fr .., _, rfl, fr, _, rfl, dg, q t _ fH pl2 ho2⟩
end
end L2.K71
end

section
set_option Elab.async false
set_option linter.all false
set_option maxRecDepth 100000
set_option maxHeartbeats 4000000
namespace L2.K71
open PySem PySem.Spec PyProof.Rows L2.Gd L2.Lv
section
variable {P : Program} {w : World} {K : PySem.W.Frag} {mg : Str → Option Value} {base : Heap} {C C2 : Addr}
theorem pe_fldK {X : Cx} {e : Expr} {ta : TE} {f : Str} {pos : Pos} {K : PySem.W.Frag} (hK : X.K = K) (he : PE X e ta) (hb : attributeBase e f X.env (eval e X.env) = eval e X.env) : PE X (.Attribute e f pos) (tFld K ta f) := by
  subst hK
  exact pe_fld he hb
/-! ### need_among, need_from -/
def spNa (C : Addr) : Sp := fun vs H Q _ => ∃ (x : Addr) (a m n : Nat) (ds : List Dd) (g nd dr ot fr : Addr) (ldr lcb : List Nat) (M : Nat), vs = [.ref x, .int a, .int m] ∧ a < n ∧ n ≤ 16 ∧ (∀ b, m.testBit b = true → b < n) ∧ PlnAt C H x n ds g nd dr ot fr ldr lcb M ∧
  ∀ v H', Same H H' → Least ((onesL m).map fun b => tb (LeD n ds) M (M + 1) a b) v → Q (oV v) H'
def spNf (C : Addr) : Sp := fun vs H Q _ => ∃ (x : Addr) (a m n : Nat) (ds : List Dd) (g nd dr ot fr : Addr) (ldr lcb : List Nat) (M : Nat), vs = [.ref x, .int m, .int a] ∧ a < n ∧ n ≤ 16 ∧ (∀ b, m.testBit b = true → b < n) ∧ PlnAt C H x n ds g nd dr ot fr ldr lcb M ∧
  ∀ v H', Same H H' → Least ((onesL m).map fun b => tb (LeD n ds) M (M + 1) b a) v → Q (oV v) H'
theorem scNa : FnScope ["self", "place", "goals", "goal"] ["self", "place", "goals"] (defScope (cPl 3)) := ⟨rfl, rfl, rfl, by decide +kernel, rfl, by decide +kernel, by decide +kernel⟩
theorem scNf : FnScope ["self", "places", "goal", "place"] ["self", "places", "goal"] (defScope (cPl 4)) := ⟨rfl, rfl, rfl, by decide +kernel, rfl, by decide +kernel, by decide +kernel⟩
theorem ok_na {f : Addr} {fd : FuncData} (F : Fun K "need_among" "Plains.need_among" (cPl 3) f fd) (k : PlK P w K mg base C C2) : FnOk P w K mg base CX0 2 f fd ["self", "place", "goals"] (spNa C) := by
  refine F.ok scNa (fun vs H Q E h => ?_) (fun cdv A outer s H vs Q E hr h => ?_)
  · obtain ⟨x, a, m, n, ds, g, nd, dr, ot, fr, ldr, lcb, M, rfl, _⟩ := h
    rfl
  · obtain ⟨x, a, m, n, ds, g, nd, dr, ot, fr, ldr, lcb, M, rfl, an, n16, mb, pl, q⟩ := h
    have N := scNa.nd
    refine ⟨_, pss_one (ps_ret (pe_fn k.lk hr (pa_cons (pe_lc (own := [("goal", 3)]) (g := gName 3) (tt := tYes) rfl N (pi_list (pe_fn k.on hr (pa_cons (pv 2) pa_nil))) (blkOk_by (N := ["self", "place", "goals", "goal"]) (sc := defScope (cPl 3)) (by decide +kernel)) (fun _ _ _ _ _ => pg_name (i := 3) N rfl (.inl rfl))
      (fun _ _ _ _ _ => pts_nil) (fun _ _ _ _ _ => pe_ix (r := rIxL K) ix_list (pe_ix (r := rIxL K) ix_list (pe_fldK (K := K) rfl (pv 0) rfl) (pv 1) (fun _ _ => rfl)) (pv 3) (fun _ _ => rfl))) pa_nil))), ?_⟩
    obtain ⟨dx, u, f1, d1, cl, cb, hx, hcb⟩ := pl.ob
    obtain ⟨R, tab⟩ := pl.ta
    refine ⟨_, rfl, m, rfl, p100 (lt_pow (lt100 (by omega) mb)), fun o H1 no s1 ho => ⟨o, rfl, ⟨_, .inl (.inl ho)⟩, fun D hD => ?_⟩⟩
    have ol : (onesL m).length ≤ 100 := ones_len (lt100 (by omega) mb)
    have hx1 := s1 _ _ hx
    replace tab := tab.same s1
    refine lc_list (xs := iN (onesL m)) (fun i H' => ButD D H1 H' ∧ H' D = some (.lst ((((onesL m).take i).map fun b => tb (LeD n ds) M (M + 1) a b).map oV))) ⟨.start, upd_same⟩ (fun i H' _ hI => .inl (.inl (hI.1.new hD _ _ ho))) ?_ ?_
    · rintro i y H' hy ⟨b, h1⟩
      have s2 := b.new hD
      have hi : i < (onesL m).length := by
        have := (List.getElem?_eq_some_iff.mp hy).1
        rw [iN_len] at this
        exact this
      rw [iN_at hi] at hy
      obtain rfl := Option.some.inj hy
      have hoj : (onesL m)[i]? = some ((onesL m).getD i 0) := by rw [List.getD_eq_getElem?_getD, List.getElem?_eq_getElem hi]; rfl
      have gm := mb _ (mem_onesL.mp (List.mem_of_getElem? hoj))
      obtain ⟨ra, hra⟩ : ∃ ra, R[a]? = some ra := ⟨_, List.getElem?_eq_getElem (by rw [tab.len]; exact an)⟩
      refine ⟨rfl, yes_ite ?_⟩
      refine ⟨_, rfl, x, C, dx, _, _, rfl, s2 _ _ hx1, k.T.cl, k.T.n_n, fPl_n .., _, rfl, nd, _, _, _, rfl, rfl, .inl (.inl (s2 _ _ tab.ob)), atI_nat (j := a) (by rw [List.getElem?_map, hra]; rfl), _, rfl, ra, _, _, _, rfl, rfl, .inl (.inl (s2 _ _ (tab.row a ra hra))), atI_nat (rowT_at gm), ?_⟩
      refine ⟨_, h1, by rw [List.length_map, List.length_map, List.length_take, sizeLine_eq]; omega, b.put, ?_⟩
      rw [upd_same, List.take_succ, hoj, List.map_append, List.map_append]
      rfl
    · rintro H' ⟨b, h1⟩
      rw [iN_len, List.take_length] at h1
      exact ⟨D, _, rfl, h1, by rw [List.length_map]; omega, fun v H2 s2 lv => q v H2 (s1.trans ((b.new hD).trans s2)) lv⟩
theorem ok_nf {f : Addr} {fd : FuncData} (F : Fun K "need_from" "Plains.need_from" (cPl 4) f fd) (k : PlK P w K mg base C C2) : FnOk P w K mg base CX0 2 f fd ["self", "places", "goal"] (spNf C) := by
  refine F.ok scNf (fun vs H Q E h => ?_) (fun cdv A outer s H vs Q E hr h => ?_)
  · obtain ⟨x, a, m, n, ds, g, nd, dr, ot, fr, ldr, lcb, M, rfl, _⟩ := h
    rfl
  · obtain ⟨x, a, m, n, ds, g, nd, dr, ot, fr, ldr, lcb, M, rfl, an, n16, mb, pl, q⟩ := h
    have N := scNf.nd
    refine ⟨_, pss_one (ps_ret (pe_fn k.lk hr (pa_cons (pe_lc (own := [("place", 3)]) (g := gName 3) (tt := tYes) rfl N (pi_list (pe_fn k.on hr (pa_cons (pv 1) pa_nil))) (blkOk_by (N := ["self", "places", "goal", "place"]) (sc := defScope (cPl 4)) (by decide +kernel)) (fun _ _ _ _ _ => pg_name (i := 3) N rfl (.inl rfl))
      (fun _ _ _ _ _ => pts_nil) (fun _ _ _ _ _ => pe_ix (r := rIxL K) ix_list (pe_ix (r := rIxL K) ix_list (pe_fldK (K := K) rfl (pv 0) rfl) (pv 3) (fun _ _ => rfl)) (pv 2) (fun _ _ => rfl))) pa_nil))), ?_⟩
    obtain ⟨dx, u, f1, d1, cl, cb, hx, hcb⟩ := pl.ob
    obtain ⟨R, tab⟩ := pl.ta
    refine ⟨_, rfl, m, rfl, p100 (lt_pow (lt100 (by omega) mb)), fun o H1 no s1 ho => ⟨o, rfl, ⟨_, .inl (.inl ho)⟩, fun D hD => ?_⟩⟩
    have ol : (onesL m).length ≤ 100 := ones_len (lt100 (by omega) mb)
    have hx1 := s1 _ _ hx
    replace tab := tab.same s1
    refine lc_list (xs := iN (onesL m)) (fun i H' => ButD D H1 H' ∧ H' D = some (.lst ((((onesL m).take i).map fun b => tb (LeD n ds) M (M + 1) b a).map oV))) ⟨.start, upd_same⟩ (fun i H' _ hI => .inl (.inl (hI.1.new hD _ _ ho))) ?_ ?_
    · rintro i y H' hy ⟨b, h1⟩
      have s2 := b.new hD
      have hi : i < (onesL m).length := by
        have := (List.getElem?_eq_some_iff.mp hy).1
        rw [iN_len] at this
        exact this
      rw [iN_at hi] at hy
      obtain rfl := Option.some.inj hy
      have hoj : (onesL m)[i]? = some ((onesL m).getD i 0) := by rw [List.getD_eq_getElem?_getD, List.getElem?_eq_getElem hi]; rfl
      have gm := mb _ (mem_onesL.mp (List.mem_of_getElem? hoj))
      obtain ⟨ra, hra⟩ : ∃ ra, R[(onesL m).getD i 0]? = some ra := ⟨_, List.getElem?_eq_getElem (by rw [tab.len]; exact gm)⟩
      refine ⟨rfl, yes_ite ?_⟩
      refine ⟨_, rfl, x, C, dx, _, _, rfl, s2 _ _ hx1, k.T.cl, k.T.n_n, fPl_n .., _, rfl, nd, _, _, _, rfl, rfl, .inl (.inl (s2 _ _ tab.ob)), atI_nat (by rw [List.getElem?_map, hra]; rfl), _, rfl, ra, _, _, _, rfl, rfl, .inl (.inl (s2 _ _ (tab.row _ ra hra))), atI_nat (rowT_at an), ?_⟩
      refine ⟨_, h1, by rw [List.length_map, List.length_map, List.length_take, sizeLine_eq]; omega, b.put, ?_⟩
      rw [upd_same, List.take_succ, hoj, List.map_append, List.map_append]
      rfl
    · rintro H' ⟨b, h1⟩
      rw [iN_len, List.take_length] at h1
      exact ⟨D, _, rfl, h1, by rw [List.length_map]; omega, fun v H2 s2 lv => q v H2 (s1.trans ((b.new hD).trans s2)) lv⟩
end
end L2.K71
end

section
set_option Elab.async false
set_option linter.all false
set_option maxRecDepth 100000
set_option maxHeartbeats 4000000
namespace L2.K71
open PySem PySem.Spec PyProof.Rows L2.Gd L2.Lv
/-! ### what the least needs mean -/
theorem least_tb {S : Nat → Prop} {F : Nat → Nat → Prop} {T : Nat → Option Nat} (h1 : ∀ c k, T c = some k → F k c ∧ ∀ j, F j c → k ≤ j) (h2 : ∀ c, T c = none → ∀ j, ¬ F j c) {m : Nat} (hS : ∀ c, m.testBit c = true ↔ S c) {v : Option Nat} (h : Least ((onesL m).map T) v) :
    ∀ k, (∃ c, S c ∧ F k c) → ∃ j, v = some j ∧ j ≤ k := by
  rintro k ⟨c, hc, hf⟩
  have mem : T c ∈ (onesL m).map T := List.mem_map.mpr ⟨c, mem_onesL.mpr ((hS c).mpr hc), rfl⟩
  cases e : T c with
  | none => exact absurd hf (h2 c e k)
  | some k' =>
    rw [e] at mem
    have le := (h1 c k' e).2 k hf
    cases v with
    | none => exact absurd mem (h k')
    | some j => exact ⟨j, rfl, Nat.le_trans (h.2 k' mem) le⟩
theorem least_tb2 {S : Nat → Prop} {F : Nat → Nat → Prop} {T : Nat → Option Nat} (h1 : ∀ c k, T c = some k → F k c ∧ ∀ j, F j c → k ≤ j) {m : Nat} (hS : ∀ c, m.testBit c = true ↔ S c) {j : Nat} (h : Least ((onesL m).map T) (some j)) : ∃ c, S c ∧ F j c := by
  obtain ⟨c, hc, e⟩ := List.mem_map.mp h.1
  exact ⟨c, (hS c).mp (mem_onesL.mp hc), (h1 c j e).1⟩
section
variable {n M : Nat} {U F D : Rl}
theorem tb_full (i : In n F) (st : Stops (Le n U F D) M) {a b k : Nat} (h : tb (Le n U F D) M (M + 1) a b = some k) : Le n U F D k a b ∧ ∀ j, Le n U F D j a b → k ≤ j := by
  obtain ⟨h1, h2, _, h4⟩ := tb_some (M + 1) (Nat.le_refl _) h
  refine ⟨h1, fun j hj => ?_⟩
  by_cases c : j ≤ M
  · exact h4 j (by omega) c hj
  · omega
theorem tb_full0 (st : Stops (Le n U F D) M) {a b : Nat} (h : tb (Le n U F D) M (M + 1) a b = none) : ∀ j, ¬ Le n U F D j a b := by
  intro j hj
  by_cases c : j ≤ M
  · exact tb_none (M + 1) (Nat.le_refl _) h j (by omega) c hj
  · have := (le_stop st (j - M) a b).mp (by rw [show M + (j - M) = j by omega]; exact hj)
    exact tb_none (M + 1) (Nat.le_refl _) h M (by omega) (Nat.le_refl _) this
/-- a going of this gain needs no more than k -/
def NeedP (n : Nat) (U F D : Rl) (a b : Nat) (i : Int) (k : Nat) : Prop :=
  if i < 0 then ∃ m, Pw (Cp (Gr n U F D) D) (-i).toNat a m ∧ Le n U F D k m b else ∃ m, Pw (Cp U (Gr n U F D)) i.toNat m b ∧ Le n U F D k a m
theorem need_mono (i : In n F) {a b : Nat} {g : Int} {j k : Nat} (l : j ≤ k) (h : NeedP n U F D a b g j) : NeedP n U F D a b g k := by
  unfold NeedP at h ⊢
  by_cases c : g < 0
  · rw [if_pos c] at h ⊢
    obtain ⟨m, h1, h2⟩ := h
    exact ⟨m, h1, le_mono i l _ _ h2⟩
  · rw [if_neg c] at h ⊢
    obtain ⟨m, h1, h2⟩ := h
    exact ⟨m, h1, le_mono i l _ _ h2⟩
def ExOk (n : Nat) (U F D : Rl) (a b : Nat) (i : Int) (v : Option Nat) : Prop := ∀ k, NeedP n U F D a b i k ↔ ∃ j, v = some j ∧ j ≤ k
theorem led_need {a b s e : Nat} : Led n U F D (a, s) (b, e) ↔ NeedP n U F D a b ((e : Int) - (s : Int)) (min s e) := by
  unfold Led NeedP
  by_cases c : (e : Int) - (s : Int) < 0
  · rw [if_pos c, show min s e = e by omega]
    constructor
    · rintro (⟨d, h, _⟩ | ⟨d, h, m, h1, h2⟩)
      · have h : e = s + d := h
        omega
      · have h : s = e + d := h
        refine ⟨m, ?_, h2⟩
        rw [show (-((e : Int) - (s : Int))).toNat = d by omega]
        exact h1
    · rintro ⟨m, h1, h2⟩
      exact .inr ⟨(-((e : Int) - (s : Int))).toNat, by show s = e + _; omega, m, h1, h2⟩
  · rw [if_neg c, show min s e = s by omega]
    constructor
    · rintro (⟨d, h, m, h1, h2⟩ | ⟨d, h, m, h1, h2⟩)
      · have h : e = s + d := h
        refine ⟨m, ?_, h1⟩
        rw [show ((e : Int) - (s : Int)).toNat = d by omega]
        exact h2
      · have h : s = e + d := h
        obtain rfl : d = 0 := by omega
        obtain rfl : s = e := by omega
        have h1 : a = m := h1
        subst h1
        refine ⟨b, ?_, h2⟩
        rw [show ((s : Int) - (s : Int)).toNat = 0 by omega]
        exact rfl
    · rintro ⟨m, h1, h2⟩
      exact .inl ⟨((e : Int) - (s : Int)).toNat, by show e = s + _; omega, m, h2, h1⟩
end
section
variable {X : Cx} {C : Addr} {x : Str} {k : Nat} {ps : List Str} {sp : Sp} {o e : Expr} {es : List Expr} {ta : TE} {t : TA} {apos pos : Pos}
theorem pe_mP {pl : Sem Bool} (M : MeH X.prog X.w X.K X.mg X.base C x k ps sp) (T : Cls X.K C) (hr : Room k X.A) (he : PE X o ta) (ha : PA X (e :: es) t)
    (hst : starEach (e :: es) X.env = (false, eval e X.env) :: starEach es X.env := by rfl) (hpl : (backTo pos (starEach es X.env)).any (·.1) = false := by rfl)
    (ht : eval (.Call (.Attribute o x apos) (e :: es) [] pos) X.env = (do
      let ov ← eval o X.env
      standAt apos.atName
      let (f, first) ← holding [ov] (getMethod ov x pl)
      callWith pos f first (backTo pos (starEach (e :: es) X.env)) (backToKw pos (keywordEach [] X.env))) := by rfl) :
    PE X (.Call (.Attribute o x apos) (e :: es) [] pos) (tMeth C x sp [] E0 ta t) := by
  obtain ⟨f, fd, hm, b, F⟩ := M.ex
  exact pe_meth he T hm F hr b .nil pass0 ha hst hpl ht
end
section
variable {P : Program} {w : World} {K : PySem.W.Frag} {mg : Str → Option Value} {base : Heap} {C C2 : Addr}
/-! ### extra -/
abbrev ExD (n : Nat) (ds : List Dd) (a b : Nat) (i : Int) (v : Option Nat) : Prop := ExOk n (Dl ds 1) (Dl ds 0) (Dl ds (-1)) a b i v
def spEx (C : Addr) : Sp := fun vs H Q _ => ∃ (x : Addr) (a b : Nat) (i : Int) (n : Nat) (ds : List Dd) (g nd dr ot fr : Addr) (ldr lcb : List Nat) (M : Nat), vs = [.ref x, .int a, .int b, .int i] ∧ a < n ∧ b < n ∧ n ≤ 16 ∧ (∀ d ∈ ds, d.Ok (n : Int)) ∧ PlnAt C H x n ds g nd dr ot fr ldr lcb M ∧
  ∀ v H', Fr ot fr H H' → PlnAt C H' x n ds g nd dr ot fr ldr lcb M → ExD n ds a b i v → Q (oV v) H'
structure PmK (P : Program) (w : World) (K : PySem.W.Frag) (mg : Str → Option Value) (base : Heap) (C : Addr) : Prop where
  n : Nm mg
  cl : Cls K C
  oa : Fn P w K mg base 1 "orbit_at" ["orbit", "steps"] spOat
  ct : MeH P w K mg base C "climbs_to" 4 ["self", "goal"] (spCt C)
  df : MeH P w K mg base C "drops_from" 4 ["self", "place"] (spDf C)
  na : MeH P w K mg base C "need_among" 2 ["self", "place", "goals"] (spNa C)
  nf : MeH P w K mg base C "need_from" 2 ["self", "places", "goal"] (spNf C)
theorem scEx : FnScope ["self", "place", "goal", "gain"] ["self", "place", "goal", "gain"] (defScope (cPl 5)) := ⟨rfl, rfl, rfl, by decide +kernel, rfl, by decide +kernel, by decide +kernel⟩
theorem ok_ex {f : Addr} {fd : FuncData} (F : Fun K "extra" "Plains.extra" (cPl 5) f fd) (k : PmK P w K mg base C) : FnOk P w K mg base CX0 5 f fd ["self", "place", "goal", "gain"] (spEx C) := by
  refine F.ok scEx (fun vs H Q E h => ?_) (fun cdv A outer s H vs Q E hr h => ?_)
  · obtain ⟨x, a, b, i, n, ds, g, nd, dr, ot, fr, ldr, lcb, M, rfl, _⟩ := h
    rfl
  · obtain ⟨x, a, b, i, n, ds, g, nd, dr, ot, fr, ldr, lcb, M, rfl, an, bn, n16, ok, pl, q⟩ := h
    have N := scEx.nd
    have r1 := hr.mono (k := 4) (j := 1) (by decide)
    have r2 := hr.mono (k := 4) (j := 2) (by decide)
    refine ⟨_, pss_cons (ps_if (pt_cmpR op_lt (pv 3) pe_int (nomark _)) (pss_one (ps_ret (pe_mP k.nf k.cl r2 (pv 0) (pa_cons (pe_fn k.oa r1 (pa_cons (pe_mP k.df k.cl hr (pv 0) (pa_cons (pv 1) pa_nil)) (pa_cons (pe_op op_sub pe_int (pv 3)) pa_nil))) (pa_cons (pv 2) pa_nil))))) pss_nil)
      (pss_one (ps_ret (pe_mP k.na k.cl r2 (pv 0) (pa_cons (pv 1) (pa_cons (pe_fn k.oa r1 (pa_cons (pe_mP k.ct k.cl hr (pv 0) (pa_cons (pv 2) pa_nil)) (pa_cons (pv 3) pa_nil))) pa_nil))))), ?_⟩
    obtain ⟨dx, u, f1, d1, cl, cb, hx, hcb⟩ := pl.ob
    obtain ⟨gx, gys, hg, ms, le⟩ := id pl.gr
    have hF := Dl.inn ok 0
    have st := le.stop
    have bits : ∀ {l : List Nat} {r : Rl} {c : Nat}, Rep n l r → In n r → c < n → (∀ j y, (orb l (2 ^ c) j).testBit y = true ↔ Pw r j c y) ∧ ∀ j y, (orb l (2 ^ c) j).testBit y = true → y < n := fun {l r c} rp ir hc => by
      have low : ∀ y, (2 ^ c).testBit y = true → y < n := fun y hy => by
        rw [Nat.testBit_two_pow] at hy
        have := of_decide_eq_true hy
        omega
      refine ⟨fun j y => ?_, orb_low rp ir low⟩
      rw [orb_bit rp ir j y]
      constructor
      · rintro ⟨z, h1, h2⟩
        rw [Nat.testBit_two_pow] at h1
        have := of_decide_eq_true h1
        subst this
        exact h2
      · intro h
        exact ⟨c, by rw [Nat.testBit_two_pow]; exact decide_eq_true rfl, h⟩
    refine ⟨_, rfl, _, _, rfl, rfl, decide (i < 0), rfl, ?_⟩
    by_cases c : i < 0
    · rw [decide_eq_true c]
      refine iteT ⟨_, rfl, x, dx, _, rfl, hx, fPl_need_from .., _, rfl, x, dx, _, rfl, hx, fPl_drops_from .., _, rfl, x, a, n, ds, g, nd, dr, ot, fr, ldr, lcb, M, rfl, an, n16, ok, pl, fun t H1 f1' pl1 ho => ?_⟩
      refine ⟨_, rfl, _, _, rfl, rfl, t, ldr, 2 ^ a, (-i).toNat, ?_, ho, ?_⟩
      · show [V.ref t, V.int (0 - i)] ++ [] = [V.ref t, V.int (((-i).toNat : Nat) : Int)]
        rw [show (((-i).toNat : Nat) : Int) = 0 - i by omega]
        rfl
      obtain ⟨b1, b2⟩ := bits pl.rdr (gr_in.cp (Dl.inn ok (-1))) an
      refine ⟨_, rfl, x, b, orb ldr (2 ^ a) (-i).toNat, n, ds, g, nd, dr, ot, fr, ldr, lcb, M, rfl, bn, n16, b2 _, pl1, fun v H2 s2 lv => q v H2 (f1'.trans (Fr.of s2)) (pl1.same s2) fun k => ?_⟩
      have T1 := fun y k (e : tb (LeD n ds) M (M + 1) y b = some k) => tb_full hF st e
      constructor
      · intro hk
        unfold NeedP at hk
        rw [if_pos c] at hk
        exact least_tb (S := Pw (Cp (gG n ds) (gD ds)) (-i).toNat a) (F := fun k y => LeD n ds k y b) T1 (fun y e => tb_full0 st e) (b1 _) lv k hk
      · rintro ⟨j, rfl, jk⟩
        refine need_mono hF jk ?_
        unfold NeedP
        rw [if_pos c]
        exact least_tb2 (S := Pw (Cp (gG n ds) (gD ds)) (-i).toNat a) (F := fun k y => LeD n ds k y b) T1 (b1 _) lv
    · rw [decide_eq_false c]
      refine iteF ⟨_, rfl, x, dx, _, rfl, hx, fPl_need_among .., _, rfl, _, rfl, x, dx, _, rfl, hx, fPl_climbs_to .., _, rfl, x, b, n, ds, g, nd, dr, ot, fr, ldr, lcb, M, rfl, bn, n16, ok, pl, fun t H1 f1' pl1 ho => ?_⟩
      refine ⟨_, rfl, t, lcb, 2 ^ b, i.toNat, ?_, ho, ?_⟩
      · show [V.ref t, V.int i] ++ [] = [V.ref t, V.int ((i.toNat : Nat) : Int)]
        rw [show ((i.toNat : Nat) : Int) = i by omega]
        rfl
      obtain ⟨b1, b2⟩ := bits pl.rcb (tr_in ((Dl.inn ok 1).cp gr_in)) bn
      refine ⟨x, a, orb lcb (2 ^ b) i.toNat, n, ds, g, nd, dr, ot, fr, ldr, lcb, M, rfl, an, n16, b2 _, pl1, fun v H2 s2 lv => q v H2 (f1'.trans (Fr.of s2)) (pl1.same s2) fun k => ?_⟩
      have b1' : ∀ y, (orb lcb (2 ^ b) i.toNat).testBit y = true ↔ Pw (Cp (gU ds) (gG n ds)) i.toNat y b := fun y => (b1 _ y).trans ⟨pw_tr (fun _ _ h => h) _, pw_tr (fun _ _ h => h) _⟩
      have T1 := fun y k (e : tb (LeD n ds) M (M + 1) a y = some k) => tb_full hF st e
      constructor
      · intro hk
        unfold NeedP at hk
        rw [if_neg c] at hk
        exact least_tb (S := fun y => Pw (Cp (gU ds) (gG n ds)) i.toNat y b) (F := fun k y => LeD n ds k a y) T1 (fun y e => tb_full0 st e) b1' lv k hk
      · rintro ⟨j, rfl, jk⟩
        refine need_mono hF jk ?_
        unfold NeedP
        rw [if_neg c]
        exact least_tb2 (S := fun y => Pw (Cp (gU ds) (gG n ds)) i.toNat y b) (F := fun k y => LeD n ds k a y) T1 b1' lv
end
end L2.K71
end

section
set_option Elab.async false
set_option linter.all false
set_option maxRecDepth 100000
set_option maxHeartbeats 4000000
namespace L2.K71
open PySem PySem.Spec PyProof.Rows L2.Gd L2.Lv
section
variable {P : Program} {w : World} {K : PySem.W.Frag} {mg : Str → Option Value} {base : Heap} {C C2 : Addr}
/-! ### least_start, leads -/
def lsV (i : Int) : Option Nat → V
  | none => .non
  | some k => .int ((k : Int) + (if 0 - i > 0 then 0 - i else 0))
def spLs (C : Addr) : Sp := fun vs H Q _ => ∃ (x : Addr) (a b : Nat) (i : Int) (n : Nat) (ds : List Dd) (g nd dr ot fr : Addr) (ldr lcb : List Nat) (M : Nat), vs = [.ref x, .int a, .int b, .int i] ∧ a < n ∧ b < n ∧ n ≤ 16 ∧ (∀ d ∈ ds, d.Ok (n : Int)) ∧ PlnAt C H x n ds g nd dr ot fr ldr lcb M ∧
  ∀ v H', Fr ot fr H H' → PlnAt C H' x n ds g nd dr ot fr ldr lcb M → ExD n ds a b i v → Q (lsV i v) H'
theorem scLs : FnScope ["self", "place", "goal", "gain", "extra"] ["self", "place", "goal", "gain"] (defScope (cPl 6)) := ⟨rfl, rfl, rfl, by decide +kernel, rfl, by decide +kernel, by decide +kernel⟩
theorem ok_ls {f : Addr} {fd : FuncData} (F : Fun K "least_start" "Plains.least_start" (cPl 6) f fd) (n : Nm mg) (cc : Cls K C) (EX : MeH P w K mg base C "extra" 5 ["self", "place", "goal", "gain"] (spEx C)) : FnOk P w K mg base CX0 6 f fd ["self", "place", "goal", "gain"] (spLs C) := by
  refine F.ok scLs (fun vs H Q E h => ?_) (fun cdv A outer s H vs Q E hr h => ?_)
  · obtain ⟨x, a, b, i, n, ds, g, nd, dr, ot, fr, ldr, lcb, M, rfl, _⟩ := h
    rfl
  · obtain ⟨x, a, b, i, m, ds, g, nd, dr, ot, fr, ldr, lcb, M, rfl, an, bn, n16, ok, pl, q⟩ := h
    have N := scLs.nd
    refine ⟨_, pss_cons (ps_set (i := 4) N rfl (.inl rfl) (pe_mP EX cc hr (pv 0) (pa_cons (pv 1) (pa_cons (pv 2) (pa_cons (pv 3) pa_nil)))))
      (pss_one (ps_ret (pe_ifExp (pt_cmp (pc_isN (pv 4))) pe_non (pe_op op_add (pv 4) (pe_callB (call_max2 rfl) (by rfl) n.max (by decide +kernel) (pa_cons pe_int (pa_cons (pe_op op_sub pe_int (pv 3)) pa_nil))))))), ?_⟩
    obtain ⟨dx, u, f1, d1, cl, cb, hx, hcb⟩ := pl.ob
    refine ⟨_, rfl, x, dx, _, rfl, hx, fPl_extra .., _, rfl, _, rfl, _, rfl, x, a, b, i, m, ds, g, nd, dr, ot, fr, ldr, lcb, M, rfl, an, bn, n16, ok, pl, fun v H1 f1' pl1 ex => ?_⟩
    cases v with
    | none => exact ⟨_, rfl, true, rfl, iteT (q none H1 f1' pl1 ex)⟩
    | some k => exact ⟨_, rfl, false, rfl, iteF ⟨_, rfl, _, rfl, _, _, rfl, rfl, _, _, rfl, _, _, rfl, rfl, q (some k) H1 f1' pl1 ex⟩⟩
def spPl (C : Addr) : Sp := fun vs H Q _ => ∃ (x : Addr) (a s b e n : Nat) (ds : List Dd) (g nd dr ot fr : Addr) (ldr lcb : List Nat) (M : Nat), vs = [.ref x, .int a, .int s, .int b, .int e] ∧ a < n ∧ b < n ∧ n ≤ 16 ∧ (∀ d ∈ ds, d.Ok (n : Int)) ∧ PlnAt C H x n ds g nd dr ot fr ldr lcb M ∧
  ∀ v H', Fr ot fr H H' → PlnAt C H' x n ds g nd dr ot fr ldr lcb M → (v = true ↔ Led n (Dl ds 1) (Dl ds 0) (Dl ds (-1)) (a, s) (b, e)) → Q (.bl v) H'
theorem scPl2 : FnScope ["self", "place", "start", "goal", "end", "need"] ["self", "place", "start", "goal", "end"] (defScope (cPl 7)) := ⟨rfl, rfl, rfl, by decide +kernel, rfl, by decide +kernel, by decide +kernel⟩
theorem ok_pll {f : Addr} {fd : FuncData} (F : Fun K "leads" "Plains.leads" (cPl 7) f fd) (n : Nm mg) (cc : Cls K C) (LS : MeH P w K mg base C "least_start" 6 ["self", "place", "goal", "gain"] (spLs C)) : FnOk P w K mg base CX0 7 f fd ["self", "place", "start", "goal", "end"] (spPl C) := by
  refine F.ok scPl2 (fun vs H Q E h => ?_) (fun cdv A outer s H vs Q E hr h => ?_)
  · obtain ⟨x, a, st, b, e, n, ds, g, nd, dr, ot, fr, ldr, lcb, M, rfl, _⟩ := h
    rfl
  · obtain ⟨x, a, st, b, e, m, ds, g, nd, dr, ot, fr, ldr, lcb, M, rfl, an, bn, n16, ok, pl, q⟩ := h
    have N := scPl2.nd
    refine ⟨_, pss_cons (ps_set (i := 5) N rfl (.inl rfl) (pe_mP LS cc hr (pv 0) (pa_cons (pv 1) (pa_cons (pv 3) (pa_cons (pe_op op_sub (pv 4) (pv 2)) pa_nil)))))
      (pss_one (ps_ret (pe_and (pe_cmp (pc_notN (pv 5))) (pe_one (pe_cmpR op_le (pv 5) (pv 2) (nomark _)))))), ?_⟩
    obtain ⟨dx, u, f1, d1, cl, cb, hx, hcb⟩ := pl.ob
    refine ⟨_, rfl, x, dx, _, rfl, hx, fPl_least_start .., _, rfl, _, rfl, _, rfl, _, rfl, _, _, rfl, rfl, x, a, b, (e : Int) - (st : Int), m, ds, g, nd, dr, ot, fr, ldr, lcb, M, rfl, an, bn, n16, ok, pl, fun v H1 f1' pl1 ex => ?_⟩
    have ln : Led m (Dl ds 1) (Dl ds 0) (Dl ds (-1)) (a, st) (b, e) ↔ ∃ j, v = some j ∧ j ≤ min st e := led_need.trans (ex _)
    cases v with
    | none =>
      refine ⟨_, rfl, false, rfl, iteF (q false H1 f1' pl1 ⟨(fun z => nomatch z), fun z => ?_⟩)⟩
      obtain ⟨j, z, _⟩ := ln.mp z
      exact nomatch z
    | some k =>
      refine ⟨_, rfl, true, rfl, iteT ⟨_, rfl, _, rfl, _, _, rfl, rfl, q _ H1 f1' pl1 ?_⟩⟩
      rw [decide_eq_true_eq, ln]
      constructor
      · intro z
        refine ⟨k, rfl, ?_⟩
        split at z <;> omega
      · rintro ⟨j, z, l⟩
        obtain rfl := Option.some.inj z
        split <;> omega
end
end L2.K71
end

section
set_option Elab.async false
set_option linter.all false
set_option maxRecDepth 100000
set_option maxHeartbeats 4000000
namespace L2.K71
open PySem PySem.Spec PyProof.Rows L2.Gd L2.Lv
section
variable {P : Program} {w : World} {K : PySem.W.Frag} {mg : Str → Option Value} {base : Heap} {C : Addr}
/-- the deeds of one change that may be done at any number -/
def De (ds : List Dd) (c : Int) : Rl := fun a b => ∃ d ∈ ds, d.p = (a : Int) ∧ d.g = (b : Int) ∧ d.c = c ∧ d.w = "empty"
def isEm (d : Dd) : Bool := decide (d.w = "empty")
theorem emE (d : Dd) : decide (V.str d.w = V.str "empty") = isEm d := by
  unfold isEm
  rw [Bool.eq_iff_iff]
  simp
def isCe (c : Int) (d : Dd) : Bool := decide (d.c = c) && isEm d
def prE (c : Int) (d : Dd) : Option (Nat × Nat) := if isCe c d = true then some (d.p.toNat, d.g.toNat) else none
theorem isEm_w (d : Dd) : isEm d = true ↔ d.w = "empty" := decide_eq_true_iff
theorem De.inn {n : Nat} {ds : List Dd} (ok : ∀ d ∈ ds, d.Ok n) (c : Int) : In n (De ds c) := fun a b ⟨d, hd, e1, e2, _⟩ => by
  have o := ok d hd
  have := o.pn
  have := o.gn
  omega
theorem mem_pre {n : Int} {ds : List Dd} (ok : ∀ d ∈ ds, d.Ok n) (c : Int) (a b : Nat) : (a, b) ∈ ds.filterMap (prE c) ↔ De ds c a b := by
  rw [List.mem_filterMap]
  constructor
  · rintro ⟨d, hd, e⟩
    unfold prE at e
    split at e
    · rename_i q
      have o := ok d hd
      have := o.p0
      have := o.g0
      obtain ⟨q1, q2⟩ := Bool.and_eq_true_iff.mp q
      obtain ⟨e1, e2⟩ := Prod.mk.inj (Option.some.inj e)
      exact ⟨d, hd, by omega, by omega, of_decide_eq_true q1, (isEm_w d).mp q2⟩
    · exact nomatch e
  · rintro ⟨d, hd, e1, e2, e3, e4⟩
    refine ⟨d, hd, ?_⟩
    unfold prE
    rw [if_pos (show isCe c d = true by unfold isCe; rw [decide_eq_true e3, (isEm_w d).mpr e4]; rfl), e1, e2]
    rfl
def spDRe (C : Addr) : Sp := fun vs H Q _ => ∃ (h l : Addr) (n : Nat) (c : Int) (xs : List V) (ds : List Dd), vs = [.ref h, .int c, .str "empty"] ∧ HouseL C H h l n xs ds ∧ WF n ds ∧
  ∀ p H' y, H p = none → Same H H' → H' p = some (.lst (iN y)) → Rep n y (De ds c) → Q (.ref p) H'
def NDRe : List Str := ["house", "change", "when", "deed"]
theorem scDRe : FnScope NDRe ["house", "change", "when"] (defScope (top 31)) := ⟨rfl, rfl, rfl, by decide +kernel, rfl, by decide +kernel, by decide +kernel⟩
theorem ok_dre {f : Addr} {fd : FuncData} (F : Fun K "deed_relation" "deed_relation" (top 31) f fd) (T : ClsT K mg C) (PL : PrH P w K mg base C "places" (spPlaces C)) (DE : MeH P w K mg base C "deeds" 1 ["self"] (spDeeds C)) (GR : Fn P w K mg base 1 "relation_of" ["many", "pairs"] spRel) :
    FnOk P w K mg base CX0 3 f fd ["house", "change", "when"] (spDRe C) := by
  refine F.ok scDRe (fun vs H Q E h => ?_) (fun cdv A outer s H vs Q E hr h => ?_)
  · obtain ⟨h, l, n, c, xs, ds, rfl, _⟩ := h
    rfl
  · obtain ⟨h, l, n, c, xs, ds, rfl, hh, wf, q⟩ := h
    have N := scDRe.nd
    have r1 := hr.mono (k := 2) (j := 1) (by decide)
    obtain ⟨dx, ob⟩ := hh.ob
    refine ⟨_, pss_one (ps_ret (pe_fn GR r1 (pa_cons (pe_prH PL T hr (pv 0)) (pa_cons
      (pe_lc (own := [("deed", 3)]) (g := gName 3) rfl N (pi_list (pe_mH0 DE T r1 (pv 0))) (blkOk_by (N := NDRe) (sc := defScope (top 31)) (by decide +kernel)) (fun _ _ _ _ _ => pg_name (i := 3) N rfl (.inl rfl))
        (fun _ _ _ _ _ => pts_one (PW.pt (pw_and (pt_cmpR op_eq (pe_ix (r := rIxT K) ix_tup (pv 3) pe_int (fun _ _ => rfl)) (pv 1) (nomark _)) (pw_and1 (pt_cmpR op_eq (pe_ix (r := rIxT K) ix_tup (pv 3) pe_int (fun _ _ => rfl)) (pv 2) (nomark _))))))
        (fun _ _ _ _ _ => pe_tup (pa_cons (pe_ix (r := rIxT K) ix_tup (pv 3) pe_int (fun _ _ => rfl)) (pa_cons (pe_ix (r := rIxT K) ix_tup (pv 3) pe_int (fun _ _ => rfl)) pa_nil)))) pa_nil)))), ?_⟩
    refine ⟨_, rfl, h, dx, _, rfl, ob, h, dx, l, n, rfl, ob, ?_⟩
    refine ⟨_, rfl, h, dx, _, rfl, ob, flds_no _ _ (by decide +kernel) (by decide +kernel), h, l, n, xs, ds, rfl, hh, fun o ho => ?_⟩
    have s1 := same_upd (o := .lst xs) ho
    have hh1 := hh.same s1
    refine ⟨o, rfl, ⟨xs, .inl (.inl upd_same)⟩, fun D hD => ?_⟩
    refine lc_mapL (es := ds) (F := DdAt) (G := PrAt) (f := prE c) (stabP D) upd_same hD (Nat.le_trans (Nat.le_of_eq hh.lenE) (Nat.le_trans wf.len (by decide))) hh1.dd ?_ ?_
    · rintro x e H2 A B he ⟨t, rfl, ht⟩ b ⟨zs, hz⟩ hA hB
      have ht2 := b.new hD _ _ ht
      have ok := wf.ok e he
      obtain ⟨pp, hp⟩ : ∃ k : Nat, e.p = k := ⟨e.p.toNat, by have := ok.p0; omega⟩
      obtain ⟨gg, hg⟩ : ∃ k : Nat, e.g = k := ⟨e.g.toNat, by have := ok.g0; omega⟩
      refine ⟨rfl, ?_⟩
      have ec : decide (V.int e.c = V.int c) = decide (e.c = c) := by simp
      refine ⟨_, rfl, t, _, _, _, rfl, rfl, .inl (.inl ht2), rfl, _, rfl, rfl, decide (e.c = c), congrArg V.bl ec, ?_⟩
      by_cases h1 : e.c = c
      · rw [decide_eq_true h1]
        refine iteT ⟨_, rfl, t, _, _, _, rfl, rfl, .inl (.inl ht2), rfl, _, rfl, rfl, isEm e, congrArg V.bl (emE e), ?_⟩
        cases h2 : isEm e with
        | true =>
          refine iteT ⟨_, rfl, t, _, _, _, rfl, rfl, .inl (.inl ht2), rfl, _, rfl, t, _, _, _, rfl, rfl, .inl (.inl ht2), rfl, (by show 2 ≤ sizeLine; decide), fun p np => ?_⟩
          refine hA (pp, gg) _ _ ?_ (same_upd np) ⟨p, rfl, by rw [upd_same, hp, hg]⟩
          unfold prE
          rw [if_pos (show isCe c e = true by unfold isCe; rw [decide_eq_true h1, h2]; rfl), hp, hg]
          rfl
        | false =>
          refine iteF (hB H2 ?_ fun _ _ z => z)
          unfold prE
          rw [if_neg (show ¬ isCe c e = true by unfold isCe; rw [h2, Bool.and_false]; decide)]
      · rw [decide_eq_false h1]
        refine iteF (hB H2 ?_ fun _ _ z => z)
        unfold prE
        rw [if_neg (show ¬ isCe c e = true by unfold isCe; rw [decide_eq_false h1, Bool.false_and]; decide)]
    · intro ys H2 h1 h2 h3
      have s2 := s1.trans (h3.new hD)
      refine ⟨n, D, ys, _, rfl, by have := wf.m16; omega, h1, h2, fun p hp => ?_, fun p H' y np s' hy rp => q p H' y (s2.free np) (s2.trans s') hy (rp.iff (mem_pre wf.ok c))⟩
      exact De.inn wf.ok c p.1 p.2 ((mem_pre wf.ok c p.1 p.2).mp hp)
end
abbrev cTi (i : Nat) : Stmt := inClass (top 42) i
def fTi (px gd la li ho tu gb lb tb : Addr) : List (Str × V) := putF "_turns_back" (.ref tb) (putF "_lifting_back" (.ref lb) (putF "_ground_back" (.ref gb) (putF "turns" (.ref tu) (putF "_hops" (.ref ho) (putF "lifting" (.ref li) (putF "lasting" (.ref la) (putF "ground" (.ref gd) (putF "plains" (.ref px) []))))))))
theorem fTi_px (px gd la li ho tu gb lb tb : Addr) : (fTi px gd la li ho tu gb lb tb).lookup ("plains" : Str) = some (.ref px) := by
  unfold fTi
  rw [lookup_putF, if_neg (by decide +kernel), lookup_putF, if_neg (by decide +kernel), lookup_putF, if_neg (by decide +kernel), lookup_putF, if_neg (by decide +kernel), lookup_putF, if_neg (by decide +kernel), lookup_putF, if_neg (by decide +kernel), lookup_putF, if_neg (by decide +kernel), lookup_putF, if_neg (by decide +kernel), lookup_putF, if_pos rfl]
theorem fTi_gd (px gd la li ho tu gb lb tb : Addr) : (fTi px gd la li ho tu gb lb tb).lookup ("ground" : Str) = some (.ref gd) := by
  unfold fTi
  rw [lookup_putF, if_neg (by decide +kernel), lookup_putF, if_neg (by decide +kernel), lookup_putF, if_neg (by decide +kernel), lookup_putF, if_neg (by decide +kernel), lookup_putF, if_neg (by decide +kernel), lookup_putF, if_neg (by decide +kernel), lookup_putF, if_neg (by decide +kernel), lookup_putF, if_pos rfl]
theorem fTi_la (px gd la li ho tu gb lb tb : Addr) : (fTi px gd la li ho tu gb lb tb).lookup ("lasting" : Str) = some (.ref la) := by
  unfold fTi
  rw [lookup_putF, if_neg (by decide +kernel), lookup_putF, if_neg (by decide +kernel), lookup_putF, if_neg (by decide +kernel), lookup_putF, if_neg (by decide +kernel), lookup_putF, if_neg (by decide +kernel), lookup_putF, if_neg (by decide +kernel), lookup_putF, if_pos rfl]
theorem fTi_li (px gd la li ho tu gb lb tb : Addr) : (fTi px gd la li ho tu gb lb tb).lookup ("lifting" : Str) = some (.ref li) := by
  unfold fTi
  rw [lookup_putF, if_neg (by decide +kernel), lookup_putF, if_neg (by decide +kernel), lookup_putF, if_neg (by decide +kernel), lookup_putF, if_neg (by decide +kernel), lookup_putF, if_neg (by decide +kernel), lookup_putF, if_pos rfl]
theorem fTi_ho (px gd la li ho tu gb lb tb : Addr) : (fTi px gd la li ho tu gb lb tb).lookup ("_hops" : Str) = some (.ref ho) := by
  unfold fTi
  rw [lookup_putF, if_neg (by decide +kernel), lookup_putF, if_neg (by decide +kernel), lookup_putF, if_neg (by decide +kernel), lookup_putF, if_neg (by decide +kernel), lookup_putF, if_pos rfl]
theorem fTi_tu (px gd la li ho tu gb lb tb : Addr) : (fTi px gd la li ho tu gb lb tb).lookup ("turns" : Str) = some (.ref tu) := by
  unfold fTi
  rw [lookup_putF, if_neg (by decide +kernel), lookup_putF, if_neg (by decide +kernel), lookup_putF, if_neg (by decide +kernel), lookup_putF, if_pos rfl]
theorem fTi_gb (px gd la li ho tu gb lb tb : Addr) : (fTi px gd la li ho tu gb lb tb).lookup ("_ground_back" : Str) = some (.ref gb) := by
  unfold fTi
  rw [lookup_putF, if_neg (by decide +kernel), lookup_putF, if_neg (by decide +kernel), lookup_putF, if_pos rfl]
theorem fTi_lb (px gd la li ho tu gb lb tb : Addr) : (fTi px gd la li ho tu gb lb tb).lookup ("_lifting_back" : Str) = some (.ref lb) := by
  unfold fTi
  rw [lookup_putF, if_neg (by decide +kernel), lookup_putF, if_pos rfl]
theorem fTi_tb (px gd la li ho tu gb lb tb : Addr) : (fTi px gd la li ho tu gb lb tb).lookup ("_turns_back" : Str) = some (.ref tb) := by
  unfold fTi
  rw [lookup_putF, if_pos rfl]
theorem fTi_falls_to (px gd la li ho tu gb lb tb : Addr) : (fTi px gd la li ho tu gb lb tb).lookup ("falls_to" : Str) = none := by
  unfold fTi
  rw [lookup_putF, if_neg (by decide +kernel), lookup_putF, if_neg (by decide +kernel), lookup_putF, if_neg (by decide +kernel), lookup_putF, if_neg (by decide +kernel), lookup_putF, if_neg (by decide +kernel), lookup_putF, if_neg (by decide +kernel), lookup_putF, if_neg (by decide +kernel), lookup_putF, if_neg (by decide +kernel), lookup_putF, if_neg (by decide +kernel)]
  rfl
theorem fTi_rises_to (px gd la li ho tu gb lb tb : Addr) : (fTi px gd la li ho tu gb lb tb).lookup ("rises_to" : Str) = none := by
  unfold fTi
  rw [lookup_putF, if_neg (by decide +kernel), lookup_putF, if_neg (by decide +kernel), lookup_putF, if_neg (by decide +kernel), lookup_putF, if_neg (by decide +kernel), lookup_putF, if_neg (by decide +kernel), lookup_putF, if_neg (by decide +kernel), lookup_putF, if_neg (by decide +kernel), lookup_putF, if_neg (by decide +kernel), lookup_putF, if_neg (by decide +kernel)]
  rfl
theorem fTi_zeros_to (px gd la li ho tu gb lb tb : Addr) : (fTi px gd la li ho tu gb lb tb).lookup ("zeros_to" : Str) = none := by
  unfold fTi
  rw [lookup_putF, if_neg (by decide +kernel), lookup_putF, if_neg (by decide +kernel), lookup_putF, if_neg (by decide +kernel), lookup_putF, if_neg (by decide +kernel), lookup_putF, if_neg (by decide +kernel), lookup_putF, if_neg (by decide +kernel), lookup_putF, if_neg (by decide +kernel), lookup_putF, if_neg (by decide +kernel), lookup_putF, if_neg (by decide +kernel)]
  rfl
theorem fTi_leads (px gd la li ho tu gb lb tb : Addr) : (fTi px gd la li ho tu gb lb tb).lookup ("leads" : Str) = none := by
  unfold fTi
  rw [lookup_putF, if_neg (by decide +kernel), lookup_putF, if_neg (by decide +kernel), lookup_putF, if_neg (by decide +kernel), lookup_putF, if_neg (by decide +kernel), lookup_putF, if_neg (by decide +kernel), lookup_putF, if_neg (by decide +kernel), lookup_putF, if_neg (by decide +kernel), lookup_putF, if_neg (by decide +kernel), lookup_putF, if_neg (by decide +kernel)]
  rfl
/-- what is known of the class -/
structure ClsI (K : PySem.W.Frag) (mg : Str → Option Value) (C : Addr) : Prop where
  cl : Cls K C
  n_px : NoAttr K C "plains"
  n_gd : NoAttr K C "ground"
  n_la : NoAttr K C "lasting"
  n_li : NoAttr K C "lifting"
  n_ho : NoAttr K C "_hops"
  n_tu : NoAttr K C "turns"
  n_gb : NoAttr K C "_ground_back"
  n_lb : NoAttr K C "_lifting_back"
  n_tb : NoAttr K C "_turns_back"
  mgC : mg "Tills" = some (.ref C)
end L2.K71
end

section
/-! Lids, floors, strips: the mathematics. -/
set_option linter.all false
namespace L2.Lv
section
variable (n : Nat) (U F D : Rl)
/-- gain 0, never below, at most so much above -/
def Lid : Nat → Rl
  | 0 => Cl n F
  | k + 1 => Cl n (Or2 F (Cp (Cp U (Lid k)) D))
/-- gain 0 between so much below and so much above -/
def Band (l h : Nat) : Rl := Cl n (Or2 F (Or2 (fun a b => ∃ k, h = k + 1 ∧ Cp (Cp U (Lid n U F D k)) D a b) (fun a b => ∃ k, l = k + 1 ∧ Cp (Cp D (Lid n D F U k)) U a b)))
end
/-- a walk between two numbers -/
inductive Zw (U F D : Rl) (l h : Int) (a : Nat) : Nat → Int → Prop
  | start : Zw U F D l h a a 0
  | up {b c : Nat} {x : Int} : Zw U F D l h a b x → U b c → x + 1 ≤ h → Zw U F D l h a c (x + 1)
  | flat {b c : Nat} {x : Int} : Zw U F D l h a b x → F b c → Zw U F D l h a c x
  | down {b c : Nat} {x : Int} : Zw U F D l h a b x → D b c → l ≤ x - 1 → Zw U F D l h a c (x - 1)
section
variable {n : Nat} {U F D : Rl}
theorem lid_in : ∀ k, In n (Lid n U F D k)
  | 0 => Cl.inn
  | _ + 1 => Cl.inn
theorem lid_trans : ∀ (k : Nat) {a b c : Nat}, Lid n U F D k a b → Lid n U F D k b c → Lid n U F D k a c
  | 0, _, _, _, h, i => Cl.trans h i
  | _ + 1, _, _, _, h, i => Cl.trans h i
theorem lid_refl : ∀ (k : Nat) {a : Nat}, a < n → Lid n U F D k a a
  | 0, _, h => Cl.refl h
  | _ + 1, _, h => Cl.refl h
theorem lid_flat (i : In n F) : ∀ (k : Nat), Sub F (Lid n U F D k)
  | 0 => Cl.sub i
  | _ + 1 => fun a b h => ⟨(i a b h).1, (i a b h).2, .one (.inl h)⟩
theorem lid_uld (iu : In n U) (id : In n D) (k : Nat) : Sub (Cp (Cp U (Lid n U F D k)) D) (Lid n U F D (k + 1)) := fun a b h =>
  have ⟨y, ⟨x, h1, _⟩, h3⟩ := h
  ⟨(iu _ _ h1).1, (id _ _ h3).2, .one (.inr h)⟩
theorem lid_succ : ∀ k, Sub (Lid n U F D k) (Lid n U F D (k + 1))
  | 0 => Cl.mono fun _ _ z => .inl z
  | k + 1 => Cl.mono (Or2.mono (fun _ _ z => z) (Cp.mono (Cp.mono (fun _ _ z => z) (lid_succ k)) fun _ _ z => z))
theorem lid_le {j k : Nat} (h : j ≤ k) : Sub (Lid n U F D j) (Lid n U F D k) := by
  induction h with
  | refl => exact fun _ _ z => z
  | step _ ih => exact fun a b z => lid_succ _ a b (ih a b z)
theorem cl_iff {r s : Rl} (h : ∀ a b, r a b ↔ s a b) (a b : Nat) : Cl n r a b ↔ Cl n s a b := ⟨Cl.mono (fun a b => (h a b).mp) a b, Cl.mono (fun a b => (h a b).mpr) a b⟩
theorem cp3_iff {r s s' t : Rl} (h : ∀ a b, s a b ↔ s' a b) (a b : Nat) : Cp (Cp r s) t a b ↔ Cp (Cp r s') t a b :=
  ⟨Cp.mono (Cp.mono (fun _ _ z => z) fun a b => (h a b).mp) (fun _ _ z => z) a b, Cp.mono (Cp.mono (fun _ _ z => z) fun a b => (h a b).mpr) (fun _ _ z => z) a b⟩
/-- where two neighbours are alike, all behind are -/
theorem lid_stop {k : Nat} (h : Stops (Lid n U F D) k) : ∀ (j a b : Nat), Lid n U F D (k + j) a b ↔ Lid n U F D k a b
  | 0, _, _ => Iff.rfl
  | j + 1, a, b => by
    have step : ∀ a b, Lid n U F D (k + j + 1) a b ↔ Lid n U F D (k + 1) a b := cl_iff fun a b => or_congr Iff.rfl (cp3_iff (lid_stop h j) a b)
    exact (step a b).trans (h a b)
theorem lid_far {m k : Nat} (h : Stops (Lid n U F D) m) (mk : m ≤ k) (a b : Nat) : Lid n U F D k a b ↔ Lid n U F D m a b := by
  obtain ⟨j, rfl⟩ := Nat.exists_eq_add_of_le mk
  exact lid_stop h j a b
/-! ### turned -/
theorem lid_tr : ∀ (k : Nat) {a b : Nat}, Lid n U F D k a b → Lid n (Tr D) (Tr F) (Tr U) k b a
  | 0, _, _, h => cl_tr (fun _ _ z => z) h
  | k + 1, _, _, h => cl_tr (fun a b z => z.imp id fun z => cp3_tr (fun _ _ z => z) (fun a b z => lid_tr k z) (fun _ _ z => z) z) h
theorem lid_tr_iff (k a b : Nat) : Lid n (Tr D) (Tr F) (Tr U) k b a ↔ Lid n U F D k a b := ⟨fun h => lid_tr k h, fun h => lid_tr k h⟩
/-! ### how many there are -/
theorem lid_chain (n1 : 1 ≤ n) : ∃ m, m + 1 ≤ n * n ∧ Stops (Lid n U F D) m ∧ ∀ j, j < m → ¬ Stops (Lid n U F D) j := by
  obtain ⟨m, hm, st, no⟩ := chain (n := n) (f := Lid n U F D) lid_in lid_succ
  refine ⟨m, ?_, st, no⟩
  have key : ∀ j, j ≤ m → j + 1 ≤ cnt n (repOf n (Lid n U F D j)) := by
    intro j
    induction j with
    | zero =>
      intro _
      have r0 := repOf_ok (n := n) (lid_in (n := n) (U := U) (F := F) (D := D) 0)
      unfold cnt
      rw [Nat.add_comm, Nat.add_zero]
      refine List.countP_pos_iff.mpr ⟨(0, 0), mem_sq.mpr ⟨n1, n1⟩, ?_⟩
      exact (r0.bit 0 0).mpr (lid_refl 0 n1)
    | succ j ih =>
      intro hj
      have h1 := ih (by omega)
      have := cnt_lt (repOf_ok (lid_in (n := n) (U := U) (F := F) (D := D) j)) (repOf_ok (lid_in (n := n) (U := U) (F := F) (D := D) (j + 1))) (lid_in _) (lid_succ j) (fun e => no j (by omega) fun a b => ((repOf_ok (lid_in j)).ext (repOf_ok (lid_in (j + 1))) |>.mp e a b).symm)
      omega
  exact Nat.le_trans (key m (Nat.le_refl m)) (cnt_le n _)
/-! ### walks -/
theorem zw_low {l h : Int} {a b : Nat} {x : Int} (l0 : l ≤ 0) (h0 : 0 ≤ h) (w : Zw U F D l h a b x) : l ≤ x ∧ x ≤ h := by
  induction w with
  | start => exact ⟨l0, h0⟩
  | up _ _ e ih => omega
  | flat _ _ ih => exact ih
  | down _ _ e ih => omega
theorem zw_mir {l h : Int} {a b : Nat} {x : Int} (w : Zw U F D l h a b x) : Zw D F U (-h) (-l) a b (-x) := by
  induction w with
  | start => exact .start
  | @up b c x _ u e ih =>
    have := Zw.down ih u (by omega)
    rw [show -(x + 1) = -x - 1 by omega]
    exact this
  | flat _ f ih => exact .flat ih f
  | @down b c x _ u e ih =>
    have := Zw.up ih u (by omega)
    rw [show -(x - 1) = -x + 1 by omega]
    exact this
theorem zw_star {r : Rl} {l h : Int} {a : Nat} {x : Int} (H : ∀ b c, r b c → Zw U F D l h a b x → Zw U F D l h a c x) {b c : Nat} (k : Star r b c) : Zw U F D l h a b x → Zw U F D l h a c x := by
  induction k with
  | refl a => exact id
  | step z _ ih => exact fun w => ih (H _ _ z w)
theorem lid_zw {l h : Int} {a : Nat} (l0 : l ≤ 0) (h0 : 0 ≤ h) : ∀ (k : Nat) {b c : Nat} {x : Int}, x + k ≤ h → Lid n U F D k b c → Zw U F D l h a b x → Zw U F D l h a c x
  | 0, _, _, _, _, t, w => zw_star (fun _ _ f w => .flat w f) t.2.2 w
  | k + 1, _, _, x, e, t, w => by
    have e : x + (k + 1 : Int) ≤ h := e
    refine zw_star (fun b c z w => ?_) t.2.2 w
    rcases z with f | ⟨q, ⟨p, u, t⟩, d⟩
    · exact .flat w f
    · have lo := (zw_low l0 h0 w).1
      have w2 := Zw.down (lid_zw l0 h0 k (by omega) t (Zw.up w u (by omega))) d (by omega)
      rw [show x + 1 - 1 = x by omega] at w2
      exact w2
/-- a band is walked -/
theorem band_zw {l h a b : Nat} (k : Band n U F D l h a b) : Zw U F D (-(l : Int)) h a b 0 := by
  refine zw_star (fun b c z w => ?_) k.2.2 .start
  rcases z with f | ⟨k, e, q, ⟨p, u, t⟩, d⟩ | ⟨k, e, q, ⟨p, u, t⟩, d⟩
  · exact .flat w f
  · have w2 := Zw.down (lid_zw (by omega) (by omega) k (by omega) t (Zw.up w u (by omega))) d (by omega)
    exact w2
  · have w1 := Zw.down w u (by omega)
    have w2 := zw_mir (lid_zw (by omega) (by omega) k (by omega) t (zw_mir w1))
    have w3 := Zw.up w2 d (by omega)
    have e1 : -(-(0 - 1) : Int) + 1 = 0 := by omega
    rw [e1] at w3
    have e2 : (-(-(-(l : Int)))) = -(l : Int) := by omega
    have e3 : (-(-(h : Int))) = (h : Int) := by omega
    rw [e2, e3] at w3
    exact w3
/-- how it goes above (and, the other way round, below) what it began with -/
def Upw (n : Nat) (U F D B : Rl) (h a : Nat) : Nat → Nat → Prop
  | 0, c => B a c
  | d + 1, c => ∃ e f, Upw n U F D B h a d e ∧ U e f ∧ d + 1 ≤ h ∧ Lid n U F D (h - (d + 1)) f c
variable {B : Rl} {h a : Nat}
theorem upw_flat (i : In n F) (bf : ∀ a b c, B a b → F b c → B a c) : ∀ (d : Nat) {c e : Nat}, Upw n U F D B h a d c → F c e → Upw n U F D B h a d e
  | 0, _, _, w, f => bf _ _ _ w f
  | _ + 1, _, _, ⟨e, f, w, u, l, t⟩, g => ⟨e, f, w, u, l, lid_trans _ t (lid_flat i _ _ _ g)⟩
theorem upw_up (iu : In n U) {d c e : Nat} (w : Upw n U F D B h a d c) (u : U c e) (l : d + 1 ≤ h) : Upw n U F D B h a (d + 1) e := ⟨c, e, w, u, l, lid_refl _ (iu _ _ u).2⟩
theorem upw_down (iu : In n U) (id : In n D) (bp : ∀ a b c k, h = k + 1 → B a b → Cp (Cp U (Lid n U F D k)) D b c → B a c) : ∀ (d : Nat) {c e : Nat}, Upw n U F D B h a (d + 1) c → D c e → Upw n U F D B h a d e
  | 0, _, _, ⟨e, f, w, u, l, t⟩, g => bp _ _ _ (h - 1) (by omega) w ⟨_, ⟨f, u, t⟩, g⟩
  | d + 1, _, _, ⟨e, f, ⟨e2, f2, w, u2, l2, t2⟩, u, l, t⟩, g => ⟨e2, f2, w, u2, l2, lid_trans _ t2 (by
    have := lid_uld (F := F) iu id (h - (d + 1 + 1)) _ _ ⟨_, ⟨f, u, t⟩, g⟩
    rw [show h - (d + 1 + 1) + 1 = h - (d + 1) by omega] at this
    exact this)⟩
theorem zw_told (iu : In n U) (i : In n F) (id : In n D) {l h a c : Nat} {x : Int} (ha : a < n) (w : Zw U F D (-(l : Int)) h a c x) :
    (∃ d : Nat, x = d ∧ Upw n U F D (Band n U F D l h) h a d c) ∨ (∃ d : Nat, x = -(d : Int) ∧ Upw n D F U (Band n U F D l h) l a d c) := by
  have bf : ∀ a b c, Band n U F D l h a b → F b c → Band n U F D l h a c := fun a b c p q => Cl.trans p ⟨(i _ _ q).1, (i _ _ q).2, .one (.inl q)⟩
  have bp : ∀ a b c k, h = k + 1 → Band n U F D l h a b → Cp (Cp U (Lid n U F D k)) D b c → Band n U F D l h a c := fun a b c k e p q =>
    have ⟨_, ⟨_, q1, _⟩, q3⟩ := q
    Cl.trans p ⟨(iu _ _ q1).1, (id _ _ q3).2, .one (.inr (.inl ⟨k, e, q⟩))⟩
  have bq : ∀ a b c k, l = k + 1 → Band n U F D l h a b → Cp (Cp D (Lid n D F U k)) U b c → Band n U F D l h a c := fun a b c k e p q =>
    have ⟨_, ⟨_, q1, _⟩, q3⟩ := q
    Cl.trans p ⟨(id _ _ q1).1, (iu _ _ q3).2, .one (.inr (.inr ⟨k, e, q⟩))⟩
  induction w with
  | start => exact .inl ⟨0, rfl, Cl.refl ha⟩
  | flat _ f ih =>
    rcases ih with ⟨d, e, w⟩ | ⟨d, e, w⟩
    · exact .inl ⟨d, e, upw_flat i bf d w f⟩
    · exact .inr ⟨d, e, upw_flat i bf d w f⟩
  | @up b c x _ u le ih =>
    rcases ih with ⟨d, e, w⟩ | ⟨d, e, w⟩
    · exact .inl ⟨d + 1, by omega, upw_up iu w u (by omega)⟩
    · match d, e, w with
      | 0, e, w => exact .inl ⟨1, by omega, upw_up (d := 0) iu w u (by omega)⟩
      | d + 1, e, w => exact .inr ⟨d, by omega, upw_down id iu bq d w u⟩
  | @down b c x _ u le ih =>
    rcases ih with ⟨d, e, w⟩ | ⟨d, e, w⟩
    · match d, e, w with
      | 0, e, w => exact .inr ⟨1, by omega, upw_up (d := 0) id w u (by omega)⟩
      | d + 1, e, w => exact .inl ⟨d, by omega, upw_down iu id bp d w u⟩
    · exact .inr ⟨d + 1, by omega, upw_up id w u (by omega)⟩
/-- a band is what is walked between the two numbers -/
theorem band_iff (iu : In n U) (i : In n F) (id : In n D) {l h a b : Nat} (ha : a < n) : Band n U F D l h a b ↔ Zw U F D (-(l : Int)) h a b 0 := by
  refine ⟨band_zw, fun w => ?_⟩
  rcases zw_told iu i id ha w with ⟨d, e, w⟩ | ⟨d, e, w⟩
  · obtain rfl : d = 0 := by omega
    exact w
  · obtain rfl : d = 0 := by omega
    exact w
/-- a lid is a band with nothing below -/
theorem lid_band (k a b : Nat) : Lid n U F D k a b ↔ Band n U F D 0 k a b := by
  cases k with
  | zero => exact cl_iff (fun a b => ⟨fun f => .inl f, fun z => by
      rcases z with f | ⟨k, e, _⟩ | ⟨k, e, _⟩
      · exact f
      · exact absurd e (by omega)
      · exact absurd e (by omega)⟩) a b
  | succ k => exact cl_iff (fun a b => ⟨fun z => z.imp id fun z => .inl ⟨k, rfl, z⟩, fun z => by
      rcases z with f | ⟨j, e, z⟩ | ⟨j, e, _⟩
      · exact .inl f
      · obtain rfl : j = k := by omega
        exact .inr z
      · exact absurd e (by omega)⟩) a b
theorem band_mir (l h a b : Nat) : Band n D F U h l a b ↔ Band n U F D l h a b := cl_iff (fun a b => or_congr Iff.rfl or_comm) a b
/-- great numbers tell no more -/
theorem band_far {m j l h l' h' : Nat} (s : Stops (Lid n U F D) m) (t : Stops (Lid n D F U) j) (hm : m + 1 ≤ h) (hm' : m + 1 ≤ h') (hj : j + 1 ≤ l) (hj' : j + 1 ≤ l') (a b : Nat) : Band n U F D l h a b ↔ Band n U F D l' h' a b := by
  have key : ∀ {V W : Rl} {m h h' : Nat}, Stops (Lid n V F W) m → m + 1 ≤ h → m + 1 ≤ h' → ∀ a b, (∃ k, h = k + 1 ∧ Cp (Cp V (Lid n V F W k)) W a b) → ∃ k, h' = k + 1 ∧ Cp (Cp V (Lid n V F W k)) W a b := by
    rintro V W m h h' s hm hm' a b ⟨k, rfl, z⟩
    exact ⟨h' - 1, by omega, (cp3_iff (fun a b => (lid_far s (by omega) a b).trans (lid_far s (by omega) a b).symm) a b).mp z⟩
  exact cl_iff (fun a b => or_congr Iff.rfl (or_congr ⟨key s hm hm' a b, key s hm' hm a b⟩ ⟨key t hj hj' a b, key t hj' hj a b⟩)) a b
end
end L2.Lv
end

section
set_option Elab.async false
set_option linter.all false
namespace L2.Gd
open PySem PySem.Spec PyProof.Rows
/-- an attribute as one of several targets: o.f, .. = .. -/
def gFld (K : PySem.W.Frag) (ta : TE) (f : Str) : TG := fun v σ H Q => ta σ H fun x H1 => ∃ a C dx fs, x = .ref a ∧ H1 a = some (.ins C dx fs) ∧ Cls K C ∧ NoAttr K C f ∧ fs.length < 1000 ∧ Q σ (upd H1 a (.ins C dx (putF f v fs)))
theorem pg_fld {X : Cx} {o : Expr} {f : Str} {ta : TE} {pos : Pos} (ha : PE X o ta) : PG X (.Attribute o f pos) (gFld X.K ta f) := by
  refine ⟨fun pins s σ H v u Q I r h => ?_⟩
  rw [PySem.assign_Attribute]
  refine wpAny_bind (wpAny_holding (thn (ha.run pins s σ H _ I h) fun ov s1 ⟨x, H1, I1, rx, a, C, dx, fs, ex, ea, c, n, l, q⟩ => ?_))
  subst ex
  obtain rfl : ov = Value.ref a := rx
  refine wpAny_bind (wpAny_standAt (wpAny_bind (wpAny_holding (setattr_ok I1 ea c n l r fun s3 I3 => ?_))))
  exact wpAny_release ⟨σ, _, I3, q⟩
end L2.Gd
end

section
set_option Elab.async false
set_option linter.all false
set_option maxRecDepth 100000
set_option maxHeartbeats 4000000
namespace L2.K71
open PySem PySem.Spec PyProof.Rows L2.Gd L2.Lv
/-! ### Shaft: names, what it holds, __init__ -/
abbrev cSh (i : Nat) : Stmt := inClass (top 35) i
def fSh (u f d la fu ld li fl wh : Addr) : List (Str × V) := putF "_whole" (.ref wh) (putF "_floors" (.ref fl) (putF "_lids" (.ref li) (putF "last_downs" (.ref ld) (putF "first_ups" (.ref fu) (putF "lasting" (.ref la) (putF "downs" (.ref d) (putF "flats" (.ref f) (putF "ups" (.ref u) []))))))))
theorem fSh_u (u f d la fu ld li fl wh : Addr) : (fSh u f d la fu ld li fl wh).lookup ("ups" : Str) = some (.ref u) := by
  unfold fSh
  rw [lookup_putF, if_neg (by decide +kernel), lookup_putF, if_neg (by decide +kernel), lookup_putF, if_neg (by decide +kernel), lookup_putF, if_neg (by decide +kernel), lookup_putF, if_neg (by decide +kernel), lookup_putF, if_neg (by decide +kernel), lookup_putF, if_neg (by decide +kernel), lookup_putF, if_neg (by decide +kernel), lookup_putF, if_pos rfl]
theorem fSh_f (u f d la fu ld li fl wh : Addr) : (fSh u f d la fu ld li fl wh).lookup ("flats" : Str) = some (.ref f) := by
  unfold fSh
  rw [lookup_putF, if_neg (by decide +kernel), lookup_putF, if_neg (by decide +kernel), lookup_putF, if_neg (by decide +kernel), lookup_putF, if_neg (by decide +kernel), lookup_putF, if_neg (by decide +kernel), lookup_putF, if_neg (by decide +kernel), lookup_putF, if_neg (by decide +kernel), lookup_putF, if_pos rfl]
theorem fSh_d (u f d la fu ld li fl wh : Addr) : (fSh u f d la fu ld li fl wh).lookup ("downs" : Str) = some (.ref d) := by
  unfold fSh
  rw [lookup_putF, if_neg (by decide +kernel), lookup_putF, if_neg (by decide +kernel), lookup_putF, if_neg (by decide +kernel), lookup_putF, if_neg (by decide +kernel), lookup_putF, if_neg (by decide +kernel), lookup_putF, if_neg (by decide +kernel), lookup_putF, if_pos rfl]
theorem fSh_la (u f d la fu ld li fl wh : Addr) : (fSh u f d la fu ld li fl wh).lookup ("lasting" : Str) = some (.ref la) := by
  unfold fSh
  rw [lookup_putF, if_neg (by decide +kernel), lookup_putF, if_neg (by decide +kernel), lookup_putF, if_neg (by decide +kernel), lookup_putF, if_neg (by decide +kernel), lookup_putF, if_neg (by decide +kernel), lookup_putF, if_pos rfl]
theorem fSh_fu (u f d la fu ld li fl wh : Addr) : (fSh u f d la fu ld li fl wh).lookup ("first_ups" : Str) = some (.ref fu) := by
  unfold fSh
  rw [lookup_putF, if_neg (by decide +kernel), lookup_putF, if_neg (by decide +kernel), lookup_putF, if_neg (by decide +kernel), lookup_putF, if_neg (by decide +kernel), lookup_putF, if_pos rfl]
theorem fSh_ld (u f d la fu ld li fl wh : Addr) : (fSh u f d la fu ld li fl wh).lookup ("last_downs" : Str) = some (.ref ld) := by
  unfold fSh
  rw [lookup_putF, if_neg (by decide +kernel), lookup_putF, if_neg (by decide +kernel), lookup_putF, if_neg (by decide +kernel), lookup_putF, if_pos rfl]
theorem fSh_li (u f d la fu ld li fl wh : Addr) : (fSh u f d la fu ld li fl wh).lookup ("_lids" : Str) = some (.ref li) := by
  unfold fSh
  rw [lookup_putF, if_neg (by decide +kernel), lookup_putF, if_neg (by decide +kernel), lookup_putF, if_pos rfl]
theorem fSh_fl (u f d la fu ld li fl wh : Addr) : (fSh u f d la fu ld li fl wh).lookup ("_floors" : Str) = some (.ref fl) := by
  unfold fSh
  rw [lookup_putF, if_neg (by decide +kernel), lookup_putF, if_pos rfl]
theorem fSh_wh (u f d la fu ld li fl wh : Addr) : (fSh u f d la fu ld li fl wh).lookup ("_whole" : Str) = some (.ref wh) := by
  unfold fSh
  rw [lookup_putF, if_pos rfl]
theorem fSh_m_grown (u f d la fu ld li fl wh : Addr) : (fSh u f d la fu ld li fl wh).lookup ("_grown" : Str) = none := by
  unfold fSh
  rw [lookup_putF, if_neg (by decide +kernel), lookup_putF, if_neg (by decide +kernel), lookup_putF, if_neg (by decide +kernel), lookup_putF, if_neg (by decide +kernel), lookup_putF, if_neg (by decide +kernel), lookup_putF, if_neg (by decide +kernel), lookup_putF, if_neg (by decide +kernel), lookup_putF, if_neg (by decide +kernel), lookup_putF, if_neg (by decide +kernel)]
  rfl
theorem fSh_mlid (u f d la fu ld li fl wh : Addr) : (fSh u f d la fu ld li fl wh).lookup ("lid" : Str) = none := by
  unfold fSh
  rw [lookup_putF, if_neg (by decide +kernel), lookup_putF, if_neg (by decide +kernel), lookup_putF, if_neg (by decide +kernel), lookup_putF, if_neg (by decide +kernel), lookup_putF, if_neg (by decide +kernel), lookup_putF, if_neg (by decide +kernel), lookup_putF, if_neg (by decide +kernel), lookup_putF, if_neg (by decide +kernel), lookup_putF, if_neg (by decide +kernel)]
  rfl
theorem fSh_mfloor (u f d la fu ld li fl wh : Addr) : (fSh u f d la fu ld li fl wh).lookup ("floor" : Str) = none := by
  unfold fSh
  rw [lookup_putF, if_neg (by decide +kernel), lookup_putF, if_neg (by decide +kernel), lookup_putF, if_neg (by decide +kernel), lookup_putF, if_neg (by decide +kernel), lookup_putF, if_neg (by decide +kernel), lookup_putF, if_neg (by decide +kernel), lookup_putF, if_neg (by decide +kernel), lookup_putF, if_neg (by decide +kernel), lookup_putF, if_neg (by decide +kernel)]
  rfl
theorem fSh_mall_lids (u f d la fu ld li fl wh : Addr) : (fSh u f d la fu ld li fl wh).lookup ("all_lids" : Str) = none := by
  unfold fSh
  rw [lookup_putF, if_neg (by decide +kernel), lookup_putF, if_neg (by decide +kernel), lookup_putF, if_neg (by decide +kernel), lookup_putF, if_neg (by decide +kernel), lookup_putF, if_neg (by decide +kernel), lookup_putF, if_neg (by decide +kernel), lookup_putF, if_neg (by decide +kernel), lookup_putF, if_neg (by decide +kernel), lookup_putF, if_neg (by decide +kernel)]
  rfl
theorem fSh_mall_floors (u f d la fu ld li fl wh : Addr) : (fSh u f d la fu ld li fl wh).lookup ("all_floors" : Str) = none := by
  unfold fSh
  rw [lookup_putF, if_neg (by decide +kernel), lookup_putF, if_neg (by decide +kernel), lookup_putF, if_neg (by decide +kernel), lookup_putF, if_neg (by decide +kernel), lookup_putF, if_neg (by decide +kernel), lookup_putF, if_neg (by decide +kernel), lookup_putF, if_neg (by decide +kernel), lookup_putF, if_neg (by decide +kernel), lookup_putF, if_neg (by decide +kernel)]
  rfl
theorem fSh_mband (u f d la fu ld li fl wh : Addr) : (fSh u f d la fu ld li fl wh).lookup ("band" : Str) = none := by
  unfold fSh
  rw [lookup_putF, if_neg (by decide +kernel), lookup_putF, if_neg (by decide +kernel), lookup_putF, if_neg (by decide +kernel), lookup_putF, if_neg (by decide +kernel), lookup_putF, if_neg (by decide +kernel), lookup_putF, if_neg (by decide +kernel), lookup_putF, if_neg (by decide +kernel), lookup_putF, if_neg (by decide +kernel), lookup_putF, if_neg (by decide +kernel)]
  rfl
/-- what is known of the class -/
structure ClsS (K : PySem.W.Frag) (mg : Str → Option Value) (C : Addr) : Prop where
  cl : Cls K C
  n_u : NoAttr K C "ups"
  n_f : NoAttr K C "flats"
  n_d : NoAttr K C "downs"
  n_la : NoAttr K C "lasting"
  n_fu : NoAttr K C "first_ups"
  n_ld : NoAttr K C "last_downs"
  n_li : NoAttr K C "_lids"
  n_fl : NoAttr K C "_floors"
  n_wh : NoAttr K C "_whole"
  mgC : mg "Shaft" = some (.ref C)
/-- a Shaft's relations -/
structure ShRel (H : Hp) (n : Nat) (U F D : Rl) (u f d : Addr) (lu lf ld : List Nat) : Prop where
  hu : H u = some (.lst (iN lu))
  hf : H f = some (.lst (iN lf))
  hd : H d = some (.lst (iN ld))
  ru : Rep n lu U
  rf : Rep n lf F
  rd : Rep n ld D
  iu : In n U
  if_ : In n F
  id : In n D
  n100 : n ≤ 100
theorem ne_lst {H : Hp} {a x C dx : Addr} {fs : List (Str × V)} {xs : List V} (ha : H a = some (.lst xs)) (hx : H x = some (.ins C dx fs)) : a ≠ x := fun z => by
  rw [z, hx] at ha
  exact nomatch ha
theorem ShRel.butX {H H' : Hp} {x : Addr} {n : Nat} {U F D : Rl} {u f d : Addr} {lu lf ld : List Nat} (hx : ∃ C dx fs, H x = some (.ins C dx fs)) (b : ButD x H H') (r : ShRel H n U F D u f d lu lf ld) : ShRel H' n U F D u f d lu lf ld := by
  obtain ⟨C, dx, fs, hx⟩ := hx
  exact ⟨b _ _ (ne_lst r.hu hx) r.hu, b _ _ (ne_lst r.hf hx) r.hf, b _ _ (ne_lst r.hd hx) r.hd, r.ru, r.rf, r.rd, r.iu, r.if_, r.id, r.n100⟩
/-- a new Shaft -/
structure Sh0 (C : Addr) (H : Hp) (x : Addr) (n : Nat) (U F D : Rl) (u f d la fu ldn li fl wh : Addr) (lu lf ld : List Nat) : Prop where
  ob : ∃ dx, H x = some (.ins C dx (fSh u f d la fu ldn li fl wh))
  rel : ShRel H n U F D u f d lu lf ld
  lids : ∃ c z, H li = some (.lst [.ref c]) ∧ H c = some (.lst (iN z)) ∧ Rep n z (Cl n F) ∧ c ≠ li ∧ c ≠ fl
  floors : ∃ c z, H fl = some (.lst [.ref c]) ∧ H c = some (.lst (iN z)) ∧ Rep n z (Cl n F) ∧ c ≠ li ∧ c ≠ fl
  whole : H wh = some (.dK [])
  ne : li ≠ fl
def spSi (C : Addr) : Sp := fun vs H Q _ => ∃ (x dx R u f d la fu ldn : Addr) (n : Nat) (U F D : Rl) (lu lf ld : List Nat), vs = [.ref x, .ref R, .ref fu, .ref ldn] ∧ H x = some (.ins C dx []) ∧ H R = some (.lst [.ref u, .ref f, .ref d, .ref la]) ∧ ShRel H n U F D u f d lu lf ld ∧
  ∀ H' li fl wh, ButD x H H' → Sh0 C H' x n U F D u f d la fu ldn li fl wh lu lf ld → H li = none → H fl = none → H wh = none → Q .non H'
theorem scSi : FnScope ["self", "relations", "first_ups", "last_downs"] ["self", "relations", "first_ups", "last_downs"] (defScope (cSh 0)) := ⟨rfl, rfl, rfl, by decide +kernel, rfl, by decide +kernel, by decide +kernel⟩
section
variable {P : Program} {w : World} {K : PySem.W.Frag} {mg : Str → Option Value} {base : Heap} {C : Addr}
theorem ok_si {f : Addr} {fd : FuncData} (F : Fun K "__init__" "Shaft.__init__" (cSh 0) f fd) (T : ClsS K mg C) (CL : Fn P w K mg base 1 "closed" ["relation"] spCl) : FnOk P w K mg base CX0 2 f fd ["self", "relations", "first_ups", "last_downs"] (spSi C) := by
  refine F.ok scSi (fun vs H Q E h => ?_) (fun cdv A outer s H vs Q E hr h => ?_)
  · obtain ⟨x, dx, R, u, f, d, la, fu, ldn, n, U, F, D, lu, lf, ld, rfl, _⟩ := h
    rfl
  · obtain ⟨x, dx, R, u, f, d, la, fu, ldn, n, U, Fl, D, lu, lf, ld, rfl, hx, hR, rel, q⟩ := h
    have N := scSi.nd
    refine ⟨_, pss_cons (ps_asg (pv 1) (pg_unl rfl (pgs_cons (pg_fld (pv 0)) (pgs_cons (pg_fld (pv 0)) (pgs_cons (pg_fld (pv 0)) (pgs_cons (pg_fld (pv 0)) pgs_nil))))))
      (pss_cons (ps_fld (pv 0) (pv 2) rfl)
      (pss_cons (ps_fld (pv 0) (pv 3) rfl)
      (pss_cons (ps_fld (pv 0) (pe_lst (pa_cons (pe_fn CL hr (pa_cons (pe_fld (pv 0) rfl) pa_nil)) pa_nil)) rfl)
      (pss_cons (ps_fld (pv 0) (pe_lst (pa_cons (pe_fn CL hr (pa_cons (pe_fld (pv 0) rfl) pa_nil)) pa_nil)) rfl)
      (pss_one (ps_fld (pv 0) pe_dnewK rfl)))))), ?_⟩
    have Rx : R ≠ x := ne_lst hR hx
    refine ⟨_, rfl, R, _, rfl, .inl (.inl hR), rfl, ?_⟩
    refine ⟨_, _, rfl, ⟨_, rfl, x, C, dx, _, rfl, hx, T.cl, T.n_u, lt_of20 (Nat.le_refl 0), ?_⟩⟩
    refine ⟨_, _, rfl, ⟨_, rfl, x, C, dx, _, rfl, upd_same, T.cl, T.n_f, lt_of20 (putF_le (Nat.le_refl 0)), ?_⟩⟩
    refine ⟨_, _, rfl, ⟨_, rfl, x, C, dx, _, rfl, upd_same, T.cl, T.n_d, lt_of20 (putF_le (putF_le (Nat.le_refl 0))), ?_⟩⟩
    refine ⟨_, _, rfl, ⟨_, rfl, x, C, dx, _, rfl, upd_same, T.cl, T.n_la, lt_of20 (putF_le (putF_le (putF_le (Nat.le_refl 0)))), rfl, ?_⟩⟩
    refine ⟨_, rfl, _, rfl, x, C, dx, _, rfl, upd_same, T.cl, T.n_fu, lt_of20 (putF_le (putF_le (putF_le (putF_le (Nat.le_refl 0))))), ?_⟩
    refine ⟨_, rfl, _, rfl, x, C, dx, _, rfl, upd_same, T.cl, T.n_ld, lt_of20 (putF_le (putF_le (putF_le (putF_le (putF_le (Nat.le_refl 0)))))), ?_⟩
    generalize hF6 : putF "last_downs" (V.ref ldn) _ = F6
    have l6 : F6.length ≤ 6 := by rw [← hF6]; exact putF_le (putF_le (putF_le (putF_le (putF_le (putF_le (Nat.le_refl 0))))))
    have e6 : F6.lookup ("flats" : Str) = some (.ref f) := by
      rw [← hF6, lookup_putF, if_neg (by decide +kernel), lookup_putF, if_neg (by decide +kernel), lookup_putF, if_neg (by decide +kernel), lookup_putF, if_neg (by decide +kernel), lookup_putF, if_pos rfl]
    generalize hG6 : upd _ x (.ins C dx F6) = G6
    have b6 : ButD x H G6 := fun b o ne e => by
      rw [← hG6]
      simp only [upd_ne ne]
      exact e
    have hx6 : G6 x = some (.ins C dx F6) := by rw [← hG6]; exact upd_same
    have rel6 := rel.butX ⟨_, _, _, hx⟩ b6
    clear hG6
    -- lids
    refine ⟨_, rfl, x, C, dx, _, _, rfl, hx6, T.cl, T.n_f, e6, f, lf, n, Fl, rfl, rel6.hf, rel6.rf, rel6.n100, rel6.if_, fun c1 H1 z1 n1 s1 h1 r1 => ?_⟩
    refine ⟨(by show 1 ≤ sizeLine; decide), fun li hli => ?_⟩
    have s7 := s1.trans (same_upd (o := .lst [.ref c1]) hli)
    refine ⟨_, rfl, x, C, dx, _, rfl, s7 _ _ hx6, T.cl, T.n_li, lt_of20 l6, ?_⟩
    generalize hF7 : putF "_lids" (V.ref li) F6 = F7
    have l7 : F7.length ≤ 7 := by rw [← hF7]; exact putF_le l6
    have e7 : F7.lookup ("flats" : Str) = some (.ref f) := by rw [← hF7, lookup_putF, if_neg (by decide +kernel)]; exact e6
    have b7 : ButD x G6 (upd (upd H1 li (.lst [.ref c1])) x (.ins C dx F7)) := put_x s7
    have lix : li ≠ x := (ne_of_none (s1 _ _ hx6) hli).symm
    have c1x : c1 ≠ x := ne_lst h1 (s1 _ _ hx6)
    have c1li : c1 ≠ li := ne_of_none h1 hli
    have hli7 : upd (upd H1 li (.lst [.ref c1])) x (.ins C dx F7) li = some (.lst [.ref c1]) := by rw [upd_ne lix, upd_same]
    have hc17 : upd (upd H1 li (.lst [.ref c1])) x (.ins C dx F7) c1 = some (.lst (iN z1)) := by rw [upd_ne c1x, upd_ne c1li]; exact h1
    have nli : H li = none := by
      cases e : H li with
      | none => rfl
      | some o => exact absurd (s1 _ _ (b6 _ _ lix e)) (by rw [hli]; exact fun z => nomatch z)
    have rel7 := rel6.butX ⟨_, _, _, hx6⟩ b7
    have B7 := ButD.trans b6 b7
    have hx7 : upd (upd H1 li (.lst [.ref c1])) x (.ins C dx F7) x = some (.ins C dx F7) := upd_same
    generalize upd (upd H1 li (.lst [.ref c1])) x (.ins C dx F7) = G7 at b7 hli7 hc17 rel7 B7 hx7 ⊢
    clear s7 s1 h1 n1 hli b7 rel6 b6 hx6 H1 G6
    -- floors
    refine ⟨_, rfl, x, C, dx, _, _, rfl, hx7, T.cl, T.n_f, e7, f, lf, n, Fl, rfl, rel7.hf, rel7.rf, rel7.n100, rel7.if_, fun c2 H1 z2 n1 s1 h1 r2 => ?_⟩
    refine ⟨(by show 1 ≤ sizeLine; decide), fun fl hfl => ?_⟩
    have s8 := s1.trans (same_upd (o := .lst [.ref c2]) hfl)
    refine ⟨_, rfl, x, C, dx, _, rfl, s8 _ _ hx7, T.cl, T.n_fl, lt_of20 l7, ?_⟩
    generalize hF8 : putF "_floors" (V.ref fl) F7 = F8
    have l8 : F8.length ≤ 8 := by rw [← hF8]; exact putF_le l7
    have b8 : ButD x G7 (upd (upd H1 fl (.lst [.ref c2])) x (.ins C dx F8)) := put_x s8
    have flx : fl ≠ x := (ne_of_none (s1 _ _ hx7) hfl).symm
    have c2x : c2 ≠ x := ne_lst h1 (s1 _ _ hx7)
    have c2fl : c2 ≠ fl := ne_of_none h1 hfl
    have c1fl : c1 ≠ fl := ne_of_none (s1 _ _ hc17) hfl
    have lifl : li ≠ fl := ne_of_none (s1 _ _ hli7) hfl
    have c2li : c2 ≠ li := (ne_of_none hli7 n1).symm
    have hfl8 : upd (upd H1 fl (.lst [.ref c2])) x (.ins C dx F8) fl = some (.lst [.ref c2]) := by rw [upd_ne flx, upd_same]
    have hc28 : upd (upd H1 fl (.lst [.ref c2])) x (.ins C dx F8) c2 = some (.lst (iN z2)) := by rw [upd_ne c2x, upd_ne c2fl]; exact h1
    have nfl : H fl = none := by
      cases e : H fl with
      | none => rfl
      | some o => exact absurd (s1 _ _ (B7 _ _ flx e)) (by rw [hfl]; exact fun z => nomatch z)
    have rel8 := rel7.butX ⟨_, _, _, hx7⟩ b8
    have hli8 := b8 _ _ lix hli7
    have hc18 := b8 _ _ c1x hc17
    have B8 := ButD.trans B7 b8
    have hx8 : upd (upd H1 fl (.lst [.ref c2])) x (.ins C dx F8) x = some (.ins C dx F8) := upd_same
    generalize upd (upd H1 fl (.lst [.ref c2])) x (.ins C dx F8) = G8 at b8 hli8 hc18 hfl8 hc28 rel8 B8 hx8 ⊢
    clear s8 s1 h1 n1 hfl b8 rel7 B7 hx7 hli7 hc17 H1 G7
    -- the dict
    intro wh hwh
    have s1 := same_upd (o := .dK []) hwh
    refine ⟨_, rfl, x, C, dx, _, rfl, s1 _ _ hx8, T.cl, T.n_wh, lt_of20 l8, ?_⟩
    have b9 : ButD x G8 (upd (upd G8 wh (.dK [])) x (.ins C dx (putF "_whole" (V.ref wh) F8))) := put_x s1
    have whx : wh ≠ x := (ne_of_none hx8 hwh).symm
    have nwh : H wh = none := by
      cases e : H wh with
      | none => rfl
      | some o => exact absurd (B8 _ _ whx e) (by rw [hwh]; exact fun z => nomatch z)
    refine q _ li fl wh (ButD.trans B8 b9) ⟨⟨dx, ?_⟩, rel8.butX ⟨_, _, _, hx8⟩ b9, ⟨c1, z1, b9 _ _ lix hli8, b9 _ _ c1x hc18, r1, c1li, c1fl⟩, ⟨c2, z2, b9 _ _ flx hfl8, b9 _ _ c2x hc28, r2, c2li, c2fl⟩, ?_, lifl⟩ nli nfl nwh
    · rw [upd_same, ← hF8, ← hF7, ← hF6]
      rfl
    · rw [upd_ne whx, upd_same]
end
end L2.K71
end

section
set_option Elab.async false
set_option linter.all false
set_option maxRecDepth 100000
set_option maxHeartbeats 4000000
namespace L2.K71
open PySem PySem.Spec PyProof.Rows L2.Gd L2.Lv
/-! ### _grown -/
/-- a list of masks, none of them one of two addresses -/
def MtAt (L O : Addr) (H : Hp) (v : V) (y : List Nat) : Prop := ∃ a, v = .ref a ∧ a ≠ L ∧ a ≠ O ∧ H a = some (.lst (iN y))
/-- all but two -/
def But2 (L O : Addr) (H H' : Hp) : Prop := ∀ b o, b ≠ L → b ≠ O → H b = some o → H' b = some o
/-- the relations that were told so far, from 0 to m -/
structure LotAt (H : Hp) (L O : Addr) (n : Nat) (f : Nat → Rl) (m : Nat) : Prop where
  ls : ∃ xs ys, H L = some (.lst xs) ∧ Paired (MtAt L O H) xs ys ∧ ys.length = m + 1 ∧ ∀ k y, ys[k]? = some y → Rep n y (f k)
  go : ∀ j, j < m → ¬ Stops f j
  oo : ∃ l, H O = some (.lst l)
theorem LotAt.mv {H H' : Hp} {L O : Addr} {n m : Nat} {f : Nat → Rl} (h : LotAt H L O n f m) (b : ∀ t l, H t = some (.lst l) → H' t = some (.lst l)) : LotAt H' L O n f m :=
  have ⟨⟨xs, ys, e, ms, yl, ry⟩, go, ⟨l, eo⟩⟩ := h
  ⟨⟨xs, ys, b _ _ e, Paired.mapP ms fun _ _ ⟨a, e, n1, n2, q⟩ => ⟨a, e, n1, n2, b _ _ q⟩, yl, ry⟩, go, ⟨l, b _ _ eo⟩⟩
/-- the words that are in the dict -/
def HasW (ks : List (Key × V)) (w : Str) : Prop := (valV ks (.inr w)).isSome = true
theorem hasW_app {w : Str} {x : V} : ∀ (l : List (Key × V)), HasW (l ++ [(.inr w, x)]) w
  | [] => by
    show (valV [((.inr w : Key), x)] (.inr w)).isSome = true
    rw [valV_pos rfl]
    rfl
  | q :: r => by
    show (valV (q :: (r ++ [(.inr w, x)])) (.inr w)).isSome = true
    by_cases e : q.1 = .inr w
    · rw [valV_pos e]
      rfl
    · rw [valV_neg e]
      exact hasW_app r
theorem hasW_ne {v w : Str} {x : V} (h : v ≠ w) : ∀ (l : List (Key × V)), HasW (l ++ [(.inr w, x)]) v ↔ HasW l v
  | [] => by
    show (valV [((.inr w : Key), x)] (.inr v)).isSome = true ↔ (valV ([] : List (Key × V)) (.inr v)).isSome = true
    rw [valV_neg (fun z => h (Sum.inr.inj z).symm)]
  | q :: r => by
    show (valV (q :: (r ++ [(.inr w, x)])) (.inr v)).isSome = true ↔ (valV (q :: r) (.inr v)).isSome = true
    by_cases e : q.1 = .inr v
    · rw [valV_pos e, valV_pos e]
    · rw [valV_neg e, valV_neg e]
      exact hasW_ne h r
/-- whether a word is in the dict -/
def hw (w : Str) (ks : List (Key × V)) : Nat := (valV ks (.inr w)).isSome.toNat
theorem hw_le (w : Str) (ks : List (Key × V)) : hw w ks ≤ 1 := Bool.toNat_le _
theorem hw_eq {w : Str} {ks js : List (Key × V)} (h : HasW ks w ↔ HasW js w) : hw w ks = hw w js := by
  unfold hw
  congr 1
  rw [Bool.eq_iff_iff]
  exact h
def KB (ks : List (Key × V)) : Prop := ks.length ≤ hw "lid" ks + hw "floor" ks
theorem KB.two {ks : List (Key × V)} (h : KB ks) : ks.length ≤ 2 := by
  have := hw_le "lid" ks
  have := hw_le "floor" ks
  unfold KB at h
  omega
def spGw (C : Addr) (K : PySem.W.Frag) : Sp := fun vs H Q _ => ∃ (x dx u f d la fu ldn li fl wh L O a b : Addr) (w : Str) (N n m : Nat) (U F D : Rl) (lf lu ld : List Nat) (ks : List (Key × V)), vs = [.ref x, .str w, .ref L, .ref a, .ref b, .int (N : Nat)] ∧
  H x = some (.ins C dx (fSh u f d la fu ldn li fl wh)) ∧ ShRel H n U F D a f b lu lf ld ∧ LotAt H L O n (Lid n U F D) m ∧ H wh = some (.dK ks) ∧ (HasW ks w → Stops (Lid n U F D) m) ∧ ks.length ≤ 2 ∧ 1 ≤ n ∧ n ≤ 16 ∧ a ≠ L ∧ f ≠ L ∧ b ≠ L ∧
  ∀ H' p y m' ks', But2 L wh H H' → LotAt H' L O n (Lid n U F D) m' → H' wh = some (.dK ks') → (∀ v, v ≠ w → (HasW ks' v ↔ HasW ks v)) → (HasW ks' w → Stops (Lid n U F D) m') → (N ≤ m' ∨ Stops (Lid n U F D) m') → ks'.length + hw w ks ≤ ks.length + hw w ks' →
    H' p = some (.lst (iN y)) → Rep n y (Lid n U F D N) → p ≠ L → p ≠ O → Q (.ref p) H'
def NGw : List Str := ["self", "word", "lots", "ahead", "behind", "number", "more"]
theorem scGw : FnScope NGw ["self", "word", "lots", "ahead", "behind", "number"] (defScope (cSh 2)) := ⟨rfl, rfl, rfl, by decide +kernel, rfl, by decide +kernel, by decide +kernel⟩
section
variable {P : Program} {w : World} {K : PySem.W.Frag} {mg : Str → Option Value} {base : Heap} {C : Addr}
theorem ok_gw {f : Addr} {fd : FuncData} (F : Fun K "_grown" "Shaft._grown" (cSh 2) f fd) (n : Nm mg) (T : ClsS K mg C) (CL : Fn P w K mg base 1 "closed" ["relation"] spCl) (JO : Fn P w K mg base 1 "joined" ["one", "two"] spJoi) (FO : Fn P w K mg base 3 "followed" ["one", "two"] spFol) :
    FnOk P w K mg base CX0 4 f fd ["self", "word", "lots", "ahead", "behind", "number"] (spGw C K) := by
  refine F.ok scGw (fun vs H Q E h => ?_) (fun cdv A outer s H vs Q E hr h => ?_)
  · obtain ⟨x, dx, u, f, d, la, fu, ldn, li, fl, wh, L, O, a, b, wd, NN, n, m, U, Fl, D, lf, lu, ld, ks, rfl, _⟩ := h
    rfl
  · obtain ⟨x, dx, u, f, d, la, fu, ldn, li, fl, wh, L, O, a, b, wd, NN, nn, m, U, Fl, D, lf, lu, ld, ks, rfl, hx, rel, lot, hwh, wst, k2, n1, n16, aL, fL, bL, q⟩ := h
    have N := scGw.nd
    have hu := hu_of hr
    have r1 := hr.mono (k := 3) (j := 1) (by decide)
    refine ⟨_, pss_cons (ps_while PassesOwn.never (PW.pt (pw_and (pt_cmpR op_ge (pv 5) (pe_callB call_len_seq (by rfl) n.len PySem.boot_len (pa_cons (pv 2) pa_nil)) (nomark _)) (pw_and1 (pt_cmp (pc_dnotin hu (pv 1) (pe_fld (pv 0) rfl))))))
        (pss_cons (ps_set (i := 6) N rfl (.inl rfl) (pe_fn CL r1 (pa_cons (pe_fn JO r1 (pa_cons (pe_fld (pv 0) rfl) (pa_cons (pe_fn FO hr (pa_cons (pe_fn FO hr (pa_cons (pv 3) (pa_cons (pe_ix ix_list (pv 2) (pe_un un_neg pe_int) (fun _ _ => rfl)) pa_nil))) (pa_cons (pv 4) pa_nil))) pa_nil))) pa_nil)))
        (pss_one (ps_if (pt_cmpR (op_eqD hr.units) (pv 6) (pe_ix ix_list (pv 2) (pe_un un_neg pe_int) (fun _ _ => rfl)) (nomark _))
          (pss_one (ps_dput hu (pe_fld (pv 0) rfl) (pv 1) pe_bl rfl))
          (pss_one (ps_expr (pe_bm PySem.F.plainAttrs_list PySem.F.slot_list_append PySem.F.type_list_append mt_append (pv 2) (pa_cons (pv 6) pa_nil))))))))
      (pss_one (ps_ret (pe_ix ix_list (pv 2) (pe_callB (call_min2 rfl) (by rfl) n.min (by decide +kernel) (pa_cons (pv 5) (pa_cons (pe_op op_sub (pe_callB call_len_seq (by rfl) n.len PySem.boot_len (pa_cons (pv 2) pa_nil)) pe_int) pa_nil))) (fun _ _ => rfl)))), ?_⟩
    obtain ⟨m0, m0n, mst, mno⟩ := lid_chain (n := nn) (U := U) (F := Fl) (D := D) n1
    refine ⟨fun μ σ H2 => ∃ (m' : Nat) (ks' : List (Key × V)) (v6 : Option V), μ = 2 * (m0 - m') + (if (valV ks' (.inr wd)).isSome = true then 0 else 1) ∧ σ = [some (.ref x), some (.str wd), some (.ref L), some (.ref a), some (.ref b), some (.int (NN : Nat)), v6] ∧ But2 L wh H H2 ∧ LotAt H2 L O nn (Lid nn U Fl D) m' ∧ H2 wh = some (.dK ks') ∧ (∀ v, v ≠ wd → (HasW ks' v ↔ HasW ks v)) ∧ (HasW ks' wd → Stops (Lid nn U Fl D) m') ∧ ks'.length + hw wd ks ≤ ks.length + hw wd ks',
      ⟨_, m, ks, none, rfl, rfl, fun _ _ _ _ e => e, lot, hwh, fun _ _ => Iff.rfl, wst, Nat.le_refl _⟩, ?_⟩
    have xL : x ≠ L := fun z => by
      obtain ⟨⟨xs, ys, e, _⟩, _, _⟩ := lot
      rw [z, e] at hx
      exact nomatch hx
    have xW : x ≠ wh := fun z => by
      rw [z, hwh] at hx
      exact nomatch hx
    have WL : wh ≠ L := fun z => by
      obtain ⟨⟨xs, ys, e, _⟩, _, _⟩ := lot
      rw [z, e] at hwh
      exact nomatch hwh
    have lW : ∀ {t : Addr} {l : List V}, H t = some (.lst l) → t ≠ wh := fun e z => by
      rw [z, hwh] at e
      exact nomatch e
    have aW := lW rel.hu
    have fW := lW rel.hf
    have bW := lW rel.hd
    clear lot hwh wst lW
    rintro μ σ H2 ⟨m', ks', v6, rfl, rfl, b2, lot, hwh, oth, wst, kl⟩
    have hx2 := b2 _ _ xL xW hx
    have rel2 : ShRel H2 nn U Fl D a f b lu lf ld := ⟨b2 _ _ aL aW rel.hu, b2 _ _ fL fW rel.hf, b2 _ _ bL bW rel.hd, rel.ru, rel.rf, rel.rd, rel.iu, rel.if_, rel.id, rel.n100⟩
    obtain ⟨⟨xs, ys, hL, ms, yl, ry⟩, go, ⟨ol, hO⟩⟩ := id lot
    have xl : xs.length = m' + 1 := (Paired.length ms).trans yl
    refine ⟨_, rfl, _, rfl, L, xs, rfl, .inl (.inl (.inl hL)), _, _, rfl, rfl, decide (((NN : Nat) : Int) ≥ (xs.length : Int)), rfl, ?_⟩
    obtain ⟨x0, hx0⟩ : ∃ x0, xs[min NN m']? = some x0 := ⟨_, List.getElem?_eq_getElem (by rw [xl]; omega)⟩
    obtain ⟨z, hz, p, rfl, pL, pO, hp⟩ := Paired.at ms hx0
    have em : (if ((xs.length : Nat) : Int) - 1 < ((NN : Nat) : Int) then ((xs.length : Nat) : Int) - 1 else ((NN : Nat) : Int)) = ((min NN m' : Nat) : Int) := by
      rw [xl]
      split <;> omega
    have rz : (NN ≤ m' ∨ Stops (Lid nn U Fl D) m') → Rep nn z (Lid nn U Fl D NN) := fun hf => by
      have r := ry _ _ hz
      by_cases h : NN ≤ m'
      · rw [Nat.min_eq_left h] at r
        exact r
      · rw [Nat.min_eq_right (by omega)] at r
        rcases hf with hf | hf
        · exact absurd hf h
        · exact r.iff fun a b => (lid_far hf (by omega) a b).symm
    by_cases hN : NN < m' + 1
    · rw [decide_eq_false (by omega)]
      refine iteF (iteF ?_)
      have hfin : NN ≤ m' ∨ Stops (Lid nn U Fl D) m' := .inl (by omega)
      refine ⟨_, rfl, _, rfl, _, rfl, L, xs, rfl, .inl (.inl (.inl hL)), _, _, rfl, rfl, _, _, rfl, L, xs, _, _, rfl, rfl, .inl (.inl hL), em ▸ atI_nat hx0, ?_⟩
      exact q H2 p z m' ks' b2 lot hwh oth wst hfin kl hp (rz hfin) pL pO
    · rw [decide_eq_true (by omega)]
      refine iteT ⟨_, rfl, _, rfl, x, C, dx, _, _, rfl, hx2, T.cl, T.n_wh, fSh_wh .., wh, _, rfl, .k (k := .inr wd) hwh, _, rfl, ?_⟩
      cases hv : (valV ks' (.inr wd)).isSome with
      | true =>
        refine iteF ?_
        have hfin : NN ≤ m' ∨ Stops (Lid nn U Fl D) m' := .inr (wst hv)
        refine ⟨_, rfl, _, rfl, _, rfl, L, xs, rfl, .inl (.inl (.inl hL)), _, _, rfl, rfl, _, _, rfl, L, xs, _, _, rfl, rfl, .inl (.inl hL), em ▸ atI_nat hx0, ?_⟩
        exact q H2 p z m' ks' b2 lot hwh oth wst hfin kl hp (rz hfin) pL pO
      | false =>
        refine iteT ⟨_, fun σ' H' h => h, ?_⟩
        have nw : ¬ HasW ks' wd := fun h => by
          have h : (valV ks' (.inr wd)).isSome = true := h
          rw [hv] at h
          exact nomatch h
        have h00 : hw wd ks' = 0 := by
          unfold hw
          rw [hv]
          rfl
        have hv0 : valV ks' (.inr wd) = none := by
          cases e : valV ks' (.inr wd) with
          | none => rfl
          | some t =>
            rw [e] at hv
            exact nomatch hv
        obtain ⟨xe, hxe⟩ : ∃ xe, xs[m']? = some xe := ⟨_, List.getElem?_eq_getElem (by rw [xl]; omega)⟩
        obtain ⟨y0, hy0, a0, rfl, a0L, a0O, ha0⟩ := Paired.at ms hxe
        obtain ⟨vs0, ex⟩ := List.getLast?_eq_some_iff.mp (show xs.getLast? = some (.ref a0) by rw [List.getLast?_eq_getElem?, xl]; exact hxe)
        have hlast : atI xs (-1) = some (.ref a0) := by
          rw [ex]
          exact atI_last _ _
        have ry0 := ry _ _ hy0
        refine seqV (Good := fun σ3 H6 => ∃ (o : Addr) (z' : List Nat), H2 o = none ∧ Same H2 H6 ∧ H6 o = some (.lst (iN z')) ∧ Rep nn z' (Lid nn U Fl D (m' + 1)) ∧ σ3 = [some (.ref x), some (.str wd), some (.ref L), some (.ref a), some (.ref b), some (.int (NN : Nat)), some (.ref o)]) ?_ ?_
        · intro nx hnx
          refine ⟨_, rfl, x, C, dx, _, _, rfl, hx2, T.cl, T.n_f, fSh_f .., _, rfl, _, rfl, 1, rfl, L, xs, _, _, rfl, rfl, .inl (.inl hL), hlast, a, a0, lu, y0, nn, U, _, rfl, rel2.hu, ha0, rel2.ru, ry0, rel2.n100, rel2.iu, fun q1 H6 z1 _ s6 h6 r6 => ?_⟩
          refine ⟨_, rfl, q1, b, z1, ld, nn, _, D, rfl, h6, s6 _ _ rel2.hd, r6, rel2.rd, rel2.n100, rel2.iu.cp (lid_in m'), fun q2 H7 z2 _ s7 h7 r7 => ?_⟩
          have s67 := s6.trans s7
          refine ⟨f, q2, lf, z2, nn, _, _, rfl, s67 _ _ rel2.hf, h7, rel2.rf, r7, rel2.n100, fun q3 H8 z3 _ s8 h8 r8 => ?_⟩
          have s68 := s67.trans s8
          refine ⟨q3, z3, nn, _, rfl, h8, r8, rel2.n100, rel2.if_.or ((rel2.iu.cp (lid_in m')).cp rel2.id), fun q4 H9 z4 n9 s9 h9 r9 => ?_⟩
          exact hnx _ _ ⟨q4, z4, s68.free n9, s68.trans s9, h9, r9, rfl⟩
        rintro _ H6 ⟨o, z', no, s6, ho, rz', rfl⟩
        have hL6 := s6 _ _ hL
        have ha6 := s6 _ _ ha0
        have hx6 := s6 _ _ hx2
        have hwh6 := s6 _ _ hwh
        have lot6 := lot.mv (H' := H6) fun t l e => s6 _ _ e
        refine ⟨_, rfl, _, rfl, 1, rfl, L, xs, _, _, rfl, rfl, .inl (.inl hL6), hlast, ?_⟩
        refine ⟨_, _, dp_ints ho, dp_ints ha6, ints_shaped _, ints_shaped _, _, congrArg V.bl (eqv_ints z' y0), ?_⟩
        have mm0 : m' ≤ m0 := Nat.le_of_not_lt fun h => go m0 h mst
        by_cases e : z' = y0
        · rw [decide_eq_true e]
          refine iteT ⟨_, rfl, x, C, dx, _, _, rfl, hx6, T.cl, T.n_wh, fSh_wh .., _, rfl, wh, _, rfl, .k (k := .inr wd) hwh6 (by rw [sizeLine_eq]; omega), ?_⟩
          rw [putK_new _ hv0]
          refine ⟨_, ?_, m', ks' ++ [(.inr wd, .bl true)], some (.ref o), rfl, rfl, fun t l n1 n2 e => ?_, lot6.mv fun t l e => ?_, upd_same, fun v hv => (hasW_ne hv ks').trans (oth v hv), fun _ => (rz'.ext ry0).mp e, ?_⟩
          · rw [if_pos (show (valV (ks' ++ [((.inr wd : Key), V.bl true)]) (.inr wd)).isSome = true from hasW_app ks'), if_neg (show ¬ false = true by decide)]
            omega
          · rw [upd_ne n2]
            exact s6 _ _ (b2 t l n1 n2 e)
          · rw [upd_ne (fun z => by
              rw [z, hwh6] at e
              exact nomatch e)]
            exact e
          · have h1 : hw wd (ks' ++ [(.inr wd, V.bl true)]) = 1 := by
              unfold hw
              rw [show (valV (ks' ++ [((.inr wd : Key), V.bl true)]) (.inr wd)).isSome = true from hasW_app ks']
              rfl
            rw [List.length_append, h1]
            show ks'.length + 1 + _ ≤ _
            omega
        · rw [decide_eq_false e]
          refine iteF ⟨_, rfl, .inl ⟨rfl, _, .inl (.inl hL6)⟩, _, rfl, L, _, _, rfl, rfl, hL6, ?_, ?_⟩
          · have : nn * nn ≤ 16 * 16 := Nat.mul_le_mul n16 n16
            rw [sizeLine_eq]
            omega
          · have oL : o ≠ L := fun z => by
              rw [z, hL] at no
              exact nomatch no
            have oO : o ≠ O := fun z => by
              rw [z, hO] at no
              exact nomatch no
            have nst : ¬ Stops (Lid nn U Fl D) m' := fun h => e ((rz'.ext ry0).mpr h)
            have m1 : m' + 1 ≤ m0 := by
              by_cases h : m' = m0
              · exact absurd (h ▸ mst) nst
              · omega
            refine ⟨_, ?_, m' + 1, ks', some (.ref o), rfl, rfl, fun t l n1 n2 e => ?_, ⟨⟨xs ++ [.ref o], ys ++ [z'], upd_same, PySem.Paired.snoc (Paired.mapP ms fun _ _ ⟨a, e, n1, n2, q⟩ => ⟨a, e, n1, n2, ?_⟩) ⟨o, rfl, oL, oO, ?_⟩, ?_, fun k y ek => ?_⟩, fun j hj => ?_, ?_⟩, ?_, oth, fun h => absurd h nw, kl⟩
            · repeat' split
              all_goals omega
            · rw [upd_ne n1]
              exact s6 _ _ (b2 t l n1 n2 e)
            · rw [upd_ne n1]
              exact s6 _ _ q
            · rw [upd_ne oL]
              exact ho
            · rw [List.length_append, yl]
              rfl
            · rw [List.getElem?_append] at ek
              split at ek
              · exact ry k y ek
              · have : k = m' + 1 := by
                  have := (List.getElem?_eq_some_iff.mp ek).1
                  simp at this
                  omega
                subst this
                rw [yl, Nat.sub_self] at ek
                obtain rfl := Option.some.inj ek
                exact rz'
            · by_cases h : j = m'
              · rw [h]
                exact nst
              · exact go j (by omega)
            · by_cases h : O = L
              · rw [h]
                exact ⟨_, upd_same⟩
              · rw [upd_ne h]
                exact ⟨_, s6 _ _ hO⟩
            · rw [upd_ne WL]
              exact hwh6
end
end L2.K71
end

section
set_option Elab.async false
set_option linter.all false
set_option maxRecDepth 100000
set_option maxHeartbeats 4000000
namespace L2.K71
open PySem PySem.Spec PyProof.Rows L2.Gd L2.Lv
/-! ### lid, floor -/
/-- a Shaft, as far as it was asked -/
structure ShAt (C : Addr) (H : Hp) (x : Addr) (n : Nat) (U F D : Rl) (u f d la fu ldn li fl wh : Addr) (lu lf ld : List Nat) (ml mf : Nat) (ks : List (Key × V)) : Prop where
  ob : ∃ dx, H x = some (.ins C dx (fSh u f d la fu ldn li fl wh))
  rel : ShRel H n U F D u f d lu lf ld
  lids : LotAt H li fl n (Lid n U F D) ml
  floors : LotAt H fl li n (Lid n D F U) mf
  whole : H wh = some (.dK ks)
  wl : HasW ks "lid" → Stops (Lid n U F D) ml
  wf : HasW ks "floor" → Stops (Lid n D F U) mf
  ne : li ≠ fl
  nl : u ≠ li ∧ f ≠ li ∧ d ≠ li
  nf : u ≠ fl ∧ f ≠ fl ∧ d ≠ fl
/-- all but the two lists and the dict -/
def But3 (li fl wh : Addr) (H H' : Hp) : Prop := ∀ b o, b ≠ li → b ≠ fl → b ≠ wh → H b = some o → H' b = some o
theorem But3.trans {li fl wh : Addr} {H H1 H2 : Hp} (a : But3 li fl wh H H1) (b : But3 li fl wh H1 H2) : But3 li fl wh H H2 := fun t o n1 n2 n3 e => b t o n1 n2 n3 (a t o n1 n2 n3 e)
theorem ShRel.flip {H : Hp} {n : Nat} {U F D : Rl} {u f d : Addr} {lu lf ld : List Nat} (r : ShRel H n U F D u f d lu lf ld) : ShRel H n D F U d f u ld lf lu := ⟨r.hd, r.hf, r.hu, r.rd, r.rf, r.ru, r.id, r.if_, r.iu, r.n100⟩
theorem ne_dK {H : Hp} {t wh : Addr} {l : List V} {ks : List (Key × V)} (hw : H wh = some (.dK ks)) (h : H t = some (.lst l)) : t ≠ wh := fun z => by
  rw [z, hw] at h
  exact nomatch h
theorem LotAt.but {H H' : Hp} {L O wh : Addr} {n m : Nat} {f : Nat → Rl} {ks : List (Key × V)} (h : LotAt H L O n f m) (ne : L ≠ O) (ho : ∃ l, H' O = some (.lst l)) (hw : H wh = some (.dK ks)) (b : But2 O wh H H') : LotAt H' L O n f m :=
  have ⟨⟨xs, ys, e, ms, yl, ry⟩, go, _⟩ := h
  ⟨⟨xs, ys, b _ _ ne (ne_dK hw e) e, Paired.mapP ms fun _ _ ⟨a, e, n1, n2, q⟩ => ⟨a, e, n1, n2, b _ _ n2 (ne_dK hw q) q⟩, yl, ry⟩, go, ho⟩
theorem ShRel.but2 {H H' : Hp} {n : Nat} {U F D : Rl} {u f d L wh : Addr} {lu lf ld : List Nat} {ks : List (Key × V)} (r : ShRel H n U F D u f d lu lf ld) (hw : H wh = some (.dK ks)) (h : u ≠ L ∧ f ≠ L ∧ d ≠ L) (b : But2 L wh H H') : ShRel H' n U F D u f d lu lf ld :=
  ⟨b _ _ h.1 (ne_dK hw r.hu) r.hu, b _ _ h.2.1 (ne_dK hw r.hf) r.hf, b _ _ h.2.2 (ne_dK hw r.hd) r.hd, r.ru, r.rf, r.rd, r.iu, r.if_, r.id, r.n100⟩
theorem LotAt.lst {H : Hp} {L O : Addr} {n m : Nat} {f : Nat → Rl} (h : LotAt H L O n f m) : ∃ l, H L = some (.lst l) := have ⟨⟨xs, _, e, _⟩, _, _⟩ := h; ⟨xs, e⟩
theorem ne_ob {H : Hp} {x C dx t : Addr} {fs : List (Str × V)} {l : List V} (hx : H x = some (.ins C dx fs)) (h : H t = some (.lst l)) : x ≠ t := fun z => by
  rw [← z, hx] at h
  exact nomatch h
theorem ne_obK {H : Hp} {x C dx t : Addr} {fs : List (Str × V)} {ks : List (Key × V)} (hx : H x = some (.ins C dx fs)) (h : H t = some (.dK ks)) : x ≠ t := fun z => by
  rw [← z, hx] at h
  exact nomatch h
theorem ShAt.lidded {C : Addr} {H H1 : Hp} {x u f d la fu ldn li fl wh : Addr} {n : Nat} {U F D : Rl} {lu lf ld : List Nat} {ml mf ml' : Nat} {ks ks' : List (Key × V)} (sh : ShAt C H x n U F D u f d la fu ldn li fl wh lu lf ld ml mf ks) (b : But2 li wh H H1) (lot : LotAt H1 li fl n (Lid n U F D) ml') (hw : H1 wh = some (.dK ks')) (oth : ∀ v : Str, v ≠ "lid" → (HasW ks' v ↔ HasW ks v)) (wst : HasW ks' "lid" → Stops (Lid n U F D) ml') :
    ShAt C H1 x n U F D u f d la fu ldn li fl wh lu lf ld ml' mf ks' := by
  obtain ⟨dx, hx⟩ := sh.ob
  obtain ⟨l, el⟩ := sh.lids.lst
  exact ⟨⟨dx, b _ _ (ne_ob hx el) (ne_obK hx sh.whole) hx⟩, sh.rel.but2 sh.whole sh.nl b, lot, sh.floors.but (Ne.symm sh.ne) lot.lst sh.whole b, hw, wst, fun h => sh.wf ((oth "floor" (by decide +kernel)).mp h), sh.ne, sh.nl, sh.nf⟩
theorem ShAt.floored {C : Addr} {H H1 : Hp} {x u f d la fu ldn li fl wh : Addr} {n : Nat} {U F D : Rl} {lu lf ld : List Nat} {ml mf mf' : Nat} {ks ks' : List (Key × V)} (sh : ShAt C H x n U F D u f d la fu ldn li fl wh lu lf ld ml mf ks) (b : But2 fl wh H H1) (lot : LotAt H1 fl li n (Lid n D F U) mf') (hw : H1 wh = some (.dK ks')) (oth : ∀ v : Str, v ≠ "floor" → (HasW ks' v ↔ HasW ks v)) (wst : HasW ks' "floor" → Stops (Lid n D F U) mf') :
    ShAt C H1 x n U F D u f d la fu ldn li fl wh lu lf ld ml mf' ks' := by
  obtain ⟨dx, hx⟩ := sh.ob
  obtain ⟨l, el⟩ := sh.floors.lst
  exact ⟨⟨dx, b _ _ (ne_ob hx el) (ne_obK hx sh.whole) hx⟩, sh.rel.but2 sh.whole sh.nf b, sh.lids.but sh.ne lot.lst sh.whole b, lot, hw, fun h => sh.wl ((oth "lid" (by decide +kernel)).mp h), wst, sh.ne, sh.nl, sh.nf⟩
theorem kb_lid {ks ks' : List (Key × V)} (k : KB ks) (l : ks'.length + hw "lid" ks ≤ ks.length + hw "lid" ks') (o : HasW ks' "floor" ↔ HasW ks "floor") : KB ks' := by
  have := hw_eq o
  unfold KB at k ⊢
  omega
theorem kb_flo {ks ks' : List (Key × V)} (k : KB ks) (l : ks'.length + hw "floor" ks ≤ ks.length + hw "floor" ks') (o : HasW ks' "lid" ↔ HasW ks "lid") : KB ks' := by
  have := hw_eq o
  unfold KB at k ⊢
  omega
def spLi (C : Addr) : Sp := fun vs H Q _ => ∃ (x u f d la fu ldn li fl wh : Addr) (N n ml mf : Nat) (U F D : Rl) (lu lf ld : List Nat) (ks : List (Key × V)), vs = [.ref x, .int (N : Nat)] ∧ ShAt C H x n U F D u f d la fu ldn li fl wh lu lf ld ml mf ks ∧ KB ks ∧ 1 ≤ n ∧ n ≤ 16 ∧
  ∀ H' p y ml' ks', But3 li fl wh H H' → ShAt C H' x n U F D u f d la fu ldn li fl wh lu lf ld ml' mf ks' → KB ks' → (N ≤ ml' ∨ Stops (Lid n U F D) ml') → H' p = some (.lst (iN y)) → Rep n y (Lid n U F D N) → p ≠ li → p ≠ fl → Q (.ref p) H'
def spFo2 (C : Addr) : Sp := fun vs H Q _ => ∃ (x u f d la fu ldn li fl wh : Addr) (N n ml mf : Nat) (U F D : Rl) (lu lf ld : List Nat) (ks : List (Key × V)), vs = [.ref x, .int (N : Nat)] ∧ ShAt C H x n U F D u f d la fu ldn li fl wh lu lf ld ml mf ks ∧ KB ks ∧ 1 ≤ n ∧ n ≤ 16 ∧
  ∀ H' p y mf' ks', But3 li fl wh H H' → ShAt C H' x n U F D u f d la fu ldn li fl wh lu lf ld ml mf' ks' → KB ks' → (N ≤ mf' ∨ Stops (Lid n D F U) mf') → H' p = some (.lst (iN y)) → Rep n y (Lid n D F U N) → p ≠ li → p ≠ fl → Q (.ref p) H'
theorem scLi : FnScope ["self", "room"] ["self", "room"] (defScope (cSh 3)) := ⟨rfl, rfl, rfl, by decide +kernel, rfl, by decide +kernel, by decide +kernel⟩
theorem scFo2 : FnScope ["self", "room"] ["self", "room"] (defScope (cSh 4)) := ⟨rfl, rfl, rfl, by decide +kernel, rfl, by decide +kernel, by decide +kernel⟩
section
variable {P : Program} {w : World} {K : PySem.W.Frag} {mg : Str → Option Value} {base : Heap} {C : Addr}
theorem ok_li {f : Addr} {fd : FuncData} (F : Fun K "lid" "Shaft.lid" (cSh 3) f fd) (T : ClsS K mg C) (GW : MeH P w K mg base C "_grown" 4 ["self", "word", "lots", "ahead", "behind", "number"] (spGw C K)) :
    FnOk P w K mg base CX0 5 f fd ["self", "room"] (spLi C) := by
  refine F.ok scLi (fun vs H Q E h => ?_) (fun cdv A outer s H vs Q E hr h => ?_)
  · obtain ⟨x, u, f, d, la, fu, ldn, li, fl, wh, NN, n, ml, mf, U, F, D, lu, lf, ld, ks, rfl, _⟩ := h
    rfl
  · obtain ⟨x, u, f, d, la, fu, ldn, li, fl, wh, NN, n, ml, mf, U, Fl, D, lu, lf, ld, ks, rfl, sh, k1, n1, n16, q⟩ := h
    have N := scLi.nd
    refine ⟨_, pss_one (ps_ret (pe_mP GW T.cl hr (pv 0) (pa_cons pe_str (pa_cons (pe_fld (pv 0) rfl) (pa_cons (pe_fld (pv 0) rfl) (pa_cons (pe_fld (pv 0) rfl) (pa_cons (pv 1) pa_nil))))))), ?_⟩
    obtain ⟨dx, hx⟩ := sh.ob
    refine ⟨_, rfl, x, dx, _, rfl, hx, fSh_m_grown .., ?_⟩
    refine ⟨_, rfl, x, C, dx, _, _, rfl, hx, T.cl, T.n_li, fSh_li .., _, rfl, x, C, dx, _, _, rfl, hx, T.cl, T.n_u, fSh_u .., _, rfl, x, C, dx, _, _, rfl, hx, T.cl, T.n_d, fSh_d .., _, rfl, ?_⟩
    refine ⟨x, dx, u, f, d, la, fu, ldn, li, fl, wh, li, fl, u, d, "lid", NN, n, ml, U, Fl, D, lf, lu, ld, ks, rfl, hx, sh.rel, sh.lids, sh.whole, sh.wl, k1.two, n1, n16, sh.nl.1, sh.nl.2.1, sh.nl.2.2, fun H1 p y ml' ks' b1 lot hw oth wst nfin kl hp rp pL pO => ?_⟩
    exact q H1 p y ml' ks' (fun t o n1 _ n3 e => b1 t o n1 n3 e) (sh.lidded b1 lot hw oth wst) (kb_lid k1 kl (oth "floor" (by decide +kernel))) nfin hp rp pL pO
theorem ok_fo2 {f : Addr} {fd : FuncData} (F : Fun K "floor" "Shaft.floor" (cSh 4) f fd) (T : ClsS K mg C) (GW : MeH P w K mg base C "_grown" 4 ["self", "word", "lots", "ahead", "behind", "number"] (spGw C K)) :
    FnOk P w K mg base CX0 5 f fd ["self", "room"] (spFo2 C) := by
  refine F.ok scFo2 (fun vs H Q E h => ?_) (fun cdv A outer s H vs Q E hr h => ?_)
  · obtain ⟨x, u, f, d, la, fu, ldn, li, fl, wh, NN, n, ml, mf, U, F, D, lu, lf, ld, ks, rfl, _⟩ := h
    rfl
  · obtain ⟨x, u, f, d, la, fu, ldn, li, fl, wh, NN, n, ml, mf, U, Fl, D, lu, lf, ld, ks, rfl, sh, k1, n1, n16, q⟩ := h
    have N := scFo2.nd
    refine ⟨_, pss_one (ps_ret (pe_mP GW T.cl hr (pv 0) (pa_cons pe_str (pa_cons (pe_fld (pv 0) rfl) (pa_cons (pe_fld (pv 0) rfl) (pa_cons (pe_fld (pv 0) rfl) (pa_cons (pv 1) pa_nil))))))), ?_⟩
    obtain ⟨dx, hx⟩ := sh.ob
    refine ⟨_, rfl, x, dx, _, rfl, hx, fSh_m_grown .., ?_⟩
    refine ⟨_, rfl, x, C, dx, _, _, rfl, hx, T.cl, T.n_fl, fSh_fl .., _, rfl, x, C, dx, _, _, rfl, hx, T.cl, T.n_d, fSh_d .., _, rfl, x, C, dx, _, _, rfl, hx, T.cl, T.n_u, fSh_u .., _, rfl, ?_⟩
    refine ⟨x, dx, u, f, d, la, fu, ldn, li, fl, wh, fl, li, d, u, "floor", NN, n, mf, D, Fl, U, lf, ld, lu, ks, rfl, hx, sh.rel.flip, sh.floors, sh.whole, sh.wf, k1.two, n1, n16, sh.nf.2.2, sh.nf.2.1, sh.nf.1, fun H1 p y mf' ks' b1 lot hw oth wst nfin kl hp rp pL pO => ?_⟩
    exact q H1 p y mf' ks' (fun t o _ n2 n3 e => b1 t o n2 n3 e) (sh.floored b1 lot hw oth wst) (kb_flo k1 kl (oth "lid" (by decide +kernel))) nfin hp rp pO pL
end
end L2.K71
end

section
set_option Elab.async false
set_option linter.all false
set_option maxRecDepth 100000
set_option maxHeartbeats 4000000
namespace L2.K71
open PySem PySem.Spec PyProof.Rows L2.Gd L2.Lv
/-- Shaft(..) -/
structure MkS (P : Program) (w : World) (K : PySem.W.Frag) (mg : Str → Option Value) (base : Heap) (C : Addr) : Prop where
  ex : ∃ f fd, Mk K C f ∧ Binds K fd ["self", "relations", "first_ups", "last_downs"] [] ∧ FnOk P w K mg base CX0 2 f fd ["self", "relations", "first_ups", "last_downs"] (spSi C)
theorem pe_sh {X : Cx} {e : Expr} {es : List Expr} {t : TA} {p pos : Pos} {C : Addr} (M : MkS X.prog X.w X.K X.mg X.base C) (T : ClsS X.K X.mg C) (hr : Room 3 X.A) (ha : PA X (e :: es) t)
    (hg : Gl X "Shaft" := by rfl) (he : starEach (e :: es) X.env = (false, eval e X.env) :: starEach es X.env := by rfl)
    (hpl : (backTo pos (starEach es X.env)).any (·.1) = false := by rfl) :
    PE X (.Call (.Name "Shaft" p) (e :: es) [] pos) (tMake C (spSi C) [] E0 t) := by
  obtain ⟨f, fd, mk, b, F⟩ := M.ex
  exact pe_make mk F hr hg T.mgC b .nil pass0 ha (by decide) he hpl
/-- a new Shaft is one that was asked nothing -/
theorem Sh0.at {C : Addr} {H : Hp} {x u f d la fu ldn li fl wh : Addr} {n : Nat} {U F D : Rl} {lu lf ld : List Nat} (s : Sh0 C H x n U F D u f d la fu ldn li fl wh lu lf ld) (nl : u ≠ li ∧ f ≠ li ∧ d ≠ li) (nf : u ≠ fl ∧ f ≠ fl ∧ d ≠ fl) :
    ShAt C H x n U F D u f d la fu ldn li fl wh lu lf ld 0 0 [] := by
  obtain ⟨c1, z1, h1, k1, r1, n11, n12⟩ := s.lids
  obtain ⟨c2, z2, h2, k2, r2, n21, n22⟩ := s.floors
  exact ⟨s.ob, s.rel, ⟨⟨_, [z1], h1, .cons ⟨c1, rfl, n11, n12, k1⟩ .nil, rfl, fun k y e => by
      match k, e with
      | 0, e =>
        obtain rfl := Option.some.inj e
        exact r1
      | k + 1, e => exact nomatch e⟩, fun j h => absurd h (Nat.not_lt_zero _), ⟨_, h2⟩⟩,
    ⟨⟨_, [z2], h2, .cons ⟨c2, rfl, n22, n21, k2⟩ .nil, rfl, fun k y e => by
      match k, e with
      | 0, e =>
        obtain rfl := Option.some.inj e
        exact r2
      | k + 1, e => exact nomatch e⟩, fun j h => absurd h (Nat.not_lt_zero _), ⟨_, h1⟩⟩, s.whole, (fun h => nomatch h), (fun h => nomatch h), s.ne, nl, nf⟩
end L2.K71
end

section
set_option Elab.async false
set_option linter.all false
set_option maxRecDepth 100000
set_option maxHeartbeats 4000000
namespace L2.K71
open PySem PySem.Spec PyProof.Rows L2.Gd L2.Lv
/-! ### shaft_of -/
/-- the deeds at 0 -/
structure ZrAt (H : Hp) (n : Nat) (E0 UE : Rl) (la fu li fl : Addr) (lla lfu : List Nat) : Prop where
  hla : H la = some (.lst (iN lla))
  hfu : H fu = some (.lst (iN lfu))
  rla : Rep n lla E0
  rfu : Rep n lfu UE
  ila : In n E0
  ifu : In n UE
  nl : la ≠ li ∧ fu ≠ li
  nf : la ≠ fl ∧ fu ≠ fl
def spSf (C C2 : Addr) : Sp := fun vs H Q _ => ∃ (h l : Addr) (n : Nat) (xs : List V) (ds : List Dd), vs = [.ref h] ∧ HouseL C2 H h l n xs ds ∧ WF n ds ∧
  ∀ H' x u f d la fu ldn li fl wh lu lf ld, H x = none → Same H H' → ShAt C H' x n (Dl ds 1) (Dl ds 0) (Dl ds (-1)) u f d la fu ldn li fl wh lu lf ld 0 0 [] → (∃ lla lfu, ZrAt H' n (De ds 0) (Or2 (Dl ds 1) (De ds 1)) la fu li fl lla lfu) → ldn = d → H li = none → H fl = none → H wh = none → Q (.ref x) H'
def NSf : List Str := ["house", "ups", "flats", "downs", "lasting", "lifting", "change"]
theorem scSf : FnScope NSf ["house"] (defScope (top 36)) := ⟨rfl, rfl, rfl, by decide +kernel, rfl, by decide +kernel, by decide +kernel⟩
def RelAt (n : Nat) (ds : List Dd) (D : Addr) (H : Hp) (v : V) (c : Int) : Prop := ∃ p y, v = .ref p ∧ p ≠ D ∧ H p = some (.lst (iN y)) ∧ Rep n y (Dl ds c)
theorem stabR {n : Nat} {ds : List Dd} {D : Addr} : Stab (RelAt n ds D) D := fun _ _ _ _ b _ ⟨p, y, e, ne, hp, r⟩ => ⟨p, y, e, ne, b _ _ ne hp, r⟩
def ReeAt (n : Nat) (ds : List Dd) (D : Addr) (H : Hp) (v : V) (c : Int) : Prop := ∃ p y, v = .ref p ∧ p ≠ D ∧ H p = some (.lst (iN y)) ∧ Rep n y (De ds c)
theorem stabE {n : Nat} {ds : List Dd} {D : Addr} : Stab (ReeAt n ds D) D := fun _ _ _ _ b _ ⟨p, y, e, ne, hp, r⟩ => ⟨p, y, e, ne, b _ _ ne hp, r⟩
section
variable {P : Program} {w : World} {K : PySem.W.Frag} {mg : Str → Option Value} {base : Heap} {C C2 : Addr}
theorem ok_sf {f : Addr} {fd : FuncData} (F : Fun K "shaft_of" "shaft_of" (top 36) f fd) (T : ClsS K mg C) (M : MkS P w K mg base C) (JO : Fn P w K mg base 1 "joined" ["one", "two"] spJoi)
    (DR : Fn P w K mg base 3 "deed_relation" ["house", "change", "when"] (spDR C2)) (DX : Fn P w K mg base 3 "deed_relation" ["house", "change", "when"] (spDRe C2)) : FnOk P w K mg base CX0 4 f fd ["house"] (spSf C C2) := by
  refine F.ok scSf (fun vs H Q E h => ?_) (fun cdv A outer s H vs Q E hr h => ?_)
  · obtain ⟨h, l, n, xs, ds, rfl, _⟩ := h
    rfl
  · obtain ⟨h, l, n, xs, ds, rfl, hh, wf, q⟩ := h
    have N := scSf.nd
    have r1 := hr.mono (k := 3) (j := 1) (by decide)
    refine ⟨_, pss_cons (ps_asg (pe_lc (own := [("change", 6)]) (g := gName 6) (tt := tYes) rfl N (pi_tup (pe_tup (pa_cons pe_int (pa_cons pe_int (pa_cons (pe_un un_neg pe_int) pa_nil))))) (blkOk_by (N := NSf) (sc := defScope (top 36)) (by decide +kernel)) (fun _ _ _ _ _ => pg_name (i := 6) N rfl (.inl rfl)) (fun _ _ _ _ _ => pts_nil)
          (fun _ _ _ _ _ => pe_fn DR hr (pa_cons (pv 0) (pa_cons (pv 6) (pa_cons pe_str pa_nil)))))
        (pg_unl rfl (pgs_cons (pg_name (i := 1) N rfl (.inl rfl)) (pgs_cons (pg_name (i := 2) N rfl (.inl rfl)) (pgs_cons (pg_name (i := 3) N rfl (.inl rfl)) pgs_nil)))))
      (pss_cons (ps_asg (pe_lc (own := [("change", 6)]) (g := gName 6) (tt := tYes) rfl N (pi_tup (pe_tup (pa_cons pe_int (pa_cons pe_int pa_nil)))) (blkOk_by (N := NSf) (sc := defScope (top 36)) (by decide +kernel)) (fun _ _ _ _ _ => pg_name (i := 6) N rfl (.inl rfl)) (fun _ _ _ _ _ => pts_nil)
          (fun _ _ _ _ _ => pe_fn DX hr (pa_cons (pv 0) (pa_cons (pv 6) (pa_cons pe_str pa_nil)))))
        (pg_unl rfl (pgs_cons (pg_name (i := 4) N rfl (.inl rfl)) (pgs_cons (pg_name (i := 5) N rfl (.inl rfl)) pgs_nil))))
      (pss_one (ps_ret (pe_sh M T hr (pa_cons (pe_lst (pa_cons (pv 1) (pa_cons (pv 2) (pa_cons (pv 3) (pa_cons (pv 4) pa_nil))))) (pa_cons (pe_fn JO r1 (pa_cons (pv 1) (pa_cons (pv 5) pa_nil))) (pa_cons (pv 3) pa_nil))))))), ?_⟩
    refine seqV (Good := fun σ2 H1 => ∃ (u f d : Addr) (lu lf ld : List Nat), Same H H1 ∧ H1 u = some (.lst (iN lu)) ∧ H1 f = some (.lst (iN lf)) ∧ H1 d = some (.lst (iN ld)) ∧ Rep n lu (Dl ds 1) ∧ Rep n lf (Dl ds 0) ∧ Rep n ld (Dl ds (-1)) ∧ σ2 = [some (.ref h), some (.ref u), some (.ref f), some (.ref d), none, none, none]) ?_ ?_
    · intro nx hnx
      refine ⟨_, rfl, (by show 3 ≤ sizeLine; decide), fun t ht => ?_⟩
      have s0 := same_upd (o := .tup [V.int 1, V.int 0, V.int (-1)]) ht
      refine ⟨t, rfl, ⟨_, .inl (.inl upd_same)⟩, fun D hD => ?_⟩
      refine lc_mapT (es := [(1 : Int), 0, -1]) (F := fun _ v c => v = V.int c) (G := RelAt n ds D) (f := some) stabR upd_same hD (by decide) (.cons rfl (.cons rfl (.cons rfl .nil))) ?_ ?_
      · rintro x c H2 A B hc rfl b ⟨zs, hz⟩ hA hB
        refine ⟨rfl, yes_ite ⟨_, rfl, _, rfl, h, l, n, c, xs, ds, rfl, (hh.same s0).same (b.new hD), wf, fun p H3 y np s3 hp rp => hA c _ H3 rfl s3 ⟨p, y, rfl, ne_of_none hz np |>.symm, hp, rp⟩⟩⟩
      · intro ys H2 h1 h2 h3
        have h2 : Paired (RelAt n ds D H2) ys [(1 : Int), 0, -1] := h2
        obtain _ | ⟨⟨u, lu, rfl, _, hu, ru⟩, _ | ⟨⟨f, lf, rfl, _, hf, rf⟩, _ | ⟨⟨d, ld, rfl, _, hd, rd⟩, _ | _⟩⟩⟩ := h2
        exact ⟨D, _, rfl, .inl (.inl h1), rfl, _, _, rfl, _, _, rfl, _, _, rfl, rfl, hnx _ _ ⟨u, f, d, lu, lf, ld, s0.trans (h3.new hD), hu, hf, hd, ru, rf, rd, rfl⟩⟩
    rintro _ H1 ⟨u, f, d, lu, lf, ld, s1, hu, hf, hd, ru, rf, rd, rfl⟩
    refine seqV (Good := fun σ2 H2 => ∃ (la lg : Addr) (z1 z2 : List Nat), Same H1 H2 ∧ H2 la = some (.lst (iN z1)) ∧ H2 lg = some (.lst (iN z2)) ∧ Rep n z1 (De ds 0) ∧ Rep n z2 (De ds 1) ∧ σ2 = [some (.ref h), some (.ref u), some (.ref f), some (.ref d), some (.ref la), some (.ref lg), none]) ?_ ?_
    · intro nx hnx
      refine ⟨(by show 2 ≤ sizeLine; decide), fun t ht => ?_⟩
      have s0 := same_upd (o := .tup [V.int 0, V.int 1]) ht
      refine ⟨t, rfl, ⟨_, .inl (.inl upd_same)⟩, fun D hD => ?_⟩
      refine lc_mapT (es := [(0 : Int), 1]) (F := fun _ v c => v = V.int c) (G := ReeAt n ds D) (f := some) stabE upd_same hD (by decide) (.cons rfl (.cons rfl .nil)) ?_ ?_
      · rintro x c H2 A B hc rfl b ⟨zs, hz⟩ hA hB
        refine ⟨rfl, yes_ite ⟨_, rfl, _, rfl, h, l, n, c, xs, ds, rfl, ((hh.same s1).same s0).same (b.new hD), wf, fun p H3 y np s3 hp rp => hA c _ H3 rfl s3 ⟨p, y, rfl, ne_of_none hz np |>.symm, hp, rp⟩⟩⟩
      · intro ys H2 h1 h2 h3
        have h2 : Paired (ReeAt n ds D H2) ys [(0 : Int), 1] := h2
        obtain _ | ⟨⟨la, z1, rfl, _, h4, r4⟩, _ | ⟨⟨lg, z2, rfl, _, h5, r5⟩, _ | _⟩⟩ := h2
        exact ⟨D, _, rfl, .inl (.inl h1), rfl, _, _, rfl, _, _, rfl, rfl, hnx _ _ ⟨la, lg, z1, z2, s0.trans (h3.new hD), h4, h5, r4, r5, rfl⟩⟩
    rintro _ H2 ⟨la, lg, z1, z2, s2, hla, hlg, rla, rlg, rfl⟩
    have n16 : n ≤ 16 := by have := wf.m16; omega
    have n100 : n ≤ 100 := by omega
    have hu2 := s2 _ _ hu
    have hf2 := s2 _ _ hf
    have hd2 := s2 _ _ hd
    refine ⟨_, rfl, _, rfl, _, rfl, _, rfl, (by show 4 ≤ sizeLine; decide), fun R hR => ?_⟩
    have sR := same_upd (o := .lst [V.ref u, V.ref f, V.ref d, V.ref la]) hR
    refine ⟨_, rfl, _, rfl, u, lg, lu, z2, n, _, _, rfl, sR _ _ hu2, sR _ _ hlg, ru, rlg, n100, fun fu H4 y4 n4 s4 h4 r4 => ⟨_, rfl, fun x dx nx ndx ne => ?_⟩⟩
    have s5 : Same H4 (upd (upd H4 dx (.own x)) x (.ins C dx [])) := fun b o e => by
      rw [upd_ne (ne_of_none e nx), upd_ne (ne_of_none e ndx)]
      exact e
    have s24 := sR.trans s4
    have hu4 := s24 _ _ hu2
    have hf4 := s24 _ _ hf2
    have hd4 := s24 _ _ hd2
    refine ⟨x, dx, R, u, f, d, la, fu, d, n, Dl ds 1, Dl ds 0, Dl ds (-1), lu, lf, ld, rfl, upd_same, s5 _ _ (s4 _ _ upd_same), ⟨s5 _ _ hu4, s5 _ _ hf4, s5 _ _ hd4, ru, rf, rd, Dl.inn wf.ok 1, Dl.inn wf.ok 0, Dl.inn wf.ok (-1), n100⟩, fun H' li fl wh b sh nli nfl nwh => ?_⟩
    have s04 := (s1.trans s2).trans s24
    have f4 : ∀ {t : Addr}, upd (upd H4 dx (.own x)) x (.ins C dx []) t = none → H4 t = none := fun e => s5.free e
    refine ⟨rfl, ?_⟩
    have hla4 := s24 _ _ hla
    have zr : ZrAt H' n (De ds 0) (Or2 (Dl ds 1) (De ds 1)) la fu li fl z1 y4 := ⟨b _ _ (ne_of_none hla4 nx) (s5 _ _ hla4), b _ _ (ne_of_none h4 nx) (s5 _ _ h4), rla, r4, De.inn wf.ok 0, (Dl.inn wf.ok 1).or (De.inn wf.ok 1), ⟨ne_of_none hla4 (f4 nli), ne_of_none h4 (f4 nli)⟩, ⟨ne_of_none hla4 (f4 nfl), ne_of_none h4 (f4 nfl)⟩⟩
    exact q H' x u f d la fu d li fl wh lu lf ld (s04.free nx) (fun t o e => b t o (ne_of_none (s04 _ _ e) nx) (s5 _ _ (s04 _ _ e))) (sh.at ⟨ne_of_none hu4 (f4 nli), ne_of_none hf4 (f4 nli), ne_of_none hd4 (f4 nli)⟩ ⟨ne_of_none hu4 (f4 nfl), ne_of_none hf4 (f4 nfl), ne_of_none hd4 (f4 nfl)⟩) ⟨z1, y4, zr⟩ rfl (s04.free (f4 nli)) (s04.free (f4 nfl)) (s04.free (f4 nwh))
end
end L2.K71
end

section
set_option linter.all false
namespace L2.Lv
/-! Leading under a roof: the mathematics. -/
section
variable {n : Nat} {U F D : Rl}
/-- up from k, never below what was come to -/
def Rsn (n : Nat) (U F D : Rl) (R k : Nat) : Nat → Rl
  | 0 => fun a b => a = b
  | d + 1 => Cp (Cp (Rsn n U F D R k d) U) (Lid n U F D (R - (k + d + 1)))
/-- down from h -/
def Fal (n : Nat) (U F D : Rl) (R h : Nat) : Nat → Rl
  | 0 => fun a b => a = b
  | d + 1 => Cp (Cp (Fal n U F D R h d) (Lid n U F D (R - (h - d)))) D
theorem re_lid : ∀ (m i : Nat) {a b : Nat}, Lid n U F D m a b → Re (i + m) U F D (a, i) (b, i)
  | 0, i, _, _, h => re_star (fun a b z => Re.one (.flat z (by omega))) h.2.2
  | m + 1, i, _, _, h => re_star (fun a b z => z.elim (fun z => Re.one (.flat z (by omega))) fun ⟨y, ⟨x, h1, h2⟩, h3⟩ => by
      have e := re_lid m (i + 1) h2
      rw [show i + 1 + m = i + (m + 1) by omega] at e
      exact ((Re.one (.up h1 (by omega))).trans e).trans (Re.one (.down h3 (by omega)))) h.2.2
theorem re_cap {cap : Nat} {s t : Nat × Nat} (hs : s.2 ≤ cap) (h : Re cap U F D s t) : t.2 ≤ cap := by
  induction h with
  | start => exact hs
  | next _ k _ =>
    cases k with
    | up _ l => exact l
    | flat _ l => exact l
    | down _ l => show _ ≤ cap; omega
/-- walks of stands and walks of numbers -/
theorem re_zw {R k a : Nat} {t : Nat × Nat} (h : Re R U F D (a, k) t) : Zw U F D (-(k : Int)) ((R : Int) - k) a t.1 ((t.2 : Int) - k) := by
  induction h with
  | start =>
    rw [show (((a, k) : Nat × Nat).2 : Int) - k = 0 by show (k : Int) - k = 0; omega]
    exact .start
  | @next t u _ x ih =>
    cases x with
    | @up b c i h l =>
      have ih : Zw U F D (-(k : Int)) ((R : Int) - k) a b ((i : Int) - k) := ih
      have := Zw.up ih h (by omega)
      show Zw U F D (-(k : Int)) ((R : Int) - k) a c (((i + 1 : Nat) : Int) - k)
      rw [show (((i + 1 : Nat) : Int) - k) = (i : Int) - k + 1 by omega]
      exact this
    | @flat b c i h l => exact Zw.flat (show Zw U F D (-(k : Int)) ((R : Int) - k) a b ((i : Int) - k) from ih) h
    | @down b c i h l =>
      have ih : Zw U F D (-(k : Int)) ((R : Int) - k) a b (((i + 1 : Nat) : Int) - k) := ih
      have := Zw.down ih h (by omega)
      show Zw U F D (-(k : Int)) ((R : Int) - k) a c ((i : Int) - k)
      rw [show ((i : Int) - k) = ((i + 1 : Nat) : Int) - k - 1 by omega]
      exact this
theorem zw_re {R k a b : Nat} {x : Int} (kR : k ≤ R) (w : Zw U F D (-(k : Int)) ((R : Int) - k) a b x) : Re R U F D (a, k) (b, (x + k).toNat) := by
  induction w with
  | start =>
    rw [show ((0 : Int) + k).toNat = k by omega]
    exact .start
  | @up b c x w u l ih =>
    have lo := zw_low (by omega) (by omega) w
    rw [show (x + 1 + k).toNat = (x + k).toNat + 1 by omega]
    exact ih.next (.up u (by omega))
  | @flat b c x w u ih =>
    have lo := zw_low (by omega) (by omega) w
    exact ih.next (.flat u (by omega))
  | @down b c x w u l ih =>
    have lo := zw_low (by omega) (by omega) w
    rw [show (x + k).toNat = (x - 1 + k).toNat + 1 by omega] at ih
    exact ih.next (.down u (by omega))
theorem upw_ris {B : Rl} {R k a : Nat} (kR : k ≤ R) : ∀ (d : Nat) {c : Nat}, Upw n U F D B (R - k) a d c → k + d ≤ R ∧ ∃ c0, B a c0 ∧ Rsn n U F D R k d c0 c
  | 0, c, h => ⟨kR, c, h, rfl⟩
  | d + 1, c, ⟨e, f, w, u, l, t⟩ => by
    obtain ⟨_, c0, h1, h2⟩ := upw_ris kR d w
    rw [show R - k - (d + 1) = R - (k + d + 1) by omega] at t
    exact ⟨by omega, c0, h1, f, ⟨e, h2, u⟩, t⟩
theorem ris_re {R k : Nat} : ∀ (d : Nat) {a c : Nat}, k + d ≤ R → Rsn n U F D R k d a c → Re R U F D (a, k) (c, k + d)
  | 0, _, _, _, rfl => .start
  | d + 1, a, c, l, ⟨f, ⟨e, h, u⟩, t⟩ => by
    have e1 := ris_re d (by omega) h
    have e2 := re_lid (R - (k + d + 1)) (k + d + 1) t
    rw [show k + d + 1 + (R - (k + d + 1)) = R by omega] at e2
    exact (e1.next (.up u (by omega))).trans e2
theorem band_re {R k a b : Nat} (kR : k ≤ R) (h : Band n U F D k (R - k) a b) : Re R U F D (a, k) (b, k) := by
  have w := band_zw h
  rw [show ((R - k : Nat) : Int) = (R : Int) - k by omega] at w
  have := zw_re kR w
  rw [show ((0 : Int) + k).toNat = k by omega] at this
  exact this
/-- up -/
theorem re_up_iff (iu : In n U) (i : In n F) (id : In n D) {R k d a b : Nat} (ha : a < n) (kR : k + d ≤ R) : Re R U F D (a, k) (b, k + d) ↔ ∃ c, Band n U F D k (R - k) a c ∧ Rsn n U F D R k d c b := by
  constructor
  · intro h
    have w := re_zw h
    rw [show (R : Int) - k = ((R - k : Nat) : Int) by omega] at w
    rcases zw_told iu i id ha w with ⟨d', e, w⟩ | ⟨d', e, w⟩
    · have e : ((k + d : Nat) : Int) - k = d' := e
      obtain rfl : d' = d := by omega
      exact (upw_ris (by omega) d' w).2
    · have e : ((k + d : Nat) : Int) - k = -(d' : Int) := e
      obtain rfl : d' = 0 := by omega
      obtain rfl : d = 0 := by omega
      exact ⟨b, w, rfl⟩
  · rintro ⟨c, h1, h2⟩
    exact (band_re (by omega) h1).trans (ris_re d kR h2)
theorem band_tr {l h a b : Nat} (k : Band n U F D l h a b) : Band n (Tr D) (Tr F) (Tr U) l h b a :=
  cl_tr (fun a b z => by
    rcases z with z | ⟨k, e, z⟩ | ⟨k, e, z⟩
    · exact .inl z
    · exact .inr (.inl ⟨k, e, cp3_tr (fun _ _ z => z) (fun a b z => lid_tr k z) (fun _ _ z => z) z⟩)
    · exact .inr (.inr ⟨k, e, cp3_tr (fun _ _ z => z) (fun a b z => lid_tr k z) (fun _ _ z => z) z⟩)) k
theorem fal_head {R h : Nat} : ∀ (d : Nat) {a c : Nat}, Fal n U F D R (h + 1) (d + 1) a c ↔ ∃ y x, Lid n U F D (R - (h + 1)) a y ∧ D y x ∧ Fal n U F D R h d x c
  | 0, a, c => ⟨fun ⟨y, ⟨x, e, l⟩, u⟩ => ⟨y, c, (show a = x from e) ▸ l, u, rfl⟩, fun ⟨y, x, l, u, e⟩ => ⟨y, ⟨a, rfl, l⟩, (show x = c from e) ▸ u⟩⟩
  | d + 1, a, c => by
    constructor
    · rintro ⟨y, ⟨x, h1, l⟩, u⟩
      obtain ⟨y', x', h2, h3, h4⟩ := (fal_head d).mp h1
      rw [show R - (h + 1 - (d + 1)) = R - (h - d) by omega] at l
      exact ⟨y', x', h2, h3, y, ⟨x, h4, l⟩, u⟩
    · rintro ⟨y', x', h2, h3, y, ⟨x, h4, l⟩, u⟩
      refine ⟨y, ⟨x, (fal_head d).mpr ⟨y', x', h2, h3, h4⟩, ?_⟩, u⟩
      rw [show R - (h + 1 - (d + 1)) = R - (h - d) by omega]
      exact l
theorem ris_fal {R e : Nat} : ∀ (d : Nat) {a c : Nat}, Rsn n (Tr D) (Tr F) (Tr U) R e d c a ↔ Fal n U F D R (e + d) d a c
  | 0, _, _ => ⟨fun h => (show _ = _ from h).symm, fun h => (show _ = _ from h).symm⟩
  | d + 1, a, c => by
    rw [show e + (d + 1) = (e + d) + 1 by omega, fal_head]
    constructor
    · rintro ⟨y, ⟨x, h1, u⟩, l⟩
      exact ⟨y, x, (lid_tr_iff _ a y).mp l, u, (ris_fal d).mp h1⟩
    · rintro ⟨y, x, l, u, h1⟩
      exact ⟨y, ⟨x, (ris_fal d).mpr h1, u⟩, (lid_tr_iff _ a y).mpr l⟩
/-- down -/
theorem re_dn_iff (iu : In n U) (i : In n F) (id : In n D) {R e d a b : Nat} (hb : b < n) (kR : e + d ≤ R) : Re R U F D (a, e + d) (b, e) ↔ ∃ c, Fal n U F D R (e + d) d a c ∧ Band n U F D e (R - e) c b := by
  have key := re_up_iff (n := n) (U := Tr D) (F := Tr F) (D := Tr U) (R := R) (k := e) (d := d) (a := b) (b := a) (tr_in id) (tr_in i) (tr_in iu) hb kR
  constructor
  · intro h
    obtain ⟨c, h1, h2⟩ := key.mp (re_rev h)
    exact ⟨c, (ris_fal d).mp h2, band_tr h1⟩
  · rintro ⟨c, h1, h2⟩
    exact re_rev (key.mpr ⟨c, band_tr h2, (ris_fal d).mpr h1⟩)
theorem re_flat_iff (iu : In n U) (i : In n F) (id : In n D) {R a b : Nat} (ha : a < n) : Re R U F D (a, 0) (b, 0) ↔ Lid n U F D R a b := by
  have := re_up_iff (R := R) (k := 0) (d := 0) (b := b) iu i id ha (Nat.zero_le _)
  rw [this]
  constructor
  · rintro ⟨c, h1, h2⟩
    rw [show c = b from h2] at h1
    exact (lid_band R a b).mpr h1
  · intro h
    exact ⟨b, (lid_band R a b).mp h, rfl⟩
/-- goings with no "empty" deeds, as the program tells them -/
def LedU (n : Nat) (U F D : Rl) (R a s b e : Nat) : Prop :=
  if s ≤ e then ∃ c, Band n U F D s (R - s) a c ∧ Rsn n U F D R s (e - s) c b else ∃ c, Fal n U F D R s (s - e) a c ∧ Band n U F D e (R - e) c b
theorem ledu_iff (iu : In n U) (i : In n F) (id : In n D) {R a s b e : Nat} (ha : a < n) (hb : b < n) (sR : s ≤ R) (eR : e ≤ R) : LedU n U F D R a s b e ↔ Re R U F D (a, s) (b, e) := by
  unfold LedU
  split
  · rename_i h
    obtain ⟨d, rfl⟩ := Nat.exists_eq_add_of_le h
    rw [Nat.add_sub_cancel_left]
    exact (re_up_iff iu i id ha eR).symm
  · rename_i h
    obtain ⟨d, rfl⟩ := Nat.exists_eq_add_of_le (Nat.le_of_not_le h)
    rw [Nat.add_sub_cancel_left]
    exact (re_dn_iff iu i id hb sR).symm
/-! ### over the empty till -/
variable {E0 E1 : Rl}
def Tur (n : Nat) (U F D E0 UE : Rl) (R : Nat) : Rl := Cl n (Or2 (Or2 (Lid n U F D R) E0) fun a b => ∃ k, R = k + 1 ∧ Cp (Cp UE (Lid n U F D k)) D a b)
def Beg (n : Nat) (U F D UE : Rl) (R : Nat) : Rl := Cp UE (Lid n U F D (R - 1))
/-- goings by 0, as the program tells them -/
def LedE (n : Nat) (U F D E0 UE : Rl) (R a s b e : Nat) : Prop :=
  ∃ z z', Fal n U F D R s s a z ∧ Tur n U F D E0 UE R z z' ∧ ((e = 0 ∧ z' = b) ∨ ∃ k, e = k + 1 ∧ ∃ y, Beg n U F D UE R z' y ∧ Rsn n U F D R 1 k y b)
theorem fal_in (id : In n D) {R h : Nat} : ∀ (d : Nat) {a c : Nat}, a < n → Fal n U F D R h d a c → c < n
  | 0, _, _, ha, e => (show _ = _ from e) ▸ ha
  | _ + 1, _, _, _, ⟨_, _, u⟩ => (id _ _ u).2
/-- a plain walk to 0 -/
theorem re_to0 (iu : In n U) (i : In n F) (id : In n D) {R a s z : Nat} (hz : z < n) (sR : s ≤ R) (h : Re R U F D (a, s) (z, 0)) : ∃ y, Fal n U F D R s s a y ∧ Lid n U F D R y z := by
  have := (re_dn_iff (R := R) (e := 0) (d := s) (a := a) (b := z) iu i id hz (by omega)).mp (by rw [Nat.zero_add]; exact h)
  obtain ⟨c, h1, h2⟩ := this
  rw [Nat.zero_add] at h1
  exact ⟨c, h1, (lid_band R c z).mpr h2⟩
theorem fal_re {R : Nat} (iu : In n U) (i : In n F) (id : In n D) {a s z : Nat} (ha : a < n) (sR : s ≤ R) (h : Fal n U F D R s s a z) : Re R U F D (a, s) (z, 0) := by
  have hz := fal_in id s ha h
  have := (re_dn_iff (e := 0) (d := s) (a := a) (b := z) (R := R) iu i id hz (by omega)).mpr ⟨z, by rw [Nat.zero_add]; exact h, (lid_band R z z).mp (lid_refl R hz)⟩
  rw [Nat.zero_add] at this
  exact this
theorem re_fst' (iu : In n U) (i : In n F) (id : In n D) {cap : Nat} {s t : Nat × Nat} (hs : s.1 < n) (h : Re cap U F D s t) : t.1 < n := by
  induction h with
  | start => exact hs
  | next _ k _ =>
    cases k with
    | up h _ => exact (iu _ _ h).2
    | flat h _ => exact (i _ _ h).2
    | down h _ => exact (id _ _ h).2
/-- from a first deed up, above 0 alone -/
theorem beg_iff (iu : In n U) (i : In n F) (id : In n D) (ie : In n (Or2 U E1)) {R k z b : Nat} (kR : k + 1 ≤ R) : (∃ y, Beg n U F D (Or2 U E1) R z y ∧ Rsn n U F D R 1 k y b) ↔ ∃ x, Or2 U E1 z x ∧ Re (R - 1) U F D (x, 0) (b, k) := by
  have rr : ∀ (k : Nat) {y b : Nat}, Rsn n U F D R 1 k y b ↔ Rsn n U F D (R - 1) 0 k y b := by
    intro k
    induction k with
    | zero => exact Iff.rfl
    | succ k ih =>
      intro y b
      show Cp (Cp (Rsn n U F D R 1 k) U) (Lid n U F D (R - (1 + k + 1))) y b ↔ Cp (Cp (Rsn n U F D (R - 1) 0 k) U) (Lid n U F D (R - 1 - (0 + k + 1))) y b
      rw [show R - (1 + k + 1) = R - 1 - (0 + k + 1) by omega]
      exact ⟨fun ⟨f, ⟨e, h, u⟩, l⟩ => ⟨f, ⟨e, ih.mp h, u⟩, l⟩, fun ⟨f, ⟨e, h, u⟩, l⟩ => ⟨f, ⟨e, ih.mpr h, u⟩, l⟩⟩
  have key : ∀ {x : Nat}, x < n → (Re (R - 1) U F D (x, 0) (b, k) ↔ ∃ y, Lid n U F D (R - 1) x y ∧ Rsn n U F D R 1 k y b) := fun {x} hx => by
    have := re_up_iff (R := R - 1) (k := 0) (d := k) (b := b) iu i id hx (by omega)
    rw [Nat.zero_add] at this
    rw [this]
    exact ⟨fun ⟨c, h1, h2⟩ => ⟨c, (lid_band _ x c).mpr h1, (rr k).mpr h2⟩, fun ⟨c, h1, h2⟩ => ⟨c, (lid_band _ x c).mp h1, (rr k).mp h2⟩⟩
  constructor
  · rintro ⟨y, ⟨x, h1, h2⟩, h3⟩
    exact ⟨x, h1, (key (ie _ _ h1).2).mpr ⟨y, h2, h3⟩⟩
  · rintro ⟨x, h1, h2⟩
    obtain ⟨y, h3, h4⟩ := (key (ie _ _ h1).2).mp h2
    exact ⟨y, ⟨x, h1, h3⟩, h4⟩
theorem re_above {R : Nat} {s t : Nat × Nat} (R1 : 1 ≤ R) (h : Re (R - 1) U F D s t) : Re R U F D (s.1, s.2 + 1) (t.1, t.2 + 1) := by
  have := re_shift h
  rw [show R - 1 + 1 = R by omega] at this
  exact this
theorem tur_rz (iu : In n U) (i : In n F) (id : In n D) {R a b : Nat} (h : Tur n U F D E0 (Or2 U E1) R a b) : Rz R U F D E0 E1 (a, 0) (b, 0) := by
  obtain ⟨z1, z2, h⟩ := h
  clear z1 z2
  induction h with
  | refl => exact .start
  | step h _ ih =>
    refine Rz.trans ?_ ih
    rcases h with (h | h) | ⟨k, rfl, y, ⟨x, h1, h2⟩, h3⟩
    · have := re_lid R 0 h
      rw [Nat.zero_add] at this
      exact this.z
    · exact .zero .start (.last h)
    · have e1 := re_lid k 1 h2
      have e1 := re_mono (cap' := k + 1) (by omega) e1
      rcases h1 with h1 | h1
      · exact (((Re.one (.up h1 (by omega))).trans e1).next (.down h3 (by omega))).z
      · have e0 : Rz (k + 1) U F D E0 E1 (_, 0) (x, 1) := .zero .start (.lift h1 (by omega))
        exact (e0.trans e1.z).next (.down h3 (by omega))
/-- under a roof, "empty" deeds among all -/
theorem rzu_iff (iu : In n U) (i : In n F) (id : In n D) (i0 : In n E0) (i1 : In n E1) {R a s b e : Nat} (ha : a < n) (hb : b < n) (sR : s ≤ R) (eR : e ≤ R) :
    Rz R U F D E0 E1 (a, s) (b, e) ↔ LedU n U F D R a s b e ∨ LedE n U F D E0 (Or2 U E1) R a s b e := by
  have ie : In n (Or2 U E1) := iu.or i1
  constructor
  · intro h
    have key : ∀ {t : Nat × Nat}, Rz R U F D E0 E1 (a, s) t → t.1 < n ∧ t.2 ≤ R ∧ (Re R U F D (a, s) t ∨ ∃ z z', Fal n U F D R s s a z ∧ Tur n U F D E0 (Or2 U E1) R z z' ∧ ((t.2 = 0 ∧ z' = t.1) ∨ ∃ k x, t.2 = k + 1 ∧ Or2 U E1 z' x ∧ Re (R - 1) U F D (x, 0) (t.1, k))) := by
      intro t h
      induction h with
      | start => exact ⟨ha, sR, .inl .start⟩
      | @next t u _ k ih =>
        obtain ⟨ht, tR, ih⟩ := ih
        have hu : u.1 < n ∧ u.2 ≤ R := by
          cases k with
          | up h l => exact ⟨(iu _ _ h).2, l⟩
          | flat h l => exact ⟨(i _ _ h).2, l⟩
          | down h l => exact ⟨(id _ _ h).2, by show _ ≤ R; omega⟩
        refine ⟨hu.1, hu.2, ?_⟩
        rcases ih with h | ⟨z, z', h1, h2, ⟨e0, e1⟩ | ⟨k', x, e0, h3, h4⟩⟩
        · exact .inl (h.next k)
        · have hz' := h2.2.1
          cases k with
          | @up c d j hk l =>
            have e0 : j = 0 := e0
            have e1 : z' = c := e1
            subst e0 e1
            exact .inr ⟨z, z', h1, h2, .inr ⟨0, d, rfl, .inl hk, .start⟩⟩
          | @flat c d j hk l =>
            have e0 : j = 0 := e0
            have e1 : z' = c := e1
            subst e0 e1
            exact .inr ⟨z, d, h1, Cl.trans h2 ⟨hz', (i _ _ hk).2, .one (.inl (.inl (lid_flat i R _ _ hk)))⟩, .inl ⟨rfl, rfl⟩⟩
          | @down c d j hk l => exact absurd (show j + 1 = 0 from e0) (by omega)
        · have hx := (ie _ _ h3).2
          cases k with
          | @up c d j hk l =>
            have e0 : j = k' + 1 := e0
            subst e0
            exact .inr ⟨z, z', h1, h2, .inr ⟨k' + 1, x, rfl, h3, h4.next (.up hk (by omega))⟩⟩
          | @flat c d j hk l =>
            have e0 : j = k' + 1 := e0
            subst e0
            exact .inr ⟨z, z', h1, h2, .inr ⟨k', x, rfl, h3, h4.next (.flat hk (by omega))⟩⟩
          | @down c d j hk l =>
            have e0 : j + 1 = k' + 1 := e0
            obtain rfl : j = k' := by omega
            have h4 : Re (R - 1) U F D (x, 0) (c, j) := h4
            cases j with
            | succ j => exact .inr ⟨z, z', h1, h2, .inr ⟨j, x, rfl, h3, h4.next (.down hk (by omega))⟩⟩
            | zero =>
              have g := (re_flat_iff iu i id hx).mp h4
              have hd := (id _ _ hk).2
              exact .inr ⟨z, d, h1, Cl.trans h2 ⟨h2.2.1, hd, .one (.inr ⟨R - 1, by omega, c, ⟨x, h3, g⟩, hk⟩)⟩, .inl ⟨rfl, rfl⟩⟩
      | @zero t u _ k ih =>
        obtain ⟨ht, tR, ih⟩ := ih
        have at0 : ∀ {c : Nat}, t = (c, 0) → ∃ z, Fal n U F D R s s a z ∧ Tur n U F D E0 (Or2 U E1) R z c := by
          rintro c rfl
          rcases ih with h | ⟨z, z', h1, h2, ⟨e0, e1⟩ | ⟨k', x, e0, h3, h4⟩⟩
          · obtain ⟨y, h1, h2⟩ := re_to0 iu i id ht sR h
            exact ⟨y, h1, fal_in id s ha h1, ht, .one (.inl (.inl h2))⟩
          · exact ⟨z, h1, (show z' = c from e1) ▸ h2⟩
          · exact absurd (show 0 = k' + 1 from e0) (by omega)
        cases k with
        | last h0 =>
          obtain ⟨z, h1, h2⟩ := at0 rfl
          have hb' := (i0 _ _ h0).2
          exact ⟨hb', Nat.zero_le _, .inr ⟨z, _, h1, Cl.trans h2 ⟨h2.2.1, hb', .one (.inl (.inr h0))⟩, .inl ⟨rfl, rfl⟩⟩⟩
        | lift h0 l =>
          obtain ⟨z, h1, h2⟩ := at0 rfl
          exact ⟨(i1 _ _ h0).2, l, .inr ⟨z, _, h1, h2, .inr ⟨0, _, rfl, .inr h0, .start⟩⟩⟩
    rcases (key h).2.2 with h | ⟨z, z', h1, h2, h3⟩
    · exact .inl ((ledu_iff iu i id ha hb sR eR).mpr h)
    · refine .inr ⟨z, z', h1, h2, ?_⟩
      rcases h3 with h3 | ⟨k, x, e0, h3, h4⟩
      · exact .inl h3
      · have e0 : e = k + 1 := e0
        exact .inr ⟨k, e0, (beg_iff iu i id ie (by omega)).mpr ⟨x, h3, h4⟩⟩
  · rintro (h | ⟨z, z', h1, h2, h3⟩)
    · exact ((ledu_iff iu i id ha hb sR eR).mp h).z
    · have e1 := (fal_re iu i id ha sR h1).z (E0 := E0) (E1 := E1)
      have e2 := e1.trans (tur_rz iu i id h2)
      rcases h3 with ⟨rfl, rfl⟩ | ⟨k, rfl, h3⟩
      · exact e2
      · obtain ⟨x, h4, h5⟩ := (beg_iff iu i id ie eR).mp h3
        have h6 := re_above (by omega) h5
        rcases h4 with h4 | h4
        · exact (e2.next (.up h4 (by omega))).trans h6.z
        · exact (e2.zero (.lift h4 (by omega))).trans h6.z
theorem rz_mono {R R' : Nat} (h : R ≤ R') {s t : Nat × Nat} (k : Rz R U F D E0 E1 s t) : Rz R' U F D E0 E1 s t := by
  induction k with
  | start => exact .start
  | next _ x ih =>
    refine ih.next ?_
    cases x with
    | up x y => exact .up x (by omega)
    | flat x y => exact .flat x (by omega)
    | down x y => exact .down x (by omega)
  | zero _ x ih =>
    refine ih.zero ?_
    cases x with
    | last x => exact .last x
    | lift x y => exact .lift x (by omega)
end
end L2.Lv
end

section
set_option linter.all false
namespace L2.Lv
/-! The least roof is near. -/
section
variable {n : Nat} {U F D : Rl}
theorem countP_rows {α : Type} {p : α → Bool} (f : Nat → List α) : ∀ k, (∀ a, a < k → 1 ≤ (f a).countP p) → k ≤ ((List.range k).flatMap f).countP p
  | 0, _ => Nat.zero_le _
  | k + 1, h => by
    rw [List.range_succ, List.flatMap_append, List.countP_append]
    have h1 := countP_rows f k fun a ha => h a (by omega)
    have h2 := h k (by omega)
    rw [List.flatMap_cons, List.flatMap_nil, List.append_nil]
    omega
theorem cnt_diag {l : List Nat} {r : Rl} (h : Rep n l r) (d : ∀ a, a < n → r a a) : n ≤ cnt n l := by
  unfold cnt sq
  refine countP_rows _ n fun a ha => ?_
  refine List.countP_pos_iff.mpr ⟨(a, a), List.mem_map.mpr ⟨a, List.mem_range.mpr ha, rfl⟩, ?_⟩
  exact (h.bit a a).mpr (d a ha)
theorem lid_chain2 : ∃ m, m + n ≤ n * n ∧ Stops (Lid n U F D) m := by
  obtain ⟨m, hm, st, no⟩ := chain (n := n) (f := Lid n U F D) lid_in lid_succ
  refine ⟨m, ?_, st⟩
  have key : ∀ j, j ≤ m → j + n ≤ cnt n (repOf n (Lid n U F D j)) := by
    intro j
    induction j with
    | zero =>
      intro _
      rw [Nat.zero_add]
      exact cnt_diag (repOf_ok (lid_in (n := n) (U := U) (F := F) (D := D) 0)) fun a ha => lid_refl 0 ha
    | succ j ih =>
      intro hj
      have h1 := ih (by omega)
      have := cnt_lt (repOf_ok (lid_in (n := n) (U := U) (F := F) (D := D) j)) (repOf_ok (lid_in (n := n) (U := U) (F := F) (D := D) (j + 1))) (lid_in _) (lid_succ j) (fun e => no j (by omega) fun a b => ((repOf_ok (lid_in j)).ext (repOf_ok (lid_in (j + 1))) |>.mp e a b).symm)
      omega
  exact Nat.le_trans (key m (Nat.le_refl m)) (cnt_le n _)
variable {R R1 M m0 : Nat}
theorem lid_near (st : Stops (Lid n U F D) m0) {k k1 : Nat} (h1 : m0 ≤ k1) (a b : Nat) (h : Lid n U F D k a b) : Lid n U F D k1 a b := by
  by_cases c : k ≤ k1
  · exact lid_le c a b h
  · exact (lid_far st h1 a b).mpr ((lid_far st (by omega) a b).mp h)
theorem ris_near (st : Stops (Lid n U F D) m0) (hm : M + m0 ≤ R1) {k : Nat} : ∀ (d : Nat) {a c : Nat}, k + d ≤ M → Rsn n U F D R k d a c → Rsn n U F D R1 k d a c
  | 0, _, _, _, h => h
  | d + 1, _, _, l, ⟨f, ⟨e, h, u⟩, t⟩ => ⟨f, ⟨e, ris_near st hm d (by omega) h, u⟩, lid_near st (by omega) _ _ t⟩
theorem fal_near (st : Stops (Lid n U F D) m0) (hm : M + m0 ≤ R1) {h : Nat} (hh : h ≤ M) : ∀ (d : Nat) {a c : Nat}, Fal n U F D R h d a c → Fal n U F D R1 h d a c
  | 0, _, _, h => h
  | d + 1, _, _, ⟨f, ⟨e, h, t⟩, u⟩ => ⟨f, ⟨e, fal_near st hm hh d h, lid_near st (by omega) _ _ t⟩, u⟩
theorem band_near (st : Stops (Lid n U F D) m0) (hm : m0 + n ≤ n * n) (hR : M + (n * n - 1) ≤ R1) {s : Nat} (hs : s ≤ M) {a b : Nat} (h : Band n U F D s (R - s) a b) : Band n U F D s (R1 - s) a b := by
  have ha := h.1
  have hb := h.2.1
  by_cases n1 : n = 1
  · subst n1
    obtain rfl : a = b := by omega
    exact Cl.refl ha
  · have n2 : 2 ≤ n := by omega
    have nn : 2 * n ≤ n * n := Nat.mul_le_mul_right n n2
    refine Cl.mono (fun a b z => ?_) a b h
    rcases z with z | ⟨k, e, z⟩ | z
    · exact .inl z
    · exact .inr (.inl ⟨R1 - s - 1, by omega, Cp.mono (Cp.mono (fun _ _ z => z) fun a b z => lid_near st (by omega) a b z) (fun _ _ z => z) a b z⟩)
    · exact .inr (.inr z)
variable {E0 UE : Rl}
theorem tur_near (st : Stops (Lid n U F D) m0) (hm : m0 + n ≤ n * n) (hR : M + (n * n - 1) ≤ R1) {a b : Nat} (h : Tur n U F D E0 UE R a b) : Tur n U F D E0 UE R1 a b := by
  have ha := h.1
  have hb := h.2.1
  by_cases n1 : n = 1
  · subst n1
    obtain rfl : a = b := by omega
    exact Cl.refl ha
  · have n2 : 2 ≤ n := by omega
    have nn : 2 * n ≤ n * n := Nat.mul_le_mul_right n n2
    refine Cl.mono (fun a b z => ?_) a b h
    rcases z with (z | z) | ⟨k, e, z⟩
    · exact .inl (.inl (lid_near st (by omega) a b z))
    · exact .inl (.inr z)
    · exact .inr ⟨R1 - 1, by omega, Cp.mono (Cp.mono (fun _ _ z => z) fun a b z => lid_near st (by omega) a b z) (fun _ _ z => z) a b z⟩
theorem rz_least {E1 : Rl} (iu : In n U) (i : In n F) (id : In n D) (i0 : In n E0) (i1 : In n E1) {a s b e : Nat} (ha : a < n) (hb : b < n) (sR : s ≤ R) (eR : e ≤ R) (h : Rz R U F D E0 E1 (a, s) (b, e)) :
    Rz (max s e + (n * n - 1)) U F D E0 E1 (a, s) (b, e) := by
  obtain ⟨m0, hm, st⟩ := lid_chain2 (n := n) (U := U) (F := F) (D := D)
  have nn : 1 * n ≤ n * n := Nat.mul_le_mul_right n (by omega)
  have e1 : s ≤ max s e := Nat.le_max_left _ _
  have e2 : e ≤ max s e := Nat.le_max_right _ _
  generalize hR : max s e + (n * n - 1) = R1
  refine (rzu_iff iu i id i0 i1 ha hb (by omega) (by omega)).mpr ?_
  have hM : max s e + m0 ≤ R1 := by omega
  rcases (rzu_iff iu i id i0 i1 ha hb sR eR).mp h with h | ⟨z, z', h1, h2, h3⟩
  · refine .inl ?_
    unfold LedU at h ⊢
    split
    · rename_i c
      rw [if_pos c] at h
      obtain ⟨c', h1, h2⟩ := h
      exact ⟨c', band_near (M := max s e) st hm (by omega) e1 h1, ris_near st hM _ (by omega) h2⟩
    · rename_i c
      rw [if_neg c] at h
      obtain ⟨c', h1, h2⟩ := h
      exact ⟨c', fal_near st hM e1 _ h1, band_near (M := max s e) st hm (by omega) e2 h2⟩
  · refine .inr ⟨z, z', fal_near st hM e1 _ h1, tur_near (M := max s e) st hm (by omega) h2, h3.imp id' ?_⟩
    rintro ⟨k, e3, y, ⟨x, h4, h5⟩, h6⟩
    exact ⟨k, e3, y, ⟨x, h4, lid_near st (by omega) _ _ h5⟩, ris_near st hM _ (by omega) h6⟩
where id' {p : Prop} (h : p) : p := h
end
end L2.Lv
end

section
set_option Elab.async false
set_option linter.all false
set_option maxRecDepth 100000
set_option maxHeartbeats 4000000
namespace L2.K71
open PySem PySem.Spec PyProof.Rows L2.Gd L2.Lv
/-! ### a house's Shaft, whatever it was asked -/
section
variable {X : Cx} {C : Addr} {x : Str} {k : Nat} {ps : List Str} {sp : Sp} {o : Expr} {ta : TE} {apos pos : Pos}
theorem pe_mP0 {pl : Sem Bool} (M : MeH X.prog X.w X.K X.mg X.base C x k ps sp) (T : Cls X.K C) (hr : Room k X.A) (he : PE X o ta)
    (ht : eval (.Call (.Attribute o x apos) [] [] pos) X.env = (do
      let ov ← eval o X.env
      standAt apos.atName
      let (f, first) ← holding [ov] (getMethod ov x pl)
      callWith pos f first (backTo pos (starEach [] X.env)) (backToKw pos (keywordEach [] X.env))) := by rfl) :
    PE X (.Call (.Attribute o x apos) [] [] pos) (tMeth C x sp [] E0 ta tNil) := by
  obtain ⟨f, fd, hm, b, F⟩ := M.ex
  exact pe_meth0 he T hm F hr b .nil pass0 ht
end
theorem fSh_mlid_top (u f d la fu ld li fl wh : Addr) : (fSh u f d la fu ld li fl wh).lookup ("lid_top" : Str) = none := by
  unfold fSh
  rw [lookup_putF, if_neg (by decide +kernel), lookup_putF, if_neg (by decide +kernel), lookup_putF, if_neg (by decide +kernel), lookup_putF, if_neg (by decide +kernel), lookup_putF, if_neg (by decide +kernel), lookup_putF, if_neg (by decide +kernel), lookup_putF, if_neg (by decide +kernel), lookup_putF, if_neg (by decide +kernel), lookup_putF, if_neg (by decide +kernel)]
  rfl
theorem fSh_mclimb_relation (u f d la fu ld li fl wh : Addr) : (fSh u f d la fu ld li fl wh).lookup ("climb_relation" : Str) = none := by
  unfold fSh
  rw [lookup_putF, if_neg (by decide +kernel), lookup_putF, if_neg (by decide +kernel), lookup_putF, if_neg (by decide +kernel), lookup_putF, if_neg (by decide +kernel), lookup_putF, if_neg (by decide +kernel), lookup_putF, if_neg (by decide +kernel), lookup_putF, if_neg (by decide +kernel), lookup_putF, if_neg (by decide +kernel), lookup_putF, if_neg (by decide +kernel)]
  rfl
theorem fSh_mdrop_relation (u f d la fu ld li fl wh : Addr) : (fSh u f d la fu ld li fl wh).lookup ("drop_relation" : Str) = none := by
  unfold fSh
  rw [lookup_putF, if_neg (by decide +kernel), lookup_putF, if_neg (by decide +kernel), lookup_putF, if_neg (by decide +kernel), lookup_putF, if_neg (by decide +kernel), lookup_putF, if_neg (by decide +kernel), lookup_putF, if_neg (by decide +kernel), lookup_putF, if_neg (by decide +kernel), lookup_putF, if_neg (by decide +kernel), lookup_putF, if_neg (by decide +kernel)]
  rfl
theorem fSh_mturns_under (u f d la fu ld li fl wh : Addr) : (fSh u f d la fu ld li fl wh).lookup ("turns_under" : Str) = none := by
  unfold fSh
  rw [lookup_putF, if_neg (by decide +kernel), lookup_putF, if_neg (by decide +kernel), lookup_putF, if_neg (by decide +kernel), lookup_putF, if_neg (by decide +kernel), lookup_putF, if_neg (by decide +kernel), lookup_putF, if_neg (by decide +kernel), lookup_putF, if_neg (by decide +kernel), lookup_putF, if_neg (by decide +kernel), lookup_putF, if_neg (by decide +kernel)]
  rfl
theorem fSh_mrisen (u f d la fu ld li fl wh : Addr) : (fSh u f d la fu ld li fl wh).lookup ("risen" : Str) = none := by
  unfold fSh
  rw [lookup_putF, if_neg (by decide +kernel), lookup_putF, if_neg (by decide +kernel), lookup_putF, if_neg (by decide +kernel), lookup_putF, if_neg (by decide +kernel), lookup_putF, if_neg (by decide +kernel), lookup_putF, if_neg (by decide +kernel), lookup_putF, if_neg (by decide +kernel), lookup_putF, if_neg (by decide +kernel), lookup_putF, if_neg (by decide +kernel)]
  rfl
theorem fSh_mfallen (u f d la fu ld li fl wh : Addr) : (fSh u f d la fu ld li fl wh).lookup ("fallen" : Str) = none := by
  unfold fSh
  rw [lookup_putF, if_neg (by decide +kernel), lookup_putF, if_neg (by decide +kernel), lookup_putF, if_neg (by decide +kernel), lookup_putF, if_neg (by decide +kernel), lookup_putF, if_neg (by decide +kernel), lookup_putF, if_neg (by decide +kernel), lookup_putF, if_neg (by decide +kernel), lookup_putF, if_neg (by decide +kernel), lookup_putF, if_neg (by decide +kernel)]
  rfl
theorem fSh_mzeros (u f d la fu ld li fl wh : Addr) : (fSh u f d la fu ld li fl wh).lookup ("zeros" : Str) = none := by
  unfold fSh
  rw [lookup_putF, if_neg (by decide +kernel), lookup_putF, if_neg (by decide +kernel), lookup_putF, if_neg (by decide +kernel), lookup_putF, if_neg (by decide +kernel), lookup_putF, if_neg (by decide +kernel), lookup_putF, if_neg (by decide +kernel), lookup_putF, if_neg (by decide +kernel), lookup_putF, if_neg (by decide +kernel), lookup_putF, if_neg (by decide +kernel)]
  rfl
theorem fSh_mbegun (u f d la fu ld li fl wh : Addr) : (fSh u f d la fu ld li fl wh).lookup ("begun" : Str) = none := by
  unfold fSh
  rw [lookup_putF, if_neg (by decide +kernel), lookup_putF, if_neg (by decide +kernel), lookup_putF, if_neg (by decide +kernel), lookup_putF, if_neg (by decide +kernel), lookup_putF, if_neg (by decide +kernel), lookup_putF, if_neg (by decide +kernel), lookup_putF, if_neg (by decide +kernel), lookup_putF, if_neg (by decide +kernel), lookup_putF, if_neg (by decide +kernel)]
  rfl
theorem fSh_mleads_plain (u f d la fu ld li fl wh : Addr) : (fSh u f d la fu ld li fl wh).lookup ("leads_plain" : Str) = none := by
  unfold fSh
  rw [lookup_putF, if_neg (by decide +kernel), lookup_putF, if_neg (by decide +kernel), lookup_putF, if_neg (by decide +kernel), lookup_putF, if_neg (by decide +kernel), lookup_putF, if_neg (by decide +kernel), lookup_putF, if_neg (by decide +kernel), lookup_putF, if_neg (by decide +kernel), lookup_putF, if_neg (by decide +kernel), lookup_putF, if_neg (by decide +kernel)]
  rfl
theorem fSh_mleads_by_zero (u f d la fu ld li fl wh : Addr) : (fSh u f d la fu ld li fl wh).lookup ("leads_by_zero" : Str) = none := by
  unfold fSh
  rw [lookup_putF, if_neg (by decide +kernel), lookup_putF, if_neg (by decide +kernel), lookup_putF, if_neg (by decide +kernel), lookup_putF, if_neg (by decide +kernel), lookup_putF, if_neg (by decide +kernel), lookup_putF, if_neg (by decide +kernel), lookup_putF, if_neg (by decide +kernel), lookup_putF, if_neg (by decide +kernel), lookup_putF, if_neg (by decide +kernel)]
  rfl
theorem fSh_mleads (u f d la fu ld li fl wh : Addr) : (fSh u f d la fu ld li fl wh).lookup ("leads" : Str) = none := by
  unfold fSh
  rw [lookup_putF, if_neg (by decide +kernel), lookup_putF, if_neg (by decide +kernel), lookup_putF, if_neg (by decide +kernel), lookup_putF, if_neg (by decide +kernel), lookup_putF, if_neg (by decide +kernel), lookup_putF, if_neg (by decide +kernel), lookup_putF, if_neg (by decide +kernel), lookup_putF, if_neg (by decide +kernel), lookup_putF, if_neg (by decide +kernel)]
  rfl
structure SD where
  u : Addr
  f : Addr
  d : Addr
  la : Addr
  fu : Addr
  li : Addr
  fl : Addr
  wh : Addr
  lu : List Nat
  lf : List Nat
  ld : List Nat
  lla : List Nat
  lfu : List Nat
structure SS (C : Addr) (H : Hp) (x : Addr) (n : Nat) (U F D E0 UE : Rl) (a : SD) : Prop where
  sh : ∃ ml mf ks, ShAt C H x n U F D a.u a.f a.d a.la a.fu a.d a.li a.fl a.wh a.lu a.lf a.ld ml mf ks ∧ KB ks
  z : ZrAt H n E0 UE a.la a.fu a.li a.fl a.lla a.lfu
  n1 : 1 ≤ n
  n16 : n ≤ 16
abbrev ButS (a : SD) (H H' : Hp) : Prop := But3 a.li a.fl a.wh H H'
theorem But3.refl {li fl wh : Addr} {H : Hp} : But3 li fl wh H H := fun _ _ _ _ _ e => e
theorem Same.but3 {li fl wh : Addr} {H H' : Hp} (s : Same H H') : But3 li fl wh H H' := fun _ _ _ _ _ e => s _ _ e
section
variable {C : Addr} {H H1 : Hp} {x : Addr} {n : Nat} {U F D E0 UE : Rl} {a : SD}
theorem SS.rel (s : SS C H x n U F D E0 UE a) : ShRel H n U F D a.u a.f a.d a.lu a.lf a.ld := have ⟨_, _, _, h, _⟩ := s.sh; h.rel
theorem SS.ob (s : SS C H x n U F D E0 UE a) : ∃ dx, H x = some (.ins C dx (fSh a.u a.f a.d a.la a.fu a.d a.li a.fl a.wh)) := have ⟨_, _, _, h, _⟩ := s.sh; h.ob
theorem SS.nl (s : SS C H x n U F D E0 UE a) : a.u ≠ a.li ∧ a.f ≠ a.li ∧ a.d ≠ a.li := have ⟨_, _, _, h, _⟩ := s.sh; h.nl
theorem SS.nf (s : SS C H x n U F D E0 UE a) : a.u ≠ a.fl ∧ a.f ≠ a.fl ∧ a.d ≠ a.fl := have ⟨_, _, _, h, _⟩ := s.sh; h.nf
theorem SS.li (s : SS C H x n U F D E0 UE a) : ∃ l, H a.li = some (.lst l) := have ⟨_, _, _, h, _⟩ := s.sh; h.lids.lst
theorem SS.fl (s : SS C H x n U F D E0 UE a) : ∃ l, H a.fl = some (.lst l) := have ⟨_, _, _, h, _⟩ := s.sh; h.floors.lst
theorem SS.wh (s : SS C H x n U F D E0 UE a) : ∃ ks, H a.wh = some (.dK ks) := have ⟨_, _, ks, h, _⟩ := s.sh; ⟨ks, h.whole⟩
theorem ZrAt.but {la fu li fl wh : Addr} {lla lfu : List Nat} (z : ZrAt H n E0 UE la fu li fl lla lfu) (hw : ∃ ks, H wh = some (.dK ks)) (b : But3 li fl wh H H1) : ZrAt H1 n E0 UE la fu li fl lla lfu := by
  obtain ⟨ks, hw⟩ := hw
  exact ⟨b _ _ z.nl.1 z.nf.1 (ne_dK hw z.hla) z.hla, b _ _ z.nl.2 z.nf.2 (ne_dK hw z.hfu) z.hfu, z.rla, z.rfu, z.ila, z.ifu, z.nl, z.nf⟩
theorem ShAt.same {C : Addr} {H H1 : Hp} {x u f d la fu ldn li fl wh : Addr} {n : Nat} {U F D : Rl} {lu lf ld : List Nat} {ml mf : Nat} {ks : List (Key × V)} (sh : ShAt C H x n U F D u f d la fu ldn li fl wh lu lf ld ml mf ks) (s : Same H H1) : ShAt C H1 x n U F D u f d la fu ldn li fl wh lu lf ld ml mf ks := by
  obtain ⟨dx, hx⟩ := sh.ob
  have r := sh.rel
  exact ⟨⟨dx, s _ _ hx⟩, ⟨s _ _ r.hu, s _ _ r.hf, s _ _ r.hd, r.ru, r.rf, r.rd, r.iu, r.if_, r.id, r.n100⟩, sh.lids.mv fun _ _ e => s _ _ e, sh.floors.mv fun _ _ e => s _ _ e, s _ _ sh.whole, sh.wl, sh.wf, sh.ne, sh.nl, sh.nf⟩
theorem SS.same (s : SS C H x n U F D E0 UE a) (h : Same H H1) : SS C H1 x n U F D E0 UE a := by
  obtain ⟨ml, mf, ks, sh, kb⟩ := s.sh
  have z := s.z
  exact ⟨⟨ml, mf, ks, sh.same h, kb⟩, ⟨h _ _ z.hla, h _ _ z.hfu, z.rla, z.rfu, z.ila, z.ifu, z.nl, z.nf⟩, s.n1, s.n16⟩
/-- what is new is none of its own -/
theorem SS.new (s : SS C H x n U F D E0 UE a) {p : Addr} (np : H p = none) : p ≠ a.li ∧ p ≠ a.fl := by
  obtain ⟨l, h1⟩ := s.li
  obtain ⟨l2, h2⟩ := s.fl
  exact ⟨(ne_of_none h1 np).symm, (ne_of_none h2 np).symm⟩
theorem SS.keep (s : SS C H x n U F D E0 UE a) (b : ButS a H H1) {p : Addr} {l : List V} (h : H p = some (.lst l)) (n1 : p ≠ a.li) (n2 : p ≠ a.fl) : H1 p = some (.lst l) := by
  obtain ⟨ks, hw⟩ := s.wh
  exact b _ _ n1 n2 (ne_dK hw h) h
/-- a new Shaft -/
theorem SS.mk0 {u f d la fu li fl wh : Addr} {lu lf ld lla lfu : List Nat} (sh : ShAt C H x n U F D u f d la fu d li fl wh lu lf ld 0 0 []) (z : ZrAt H n E0 UE la fu li fl lla lfu) (n1 : 1 ≤ n) (n16 : n ≤ 16) : SS C H x n U F D E0 UE ⟨u, f, d, la, fu, li, fl, wh, lu, lf, ld, lla, lfu⟩ :=
  ⟨⟨0, 0, [], sh, Nat.zero_le _⟩, z, n1, n16⟩
end
theorem FnOk.imp {P : Program} {w : World} {K : PySem.W.Frag} {mg : Str → Option Value} {base : Heap} {CX : CXT} {k : Nat} {f : Addr} {fd : FuncData} {ps : List Str} {sp sp' : Sp} (F : FnOk P w K mg base CX k f fd ps sp) (h : ∀ vs H Q E, sp' vs H Q E → sp vs H Q E) : FnOk P w K mg base CX k f fd ps sp' :=
  ⟨fun vs H Q E x => F.len vs H Q E (h _ _ _ _ x), fun A outer s H args us vs Q E hr e0 hb r x => F.run A outer s H args us vs Q E hr e0 hb r (h _ _ _ _ x)⟩
/-! ### lid, floor -/
def spLd (C : Addr) (g : Nat → Rl → Rl → Rl → Nat → Rl) : Sp := fun vs H Q _ => ∃ (x : Addr) (N n : Nat) (U F D E0 UE : Rl) (a : SD), vs = [.ref x, .int (N : Nat)] ∧ SS C H x n U F D E0 UE a ∧
  ∀ H' p y, ButS a H H' → SS C H' x n U F D E0 UE a → H' p = some (.lst (iN y)) → Rep n y (g n U F D N) → p ≠ a.li → p ≠ a.fl → Q (.ref p) H'
abbrev pkL (n : Nat) (U F D : Rl) (k : Nat) : Rl := Lid n U F D k
abbrev pkF (n : Nat) (U F D : Rl) (k : Nat) : Rl := Lid n D F U k
section
variable {P : Program} {w : World} {K : PySem.W.Frag} {mg : Str → Option Value} {base : Heap} {C : Addr}
theorem ok_ld {f : Addr} {fd : FuncData} (F : FnOk P w K mg base CX0 5 f fd ["self", "room"] (spLi C)) : FnOk P w K mg base CX0 5 f fd ["self", "room"] (spLd C pkL) := by
  refine F.imp ?_
  rintro vs H Q E ⟨x, N, n, U, F, D, E0, UE, a, rfl, s, q⟩
  obtain ⟨ml, mf, ks, sh, kb⟩ := s.sh
  refine ⟨x, _, _, _, _, _, _, _, _, _, N, n, ml, mf, U, F, D, _, _, _, ks, rfl, sh, kb, s.n1, s.n16, fun H' p y ml' ks' b sh' kb' _ hp rp n1 n2 => ?_⟩
  exact q H' p y b ⟨⟨ml', mf, ks', sh', kb'⟩, s.z.but s.wh b, s.n1, s.n16⟩ hp rp n1 n2
theorem ok_fd {f : Addr} {fd : FuncData} (F : FnOk P w K mg base CX0 5 f fd ["self", "room"] (spFo2 C)) : FnOk P w K mg base CX0 5 f fd ["self", "room"] (spLd C pkF) := by
  refine F.imp ?_
  rintro vs H Q E ⟨x, N, n, U, F, D, E0, UE, a, rfl, s, q⟩
  obtain ⟨ml, mf, ks, sh, kb⟩ := s.sh
  refine ⟨x, _, _, _, _, _, _, _, _, _, N, n, ml, mf, U, F, D, _, _, _, ks, rfl, sh, kb, s.n1, s.n16, fun H' p y mf' ks' b sh' kb' _ hp rp n1 n2 => ?_⟩
  exact q H' p y b ⟨⟨ml, mf', ks', sh', kb'⟩, s.z.but s.wh b, s.n1, s.n16⟩ hp rp n1 n2
/-! ### band -/
def spBd (C : Addr) : Sp := fun vs H Q _ => ∃ (x : Addr) (l h n : Nat) (U F D E0 UE : Rl) (a : SD), vs = [.ref x, .int (l : Nat), .int (h : Nat)] ∧ SS C H x n U F D E0 UE a ∧
  ∀ H' p y, ButS a H H' → SS C H' x n U F D E0 UE a → H' p = some (.lst (iN y)) → Rep n y (Band n U F D l h) → p ≠ a.li → p ≠ a.fl → Q (.ref p) H'
theorem scBd : FnScope ["self", "low", "high", "out"] ["self", "low", "high"] (defScope (cSh 9)) := ⟨rfl, rfl, rfl, by decide +kernel, rfl, by decide +kernel, by decide +kernel⟩
theorem ok_bd {f : Addr} {fd : FuncData} (F : Fun K "band" "Shaft.band" (cSh 9) f fd) (T : ClsS K mg C) (CL : Fn P w K mg base 1 "closed" ["relation"] spCl) (JO : Fn P w K mg base 1 "joined" ["one", "two"] spJoi) (FO : Fn P w K mg base 3 "followed" ["one", "two"] spFol)
    (LI : MeH P w K mg base C "lid" 5 ["self", "room"] (spLd C pkL)) (FL : MeH P w K mg base C "floor" 5 ["self", "room"] (spLd C pkF)) : FnOk P w K mg base CX0 6 f fd ["self", "low", "high"] (spBd C) := by
  refine F.ok scBd (fun vs H Q E h => ?_) (fun cdv A outer s H vs Q E hr h => ?_)
  · obtain ⟨x, l, h, n, U, F, D, E0, UE, a, rfl, _⟩ := h
    rfl
  · obtain ⟨x, l, h, n, U, Fl, D, E0, UE, a, rfl, sh, q⟩ := h
    have N := scBd.nd
    have r1 := hr.mono (k := 5) (j := 1) (by decide)
    have r3 := hr.mono (k := 5) (j := 3) (by decide)
    refine ⟨_, pss_cons (ps_set (i := 3) N rfl (.inl rfl) (pe_fld (pv 0) rfl))
      (pss_cons (ps_if (pt_cmpR op_gt (pv 2) pe_int (nomark _)) (pss_one (ps_set (i := 3) N rfl (.inl rfl) (pe_fn JO r1 (pa_cons (pv 3) (pa_cons (pe_fn FO r3 (pa_cons (pe_fn FO r3 (pa_cons (pe_fld (pv 0) rfl) (pa_cons (pe_mP LI T.cl hr (pv 0) (pa_cons (pe_op op_sub (pv 2) pe_int) pa_nil)) pa_nil))) (pa_cons (pe_fld (pv 0) rfl) pa_nil))) pa_nil))))) pss_nil)
      (pss_cons (ps_if (pt_cmpR op_gt (pv 1) pe_int (nomark _)) (pss_one (ps_set (i := 3) N rfl (.inl rfl) (pe_fn JO r1 (pa_cons (pv 3) (pa_cons (pe_fn FO r3 (pa_cons (pe_fn FO r3 (pa_cons (pe_fld (pv 0) rfl) (pa_cons (pe_mP FL T.cl hr (pv 0) (pa_cons (pe_op op_sub (pv 1) pe_int) pa_nil)) pa_nil))) (pa_cons (pe_fld (pv 0) rfl) pa_nil))) pa_nil))))) pss_nil)
      (pss_one (ps_ret (pe_fn CL r1 (pa_cons (pv 3) pa_nil)))))), ?_⟩
    obtain ⟨dx, hx⟩ := sh.ob
    refine seqV (Good := fun σ2 H1 => H = H1 ∧ σ2 = [some (.ref x), some (.int (l : Nat)), some (.int (h : Nat)), some (.ref a.f)]) (fun nx hnx => ⟨_, rfl, x, C, dx, _, _, rfl, hx, T.cl, T.n_f, fSh_f .., hnx _ _ ⟨rfl, rfl⟩⟩) ?_
    rintro _ _ ⟨rfl, rfl⟩
    refine seqV (Good := fun σ2 H1 => ∃ (o : Addr) (z : List Nat) (R : Rl), ButS a H H1 ∧ SS C H1 x n U Fl D E0 UE a ∧ H1 o = some (.lst (iN z)) ∧ o ≠ a.li ∧ o ≠ a.fl ∧ In n R ∧ Rep n z R ∧ (∀ a b, R a b ↔ (Fl a b ∨ ∃ k, h = k + 1 ∧ Cp (Cp U (Lid n U Fl D k)) D a b)) ∧ σ2 = [some (.ref x), some (.int (l : Nat)), some (.int (h : Nat)), some (.ref o)]) ?_ ?_
    · intro nx hnx
      refine ⟨_, rfl, _, _, rfl, rfl, decide (((h : Nat) : Int) > 0), rfl, ?_⟩
      by_cases h0 : h = 0
      · subst h0
        rw [decide_eq_false (by omega)]
        exact iteF (hnx _ _ ⟨a.f, a.lf, Fl, But3.refl, sh, sh.rel.hf, sh.nl.2.1, sh.nf.2.1, sh.rel.if_, sh.rel.rf, fun a b => ⟨.inl, fun z => z.elim id fun ⟨k, e, _⟩ => absurd e (by omega)⟩, rfl⟩)
      · obtain ⟨j, rfl⟩ : ∃ j, h = j + 1 := ⟨h - 1, by omega⟩
        rw [decide_eq_true (by omega)]
        refine iteT ⟨_, rfl, _, rfl, x, C, dx, _, _, rfl, hx, T.cl, T.n_u, fSh_u .., _, rfl, x, dx, _, rfl, hx, fSh_mlid .., _, rfl, _, _, rfl, rfl, ?_⟩
        refine ⟨x, j, n, U, Fl, D, E0, UE, a, ?_, sh, fun H1 p y b1 sh1 hp rp pli pfl => ?_⟩
        · show [V.ref x, V.int (((j + 1 : Nat) : Int) - 1)] ++ [] = _
          rw [show (((j + 1 : Nat) : Int) - 1) = (j : Nat) by omega]
          rfl
        obtain ⟨dx1, hx1⟩ := sh1.ob
        have rl := sh1.rel
        refine ⟨a.u, p, a.lu, y, n, U, _, rfl, rl.hu, hp, rl.ru, rp, rl.n100, rl.iu, fun q1 H2 z1 nq1 s1 h1 r1' => ⟨_, rfl, x, C, dx1, _, _, rfl, s1 _ _ hx1, T.cl, T.n_d, fSh_d .., q1, a.d, z1, a.ld, n, _, D, rfl, h1, s1 _ _ rl.hd, r1', rl.rd, rl.n100, rl.iu.cp (lid_in j), fun q2 H3 z2 nq2 s2 h2 r2 => ?_⟩⟩
        have s12 := s1.trans s2
        refine ⟨a.f, q2, a.lf, z2, n, _, _, rfl, s12 _ _ rl.hf, h2, rl.rf, r2, rl.n100, fun q3 H4 z3 nq3 s3 h3 r3 => ?_⟩
        have s13 := s12.trans s3
        have nw := (sh1.same s12).new nq3
        exact hnx _ _ ⟨q3, z3, _, b1.trans (Same.but3 s13), sh1.same s13, h3, nw.1, nw.2, rl.if_.or ((rl.iu.cp (lid_in j)).cp rl.id), r3, fun a b => or_congr Iff.rfl ⟨fun z => ⟨j, rfl, z⟩, fun ⟨k, e, z⟩ => by
          obtain rfl : j = k := by omega
          exact z⟩, rfl⟩
    rintro _ H1 ⟨o, z, R, b1, sh1, ho, oli, ofl, iR, rR, eR, rfl⟩
    refine seqV (Good := fun σ2 H2 => ∃ (o : Addr) (z : List Nat) (S : Rl), ButS a H H2 ∧ SS C H2 x n U Fl D E0 UE a ∧ H2 o = some (.lst (iN z)) ∧ In n S ∧ Rep n z S ∧ (∀ a b, S a b ↔ (R a b ∨ ∃ k, l = k + 1 ∧ Cp (Cp D (Lid n D Fl U k)) U a b)) ∧ σ2 = [some (.ref x), some (.int (l : Nat)), some (.int (h : Nat)), some (.ref o)]) ?_ ?_
    · intro nx hnx
      refine ⟨_, rfl, _, _, rfl, rfl, decide (((l : Nat) : Int) > 0), rfl, ?_⟩
      by_cases h0 : l = 0
      · subst h0
        rw [decide_eq_false (by omega)]
        exact iteF (hnx _ _ ⟨o, z, R, b1, sh1, ho, iR, rR, fun a b => ⟨.inl, fun z => z.elim id fun ⟨k, e, _⟩ => absurd e (by omega)⟩, rfl⟩)
      · obtain ⟨j, rfl⟩ : ∃ j, l = j + 1 := ⟨l - 1, by omega⟩
        rw [decide_eq_true (by omega)]
        obtain ⟨dx1, hx1⟩ := sh1.ob
        refine iteT ⟨_, rfl, _, rfl, x, C, dx1, _, _, rfl, hx1, T.cl, T.n_d, fSh_d .., _, rfl, x, dx1, _, rfl, hx1, fSh_mfloor .., _, rfl, _, _, rfl, rfl, ?_⟩
        refine ⟨x, j, n, U, Fl, D, E0, UE, a, ?_, sh1, fun H2 p y b2 sh2 hp rp pli pfl => ?_⟩
        · show [V.ref x, V.int (((j + 1 : Nat) : Int) - 1)] ++ [] = _
          rw [show (((j + 1 : Nat) : Int) - 1) = (j : Nat) by omega]
          rfl
        obtain ⟨dx2, hx2⟩ := sh2.ob
        have rl := sh2.rel
        have ho2 := sh1.keep b2 ho oli ofl
        refine ⟨a.d, p, a.ld, y, n, D, _, rfl, rl.hd, hp, rl.rd, rp, rl.n100, rl.id, fun q1 H3 z1 nq1 s1 h1 r1' => ⟨_, rfl, x, C, dx2, _, _, rfl, s1 _ _ hx2, T.cl, T.n_u, fSh_u .., q1, a.u, z1, a.lu, n, _, U, rfl, h1, s1 _ _ rl.hu, r1', rl.ru, rl.n100, rl.id.cp (lid_in j), fun q2 H4 z2 nq2 s2 h2 r2 => ?_⟩⟩
        have s12 := s1.trans s2
        refine ⟨o, q2, z, z2, n, _, _, rfl, s12 _ _ ho2, h2, rR, r2, rl.n100, fun q3 H5 z3 nq3 s3 h3 r3 => ?_⟩
        have s13 := s12.trans s3
        exact hnx _ _ ⟨q3, z3, _, (b1.trans b2).trans (Same.but3 s13), sh2.same s13, h3, iR.or ((rl.id.cp (lid_in j)).cp rl.iu), r3, fun a b => or_congr Iff.rfl ⟨fun z => ⟨j, rfl, z⟩, fun ⟨k, e, z⟩ => by
          obtain rfl : j = k := by omega
          exact z⟩, rfl⟩
    clear ho oli ofl sh1 b1 rR z
    rintro _ H2 ⟨o2, z, S, b2, sh2, ho, iS, rS, eS, rfl⟩
    refine ⟨_, rfl, o2, z, n, S, rfl, ho, rS, sh.rel.n100, iS, fun p H3 y np s3 hp rp => ?_⟩
    have nw := sh2.new np
    exact q H3 p y (b2.trans (Same.but3 s3)) (sh2.same s3) hp (rp.iff fun a b => cl_iff (fun a b => (eS a b).trans ((or_congr (eR a b) Iff.rfl).trans or_assoc)) a b) nw.1 nw.2
/-! ### the room from which on all lids are alike -/
def spTop (C : Addr) : Sp := fun vs H Q _ => ∃ (x : Addr) (n : Nat) (U F D E0 UE : Rl) (a : SD), vs = [.ref x] ∧ SS C H x n U F D E0 UE a ∧
  ∀ H' m, ButS a H H' → SS C H' x n U F D E0 UE a → Stops (Lid n U F D) m → m + 1 ≤ n * n → Q (.int (m : Nat)) H'
def spAll (C : Addr) : Sp := fun vs H Q _ => ∃ (x : Addr) (n : Nat) (U F D E0 UE : Rl) (a : SD), vs = [.ref x] ∧ SS C H x n U F D E0 UE a ∧
  ∀ H' p xs m, ButS a H H' → SS C H' x n U F D E0 UE a → H' p = some (.lst xs) → xs.length = m + 1 → Stops (Lid n U F D) m → m + 1 ≤ n * n → Q (.ref p) H'
theorem scAl : FnScope ["self"] ["self"] (defScope (cSh 5)) := ⟨rfl, rfl, rfl, by decide +kernel, rfl, by decide +kernel, by decide +kernel⟩
theorem scTo : FnScope ["self"] ["self"] (defScope (cSh 7)) := ⟨rfl, rfl, rfl, by decide +kernel, rfl, by decide +kernel, by decide +kernel⟩
theorem sq_cast {n : Nat} {l : List V} (h : l.length = n) : ((l.length : Int) * (l.length : Int)) = ((n * n : Nat) : Int) := by
  rw [h]
  exact (Int.natCast_mul n n).symm
theorem stops_least {f : Nat → Rl} {m m0 : Nat} (go : ∀ j, j < m → ¬ Stops f j) (st : Stops f m0) : m ≤ m0 := Nat.le_of_not_lt fun h => go m0 h st
theorem ok_al {f : Addr} {fd : FuncData} (F : Fun K "all_lids" "Shaft.all_lids" (cSh 5) f fd) (n : Nm mg) (T : ClsS K mg C) (LI : MeH P w K mg base C "lid" 5 ["self", "room"] (spLi C)) : FnOk P w K mg base CX0 6 f fd ["self"] (spAll C) := by
  refine F.ok scAl (fun vs H Q E h => ?_) (fun cdv A outer s H vs Q E hr h => ?_)
  · obtain ⟨x, n, U, F, D, E0, UE, a, rfl, _⟩ := h
    rfl
  · obtain ⟨x, nn, U, Fl, D, E0, UE, a, rfl, ss, q⟩ := h
    have N := scAl.nd
    refine ⟨_, pss_cons (ps_expr (pe_mP LI T.cl hr (pv 0) (pa_cons (pe_op op_mul (pe_callB call_len_seq (by rfl) n.len PySem.boot_len (pa_cons (pe_fld (pv 0) rfl) pa_nil)) (pe_callB call_len_seq (by rfl) n.len PySem.boot_len (pa_cons (pe_fld (pv 0) rfl) pa_nil))) pa_nil)))
      (pss_one (ps_ret (pe_callTy call_list_of (by rfl) n.list (by decide +kernel) (pa_cons (pe_fld (pv 0) rfl) pa_nil)))), ?_⟩
    obtain ⟨ml, mf, ks, sh, kb⟩ := ss.sh
    obtain ⟨dx, hx⟩ := sh.ob
    have rl := sh.rel
    have n16 := ss.n16
    have ll : (iN a.lf).length = nn := by
      rw [← rl.rf.len]
      exact List.length_map _
    refine ⟨_, rfl, x, dx, _, rfl, hx, fSh_mlid .., _, rfl, x, C, dx, _, _, rfl, hx, T.cl, T.n_f, fSh_f .., a.f, _, rfl, .inl (.inl (.inl rl.hf)), _, rfl, x, C, dx, _, _, rfl, hx, T.cl, T.n_f, fSh_f .., a.f, _, rfl, .inl (.inl (.inl rl.hf)), _, _, rfl, rfl, ?_⟩
    refine ⟨.inl ⟨by rw [ll]; omega, by rw [ll]; omega⟩, x, _, _, _, _, _, _, _, _, _, nn * nn, nn, ml, mf, U, Fl, D, _, _, _, ks, ?_, sh, kb, ss.n1, n16, fun H1 p y ml' ks' b1 sh1 kb1 nfin hp rp _ _ => ?_⟩
    · show [V.ref x, V.int (((iN a.lf).length : Int) * ((iN a.lf).length : Int))] ++ [] = _
      rw [sq_cast ll]
      rfl
    clear hp rp
    obtain ⟨dx1, hx1⟩ := sh1.ob
    obtain ⟨⟨xs, ys, hL, ms, yl, ry⟩, go, _⟩ := sh1.lids
    obtain ⟨m0, m0n, mst, _⟩ := lid_chain (n := nn) (U := U) (F := Fl) (D := D) ss.n1
    have le := stops_least go mst
    have st : Stops (Lid nn U Fl D) ml' := nfin.elim (fun h => absurd le (by omega)) id
    have ss1 : SS C H1 x nn U Fl D E0 UE a := ⟨⟨ml', mf, ks', sh1, kb1⟩, ss.z.but ss.wh b1, ss.n1, n16⟩
    refine ⟨_, rfl, x, C, dx1, _, _, rfl, hx1, T.cl, T.n_li, fSh_li .., a.li, xs, rfl, .inl (.inl (.inl hL)), fun p np => ?_⟩
    have sp := same_upd (o := .lst xs) np
    exact q _ p xs ml' (b1.trans (Same.but3 sp)) (ss1.same sp) upd_same ((Paired.length ms).trans yl) st (by omega)
theorem ok_top {f : Addr} {fd : FuncData} (F : Fun K "lid_top" "Shaft.lid_top" (cSh 7) f fd) (n : Nm mg) (T : ClsS K mg C) (AL : MeH P w K mg base C "all_lids" 6 ["self"] (spAll C)) : FnOk P w K mg base CX0 7 f fd ["self"] (spTop C) := by
  refine F.ok scTo (fun vs H Q E h => ?_) (fun cdv A outer s H vs Q E hr h => ?_)
  · obtain ⟨x, n, U, F, D, E0, UE, a, rfl, _⟩ := h
    rfl
  · obtain ⟨x, nn, U, Fl, D, E0, UE, a, rfl, ss, q⟩ := h
    obtain ⟨dx, hx⟩ := ss.ob
    refine ⟨_, pss_one (ps_ret (pe_op op_sub (pe_callB call_len_seq (by rfl) n.len PySem.boot_len (pa_cons (pe_mP0 AL T.cl hr (pv 0)) pa_nil)) pe_int)), ?_⟩
    refine ⟨_, rfl, x, dx, _, rfl, hx, fSh_mall_lids .., x, nn, U, Fl, D, E0, UE, a, rfl, ss, fun H1 p xs m b1 ss1 hp xl st mn => ⟨p, xs, rfl, .inl (.inl (.inl hp)), _, _, rfl, rfl, ?_⟩⟩
    have := q H1 m b1 ss1 st mn
    rw [show ((m : Nat) : Int) = (xs.length : Int) - 1 by omega] at this
    exact this
/-! ### climbs and drops -/
def spRl (C : Addr) (g : Nat → Rl → Rl → Rl → Nat → Rl) : Sp := spLd C g
abbrev pkC (n : Nat) (U F D : Rl) (k : Nat) : Rl := Cp U (Lid n U F D k)
abbrev pkD (n : Nat) (U F D : Rl) (k : Nat) : Rl := Cp (Lid n U F D k) D
theorem scCr : FnScope ["self", "room"] ["self", "room"] (defScope (cSh 11)) := ⟨rfl, rfl, rfl, by decide +kernel, rfl, by decide +kernel, by decide +kernel⟩
theorem scDr2 : FnScope ["self", "room"] ["self", "room"] (defScope (cSh 12)) := ⟨rfl, rfl, rfl, by decide +kernel, rfl, by decide +kernel, by decide +kernel⟩
theorem ok_cr {f : Addr} {fd : FuncData} (F : Fun K "climb_relation" "Shaft.climb_relation" (cSh 11) f fd) (T : ClsS K mg C) (FO : Fn P w K mg base 3 "followed" ["one", "two"] spFol) (LI : MeH P w K mg base C "lid" 5 ["self", "room"] (spLd C pkL)) : FnOk P w K mg base CX0 6 f fd ["self", "room"] (spLd C pkC) := by
  refine F.ok scCr (fun vs H Q E h => ?_) (fun cdv A outer s H vs Q E hr h => ?_)
  · obtain ⟨x, N, n, U, F, D, E0, UE, a, rfl, _⟩ := h
    rfl
  · obtain ⟨x, NN, n, U, Fl, D, E0, UE, a, rfl, ss, q⟩ := h
    obtain ⟨dx, hx⟩ := ss.ob
    have r3 := hr.mono (k := 5) (j := 3) (by decide)
    refine ⟨_, pss_one (ps_ret (pe_fn FO r3 (pa_cons (pe_fld (pv 0) rfl) (pa_cons (pe_mP LI T.cl hr (pv 0) (pa_cons (pv 1) pa_nil)) pa_nil)))), ?_⟩
    refine ⟨_, rfl, x, C, dx, _, _, rfl, hx, T.cl, T.n_u, fSh_u .., _, rfl, x, dx, _, rfl, hx, fSh_mlid .., _, rfl, x, NN, n, U, Fl, D, E0, UE, a, rfl, ss, fun H1 p y b1 ss1 hp rp pli pfl => ?_⟩
    have rl := ss1.rel
    refine ⟨a.u, p, a.lu, y, n, U, _, rfl, rl.hu, hp, rl.ru, rp, rl.n100, rl.iu, fun q1 H2 z1 nq1 s1 h1 r1' => ?_⟩
    have nw := ss1.new nq1
    exact q H2 q1 z1 (b1.trans (Same.but3 s1)) (ss1.same s1) h1 r1' nw.1 nw.2
theorem ok_dr2 {f : Addr} {fd : FuncData} (F : Fun K "drop_relation" "Shaft.drop_relation" (cSh 12) f fd) (T : ClsS K mg C) (FO : Fn P w K mg base 3 "followed" ["one", "two"] spFol) (LI : MeH P w K mg base C "lid" 5 ["self", "room"] (spLd C pkL)) : FnOk P w K mg base CX0 6 f fd ["self", "room"] (spLd C pkD) := by
  refine F.ok scDr2 (fun vs H Q E h => ?_) (fun cdv A outer s H vs Q E hr h => ?_)
  · obtain ⟨x, N, n, U, F, D, E0, UE, a, rfl, _⟩ := h
    rfl
  · obtain ⟨x, NN, n, U, Fl, D, E0, UE, a, rfl, ss, q⟩ := h
    obtain ⟨dx, hx⟩ := ss.ob
    have r3 := hr.mono (k := 5) (j := 3) (by decide)
    refine ⟨_, pss_one (ps_ret (pe_fn FO r3 (pa_cons (pe_mP LI T.cl hr (pv 0) (pa_cons (pv 1) pa_nil)) (pa_cons (pe_fld (pv 0) rfl) pa_nil)))), ?_⟩
    refine ⟨_, rfl, x, dx, _, rfl, hx, fSh_mlid .., _, rfl, x, NN, n, U, Fl, D, E0, UE, a, rfl, ss, fun H1 p y b1 ss1 hp rp pli pfl => ?_⟩
    have rl := ss1.rel
    obtain ⟨dx1, hx1⟩ := ss1.ob
    refine ⟨_, rfl, x, C, dx1, _, _, rfl, hx1, T.cl, T.n_d, fSh_d .., p, a.d, y, a.ld, n, _, D, rfl, hp, rl.hd, rp, rl.rd, rl.n100, lid_in NN, fun q1 H2 z1 nq1 s1 h1 r1' => ?_⟩
    have nw := ss1.new nq1
    exact q H2 q1 z1 (b1.trans (Same.but3 s1)) (ss1.same s1) h1 r1' nw.1 nw.2
end
end L2.K71
end

section
set_option Elab.async false
set_option linter.all false
set_option maxRecDepth 100000
set_option maxHeartbeats 4000000
namespace L2.K71
open PySem PySem.Spec PyProof.Rows L2.Gd L2.Lv
/-! ### masks, climbs, drops -/
structure Msk (n m : Nat) (S : Nat → Prop) : Prop where
  bit : ∀ b, m.testBit b = true ↔ S b
  low : ∀ b, S b → b < n
theorem Msk.lo {n m : Nat} {S : Nat → Prop} (h : Msk n m S) : ∀ k, m.testBit k = true → k < n := fun k hk => h.low k ((h.bit k).mp hk)
theorem Msk.img {n m x : Nat} {S : Nat → Prop} {r : Rl} (h : Msk n m S) (i : In n r) (hx : ∀ b, x.testBit b = true ↔ ∃ k, m.testBit k = true ∧ r k b) : Msk n x fun b => ∃ a, S a ∧ r a b :=
  ⟨fun b => (hx b).trans (exists_congr fun k => and_congr (h.bit k) Iff.rfl), fun b ⟨a, _, z⟩ => (i a b z).2⟩
theorem Msk.iff {n m : Nat} {S T : Nat → Prop} (h : Msk n m S) (e : ∀ b, S b ↔ T b) : Msk n m T := ⟨fun b => (h.bit b).trans (e b), fun b z => h.low b ((e b).mpr z)⟩
theorem Msk.orb {n m k : Nat} {S : Nat → Prop} {l : List Nat} {r : Rl} (h : Msk n m S) (rp : Rep n l r) (i : In n r) : Msk n (orb l m k) fun b => ∃ a, S a ∧ Pw r k a b :=
  ⟨fun b => (orb_bit rp i k b).trans (exists_congr fun a => and_congr (h.bit a) Iff.rfl), fun b ⟨a, h1, h2⟩ => orb_low rp i h.lo k b ((orb_bit rp i k b).mpr ⟨a, (h.bit a).mpr h1, h2⟩)⟩
section
variable {n : Nat} {U F D : Rl} {R top : Nat}
theorem ris_pw (st : Stops (Lid n U F D) top) {k : Nat} : ∀ (d : Nat) {a c : Nat}, k + d + top ≤ R → (Rsn n U F D R k d a c ↔ Pw (pkC n U F D top) d a c)
  | 0, _, _, _ => Iff.rfl
  | d + 1, a, c, l => by
    constructor
    · rintro ⟨f, ⟨e, h, u⟩, t⟩
      exact ⟨e, (ris_pw st d (by omega)).mp h, f, u, (lid_far st (by omega) f c).mp t⟩
    · rintro ⟨e, h, f, u, t⟩
      exact ⟨f, ⟨e, (ris_pw st d (by omega)).mpr h, u⟩, (lid_far st (by omega) f c).mpr t⟩
theorem fal_pw (st : Stops (Lid n U F D) top) {h : Nat} (hR : h + top ≤ R) : ∀ (d : Nat) {a c : Nat}, Fal n U F D R h d a c ↔ Pw (pkD n U F D top) d a c
  | 0, _, _ => Iff.rfl
  | d + 1, a, c => by
    constructor
    · rintro ⟨f, ⟨e, z, t⟩, u⟩
      exact ⟨e, (fal_pw st hR d).mp z, f, (lid_far st (by omega) e f).mp t, u⟩
    · rintro ⟨e, z, f, t, u⟩
      exact ⟨f, ⟨e, (fal_pw st hR d).mpr z, (lid_far st (by omega) e f).mpr t⟩, u⟩
theorem fal_split {h d1 : Nat} : ∀ (d2 : Nat) {a c : Nat}, Fal n U F D R h (d1 + d2) a c ↔ ∃ b, Fal n U F D R h d1 a b ∧ Fal n U F D R (h - d1) d2 b c
  | 0, a, c => ⟨fun z => ⟨c, z, rfl⟩, fun ⟨b, z, e⟩ => (show b = c from e) ▸ z⟩
  | d2 + 1, a, c => by
    have ei : R - (h - (d1 + d2)) = R - (h - d1 - d2) := by omega
    constructor
    · rintro ⟨f, ⟨e, z, t⟩, u⟩
      obtain ⟨b, z1, z2⟩ := (fal_split d2).mp z
      exact ⟨b, z1, f, ⟨e, z2, ei ▸ t⟩, u⟩
    · rintro ⟨b, z1, f, ⟨e, z2, t⟩, u⟩
      exact ⟨f, ⟨e, (fal_split d2).mpr ⟨b, z1, z2⟩, ei ▸ t⟩, u⟩
theorem ris_in (iu : In n U) {k : Nat} : ∀ (d : Nat) {a c : Nat}, a < n → Rsn n U F D R k d a c → c < n
  | 0, _, _, ha, e => (show _ = _ from e) ▸ ha
  | _ + 1, _, _, _, ⟨_, _, t⟩ => (lid_in _ _ _ t).2
end
def spRsS (C : Addr) : Sp := fun vs H Q _ => ∃ (x : Addr) (m lo hi R n : Nat) (S : Nat → Prop) (U F D E0 UE : Rl) (a : SD), vs = [.ref x, .int (m : Nat), .int (lo : Nat), .int (hi : Nat), .int (R : Nat)] ∧ SS C H x n U F D E0 UE a ∧ Msk n m S ∧ lo ≤ hi ∧ hi ≤ R ∧ hi ≤ 1000000 ∧
  ∀ H' y, ButS a H H' → SS C H' x n U F D E0 UE a → Msk n y (fun b => ∃ c, S c ∧ Rsn n U F D R lo (hi - lo) c b) → Q (.int (y : Nat)) H'
def spFaS (C : Addr) : Sp := fun vs H Q _ => ∃ (x : Addr) (m lo hi R n : Nat) (S : Nat → Prop) (U F D E0 UE : Rl) (a : SD), vs = [.ref x, .int (m : Nat), .int (hi : Nat), .int (lo : Nat), .int (R : Nat)] ∧ SS C H x n U F D E0 UE a ∧ Msk n m S ∧ lo ≤ hi ∧ hi ≤ R ∧ hi ≤ 1000000 ∧
  ∀ H' y, ButS a H H' → SS C H' x n U F D E0 UE a → Msk n y (fun b => ∃ c, S c ∧ Fal n U F D R hi (hi - lo) c b) → Q (.int (y : Nat)) H'
def NRsS : List Str := ["self", "mask", "low", "high", "roof", "top", "level", "number"]
def NFaS : List Str := ["self", "mask", "high", "low", "roof", "top", "level", "number"]
theorem scRsS : FnScope NRsS ["self", "mask", "low", "high", "roof"] (defScope (cSh 13)) := ⟨rfl, rfl, rfl, by decide +kernel, rfl, by decide +kernel, by decide +kernel⟩
theorem scFaS : FnScope NFaS ["self", "mask", "high", "low", "roof"] (defScope (cSh 14)) := ⟨rfl, rfl, rfl, by decide +kernel, rfl, by decide +kernel, by decide +kernel⟩
section
variable {P : Program} {w : World} {K : PySem.W.Frag} {mg : Str → Option Value} {base : Heap} {C : Addr}
/-- what a Shaft's methods want -/
structure ShK (P : Program) (w : World) (K : PySem.W.Frag) (mg : Str → Option Value) (base : Heap) (C : Addr) : Prop where
  n : Nm mg
  T : ClsS K mg C
  im : Fn P w K mg base 2 "image" ["relation", "mask"] spImg
  oo : Fn P w K mg base 3 "orbit_of" ["relation", "mask"] spOrb
  oa : Fn P w K mg base 1 "orbit_at" ["orbit", "steps"] spOat
  fo : Fn P w K mg base 3 "followed" ["one", "two"] spFol
  jo : Fn P w K mg base 1 "joined" ["one", "two"] spJoi
  cl : Fn P w K mg base 1 "closed" ["relation"] spCl
  li : MeH P w K mg base C "lid" 5 ["self", "room"] (spLd C pkL)
  bd : MeH P w K mg base C "band" 6 ["self", "low", "high"] (spBd C)
  to : MeH P w K mg base C "lid_top" 7 ["self"] (spTop C)
  cr : MeH P w K mg base C "climb_relation" 6 ["self", "room"] (spLd C pkC)
  dr : MeH P w K mg base C "drop_relation" 6 ["self", "room"] (spLd C pkD)
abbrev σ8 (x : Addr) (a b c d : Nat) (x5 x6 x7 : Option V) : L2.St := [some (.ref x), some (.int (a : Nat)), some (.int (b : Nat)), some (.int (c : Nat)), some (.int (d : Nat)), x5, x6, x7]
theorem ok_rsS {f : Addr} {fd : FuncData} (F : Fun K "risen" "Shaft.risen" (cSh 13) f fd) (k : ShK P w K mg base C) : FnOk P w K mg base CX0 8 f fd ["self", "mask", "low", "high", "roof"] (spRsS C) := by
  refine F.ok scRsS (fun vs H Q E h => ?_) (fun cdv A outer s H vs Q E hr h => ?_)
  · obtain ⟨x, m, lo, hi, R, n, S, U, F, D, E0, UE, a, rfl, _⟩ := h
    rfl
  · obtain ⟨x, m, lo, hi, R, nn, S, U, Fl, D, E0, UE, a, rfl, ss, hm, lh, hR, h6, q⟩ := h
    have N := scRsS.nd
    have n := k.n
    have T := k.T
    have r1 := hr.mono (k := 7) (j := 1) (by decide)
    have r2 := hr.mono (k := 7) (j := 2) (by decide)
    have r3 := hr.mono (k := 7) (j := 3) (by decide)
    have r5 := hr.mono (k := 7) (j := 5) (by decide)
    have r6 := hr.mono (k := 7) (j := 6) (by decide)
    refine ⟨_, pss_cons (ps_set (i := 5) N rfl (.inl rfl) (pe_mP0 k.to T.cl hr (pv 0)))
      (pss_cons (ps_set (i := 6) N rfl (.inl rfl) (pe_callB (call_max2 rfl) (by rfl) n.max (by decide +kernel) (pa_cons (pv 2) (pa_cons (pe_callB (call_min2 rfl) (by rfl) n.min (by decide +kernel) (pa_cons (pv 3) (pa_cons (pe_op op_sub (pv 4) (pv 5)) pa_nil))) pa_nil))))
      (pss_cons (ps_if (pt_cmpR op_gt (pv 6) (pv 2) (nomark _)) (pss_one (ps_set (i := 1) N rfl (.inl rfl) (pe_fn k.oa r1 (pa_cons (pe_fn k.oo r3 (pa_cons (pe_mP k.cr T.cl r6 (pv 0) (pa_cons (pv 5) pa_nil)) (pa_cons (pv 1) pa_nil))) (pa_cons (pe_op op_sub (pv 6) (pv 2)) pa_nil))))) pss_nil)
      (pss_cons (ps_for PassesOwn.never rfl (pi_range2 (by rfl) n.range (pa_cons (pe_op op_add (pv 6) pe_int) (pa_cons (pe_op op_add (pv 3) pe_int) pa_nil))) (pg_name (i := 7) N rfl (.inl rfl))
        (pss_one (ps_set (i := 1) N rfl (.inl rfl) (pe_fn k.im r2 (pa_cons (pe_mP k.li T.cl r5 (pv 0) (pa_cons (pe_op op_sub (pv 4) (pv 7)) pa_nil)) (pa_cons (pe_fn k.im r2 (pa_cons (pe_fld (pv 0) rfl) (pa_cons (pv 1) pa_nil))) pa_nil))))))
      (pss_one (ps_ret (pv 1)))))), ?_⟩
    have n16 := ss.n16
    refine seqV (Good := fun σ2 H1 => ∃ tp : Nat, ButS a H H1 ∧ SS C H1 x nn U Fl D E0 UE a ∧ Stops (Lid nn U Fl D) tp ∧ σ2 = σ8 x m lo hi R (some (.int (tp : Nat))) none none) ?_ ?_
    · intro nx hnx
      obtain ⟨dx, hx⟩ := ss.ob
      exact ⟨_, rfl, x, dx, _, rfl, hx, fSh_mlid_top .., x, nn, U, Fl, D, E0, UE, a, rfl, ss, fun H1 tp b1 ss1 st _ => hnx _ _ ⟨tp, b1, ss1, st, rfl⟩⟩
    clear ss
    rintro _ H1 ⟨tp, b1, ss, st, rfl⟩
    refine seqV (Good := fun σ2 H2 => H1 = H2 ∧ ∃ L : Nat, lo ≤ L ∧ L ≤ hi ∧ (lo < L → L + tp ≤ R) ∧ σ2 = σ8 x m lo hi R (some (.int (tp : Nat))) (some (.int (L : Nat))) none) ?_ ?_
    · intro nx hnx
      refine ⟨_, rfl, _, rfl, _, rfl, _, rfl, _, _, rfl, rfl, _, _, rfl, _, _, rfl, ?_⟩
      have e : (if (if (R : Int) - tp < hi then (R : Int) - tp else (hi : Int)) > lo then (if (R : Int) - tp < hi then (R : Int) - tp else (hi : Int)) else (lo : Int)) = ((max lo (min hi (R - tp)) : Nat) : Int) := by
        split <;> split at * <;> omega
      refine gn (hnx _ _ ⟨rfl, max lo (min hi (R - tp)), by omega, by omega, by omega, ?_⟩)
      rw [← e]
      rfl
    rintro _ _ ⟨rfl, L, l1, l2, l3, rfl⟩
    -- far up
    refine seqV (Good := fun σ2 H2 => ∃ m2 : Nat, ButS a H H2 ∧ SS C H2 x nn U Fl D E0 UE a ∧ Msk nn m2 (fun b => ∃ c, S c ∧ Rsn nn U Fl D R lo (L - lo) c b) ∧ σ2 = σ8 x m2 lo hi R (some (.int (tp : Nat))) (some (.int (L : Nat))) none) ?_ ?_
    · intro nx hnx
      refine ⟨_, rfl, _, rfl, _, _, rfl, rfl, decide ((L : Int) > lo), rfl, ?_⟩
      by_cases c : lo < L
      · rw [decide_eq_true (by omega)]
        obtain ⟨dx, hx⟩ := ss.ob
        refine iteT ⟨_, rfl, x, dx, _, rfl, hx, fSh_mclimb_relation .., _, rfl, x, tp, nn, U, Fl, D, E0, UE, a, rfl, ss, fun H2 p y b2 ss2 hp rp pli pfl => ?_⟩
        have iC : In nn (pkC nn U Fl D tp) := ss2.rel.iu.cp (lid_in tp)
        refine ⟨_, rfl, p, y, m, nn, _, rfl, hp, rp, iC, n16, hm.lo, fun t H3 nt s3 ot => ?_⟩
        refine ⟨_, rfl, _, rfl, _, _, rfl, rfl, t, y, m, L - lo, ?_, ot, ?_⟩
        · show [V.ref t, V.int ((L : Int) - lo)] = _
          rw [show ((L : Int) - lo) = ((L - lo : Nat) : Int) by omega]
        · exact gn (hnx _ _ ⟨_, (b1.trans b2).trans (Same.but3 s3), ss2.same s3, (hm.orb rp iC).iff fun b => exists_congr fun c => and_congr Iff.rfl (ris_pw st (L - lo) (by omega)).symm, rfl⟩)
      · rw [decide_eq_false (by omega)]
        obtain rfl : L = lo := by omega
        refine iteF (hnx _ _ ⟨m, b1, ss, hm.iff fun b => ?_, rfl⟩)
        rw [Nat.sub_self]
        exact ⟨fun z => ⟨b, z, rfl⟩, fun ⟨c, z, e⟩ => (show c = b from e) ▸ z⟩
    clear ss b1 hm H1
    rintro _ H1 ⟨m2, b1, ss, hm, rfl⟩
    -- one by one
    refine seqV (Good := fun σ2 H2 => ∃ (m3 : Nat) (x7 : Option V), ButS a H H2 ∧ SS C H2 x nn U Fl D E0 UE a ∧ Msk nn m3 (fun b => ∃ c, S c ∧ Rsn nn U Fl D R lo (hi - lo) c b) ∧ σ2 = σ8 x m3 lo hi R (some (.int (tp : Nat))) (some (.int (L : Nat))) x7) ?_ ?_
    · intro nx hnx
      refine ⟨_, rfl, _, _, rfl, rfl, _, rfl, _, _, rfl, rfl, (L : Int) + 1, (hi : Int) + 1, rfl, ⟨by omega, by omega, by omega, by omega⟩, ?_⟩
      refine for_range (lo := (L : Int) + 1) (n := ((hi : Int) + 1 - ((L : Int) + 1)).toNat) (fun i σ2 H2 => ∃ (m3 : Nat) (x7 : Option V), ButS a H H2 ∧ SS C H2 x nn U Fl D E0 UE a ∧ Msk nn m3 (fun b => ∃ c, S c ∧ Rsn nn U Fl D R lo (L - lo + i) c b) ∧ σ2 = σ8 x m3 lo hi R (some (.int (tp : Nat))) (some (.int (L : Nat))) x7)
        ⟨m2, none, b1, ss, hm, rfl⟩ ?_ ?_
      · clear ss b1 hm H1 m2
        rintro i σ2 H1 hi' ⟨m2, x7, b1, ss, hm, rfl⟩
        refine gn ?_
        obtain ⟨dx, hx⟩ := ss.ob
        refine ⟨_, rfl, x, dx, _, rfl, hx, fSh_mlid .., _, rfl, _, rfl, _, _, rfl, rfl, x, R - (lo + (L - lo + i) + 1), nn, U, Fl, D, E0, UE, a, ?_, ss, fun H2 p y b2 ss2 hp rp pli pfl => ?_⟩
        · show [V.ref x, V.int ((R : Int) - ((L : Int) + 1 + (i : Int)))] ++ [] = _
          rw [show ((R : Int) - ((L : Int) + 1 + (i : Int))) = ((R - (lo + (L - lo + i) + 1) : Nat) : Int) by omega]
          rfl
        obtain ⟨dx2, hx2⟩ := ss2.ob
        have rl := ss2.rel
        refine ⟨_, rfl, x, C, dx2, _, _, rfl, hx2, T.cl, T.n_u, fSh_u .., _, rfl, a.u, a.lu, m2, nn, U, rfl, rl.hu, rl.ru, rl.n100, hm.lo, fun y1 H3 s3 bit1 => ?_⟩
        have m3 := hm.img rl.iu bit1
        refine ⟨p, y, y1, nn, _, rfl, s3 _ _ hp, rp, rl.n100, m3.lo, fun y2 H4 s4 bit2 => ?_⟩
        have m4 := m3.img (lid_in _) bit2
        refine gn ⟨y2, _, (b1.trans b2).trans (Same.but3 (s3.trans s4)), ss2.same (s3.trans s4), m4.iff fun b => ?_, rfl⟩
        constructor
        · rintro ⟨f, ⟨e, ⟨c, h1, h2⟩, h3⟩, h4⟩
          exact ⟨c, h1, f, ⟨e, h2, h3⟩, h4⟩
        · rintro ⟨c, h1, f, ⟨e, h2, h3⟩, h4⟩
          exact ⟨f, ⟨e, ⟨c, h1, h2⟩, h3⟩, h4⟩
      · rintro σ2 H2 ⟨m3, x7, b2, ss2, hm3, rfl⟩
        rw [show L - lo + ((hi : Int) + 1 - ((L : Int) + 1)).toNat = hi - lo by omega] at hm3
        exact hnx _ _ ⟨m3, x7, b2, ss2, hm3, rfl⟩
    rintro _ H2 ⟨m3, x7, b2, ss2, hm3, rfl⟩
    exact ⟨_, rfl, q H2 m3 b2 ss2 hm3⟩
theorem ok_faS {f : Addr} {fd : FuncData} (F : Fun K "fallen" "Shaft.fallen" (cSh 14) f fd) (k : ShK P w K mg base C) : FnOk P w K mg base CX0 8 f fd ["self", "mask", "high", "low", "roof"] (spFaS C) := by
  refine F.ok scFaS (fun vs H Q E h => ?_) (fun cdv A outer s H vs Q E hr h => ?_)
  · obtain ⟨x, m, lo, hi, R, n, S, U, F, D, E0, UE, a, rfl, _⟩ := h
    rfl
  · obtain ⟨x, m, lo, hi, R, nn, S, U, Fl, D, E0, UE, a, rfl, ss, hm, lh, hR, h6, q⟩ := h
    have N := scFaS.nd
    have n := k.n
    have T := k.T
    have r1 := hr.mono (k := 7) (j := 1) (by decide)
    have r2 := hr.mono (k := 7) (j := 2) (by decide)
    have r3 := hr.mono (k := 7) (j := 3) (by decide)
    have r5 := hr.mono (k := 7) (j := 5) (by decide)
    have r6 := hr.mono (k := 7) (j := 6) (by decide)
    refine ⟨_, pss_cons (ps_set (i := 5) N rfl (.inl rfl) (pe_mP0 k.to T.cl hr (pv 0)))
      (pss_cons (ps_set (i := 6) N rfl (.inl rfl) (pe_callB (call_min2 rfl) (by rfl) n.min (by decide +kernel) (pa_cons (pv 2) (pa_cons (pe_callB (call_max2 rfl) (by rfl) n.max (by decide +kernel) (pa_cons (pv 3) (pa_cons (pe_op op_sub (pv 4) (pv 5)) pa_nil))) pa_nil))))
      (pss_cons (ps_for PassesOwn.never rfl (pi_range3 (by rfl) n.range (pa_cons (pv 2) (pa_cons (pv 6) (pa_cons (pe_un un_neg pe_int) pa_nil)))) (pg_name (i := 7) N rfl (.inl rfl))
        (pss_one (ps_set (i := 1) N rfl (.inl rfl) (pe_fn k.im r2 (pa_cons (pe_fld (pv 0) rfl) (pa_cons (pe_fn k.im r2 (pa_cons (pe_mP k.li T.cl r5 (pv 0) (pa_cons (pe_op op_sub (pv 4) (pv 7)) pa_nil)) (pa_cons (pv 1) pa_nil))) pa_nil))))))
      (pss_cons (ps_if (pt_cmpR op_gt (pv 6) (pv 3) (nomark _)) (pss_one (ps_set (i := 1) N rfl (.inl rfl) (pe_fn k.oa r1 (pa_cons (pe_fn k.oo r3 (pa_cons (pe_mP k.dr T.cl r6 (pv 0) (pa_cons (pv 5) pa_nil)) (pa_cons (pv 1) pa_nil))) (pa_cons (pe_op op_sub (pv 6) (pv 3)) pa_nil))))) pss_nil)
      (pss_one (ps_ret (pv 1)))))), ?_⟩
    have n16 := ss.n16
    refine seqV (Good := fun σ2 H1 => ∃ tp : Nat, ButS a H H1 ∧ SS C H1 x nn U Fl D E0 UE a ∧ Stops (Lid nn U Fl D) tp ∧ σ2 = σ8 x m hi lo R (some (.int (tp : Nat))) none none) ?_ ?_
    · intro nx hnx
      obtain ⟨dx, hx⟩ := ss.ob
      exact ⟨_, rfl, x, dx, _, rfl, hx, fSh_mlid_top .., x, nn, U, Fl, D, E0, UE, a, rfl, ss, fun H1 tp b1 ss1 st _ => hnx _ _ ⟨tp, b1, ss1, st, rfl⟩⟩
    clear ss
    rintro _ H1 ⟨tp, b1, ss, st, rfl⟩
    refine seqV (Good := fun σ2 H2 => H1 = H2 ∧ ∃ L : Nat, lo ≤ L ∧ L ≤ hi ∧ (lo < L → L + tp ≤ R) ∧ σ2 = σ8 x m hi lo R (some (.int (tp : Nat))) (some (.int (L : Nat))) none) ?_ ?_
    · intro nx hnx
      refine ⟨_, rfl, _, rfl, _, rfl, _, rfl, _, _, rfl, rfl, _, _, rfl, _, _, rfl, ?_⟩
      have e : (if (if (R : Int) - tp > lo then (R : Int) - tp else (lo : Int)) < hi then (if (R : Int) - tp > lo then (R : Int) - tp else (lo : Int)) else (hi : Int)) = ((min hi (max lo (R - tp)) : Nat) : Int) := by
        split <;> split at * <;> omega
      refine gn (hnx _ _ ⟨rfl, min hi (max lo (R - tp)), by omega, by omega, by omega, ?_⟩)
      rw [← e]
      rfl
    rintro _ _ ⟨rfl, L, l1, l2, l3, rfl⟩
    -- one by one
    refine seqV (Good := fun σ2 H2 => ∃ (m3 : Nat) (x7 : Option V), ButS a H H2 ∧ SS C H2 x nn U Fl D E0 UE a ∧ Msk nn m3 (fun b => ∃ c, S c ∧ Fal nn U Fl D R hi (hi - L) c b) ∧ σ2 = σ8 x m3 hi lo R (some (.int (tp : Nat))) (some (.int (L : Nat))) x7) ?_ ?_
    · intro nx hnx
      refine ⟨_, rfl, _, rfl, 1, rfl, (hi : Int), (L : Int), -1, ((hi : Int) - L).toNat, rfl, RgC.neg (by omega) (by omega) (by omega) (by omega), ?_⟩
      refine for_rangeC (lo := (hi : Int)) (c := -1) (n := ((hi : Int) - L).toNat) (fun i σ2 H2 => ∃ (m3 : Nat) (x7 : Option V), ButS a H H2 ∧ SS C H2 x nn U Fl D E0 UE a ∧ Msk nn m3 (fun b => ∃ c, S c ∧ Fal nn U Fl D R hi i c b) ∧ σ2 = σ8 x m3 hi lo R (some (.int (tp : Nat))) (some (.int (L : Nat))) x7)
        ⟨m, none, b1, ss, hm.iff fun b => ⟨fun z => ⟨b, z, rfl⟩, fun ⟨c, z, e⟩ => (show c = b from e) ▸ z⟩, rfl⟩ ?_ ?_
      · clear ss b1 hm H1
        rintro i σ2 H1 hi' ⟨m2, x7, b1, ss, hm, rfl⟩
        refine gn ?_
        obtain ⟨dx, hx⟩ := ss.ob
        refine ⟨_, rfl, x, C, dx, _, _, rfl, hx, T.cl, T.n_d, fSh_d .., _, rfl, x, dx, _, rfl, hx, fSh_mlid .., _, rfl, _, rfl, _, _, rfl, rfl, x, R - (hi - i), nn, U, Fl, D, E0, UE, a, ?_, ss, fun H2 p y b2 ss2 hp rp pli pfl => ?_⟩
        · show [V.ref x, V.int ((R : Int) - ((hi : Int) + (i : Nat) * (-1)))] ++ [] = _
          rw [show ((R : Int) - ((hi : Int) + (i : Nat) * (-1))) = ((R - (hi - i) : Nat) : Int) by omega]
          rfl
        have rl := ss2.rel
        refine ⟨_, rfl, p, y, m2, nn, _, rfl, hp, rp, rl.n100, hm.lo, fun y1 H3 s3 bit1 => ?_⟩
        have m3 := hm.img (lid_in _) bit1
        refine ⟨a.d, a.ld, y1, nn, D, rfl, s3 _ _ rl.hd, rl.rd, rl.n100, m3.lo, fun y2 H4 s4 bit2 => ?_⟩
        have m4 := m3.img rl.id bit2
        refine gn ⟨y2, _, (b1.trans b2).trans (Same.but3 (s3.trans s4)), ss2.same (s3.trans s4), m4.iff fun b => ?_, rfl⟩
        constructor
        · rintro ⟨f, ⟨e, ⟨c, h1, h2⟩, h3⟩, h4⟩
          exact ⟨c, h1, f, ⟨e, h2, h3⟩, h4⟩
        · rintro ⟨c, h1, f, ⟨e, h2, h3⟩, h4⟩
          exact ⟨f, ⟨e, ⟨c, h1, h2⟩, h3⟩, h4⟩
      · rintro σ2 H2 ⟨m3, x7, b2, ss2, hm3, rfl⟩
        rw [show ((hi : Int) - L).toNat = hi - L by omega] at hm3
        exact hnx _ _ ⟨m3, x7, b2, ss2, hm3, rfl⟩
    clear ss b1 hm H1
    rintro _ H1 ⟨m2, x7, b1, ss, hm, rfl⟩
    -- far down
    refine seqV (Good := fun σ2 H2 => ∃ m2 : Nat, ButS a H H2 ∧ SS C H2 x nn U Fl D E0 UE a ∧ Msk nn m2 (fun b => ∃ c, S c ∧ Fal nn U Fl D R hi (hi - lo) c b) ∧ σ2 = σ8 x m2 hi lo R (some (.int (tp : Nat))) (some (.int (L : Nat))) x7) ?_ ?_
    · intro nx hnx
      refine ⟨_, rfl, _, rfl, _, _, rfl, rfl, decide ((L : Int) > lo), rfl, ?_⟩
      by_cases c : lo < L
      · rw [decide_eq_true (by omega)]
        obtain ⟨dx, hx⟩ := ss.ob
        refine iteT ⟨_, rfl, x, dx, _, rfl, hx, fSh_mdrop_relation .., _, rfl, x, tp, nn, U, Fl, D, E0, UE, a, rfl, ss, fun H2 p y b2 ss2 hp rp pli pfl => ?_⟩
        have iC : In nn (pkD nn U Fl D tp) := (lid_in tp).cp ss2.rel.id
        refine ⟨_, rfl, p, y, m2, nn, _, rfl, hp, rp, iC, n16, hm.lo, fun t H3 nt s3 ot => ?_⟩
        refine ⟨_, rfl, _, rfl, _, _, rfl, rfl, t, y, m2, L - lo, ?_, ot, ?_⟩
        · show [V.ref t, V.int ((L : Int) - lo)] = _
          rw [show ((L : Int) - lo) = ((L - lo : Nat) : Int) by omega]
        · refine gn (hnx _ _ ⟨_, (b1.trans b2).trans (Same.but3 s3), ss2.same s3, (hm.orb rp iC).iff fun b => ?_, rfl⟩)
          have l3 := l3 c
          have sp : ∀ c b, Fal nn U Fl D R hi (hi - lo) c b ↔ ∃ e, Fal nn U Fl D R hi (hi - L) c e ∧ Pw (pkD nn U Fl D tp) (L - lo) e b := fun c b => by
            have h1 := fal_split (n := nn) (U := U) (F := Fl) (D := D) (R := R) (h := hi) (d1 := hi - L) (L - lo) (a := c) (c := b)
            rw [show hi - L + (L - lo) = hi - lo by omega, show hi - (hi - L) = L by omega] at h1
            exact h1.trans (exists_congr fun e => and_congr Iff.rfl (fal_pw st l3 (L - lo)))
          constructor
          · rintro ⟨e, ⟨c, h1, h2⟩, h3⟩
            exact ⟨c, h1, (sp c b).mpr ⟨e, h2, h3⟩⟩
          · rintro ⟨c, h1, h2⟩
            obtain ⟨e, h3, h4⟩ := (sp c b).mp h2
            exact ⟨e, ⟨c, h1, h3⟩, h4⟩
      · rw [decide_eq_false (by omega)]
        obtain rfl : L = lo := by omega
        exact iteF (hnx _ _ ⟨m2, b1, ss, hm, rfl⟩)
    rintro _ H2 ⟨m3, b2, ss2, hm3, rfl⟩
    exact ⟨_, rfl, q H2 m3 b2 ss2 hm3⟩
end
end L2.K71
end

section
set_option Elab.async false
set_option linter.all false
set_option maxRecDepth 100000
set_option maxHeartbeats 4000000
namespace L2.K71
open PySem PySem.Spec PyProof.Rows L2.Gd L2.Lv
/-! ### down to 0, up from 0, turns at 0 -/
def spZo (C : Addr) : Sp := fun vs H Q _ => ∃ (x : Addr) (m hi R n : Nat) (S : Nat → Prop) (U F D E0 UE : Rl) (a : SD), vs = [.ref x, .int (m : Nat), .int (hi : Nat), .int (R : Nat)] ∧ SS C H x n U F D E0 UE a ∧ Msk n m S ∧ hi ≤ R ∧ hi ≤ 1000000 ∧
  ∀ H' y, ButS a H H' → SS C H' x n U F D E0 UE a → Msk n y (fun b => ∃ c, S c ∧ Fal n U F D R hi hi c b) → Q (.int (y : Nat)) H'
def spBe (C : Addr) : Sp := fun vs H Q _ => ∃ (x : Addr) (m R n : Nat) (S : Nat → Prop) (U F D E0 UE : Rl) (a : SD), vs = [.ref x, .int (m : Nat), .int (R : Nat)] ∧ SS C H x n U F D E0 UE a ∧ Msk n m S ∧ 1 ≤ R ∧
  ∀ H' y, ButS a H H' → SS C H' x n U F D E0 UE a → Msk n y (fun b => ∃ c, S c ∧ Beg n U F D UE R c b) → Q (.int (y : Nat)) H'
def spTu (C : Addr) : Sp := fun vs H Q _ => ∃ (x : Addr) (R n : Nat) (U F D E0 UE : Rl) (a : SD), vs = [.ref x, .int (R : Nat)] ∧ SS C H x n U F D E0 UE a ∧
  ∀ H' p y, ButS a H H' → SS C H' x n U F D E0 UE a → H' p = some (.lst (iN y)) → Rep n y (Tur n U F D E0 UE R) → p ≠ a.li → p ≠ a.fl → Q (.ref p) H'
theorem scZo : FnScope ["self", "mask", "high", "roof"] ["self", "mask", "high", "roof"] (defScope (cSh 15)) := ⟨rfl, rfl, rfl, by decide +kernel, rfl, by decide +kernel, by decide +kernel⟩
theorem scBe : FnScope ["self", "zeros", "roof"] ["self", "zeros", "roof"] (defScope (cSh 16)) := ⟨rfl, rfl, rfl, by decide +kernel, rfl, by decide +kernel, by decide +kernel⟩
theorem scTu : FnScope ["self", "roof", "out"] ["self", "roof"] (defScope (cSh 10)) := ⟨rfl, rfl, rfl, by decide +kernel, rfl, by decide +kernel, by decide +kernel⟩
section
variable {P : Program} {w : World} {K : PySem.W.Frag} {mg : Str → Option Value} {base : Heap} {C : Addr}
theorem ok_zo {f : Addr} {fd : FuncData} (F : Fun K "zeros" "Shaft.zeros" (cSh 15) f fd) (k : ShK P w K mg base C) (FA : MeH P w K mg base C "fallen" 8 ["self", "mask", "high", "low", "roof"] (spFaS C)) : FnOk P w K mg base CX0 9 f fd ["self", "mask", "high", "roof"] (spZo C) := by
  refine F.ok scZo (fun vs H Q E h => ?_) (fun cdv A outer s H vs Q E hr h => ?_)
  · obtain ⟨x, m, hi, R, n, S, U, F, D, E0, UE, a, rfl, _⟩ := h
    rfl
  · obtain ⟨x, m, hi, R, nn, S, U, Fl, D, E0, UE, a, rfl, ss, hm, hR, h6, q⟩ := h
    have T := k.T
    have r2 := hr.mono (k := 8) (j := 2) (by decide)
    have r5 := hr.mono (k := 8) (j := 5) (by decide)
    refine ⟨_, pss_cons (ps_if (pt_cmpR op_eq (pv 2) pe_int (nomark _)) (pss_one (ps_ret (pv 1))) pss_nil)
      (pss_one (ps_ret (pe_fn k.im r2 (pa_cons (pe_fld (pv 0) rfl) (pa_cons (pe_fn k.im r2 (pa_cons (pe_mP k.li T.cl r5 (pv 0) (pa_cons (pe_op op_sub (pv 3) pe_int) pa_nil)) (pa_cons (pe_mP FA T.cl hr (pv 0) (pa_cons (pv 1) (pa_cons (pv 2) (pa_cons pe_int (pa_cons (pv 3) pa_nil))))) pa_nil))) pa_nil))))), ?_⟩
    have e : decide (V.int (hi : Nat) = V.int 0) = decide (hi = 0) := by
      rw [decide_eq_decide]
      exact ⟨fun z => by have := V.int.inj z; omega, fun z => by rw [z]; rfl⟩
    refine ⟨_, rfl, rfl, decide (hi = 0), congrArg V.bl e, ?_⟩
    by_cases c : hi = 0
    · rw [decide_eq_true c]
      subst c
      exact iteT ⟨_, rfl, q H m But3.refl ss (hm.iff fun b => ⟨fun z => ⟨b, z, rfl⟩, fun ⟨c, z, e⟩ => (show c = b from e) ▸ z⟩)⟩
    rw [decide_eq_false c]
    obtain ⟨j, rfl⟩ : ∃ j, hi = j + 1 := ⟨hi - 1, by omega⟩
    obtain ⟨dx, hx⟩ := ss.ob
    refine iteF ⟨_, rfl, x, C, dx, _, _, rfl, hx, T.cl, T.n_ld, fSh_ld .., _, rfl, x, dx, _, rfl, hx, fSh_mlid .., _, rfl, _, _, rfl, rfl, x, R - 1, nn, U, Fl, D, E0, UE, a, ?_, ss, fun H1 p y b1 ss1 hp rp pli pfl => ?_⟩
    · show [V.ref x, V.int ((R : Int) - 1)] ++ [] = _
      rw [show ((R : Int) - 1) = ((R - 1 : Nat) : Int) by omega]
      rfl
    obtain ⟨dx1, hx1⟩ := ss1.ob
    refine ⟨_, rfl, x, dx1, _, rfl, hx1, fSh_mfallen .., _, rfl, _, rfl, _, rfl, x, m, 1, j + 1, R, nn, S, U, Fl, D, E0, UE, a, rfl, ss1, hm, by omega, hR, h6, fun H2 y1 b2 ss2 m1 => ?_⟩
    have hp2 := ss1.keep b2 hp pli pfl
    have rl := ss2.rel
    refine ⟨p, y, y1, nn, _, rfl, hp2, rp, rl.n100, m1.lo, fun y2 H3 s3 bit2 => ?_⟩
    have m2 := m1.img (lid_in _) bit2
    refine ⟨a.d, a.ld, y2, nn, D, rfl, s3 _ _ rl.hd, rl.rd, rl.n100, m2.lo, fun y3 H4 s4 bit3 => ?_⟩
    have m3 := m2.img rl.id bit3
    refine q H4 y3 ((b1.trans b2).trans (Same.but3 (s3.trans s4))) (ss2.same (s3.trans s4)) (m3.iff fun b => ?_)
    rw [show j + 1 - 1 = j by omega]
    have ei : R - (j + 1 - j) = R - 1 := by omega
    constructor
    · rintro ⟨f, ⟨e, ⟨c, h1, h2⟩, h3⟩, h4⟩
      exact ⟨c, h1, f, ⟨e, h2, ei ▸ h3⟩, h4⟩
    · rintro ⟨c, h1, f, ⟨e, h2, h3⟩, h4⟩
      exact ⟨f, ⟨e, ⟨c, h1, h2⟩, ei ▸ h3⟩, h4⟩
theorem ok_be {f : Addr} {fd : FuncData} (F : Fun K "begun" "Shaft.begun" (cSh 16) f fd) (k : ShK P w K mg base C) : FnOk P w K mg base CX0 6 f fd ["self", "zeros", "roof"] (spBe C) := by
  refine F.ok scBe (fun vs H Q E h => ?_) (fun cdv A outer s H vs Q E hr h => ?_)
  · obtain ⟨x, m, R, n, S, U, F, D, E0, UE, a, rfl, _⟩ := h
    rfl
  · obtain ⟨x, m, R, nn, S, U, Fl, D, E0, UE, a, rfl, ss, hm, R1, q⟩ := h
    have T := k.T
    have r2 := hr.mono (k := 5) (j := 2) (by decide)
    refine ⟨_, pss_one (ps_ret (pe_fn k.im r2 (pa_cons (pe_mP k.li T.cl hr (pv 0) (pa_cons (pe_op op_sub (pv 2) pe_int) pa_nil)) (pa_cons (pe_fn k.im r2 (pa_cons (pe_fld (pv 0) rfl) (pa_cons (pv 1) pa_nil))) pa_nil)))), ?_⟩
    obtain ⟨dx, hx⟩ := ss.ob
    refine ⟨_, rfl, x, dx, _, rfl, hx, fSh_mlid .., _, rfl, _, _, rfl, rfl, x, R - 1, nn, U, Fl, D, E0, UE, a, ?_, ss, fun H1 p y b1 ss1 hp rp pli pfl => ?_⟩
    · show [V.ref x, V.int ((R : Int) - 1)] ++ [] = _
      rw [show ((R : Int) - 1) = ((R - 1 : Nat) : Int) by omega]
      rfl
    obtain ⟨dx1, hx1⟩ := ss1.ob
    have rl := ss1.rel
    have z := ss1.z
    refine ⟨_, rfl, x, C, dx1, _, _, rfl, hx1, T.cl, T.n_fu, fSh_fu .., _, rfl, a.fu, a.lfu, m, nn, UE, rfl, z.hfu, z.rfu, rl.n100, hm.lo, fun y1 H2 s2 bit1 => ?_⟩
    have m1 := hm.img z.ifu bit1
    refine ⟨p, y, y1, nn, _, rfl, s2 _ _ hp, rp, rl.n100, m1.lo, fun y2 H3 s3 bit2 => ?_⟩
    have m2 := m1.img (lid_in _) bit2
    refine q H3 y2 (b1.trans (Same.but3 (s2.trans s3))) (ss1.same (s2.trans s3)) (m2.iff fun b => ?_)
    constructor
    · rintro ⟨f, ⟨c, h1, h2⟩, h3⟩
      exact ⟨c, h1, f, h2, h3⟩
    · rintro ⟨c, h1, f, h2, h3⟩
      exact ⟨f, ⟨c, h1, h2⟩, h3⟩
theorem ok_tu {f : Addr} {fd : FuncData} (F : Fun K "turns_under" "Shaft.turns_under" (cSh 10) f fd) (k : ShK P w K mg base C) : FnOk P w K mg base CX0 6 f fd ["self", "roof"] (spTu C) := by
  refine F.ok scTu (fun vs H Q E h => ?_) (fun cdv A outer s H vs Q E hr h => ?_)
  · obtain ⟨x, R, n, U, F, D, E0, UE, a, rfl, _⟩ := h
    rfl
  · obtain ⟨x, R, nn, U, Fl, D, E0, UE, a, rfl, ss, q⟩ := h
    have N := scTu.nd
    have T := k.T
    have r1 := hr.mono (k := 5) (j := 1) (by decide)
    have r3 := hr.mono (k := 5) (j := 3) (by decide)
    refine ⟨_, pss_cons (ps_set (i := 2) N rfl (.inl rfl) (pe_fn k.jo r1 (pa_cons (pe_mP k.li T.cl hr (pv 0) (pa_cons (pv 1) pa_nil)) (pa_cons (pe_fld (pv 0) rfl) pa_nil))))
      (pss_cons (ps_if (pt_cmpR op_gt (pv 1) pe_int (nomark _)) (pss_one (ps_set (i := 2) N rfl (.inl rfl) (pe_fn k.jo r1 (pa_cons (pv 2) (pa_cons (pe_fn k.fo r3 (pa_cons (pe_fn k.fo r3 (pa_cons (pe_fld (pv 0) rfl) (pa_cons (pe_mP k.li T.cl hr (pv 0) (pa_cons (pe_op op_sub (pv 1) pe_int) pa_nil)) pa_nil))) (pa_cons (pe_fld (pv 0) rfl) pa_nil))) pa_nil))))) pss_nil)
      (pss_one (ps_ret (pe_fn k.cl r1 (pa_cons (pv 2) pa_nil))))), ?_⟩
    refine seqV (Good := fun σ2 H1 => ∃ (o : Addr) (z : List Nat), ButS a H H1 ∧ SS C H1 x nn U Fl D E0 UE a ∧ H1 o = some (.lst (iN z)) ∧ o ≠ a.li ∧ o ≠ a.fl ∧ Rep nn z (Or2 (Lid nn U Fl D R) E0) ∧ σ2 = [some (.ref x), some (.int (R : Nat)), some (.ref o)]) ?_ ?_
    · intro nx hnx
      obtain ⟨dx, hx⟩ := ss.ob
      refine ⟨_, rfl, x, dx, _, rfl, hx, fSh_mlid .., _, rfl, x, R, nn, U, Fl, D, E0, UE, a, rfl, ss, fun H1 p y b1 ss1 hp rp pli pfl => ?_⟩
      obtain ⟨dx1, hx1⟩ := ss1.ob
      have z := ss1.z
      refine ⟨_, rfl, x, C, dx1, _, _, rfl, hx1, T.cl, T.n_la, fSh_la .., p, a.la, y, a.lla, nn, _, _, rfl, hp, z.hla, rp, z.rla, ss1.rel.n100, fun o H2 z2 no s2 ho ro => ?_⟩
      have nw := ss1.new no
      exact hnx _ _ ⟨o, z2, b1.trans (Same.but3 s2), ss1.same s2, ho, nw.1, nw.2, ro, rfl⟩
    clear ss
    rintro _ H1 ⟨o, z, b1, ss, ho, oli, ofl, ro, rfl⟩
    have i0 : In nn (Or2 (Lid nn U Fl D R) E0) := (lid_in R).or ss.z.ila
    refine seqV (Good := fun σ2 H2 => ∃ (o : Addr) (z : List Nat) (S : Rl), ButS a H H2 ∧ SS C H2 x nn U Fl D E0 UE a ∧ H2 o = some (.lst (iN z)) ∧ In nn S ∧ Rep nn z S ∧ (∀ b c, S b c ↔ (Or2 (Lid nn U Fl D R) E0 b c ∨ ∃ k, R = k + 1 ∧ Cp (Cp UE (Lid nn U Fl D k)) D b c)) ∧ σ2 = [some (.ref x), some (.int (R : Nat)), some (.ref o)]) ?_ ?_
    · intro nx hnx
      refine ⟨_, rfl, _, _, rfl, rfl, decide (((R : Nat) : Int) > 0), rfl, ?_⟩
      by_cases h0 : R = 0
      · rw [decide_eq_false (by omega)]
        exact iteF (hnx _ _ ⟨o, z, _, b1, ss, ho, i0, ro, fun b c => ⟨.inl, fun z => z.elim id fun ⟨k, e, _⟩ => absurd e (by omega)⟩, rfl⟩)
      · obtain ⟨j, rfl⟩ : ∃ j, R = j + 1 := ⟨R - 1, by omega⟩
        rw [decide_eq_true (by omega)]
        obtain ⟨dx1, hx1⟩ := ss.ob
        refine iteT ⟨_, rfl, _, rfl, x, C, dx1, _, _, rfl, hx1, T.cl, T.n_fu, fSh_fu .., _, rfl, x, dx1, _, rfl, hx1, fSh_mlid .., _, rfl, _, _, rfl, rfl, ?_⟩
        refine ⟨x, j, nn, U, Fl, D, E0, UE, a, ?_, ss, fun H2 p y b2 ss2 hp rp pli pfl => ?_⟩
        · show [V.ref x, V.int (((j + 1 : Nat) : Int) - 1)] ++ [] = _
          rw [show (((j + 1 : Nat) : Int) - 1) = (j : Nat) by omega]
          rfl
        obtain ⟨dx2, hx2⟩ := ss2.ob
        have rl := ss2.rel
        have zz := ss2.z
        have ho2 := ss.keep b2 ho oli ofl
        refine ⟨a.fu, p, a.lfu, y, nn, UE, _, rfl, zz.hfu, hp, zz.rfu, rp, rl.n100, zz.ifu, fun q1 H3 z1 nq1 s1 h1 r1' => ⟨_, rfl, x, C, dx2, _, _, rfl, s1 _ _ hx2, T.cl, T.n_ld, fSh_ld .., q1, a.d, z1, a.ld, nn, _, D, rfl, h1, s1 _ _ rl.hd, r1', rl.rd, rl.n100, zz.ifu.cp (lid_in j), fun q2 H4 z2 nq2 s2 h2 r2 => ?_⟩⟩
        have s12 := s1.trans s2
        refine ⟨o, q2, z, z2, nn, _, _, rfl, s12 _ _ ho2, h2, ro, r2, rl.n100, fun q3 H5 z3 nq3 s3 h3 r3 => ?_⟩
        have s13 := s12.trans s3
        exact hnx _ _ ⟨q3, z3, _, (b1.trans b2).trans (Same.but3 s13), ss2.same s13, h3, i0.or ((zz.ifu.cp (lid_in j)).cp rl.id), r3, fun b c => or_congr Iff.rfl ⟨fun z => ⟨j, rfl, z⟩, fun ⟨k, e, z⟩ => by
          obtain rfl : j = k := by omega
          exact z⟩, rfl⟩
    rintro _ H2 ⟨o2, z2, S, b2, ss2, ho2, iS, rS, eS, rfl⟩
    refine ⟨_, rfl, o2, z2, nn, S, rfl, ho2, rS, ss2.rel.n100, iS, fun p H3 y np s3 hp rp => ?_⟩
    have nw := ss2.new np
    exact q H3 p y (b2.trans (Same.but3 s3)) (ss2.same s3) hp (rp.iff fun b c => cl_iff eS b c) nw.1 nw.2
end
end L2.K71
end

section
set_option Elab.async false
set_option linter.all false
set_option maxRecDepth 100000
set_option maxHeartbeats 4000000
namespace L2.K71
open PySem PySem.Spec PyProof.Rows L2.Gd L2.Lv
/-! ### leads under a roof -/
def spLP (C : Addr) : Sp := fun vs H Q _ => ∃ (x : Addr) (a s b e R n : Nat) (U F D E0 UE : Rl) (sd : SD), vs = [.ref x, .int (a : Nat), .int (s : Nat), .int (b : Nat), .int (e : Nat), .int (R : Nat)] ∧ SS C H x n U F D E0 UE sd ∧ a < n ∧ b < n ∧ s ≤ R ∧ e ≤ R ∧ s ≤ 1000000 ∧ e ≤ 1000000 ∧
  ∀ H' (v : Bool), ButS sd H H' → SS C H' x n U F D E0 UE sd → (v = true ↔ LedU n U F D R a s b e) → Q (.bl v) H'
def spLZ (C : Addr) : Sp := fun vs H Q _ => ∃ (x : Addr) (a s b e R n : Nat) (U F D E0 UE : Rl) (sd : SD), vs = [.ref x, .int (a : Nat), .int (s : Nat), .int (b : Nat), .int (e : Nat), .int (R : Nat)] ∧ SS C H x n U F D E0 UE sd ∧ a < n ∧ b < n ∧ s ≤ R ∧ e ≤ R ∧ s ≤ 1000000 ∧ e ≤ 1000000 ∧
  ∀ H' (v : Bool), ButS sd H H' → SS C H' x n U F D E0 UE sd → (v = true ↔ LedE n U F D E0 UE R a s b e) → Q (.bl v) H'
def spLL (C : Addr) : Sp := fun vs H Q _ => ∃ (x : Addr) (a s b e R n : Nat) (U F D E0 UE : Rl) (sd : SD), vs = [.ref x, .int (a : Nat), .int (s : Nat), .int (b : Nat), .int (e : Nat), .int (R : Nat)] ∧ SS C H x n U F D E0 UE sd ∧ a < n ∧ b < n ∧ s ≤ 1000000 ∧ e ≤ 1000000 ∧
  ∀ H' (v : Bool), ButS sd H H' → SS C H' x n U F D E0 UE sd → (v = true ↔ s ≤ R ∧ e ≤ R ∧ (LedU n U F D R a s b e ∨ LedE n U F D E0 UE R a s b e)) → Q (.bl v) H'
def NLP : List Str := ["self", "place", "start", "goal", "end", "roof", "risen", "fallen"]
def NLZ : List Str := ["self", "place", "start", "goal", "end", "roof", "zeros"]
abbrev P6 : List Str := ["self", "place", "start", "goal", "end", "roof"]
theorem scLP : FnScope NLP P6 (defScope (cSh 17)) := ⟨rfl, rfl, rfl, by decide +kernel, rfl, by decide +kernel, by decide +kernel⟩
theorem scLZ : FnScope NLZ P6 (defScope (cSh 18)) := ⟨rfl, rfl, rfl, by decide +kernel, rfl, by decide +kernel, by decide +kernel⟩
theorem scLL : FnScope P6 P6 (defScope (cSh 19)) := ⟨rfl, rfl, rfl, by decide +kernel, rfl, by decide +kernel, by decide +kernel⟩
theorem Msk.one {n a : Nat} (ha : a < n) : Msk n (2 ^ a) fun b => a = b :=
  ⟨fun b => by rw [Nat.testBit_two_pow, decide_eq_true_eq], fun b z => z ▸ ha⟩
theorem Msk.row {n a : Nat} {l : List Nat} {r : Rl} (rp : Rep n l r) (i : In n r) : Msk n (l.getD a 0) fun b => r a b :=
  ⟨fun b => rp.bit a b, fun b z => (i a b z).2⟩
section
variable {P : Program} {w : World} {K : PySem.W.Frag} {mg : Str → Option Value} {base : Heap} {C : Addr}
theorem ok_lpS {f : Addr} {fd : FuncData} (F : Fun K "leads_plain" "Shaft.leads_plain" (cSh 17) f fd) (k : ShK P w K mg base C) (RI : MeH P w K mg base C "risen" 8 ["self", "mask", "low", "high", "roof"] (spRsS C)) (FA : MeH P w K mg base C "fallen" 8 ["self", "mask", "high", "low", "roof"] (spFaS C)) : FnOk P w K mg base CX0 9 f fd P6 (spLP C) := by
  refine F.ok scLP (fun vs H Q E h => ?_) (fun cdv A outer s H vs Q E hr h => ?_)
  · obtain ⟨x, a, s, b, e, R, n, U, F, D, E0, UE, sd, rfl, _⟩ := h
    rfl
  · obtain ⟨x, a, st, b, e, R, nn, U, Fl, D, E0, UE, sd, rfl, ss, an, bn, sR, eR, s6, e6, q⟩ := h
    have N := scLP.nd
    have T := k.T
    have r2 := hr.mono (k := 8) (j := 2) (by decide)
    have r6 := hr.mono (k := 8) (j := 6) (by decide)
    refine ⟨_, pss_cons (ps_if (pt_cmpR op_le (pv 2) (pv 4) (nomark _))
        (pss_cons (ps_set (i := 6) N rfl (.inl rfl) (pe_mP RI T.cl hr (pv 0) (pa_cons (pe_ix ix_list (pe_mP k.bd T.cl r6 (pv 0) (pa_cons (pv 2) (pa_cons (pe_op op_sub (pv 5) (pv 2)) pa_nil))) (pv 1) (fun _ _ => rfl)) (pa_cons (pv 2) (pa_cons (pv 4) (pa_cons (pv 5) pa_nil))))))
        (pss_one (ps_ret (pe_cmpR op_eq (pe_op op_and (pe_op op_shr (pv 6) (pv 3)) pe_int) pe_int (nomark _))))) pss_nil)
      (pss_cons (ps_set (i := 7) N rfl (.inl rfl) (pe_mP FA T.cl hr (pv 0) (pa_cons (pe_op op_shl pe_int (pv 1)) (pa_cons (pv 2) (pa_cons (pv 4) (pa_cons (pv 5) pa_nil))))))
      (pss_one (ps_ret (pe_cmpR op_eq (pe_op op_and (pe_op op_shr (pe_fn k.im r2 (pa_cons (pe_mP k.bd T.cl r6 (pv 0) (pa_cons (pv 4) (pa_cons (pe_op op_sub (pv 5) (pv 4)) pa_nil))) (pa_cons (pv 7) pa_nil))) (pv 3)) pe_int) pe_int (nomark _))))), ?_⟩
    obtain ⟨dx, hx⟩ := ss.ob
    have n16 := ss.n16
    refine ⟨_, rfl, _, rfl, _, _, rfl, rfl, decide ((st : Int) ≤ (e : Int)), rfl, ?_⟩
    by_cases c : st ≤ e
    · rw [decide_eq_true (by omega)]
      refine iteT ⟨_, rfl, x, dx, _, rfl, hx, fSh_mrisen .., ?_⟩
      refine ⟨_, rfl, x, dx, _, rfl, hx, fSh_mband .., _, rfl, _, rfl, _, rfl, _, _, rfl, rfl, x, st, R - st, nn, U, Fl, D, E0, UE, sd, ?_, ss, fun H1 p y b1 ss1 hp rp pli pfl => ?_⟩
      · show [V.ref x, V.int (st : Nat), V.int ((R : Int) - st)] ++ [] = _
        rw [show ((R : Int) - st) = ((R - st : Nat) : Int) by omega]
        rfl
      have iB : In nn (Band nn U Fl D st (R - st)) := Cl.inn
      have hl : a < y.length := by rw [rp.len]; exact an
      refine ⟨_, rfl, p, iN y, _, _, rfl, rfl, .inl (.inl hp), atI_nat (iN_at hl), _, rfl, _, rfl, _, rfl, ?_⟩
      refine ⟨x, y.getD a 0, st, e, R, nn, _, U, Fl, D, E0, UE, sd, rfl, ss1, Msk.row rp iB, c, eR, e6, fun H2 m b2 ss2 hm => ?_⟩
      refine ⟨_, rfl, _, rfl, _, _, rfl, rfl, (by omega), _, _, rfl, rfl, rfl, ?_⟩
      show Q (V.bl (decide (V.int (Builtin.bitAnd ((m : Int) / 2 ^ ((b : Int)).toNat) 1) = V.int 1))) H2
      rw [bit_test]
      refine q H2 _ (b1.trans b2) ss2 ?_
      rw [hm.bit]
      unfold LedU
      rw [if_pos c]
    · rw [decide_eq_false (by omega)]
      refine iteF ⟨_, rfl, x, dx, _, rfl, hx, fSh_mfallen .., _, rfl, _, _, rfl, rfl, ⟨by omega, by omega, by decide⟩, ?_⟩
      refine ⟨_, rfl, _, rfl, _, rfl, x, 2 ^ a, e, st, R, nn, _, U, Fl, D, E0, UE, sd, ?_, ss, Msk.one an, by omega, sR, s6, fun H1 m b1 ss1 hm => ?_⟩
      · show [V.ref x, V.int ((1 : Int) * 2 ^ ((a : Int)).toNat), V.int (st : Nat), V.int (e : Nat), V.int (R : Nat)] ++ [] = _
        rw [shl_nat]
        rfl
      obtain ⟨dx1, hx1⟩ := ss1.ob
      refine ⟨_, rfl, x, dx1, _, rfl, hx1, fSh_mband .., _, rfl, _, rfl, _, rfl, _, _, rfl, rfl, x, e, R - e, nn, U, Fl, D, E0, UE, sd, ?_, ss1, fun H2 p y b2 ss2 hp rp pli pfl => ?_⟩
      · show [V.ref x, V.int (e : Nat), V.int ((R : Int) - e)] ++ [] = _
        rw [show ((R : Int) - e) = ((R - e : Nat) : Int) by omega]
        rfl
      have iB : In nn (Band nn U Fl D e (R - e)) := Cl.inn
      refine ⟨_, rfl, p, y, m, nn, _, rfl, hp, rp, by omega, hm.lo, fun y2 H3 s3 bit2 => ?_⟩
      have m2 := hm.img iB bit2
      refine ⟨_, rfl, _, _, rfl, rfl, (by omega), _, _, rfl, rfl, rfl, ?_⟩
      show Q (V.bl (decide (V.int (Builtin.bitAnd ((y2 : Int) / 2 ^ ((b : Int)).toNat) 1) = V.int 1))) H3
      rw [bit_test]
      refine q H3 _ ((b1.trans b2).trans (Same.but3 s3)) (ss2.same s3) ?_
      rw [m2.bit]
      unfold LedU
      rw [if_neg c]
      constructor
      · rintro ⟨c1, ⟨c0, rfl, h1⟩, h2⟩
        exact ⟨c1, h1, h2⟩
      · rintro ⟨c1, h1, h2⟩
        exact ⟨c1, ⟨a, rfl, h1⟩, h2⟩
theorem ok_lzS {f : Addr} {fd : FuncData} (F : Fun K "leads_by_zero" "Shaft.leads_by_zero" (cSh 18) f fd) (k : ShK P w K mg base C) (RI : MeH P w K mg base C "risen" 8 ["self", "mask", "low", "high", "roof"] (spRsS C)) (ZO : MeH P w K mg base C "zeros" 9 ["self", "mask", "high", "roof"] (spZo C))
    (TU : MeH P w K mg base C "turns_under" 6 ["self", "roof"] (spTu C)) (BE : MeH P w K mg base C "begun" 6 ["self", "zeros", "roof"] (spBe C)) : FnOk P w K mg base CX0 10 f fd P6 (spLZ C) := by
  refine F.ok scLZ (fun vs H Q E h => ?_) (fun cdv A outer s H vs Q E hr h => ?_)
  · obtain ⟨x, a, s, b, e, R, n, U, F, D, E0, UE, sd, rfl, _⟩ := h
    rfl
  · obtain ⟨x, a, st, b, e, R, nn, U, Fl, D, E0, UE, sd, rfl, ss, an, bn, sR, eR, s6, e6, q⟩ := h
    have N := scLZ.nd
    have T := k.T
    have r2 := hr.mono (k := 9) (j := 2) (by decide)
    have r6 := hr.mono (k := 9) (j := 6) (by decide)
    have r8 := hr.mono (k := 9) (j := 8) (by decide)
    refine ⟨_, pss_cons (ps_set (i := 6) N rfl (.inl rfl) (pe_fn k.im r2 (pa_cons (pe_mP TU T.cl r6 (pv 0) (pa_cons (pv 5) pa_nil)) (pa_cons (pe_mP ZO T.cl hr (pv 0) (pa_cons (pe_op op_shl pe_int (pv 1)) (pa_cons (pv 2) (pa_cons (pv 5) pa_nil)))) pa_nil))))
      (pss_cons (ps_if (pt_cmpR op_gt (pv 4) pe_int (nomark _)) (pss_one (ps_set (i := 6) N rfl (.inl rfl) (pe_mP RI T.cl r8 (pv 0) (pa_cons (pe_mP BE T.cl r6 (pv 0) (pa_cons (pv 6) (pa_cons (pv 5) pa_nil))) (pa_cons pe_int (pa_cons (pv 4) (pa_cons (pv 5) pa_nil))))))) pss_nil)
      (pss_one (ps_ret (pe_cmpR op_eq (pe_op op_and (pe_op op_shr (pv 6) (pv 3)) pe_int) pe_int (nomark _))))), ?_⟩
    have n16 := ss.n16
    refine seqV (Good := fun σ2 H2 => ∃ m : Nat, ButS sd H H2 ∧ SS C H2 x nn U Fl D E0 UE sd ∧ Msk nn m (fun z' => ∃ z, Fal nn U Fl D R st st a z ∧ Tur nn U Fl D E0 UE R z z') ∧ σ2 = [some (.ref x), some (.int (a : Nat)), some (.int (st : Nat)), some (.int (b : Nat)), some (.int (e : Nat)), some (.int (R : Nat)), some (.int (m : Nat))]) ?_ ?_
    · intro nx hnx
      obtain ⟨dx, hx⟩ := ss.ob
      refine ⟨_, rfl, x, dx, _, rfl, hx, fSh_mturns_under .., _, rfl, x, R, nn, U, Fl, D, E0, UE, sd, rfl, ss, fun H1 p y b1 ss1 hp rp pli pfl => ?_⟩
      obtain ⟨dx1, hx1⟩ := ss1.ob
      refine ⟨_, rfl, x, dx1, _, rfl, hx1, fSh_mzeros .., _, rfl, _, _, rfl, rfl, ⟨by omega, by omega, by decide⟩, ?_⟩
      refine ⟨_, rfl, _, rfl, x, 2 ^ a, st, R, nn, _, U, Fl, D, E0, UE, sd, ?_, ss1, Msk.one an, sR, s6, fun H2 m b2 ss2 hm => ?_⟩
      · show [V.ref x, V.int ((1 : Int) * 2 ^ ((a : Int)).toNat), V.int (st : Nat), V.int (R : Nat)] ++ [] = _
        rw [shl_nat]
        rfl
      have hp2 := ss1.keep b2 hp pli pfl
      have iT : In nn (Tur nn U Fl D E0 UE R) := Cl.inn
      refine ⟨p, y, m, nn, _, rfl, hp2, rp, by omega, hm.lo, fun m2 H3 s3 bit2 => ?_⟩
      have hm2 := hm.img iT bit2
      refine hnx _ _ ⟨m2, (b1.trans b2).trans (Same.but3 s3), ss2.same s3, hm2.iff fun z' => ?_, rfl⟩
      constructor
      · rintro ⟨z, ⟨c, rfl, h1⟩, h2⟩
        exact ⟨z, h1, h2⟩
      · rintro ⟨z, h1, h2⟩
        exact ⟨z, ⟨a, rfl, h1⟩, h2⟩
    rintro _ H1 ⟨m, b1, ss1, hm, rfl⟩
    refine seqV (Good := fun σ2 H2 => ∃ m2 : Nat, ButS sd H H2 ∧ SS C H2 x nn U Fl D E0 UE sd ∧ (m2.testBit b = true ↔ LedE nn U Fl D E0 UE R a st b e) ∧ σ2 = [some (.ref x), some (.int (a : Nat)), some (.int (st : Nat)), some (.int (b : Nat)), some (.int (e : Nat)), some (.int (R : Nat)), some (.int (m2 : Nat))]) ?_ ?_
    · intro nx hnx
      refine ⟨_, rfl, _, _, rfl, rfl, decide (((e : Nat) : Int) > 0), rfl, ?_⟩
      by_cases c : e = 0
      · subst c
        rw [decide_eq_false (by omega)]
        refine iteF (hnx _ _ ⟨m, b1, ss1, ?_, rfl⟩)
        rw [hm.bit]
        constructor
        · rintro ⟨z, h1, h2⟩
          exact ⟨z, b, h1, h2, .inl ⟨rfl, rfl⟩⟩
        · rintro ⟨z, z', h1, h2, ⟨_, rfl⟩ | ⟨k, e0, _⟩⟩
          · exact ⟨z, h1, h2⟩
          · exact nomatch e0
      · rw [decide_eq_true (by omega)]
        obtain ⟨j, rfl⟩ : ∃ j, e = j + 1 := ⟨e - 1, by omega⟩
        obtain ⟨dx1, hx1⟩ := ss1.ob
        refine iteT ⟨_, rfl, x, dx1, _, rfl, hx1, fSh_mrisen .., _, rfl, x, dx1, _, rfl, hx1, fSh_mbegun .., _, rfl, _, rfl, x, m, R, nn, _, U, Fl, D, E0, UE, sd, rfl, ss1, hm, by omega, fun H2 y b2 ss2 hy => ?_⟩
        refine ⟨_, rfl, _, rfl, x, y, 1, j + 1, R, nn, _, U, Fl, D, E0, UE, sd, rfl, ss2, hy, by omega, eR, e6, fun H3 y2 b3 ss3 hy2 => ?_⟩
        refine hnx _ _ ⟨y2, (b1.trans b2).trans b3, ss3, ?_, rfl⟩
        rw [hy2.bit, show j + 1 - 1 = j by omega]
        constructor
        · rintro ⟨c1, ⟨z', ⟨z, h1, h2⟩, h3⟩, h4⟩
          exact ⟨z, z', h1, h2, .inr ⟨j, rfl, c1, h3, h4⟩⟩
        · rintro ⟨z, z', h1, h2, ⟨e0, _⟩ | ⟨k, e0, c1, h3, h4⟩⟩
          · exact nomatch e0
          · obtain rfl : j = k := by omega
            exact ⟨c1, ⟨z', ⟨z, h1, h2⟩, h3⟩, h4⟩
    rintro _ H2 ⟨m2, b2, ss2, hm2, rfl⟩
    refine ⟨_, rfl, _, rfl, _, _, rfl, rfl, (by omega), _, _, rfl, rfl, rfl, ?_⟩
    show Q (V.bl (decide (V.int (Builtin.bitAnd ((m2 : Int) / 2 ^ ((b : Int)).toNat) 1) = V.int 1))) H2
    rw [bit_test]
    exact q H2 _ b2 ss2 hm2
theorem ok_llS {f : Addr} {fd : FuncData} (F : Fun K "leads" "Shaft.leads" (cSh 19) f fd) (k : ShK P w K mg base C) (LP : MeH P w K mg base C "leads_plain" 9 P6 (spLP C)) (LZ : MeH P w K mg base C "leads_by_zero" 10 P6 (spLZ C)) : FnOk P w K mg base CX0 11 f fd P6 (spLL C) := by
  refine F.ok scLL (fun vs H Q E h => ?_) (fun cdv A outer s H vs Q E hr h => ?_)
  · obtain ⟨x, a, s, b, e, R, n, U, F, D, E0, UE, sd, rfl, _⟩ := h
    rfl
  · obtain ⟨x, a, st, b, e, R, nn, U, Fl, D, E0, UE, sd, rfl, ss, an, bn, s6, e6, q⟩ := h
    have N := scLL.nd
    have n := k.n
    have T := k.T
    have r9 := hr.mono (k := 10) (j := 9) (by decide)
    refine ⟨_, pss_cons (ps_if (pt_cmpR op_gt (pe_callB (call_max2 rfl) (by rfl) n.max (by decide +kernel) (pa_cons (pv 2) (pa_cons (pv 4) pa_nil))) (pv 5) (nomark _)) (pss_one (ps_ret pe_bl)) pss_nil)
      (pss_one (ps_ret (pe_or (pe_mP LP T.cl r9 (pv 0) (pa_cons (pv 1) (pa_cons (pv 2) (pa_cons (pv 3) (pa_cons (pv 4) (pa_cons (pv 5) pa_nil)))))) (pe_one (pe_mP LZ T.cl hr (pv 0) (pa_cons (pv 1) (pa_cons (pv 2) (pa_cons (pv 3) (pa_cons (pv 4) (pa_cons (pv 5) pa_nil)))))))))), ?_⟩
    obtain ⟨dx, hx⟩ := ss.ob
    refine ⟨_, rfl, _, rfl, _, _, rfl, _, rfl, _, _, rfl, rfl, decide ((if (e : Int) > st then (e : Int) else (st : Int)) > (R : Int)), rfl, ?_⟩
    by_cases c : st ≤ R ∧ e ≤ R
    · rw [decide_eq_false (by split <;> omega)]
      refine iteF ⟨_, rfl, x, dx, _, rfl, hx, fSh_mleads_plain .., _, rfl, _, rfl, _, rfl, _, rfl, _, rfl, x, a, st, b, e, R, nn, U, Fl, D, E0, UE, sd, rfl, ss, an, bn, c.1, c.2, s6, e6, fun H1 v b1 ss1 hv => ⟨v, rfl, ?_⟩⟩
      cases v with
      | true => exact iteT (q H1 true b1 ss1 ⟨fun _ => ⟨c.1, c.2, .inl (hv.mp rfl)⟩, fun _ => rfl⟩)
      | false =>
        obtain ⟨dx1, hx1⟩ := ss1.ob
        refine iteF ⟨_, rfl, x, dx1, _, rfl, hx1, fSh_mleads_by_zero .., _, rfl, _, rfl, _, rfl, _, rfl, _, rfl, x, a, st, b, e, R, nn, U, Fl, D, E0, UE, sd, rfl, ss1, an, bn, c.1, c.2, s6, e6, fun H2 v b2 ss2 hv2 => ?_⟩
        exact q H2 v (b1.trans b2) ss2 (hv2.trans ⟨fun z => ⟨c.1, c.2, .inr z⟩, fun ⟨_, _, z⟩ => z.resolve_left fun y => nomatch hv.mpr y⟩)
    · rw [decide_eq_true (by split <;> omega)]
      exact iteT (q H false But3.refl ss ⟨(fun z => nomatch z), fun z => absurd ⟨z.1, z.2.1⟩ c⟩)
end
end L2.K71
end

section
set_option Elab.async false
set_option linter.all false
set_option maxRecDepth 100000
set_option maxHeartbeats 4000000
namespace L2.K71
open PySem PySem.Spec PyProof.Rows L2.Gd L2.Lv
section
variable {P : Program} {w : World} {K : PySem.W.Frag} {mg : Str → Option Value} {base : Heap} {C CP C2 : Addr}
/-- Plains(..) -/
structure MkP (P : Program) (w : World) (K : PySem.W.Frag) (mg : Str → Option Value) (base : Heap) (CP C2 : Addr) : Prop where
  ex : ∃ f fd, Mk K CP f ∧ Binds K fd ["self", "house"] [] ∧ FnOk P w K mg base CX0 6 f fd ["self", "house"] (spPi CP C2)
theorem pe_pln {X : Cx} {e : Expr} {es : List Expr} {t : TA} {p pos : Pos} {CP C2 : Addr} (M : MkP X.prog X.w X.K X.mg X.base CP C2) (T : ClsP X.K X.mg CP) (hr : Room 7 X.A) (ha : PA X (e :: es) t)
    (hg : Gl X "Plains" := by rfl) (he : starEach (e :: es) X.env = (false, eval e X.env) :: starEach es X.env := by rfl)
    (hpl : (backTo pos (starEach es X.env)).any (·.1) = false := by rfl) :
    PE X (.Call (.Name "Plains" p) (e :: es) [] pos) (tMake CP (spPi CP C2) [] E0 t) := by
  obtain ⟨f, fd, mk, b, F⟩ := M.ex
  exact pe_make mk F hr hg T.mgC b .nil pass0 ha (by decide) he hpl
theorem pln_any {R : Addr → VK} {H : Hp} {E : XK} {h l : Addr} {n : Nat} {xs : List V} {ds : List Dd} (hh : HouseL C2 H h l n xs ds) (wf : WF n ds)
    (k : ∀ x H' g nd dr ot fr ldr lcb M, H x = none → Same H H' → PlnAt CP H' x n ds g nd dr ot fr ldr lcb M → H ot = none → H fr = none → M ≤ n * n → R x .non H') :
    ∀ x dx, H x = none → H dx = none → dx ≠ x → spPi CP C2 (.ref x :: ([.ref h] ++ [])) (upd (upd H dx (.own x)) x (.ins CP dx [])) (R x) E := by
  intro x dx nx ndx ne
  have s0 : Same H (upd (upd H dx (.own x)) x (.ins CP dx [])) := fun b o e => by
    rw [upd_ne (ne_of_none e nx), upd_ne (ne_of_none e ndx)]
    exact e
  refine ⟨x, dx, h, l, n, xs, ds, rfl, upd_same, hh.same s0, wf, fun H' g nd dr ot fr ldr lcb M b pl hn mn => ?_⟩
  exact k x H' g nd dr ot fr ldr lcb M nx (fun c o e => b c o (ne_of_none e nx) (s0 c o e)) pl (s0.free (hn ot (.inl rfl))) (s0.free (hn fr (.inr rfl))) mn
theorem OrbAt.butX {H H' : Hp} {x t : Addr} {l : List Nat} {m : Nat} (hx : ∃ C dx fs, H x = some (.ins C dx fs)) (b : ButD x H H') (h : OrbAt H t l m) : OrbAt H' t l m := by
  obtain ⟨C, dx, fs, hx⟩ := hx
  obtain ⟨p, j, k, h1, h2, h3⟩ := h
  refine ⟨p, j, k, b _ _ (fun z => ?_) h1, b _ _ (ne_ins h2 hx) h2, h3⟩
  rw [z, hx] at h1
  exact nomatch h1
theorem OdAt.butX {H H' : Hp} {x d : Addr} {n : Nat} {l : List Nat} (hx : ∃ C dx fs, H x = some (.ins C dx fs)) (b : ButD x H H') (h : OdAt H d n l) : OdAt H' d n l := by
  obtain ⟨gs, h1, h2, h3⟩ := h
  obtain ⟨C, dx, fs, hx'⟩ := id hx
  exact ⟨gs, b _ _ (ne_insK h1 hx') h1, h2, fun q hq => ⟨(h3 q hq).1, (h3 q hq).2.butX hx b⟩⟩
theorem PlnAt.butX {H H' : Hp} {y x g nd dr ot fr : Addr} {n M : Nat} {ds : List Dd} {ldr lcb : List Nat} (p : PlnAt CP H y n ds g nd dr ot fr ldr lcb M) (hx : ∃ C dx fs, H x = some (.ins C dx fs)) (ne : y ≠ x) (b : ButD x H H') : PlnAt CP H' y n ds g nd dr ot fr ldr lcb M := by
  obtain ⟨dx, u, f1, d, cl, cb, hy, hcb⟩ := p.ob
  obtain ⟨xs, ys, hg, ms, le⟩ := p.gr
  obtain ⟨R, tab⟩ := p.ta
  obtain ⟨C, dx', fs, hx'⟩ := id hx
  exact ⟨⟨dx, u, f1, d, cl, cb, b _ _ ne hy, b _ _ (ne_ins hcb hx') hcb⟩, ⟨xs, ys, b _ _ (ne_ins hg hx') hg, ms.butX hx b, le⟩, ⟨R, tab.butX hx b⟩, b _ _ (ne_ins p.hdr hx') p.hdr, p.rdr, p.rcb, p.hot.butX hx b, p.hfr.butX hx b, p.ne⟩
abbrev gF (ds : List Dd) : Rl := Dl ds 0
abbrev gT (n : Nat) (ds : List Dd) : Rl := Tns n (Dl ds 1) (Dl ds 0) (Dl ds (-1)) (De ds 0) (De ds 1)
/-- a Tills -/
structure TilAt (C CP : Addr) (H : Hp) (x px : Addr) (n : Nat) (ds : List Dd) (g nd dr ot fr : Addr) (ldr lcb : List Nat) (M : Nat) (gd tu gb lb tb : Addr) (lgd ltu lgb llb ltb : List Nat) : Prop where
  ob : ∃ dx la li ho, H x = some (.ins C dx (fTi px gd la li ho tu gb lb tb))
  pl : PlnAt CP H px n ds g nd dr ot fr ldr lcb M
  hgd : H gd = some (.lst (iN lgd))
  htu : H tu = some (.lst (iN ltu))
  hgb : H gb = some (.lst (iN lgb))
  hlb : H lb = some (.lst (iN llb))
  htb : H tb = some (.lst (iN ltb))
  rgd : Rep n lgd (gG n ds)
  rtu : Rep n ltu (gT n ds)
  rgb : Rep n lgb (Tr (gG n ds))
  rlb : Rep n llb (Tr (De ds 1))
  rtb : Rep n ltb (Tr (gT n ds))
def spTi (C CP C2 : Addr) : Sp := fun vs H Q _ => ∃ (x dx h l : Addr) (n : Nat) (xs : List V) (ds : List Dd), vs = [.ref x, .ref h] ∧ H x = some (.ins C dx []) ∧ HouseL C2 H h l n xs ds ∧ WF n ds ∧
  ∀ H' px g nd dr ot fr ldr lcb M gd tu gb lb tb lgd ltu lgb llb ltb, ButD x H H' → TilAt C CP H' x px n ds g nd dr ot fr ldr lcb M gd tu gb lb tb lgd ltu lgb llb ltb → H ot = none → H fr = none → Q .non H'
theorem scTi : FnScope ["self", "house"] ["self", "house"] (defScope (cTi 0)) := ⟨rfl, rfl, rfl, by decide +kernel, rfl, by decide +kernel, by decide +kernel⟩
structure TiK (P : Program) (w : World) (K : PySem.W.Frag) (mg : Str → Option Value) (base : Heap) (C CP C2 : Addr) : Prop where
  n : Nm mg
  T : ClsI K mg C
  TP : ClsP K mg CP
  T2 : ClsT K mg C2
  MP : MkP P w K mg base CP C2
  de : Fn P w K mg base 3 "deed_relation" ["house", "change", "when"] (spDRe C2)
  fo : Fn P w K mg base 3 "followed" ["one", "two"] spFol
  jo : Fn P w K mg base 1 "joined" ["one", "two"] spJoi
  cl : Fn P w K mg base 1 "closed" ["relation"] spCl
  lb : Fn P w K mg base 3 "led_back" ["relation"] spLb
end
end L2.K71
end

section
set_option Elab.async false
set_option linter.all false
set_option maxRecDepth 100000
set_option maxHeartbeats 4000000
namespace L2.K71
open PySem PySem.Spec PyProof.Rows L2.Gd L2.Lv
section
variable {P : Program} {w : World} {K : PySem.W.Frag} {mg : Str → Option Value} {base : Heap} {C CP C2 : Addr}
theorem TilAt.move {H H' : Hp} {x px : Addr} {n : Nat} {ds : List Dd} {g nd dr ot fr : Addr} {ldr lcb : List Nat} {M : Nat} {gd tu gb lb tb : Addr} {lgd ltu lgb llb ltb : List Nat} (t : TilAt C CP H x px n ds g nd dr ot fr ldr lcb M gd tu gb lb tb lgd ltu lgb llb ltb)
    (f : Fr ot fr H H') (pl : PlnAt CP H' px n ds g nd dr ot fr ldr lcb M) : TilAt C CP H' x px n ds g nd dr ot fr ldr lcb M gd tu gb lb tb lgd ltu lgb llb ltb := by
  obtain ⟨dx, la, li, ho, hx⟩ := t.ob
  have p := t.pl
  exact ⟨⟨dx, la, li, ho, p.lst f hx (fun _ z => nomatch z)⟩, pl, p.lst f t.hgd (fun _ z => nomatch z), p.lst f t.htu (fun _ z => nomatch z), p.lst f t.hgb (fun _ z => nomatch z), p.lst f t.hlb (fun _ z => nomatch z), p.lst f t.htb (fun _ z => nomatch z), t.rgd, t.rtu, t.rgb, t.rlb, t.rtb⟩
/-- what a method of Tills wants -/
structure TmK (P : Program) (w : World) (K : PySem.W.Frag) (mg : Str → Option Value) (base : Heap) (C CP : Addr) : Prop where
  T : ClsI K mg C
  cp : Cls K CP
  im : Fn P w K mg base 2 "image" ["relation", "mask"] spImg
  oa : Fn P w K mg base 1 "orbit_at" ["orbit", "steps"] spOat
  ct : MeH P w K mg base CP "climbs_to" 4 ["self", "goal"] (spCt CP)
  df : MeH P w K mg base CP "drops_from" 4 ["self", "place"] (spDf CP)
theorem orb_pw {l : List Nat} {r : Rl} {n c : Nat} (rp : Rep n l r) (ir : In n r) (hc : c < n) : (∀ j y, (orb l (2 ^ c) j).testBit y = true ↔ Pw r j c y) ∧ ∀ j y, (orb l (2 ^ c) j).testBit y = true → y < n := by
  have low : ∀ y, (2 ^ c).testBit y = true → y < n := fun y hy => by
    rw [Nat.testBit_two_pow] at hy
    have := of_decide_eq_true hy
    omega
  refine ⟨fun j y => ?_, orb_low rp ir low⟩
  rw [orb_bit rp ir j y]
  constructor
  · rintro ⟨z, h1, h2⟩
    rw [Nat.testBit_two_pow] at h1
    have := of_decide_eq_true h1
    subst this
    exact h2
  · intro h
    exact ⟨c, by rw [Nat.testBit_two_pow]; exact decide_eq_true rfl, h⟩
/-! ### falls_to -/
def spFa (C CP : Addr) : Sp := fun vs H Q _ => ∃ (x a s px : Addr) (n : Nat) (ds : List Dd) (g nd dr ot fr : Addr) (ldr lcb : List Nat) (M : Nat) (gd tu gb lb tb : Addr) (lgd ltu lgb llb ltb : List Nat), vs = [.ref x, .int (a : Nat), .int (s : Nat)] ∧ a < n ∧ n ≤ 16 ∧ (∀ d ∈ ds, d.Ok (n : Int)) ∧
  TilAt C CP H x px n ds g nd dr ot fr ldr lcb M gd tu gb lb tb lgd ltu lgb llb ltb ∧
  ∀ (m : Nat) H', Fr ot fr H H' → TilAt C CP H' x px n ds g nd dr ot fr ldr lcb M gd tu gb lb tb lgd ltu lgb llb ltb → (∀ z, m.testBit z = true ↔ Fall n (Dl ds 1) (Dl ds 0) (Dl ds (-1)) (a, s) z) → Q (.int (m : Nat)) H'
theorem scFa : FnScope ["self", "place", "start"] ["self", "place", "start"] (defScope (cTi 1)) := ⟨rfl, rfl, rfl, by decide +kernel, rfl, by decide +kernel, by decide +kernel⟩
theorem ok_fa {f : Addr} {fd : FuncData} (F : Fun K "falls_to" "Tills.falls_to" (cTi 1) f fd) (k : TmK P w K mg base C CP) : FnOk P w K mg base CX0 5 f fd ["self", "place", "start"] (spFa C CP) := by
  refine F.ok scFa (fun vs H Q E h => ?_) (fun cdv A outer s H vs Q E hr h => ?_)
  · obtain ⟨x, a, s, px, n, ds, g, nd, dr, ot, fr, ldr, lcb, M, gd, tu, gb, lb, tb, lgd, ltu, lgb, llb, ltb, rfl, _⟩ := h
    rfl
  · obtain ⟨x, a, st, px, n, ds, g, nd, dr, ot, fr, ldr, lcb, M, gd, tu, gb, lb, tb, lgd, ltu, lgb, llb, ltb, rfl, an, n16, ok, tl, q⟩ := h
    have N := scFa.nd
    have r1 := hr.mono (k := 4) (j := 1) (by decide)
    have r2 := hr.mono (k := 4) (j := 2) (by decide)
    refine ⟨_, pss_one (ps_ret (pe_fn k.im r2 (pa_cons (pe_fld (pv 0) rfl) (pa_cons (pe_fn k.oa r1 (pa_cons (pe_mP k.df k.cp hr (pe_fld (pv 0) rfl) (pa_cons (pv 1) pa_nil)) (pa_cons (pv 2) pa_nil))) pa_nil)))), ?_⟩
    obtain ⟨dx, la, li, ho, hx⟩ := tl.ob
    obtain ⟨dp, pu, pf, pd, pcl, pcb, hpx, hpcb⟩ := tl.pl.ob
    refine ⟨_, rfl, x, C, dx, _, _, rfl, hx, k.T.cl, k.T.n_gd, fTi_gd .., _, rfl, x, C, dx, _, _, rfl, hx, k.T.cl, k.T.n_px, fTi_px .., px, dp, _, rfl, hpx, fPl_drops_from .., _, rfl, px, a, n, ds, g, nd, dr, ot, fr, ldr, lcb, M, rfl, an, n16, ok, tl.pl, fun t H1 f1' pl1 ho1 => ?_⟩
    have tl1 := tl.move f1' pl1
    obtain ⟨b1, b2⟩ := orb_pw tl.pl.rdr (gr_in.cp (Dl.inn ok (-1))) an
    refine ⟨_, rfl, t, ldr, 2 ^ a, st, rfl, ho1, gd, lgd, orb ldr (2 ^ a) st, n, _, rfl, tl1.hgd, tl1.rgd, by omega, b2 _, fun m H2 s2 hm => ?_⟩
    refine q m H2 (f1'.trans (Fr.of s2)) (tl1.move (Fr.of s2) (pl1.same s2)) fun z => (hm z).trans ?_
    exact ⟨fun ⟨y, h1, h2⟩ => ⟨y, (b1 _ y).mp h1, h2⟩, fun ⟨y, h1, h2⟩ => ⟨y, (b1 _ y).mpr h1, h2⟩⟩
end
end L2.K71
end

section
set_option Elab.async false
set_option linter.all false
set_option maxRecDepth 100000
set_option maxHeartbeats 4000000
namespace L2.K71
open PySem PySem.Spec PyProof.Rows L2.Gd L2.Lv
section
variable {P : Program} {w : World} {K : PySem.W.Frag} {mg : Str → Option Value} {base : Heap} {C CP C2 : Addr}
/-! ### rises_to -/
def spRs (C CP : Addr) : Sp := fun vs H Q _ => ∃ (x : Addr) (b e : Nat) (px : Addr) (n : Nat) (ds : List Dd) (g nd dr ot fr : Addr) (ldr lcb : List Nat) (M : Nat) (gd tu gb lb tb : Addr) (lgd ltu lgb llb ltb : List Nat), vs = [.ref x, .int (b : Nat), .int (e : Nat)] ∧ b < n ∧ n ≤ 16 ∧ (∀ d ∈ ds, d.Ok (n : Int)) ∧
  TilAt C CP H x px n ds g nd dr ot fr ldr lcb M gd tu gb lb tb lgd ltu lgb llb ltb ∧
  ∀ (m : Nat) H', Fr ot fr H H' → TilAt C CP H' x px n ds g nd dr ot fr ldr lcb M gd tu gb lb tb lgd ltu lgb llb ltb → (∀ z, m.testBit z = true ↔ Rise n (Dl ds 1) (Dl ds 0) (Dl ds (-1)) (De ds 1) z (b, e)) → Q (.int (m : Nat)) H'
def NRs : List Str := ["self", "goal", "end", "climbs", "found", "lifted"]
theorem scRs : FnScope NRs ["self", "goal", "end"] (defScope (cTi 3)) := ⟨rfl, rfl, rfl, by decide +kernel, rfl, by decide +kernel, by decide +kernel⟩
theorem ok_rs {f : Addr} {fd : FuncData} (F : Fun K "rises_to" "Tills.rises_to" (cTi 3) f fd) (k : TmK P w K mg base C CP) : FnOk P w K mg base CX0 5 f fd ["self", "goal", "end"] (spRs C CP) := by
  refine F.ok scRs (fun vs H Q E h => ?_) (fun cdv A outer s H vs Q E hr h => ?_)
  · obtain ⟨x, b, e, px, n, ds, g, nd, dr, ot, fr, ldr, lcb, M, gd, tu, gb, lb, tb, lgd, ltu, lgb, llb, ltb, rfl, _⟩ := h
    rfl
  · obtain ⟨x, b, e, px, n, ds, g, nd, dr, ot, fr, ldr, lcb, M, gd, tu, gb, lb, tb, lgd, ltu, lgb, llb, ltb, rfl, bn, n16, ok, tl, q⟩ := h
    have N := scRs.nd
    have r1 := hr.mono (k := 4) (j := 1) (by decide)
    have r2 := hr.mono (k := 4) (j := 2) (by decide)
    refine ⟨_, pss_cons (ps_set (i := 3) N rfl (.inl rfl) (pe_mP k.ct k.cp hr (pe_fld (pv 0) rfl) (pa_cons (pv 1) pa_nil)))
      (pss_cons (ps_set (i := 4) N rfl (.inl rfl) (pe_fn k.im r2 (pa_cons (pe_fld (pv 0) rfl) (pa_cons (pe_fn k.oa r1 (pa_cons (pv 3) (pa_cons (pv 2) pa_nil))) pa_nil))))
      (pss_cons (ps_if (pt_cmpR op_gt (pv 2) pe_int (nomark _))
        (pss_cons (ps_set (i := 5) N rfl (.inl rfl) (pe_fn k.im r2 (pa_cons (pe_fld (pv 0) rfl) (pa_cons (pe_fn k.oa r1 (pa_cons (pv 3) (pa_cons (pe_op op_sub (pv 2) pe_int) pa_nil))) pa_nil))))
        (pss_one (ps_set (i := 4) N rfl (.inl rfl) (pe_op op_or (pv 4) (pe_fn k.im r2 (pa_cons (pe_fld (pv 0) rfl) (pa_cons (pv 5) pa_nil))))))) pss_nil)
      (pss_one (ps_ret (pv 4))))), ?_⟩
    obtain ⟨dx, la, li, ho, hx⟩ := tl.ob
    obtain ⟨dp, pu, pf, pd, pcl, pcb, hpx, hpcb⟩ := tl.pl.ob
    refine ⟨_, rfl, x, C, dx, _, _, rfl, hx, k.T.cl, k.T.n_px, fTi_px .., px, dp, _, rfl, hpx, fPl_climbs_to .., _, rfl, px, b, n, ds, g, nd, dr, ot, fr, ldr, lcb, M, rfl, bn, n16, ok, tl.pl, fun t H1 f1' pl1 ho1 => ?_⟩
    have tl1 := tl.move f1' pl1
    obtain ⟨b1, b2⟩ := orb_pw tl.pl.rcb (tr_in ((Dl.inn ok 1).cp gr_in)) bn
    have b1' : ∀ j y, (orb lcb (2 ^ b) j).testBit y = true ↔ Pw (Cp (gU ds) (gG n ds)) j y b := fun j y => (b1 j y).trans ⟨pw_tr (fun _ _ h => h) _, pw_tr (fun _ _ h => h) _⟩
    have hx1 := tl.pl.lst f1' hx (fun _ z => nomatch z)
    refine ⟨_, rfl, x, C, dx, _, _, rfl, hx1, k.T.cl, k.T.n_gb, fTi_gb .., _, rfl, _, rfl, t, lcb, 2 ^ b, e, rfl, ho1, gb, lgb, orb lcb (2 ^ b) e, n, _, rfl, tl1.hgb, tl1.rgb, by omega, b2 _, fun m H2 s2 hm => ?_⟩
    have tl2 := tl1.move (Fr.of s2) (pl1.same s2)
    have f2 := f1'.trans (Fr.of s2)
    have hx2 := s2 _ _ hx1
    have hm' : ∀ z, m.testBit z = true ↔ ∃ y, gG n ds z y ∧ Pw (Cp (gU ds) (gG n ds)) e y b := fun z => (hm z).trans ⟨fun ⟨y, h1, h2⟩ => ⟨y, h2, (b1' _ y).mp h1⟩, fun ⟨y, h1, h2⟩ => ⟨y, (b1' _ y).mpr h2, h1⟩⟩
    refine ⟨_, rfl, _, _, rfl, rfl, decide (0 < e), congrArg V.bl (by rw [decide_eq_decide]; omega), ?_⟩
    by_cases c : 0 < e
    · rw [decide_eq_true c]
      obtain ⟨e', rfl⟩ : ∃ e', e = e' + 1 := ⟨e - 1, by omega⟩
      refine iteT ⟨_, rfl, x, C, dx, _, _, rfl, hx2, k.T.cl, k.T.n_gb, fTi_gb .., _, rfl, _, rfl, _, _, rfl, rfl, t, lcb, 2 ^ b, e', ?_, ho1.same s2, gb, lgb, orb lcb (2 ^ b) e', n, _, rfl, tl2.hgb, tl2.rgb, by omega, b2 _, fun m2 H3 s3 hm2 => ?_⟩
      · show [V.ref t, V.int (((e' + 1 : Nat) : Int) - 1)] ++ [] = [V.ref t, V.int ((e' : Nat) : Int)]
        rw [show ((e' + 1 : Nat) : Int) - 1 = (e' : Int) by omega]
        rfl
      have tl3 := tl2.move (Fr.of s3) ((pl1.same s2).same s3)
      have ml : ∀ z, m2.testBit z = true → z < n := fun z hz => by
        obtain ⟨y, _, h2⟩ := (hm2 z).mp hz
        exact (gr_in z y h2).1
      refine ⟨_, rfl, _, rfl, x, C, dx, _, _, rfl, s3 _ _ hx2, k.T.cl, k.T.n_lb, fTi_lb .., _, rfl, lb, llb, m2, n, _, rfl, tl3.hlb, tl3.rlb, by omega, ml, fun m3 H4 s4 hm3 => ?_⟩
      refine ⟨_, _, rfl, rfl, _, rfl, ?_⟩
      show Q (V.int (Builtin.bitOr (m : Int) (m3 : Int))) H4
      rw [or_nat]
      refine q (m ||| m3) H4 (f2.trans (Fr.of (s3.trans s4))) (tl3.move (Fr.of s4) (((pl1.same s2).same s3).same s4)) fun z => ?_
      rw [Nat.testBit_or, Bool.or_eq_true, hm' z, hm3 z]
      refine or_congr Iff.rfl ⟨?_, ?_⟩
      · rintro ⟨y, h1, h2⟩
        obtain ⟨y2, h3, h4⟩ := (hm2 y).mp h1
        exact ⟨e', rfl, y, h2, y2, h4, (b1' _ y2).mp h3⟩
      · rintro ⟨e2, h0, y, h2, y2, h4, h3⟩
        have h0 : e' + 1 = e2 + 1 := h0
        obtain rfl : e' = e2 := by omega
        exact ⟨y, (hm2 y).mpr ⟨y2, (b1' _ y2).mpr h3, h4⟩, h2⟩
    · rw [decide_eq_false c]
      refine iteF ⟨_, rfl, q m H2 f2 tl2 fun z => (hm' z).trans ⟨fun h => .inl h, fun h => ?_⟩⟩
      rcases h with h | ⟨e2, h0, _⟩
      · exact h
      · have h0 : e = e2 + 1 := h0
        omega
end
end L2.K71
end

section
set_option Elab.async false
set_option linter.all false
set_option maxRecDepth 100000
set_option maxHeartbeats 4000000
namespace L2.K71
open PySem PySem.Spec PyProof.Rows L2.Gd L2.Lv
section
variable {P : Program} {w : World} {K : PySem.W.Frag} {mg : Str → Option Value} {base : Heap} {C CP C2 : Addr}
theorem rise_low {n : Nat} {ds : List Dd} (ok : ∀ d ∈ ds, d.Ok (n : Int)) {z : Nat} {t : Nat × Nat} (h : Rise n (Dl ds 1) (Dl ds 0) (Dl ds (-1)) (De ds 1) z t) : z < n := by
  rcases h with ⟨m, h, _⟩ | ⟨e, _, y, h, _⟩
  · exact (gr_in z m h).1
  · exact (De.inn ok 1 z y h).1
/-! ### zeros_to, leads -/
def spZt (C CP : Addr) : Sp := fun vs H Q _ => ∃ (x : Addr) (b e : Nat) (px : Addr) (n : Nat) (ds : List Dd) (g nd dr ot fr : Addr) (ldr lcb : List Nat) (M : Nat) (gd tu gb lb tb : Addr) (lgd ltu lgb llb ltb : List Nat), vs = [.ref x, .int (b : Nat), .int (e : Nat)] ∧ b < n ∧ n ≤ 16 ∧ (∀ d ∈ ds, d.Ok (n : Int)) ∧
  TilAt C CP H x px n ds g nd dr ot fr ldr lcb M gd tu gb lb tb lgd ltu lgb llb ltb ∧
  ∀ (m : Nat) H', Fr ot fr H H' → TilAt C CP H' x px n ds g nd dr ot fr ldr lcb M gd tu gb lb tb lgd ltu lgb llb ltb → (∀ z, m.testBit z = true ↔ ∃ z', gT n ds z z' ∧ Rise n (Dl ds 1) (Dl ds 0) (Dl ds (-1)) (De ds 1) z' (b, e)) → Q (.int (m : Nat)) H'
theorem scZt : FnScope ["self", "goal", "end"] ["self", "goal", "end"] (defScope (cTi 4)) := ⟨rfl, rfl, rfl, by decide +kernel, rfl, by decide +kernel, by decide +kernel⟩
theorem ok_zt {f : Addr} {fd : FuncData} (F : Fun K "zeros_to" "Tills.zeros_to" (cTi 4) f fd) (k : TmK P w K mg base C CP) (RS : MeH P w K mg base C "rises_to" 5 ["self", "goal", "end"] (spRs C CP)) : FnOk P w K mg base CX0 6 f fd ["self", "goal", "end"] (spZt C CP) := by
  refine F.ok scZt (fun vs H Q E h => ?_) (fun cdv A outer s H vs Q E hr h => ?_)
  · obtain ⟨x, b, e, px, n, ds, g, nd, dr, ot, fr, ldr, lcb, M, gd, tu, gb, lb, tb, lgd, ltu, lgb, llb, ltb, rfl, _⟩ := h
    rfl
  · obtain ⟨x, b, e, px, n, ds, g, nd, dr, ot, fr, ldr, lcb, M, gd, tu, gb, lb, tb, lgd, ltu, lgb, llb, ltb, rfl, bn, n16, ok, tl, q⟩ := h
    have N := scZt.nd
    have r2 := hr.mono (k := 5) (j := 2) (by decide)
    refine ⟨_, pss_one (ps_ret (pe_fn k.im r2 (pa_cons (pe_fld (pv 0) rfl) (pa_cons (pe_mP RS k.T.cl hr (pv 0) (pa_cons (pv 1) (pa_cons (pv 2) pa_nil))) pa_nil)))), ?_⟩
    obtain ⟨dx, la, li, ho, hx⟩ := tl.ob
    refine ⟨_, rfl, x, C, dx, _, _, rfl, hx, k.T.cl, k.T.n_tb, fTi_tb .., _, rfl, x, dx, _, rfl, hx, fTi_rises_to .., _, rfl, _, rfl, x, b, e, px, n, ds, g, nd, dr, ot, fr, ldr, lcb, M, gd, tu, gb, lb, tb, lgd, ltu, lgb, llb, ltb, rfl, bn, n16, ok, tl, fun m H1 f1 tl1 hm => ?_⟩
    refine ⟨tb, ltb, m, n, _, rfl, tl1.htb, tl1.rtb, by omega, fun z hz => rise_low ok ((hm z).mp hz), fun m2 H2 s2 hm2 => ?_⟩
    refine q m2 H2 (f1.trans (Fr.of s2)) (tl1.move (Fr.of s2) (tl1.pl.same s2)) fun z => (hm2 z).trans ?_
    exact ⟨fun ⟨y, h1, h2⟩ => ⟨y, h2, (hm y).mp h1⟩, fun ⟨y, h1, h2⟩ => ⟨y, (hm y).mpr h2, h1⟩⟩
/-- what lies between two stands of a house -/
def LedZ (n : Nat) (ds : List Dd) (s t : Nat × Nat) : Prop := Led n (Dl ds 1) (Dl ds 0) (Dl ds (-1)) s t ∨ ∃ z z', Fall n (Dl ds 1) (Dl ds 0) (Dl ds (-1)) s z ∧ gT n ds z z' ∧ Rise n (Dl ds 1) (Dl ds 0) (Dl ds (-1)) (De ds 1) z' t
def spTl (C CP : Addr) : Sp := fun vs H Q _ => ∃ (x : Addr) (a s b e : Nat) (px : Addr) (n : Nat) (ds : List Dd) (g nd dr ot fr : Addr) (ldr lcb : List Nat) (M : Nat) (gd tu gb lb tb : Addr) (lgd ltu lgb llb ltb : List Nat), vs = [.ref x, .int (a : Nat), .int (s : Nat), .int (b : Nat), .int (e : Nat)] ∧ a < n ∧ b < n ∧ n ≤ 16 ∧ (∀ d ∈ ds, d.Ok (n : Int)) ∧
  TilAt C CP H x px n ds g nd dr ot fr ldr lcb M gd tu gb lb tb lgd ltu lgb llb ltb ∧
  ∀ (v : Bool) H', Fr ot fr H H' → (v = true ↔ LedZ n ds (a, s) (b, e)) → Q (.bl v) H'
theorem scTl : FnScope ["self", "place", "start", "goal", "end"] ["self", "place", "start", "goal", "end"] (defScope (cTi 5)) := ⟨rfl, rfl, rfl, by decide +kernel, rfl, by decide +kernel, by decide +kernel⟩
theorem and_ne {m k : Nat} : (m &&& k ≠ 0) ↔ ∃ z, m.testBit z = true ∧ k.testBit z = true := by
  constructor
  · intro h
    refine Classical.byContradiction fun c => h (Nat.eq_of_testBit_eq fun z => ?_)
    rw [Nat.testBit_and, Nat.zero_testBit]
    cases h1 : m.testBit z with
    | false => rfl
    | true =>
      cases h2 : k.testBit z with
      | false => rfl
      | true => exact absurd ⟨z, h1, h2⟩ c
  · rintro ⟨z, h1, h2⟩ h
    have := congrArg (fun x => x.testBit z) h
    simp [Nat.testBit_and, h1, h2] at this
theorem ok_tl {f : Addr} {fd : FuncData} (F : Fun K "leads" "Tills.leads" (cTi 5) f fd) (k : TmK P w K mg base C CP) (PL : MeH P w K mg base CP "leads" 7 ["self", "place", "start", "goal", "end"] (spPl CP)) (FA : MeH P w K mg base C "falls_to" 5 ["self", "place", "start"] (spFa C CP)) (ZT : MeH P w K mg base C "zeros_to" 6 ["self", "goal", "end"] (spZt C CP)) :
    FnOk P w K mg base CX0 8 f fd ["self", "place", "start", "goal", "end"] (spTl C CP) := by
  refine F.ok scTl (fun vs H Q E h => ?_) (fun cdv A outer s H vs Q E hr h => ?_)
  · obtain ⟨x, a, st, b, e, px, n, ds, g, nd, dr, ot, fr, ldr, lcb, M, gd, tu, gb, lb, tb, lgd, ltu, lgb, llb, ltb, rfl, _⟩ := h
    rfl
  · obtain ⟨x, a, st, b, e, px, n, ds, g, nd, dr, ot, fr, ldr, lcb, M, gd, tu, gb, lb, tb, lgd, ltu, lgb, llb, ltb, rfl, an, bn, n16, ok, tl, q⟩ := h
    have N := scTl.nd
    have r5 := hr.mono (k := 7) (j := 5) (by decide)
    have r6 := hr.mono (k := 7) (j := 6) (by decide)
    refine ⟨_, pss_cons (ps_if (pt_val (pe_mP PL k.cp hr (pe_fld (pv 0) rfl) (pa_cons (pv 1) (pa_cons (pv 2) (pa_cons (pv 3) (pa_cons (pv 4) pa_nil)))))) (pss_one (ps_ret pe_bl)) pss_nil)
      (pss_one (ps_ret (pe_cmpR op_ne (pe_op op_and (pe_mP FA k.T.cl r5 (pv 0) (pa_cons (pv 1) (pa_cons (pv 2) pa_nil))) (pe_mP ZT k.T.cl r6 (pv 0) (pa_cons (pv 3) (pa_cons (pv 4) pa_nil)))) pe_int (nomark _)))), ?_⟩
    obtain ⟨dx, la, li, ho, hx⟩ := tl.ob
    obtain ⟨dp, pu, pf, pd, pcl, pcb, hpx, hpcb⟩ := tl.pl.ob
    refine ⟨_, rfl, x, C, dx, _, _, rfl, hx, k.T.cl, k.T.n_px, fTi_px .., px, dp, _, rfl, hpx, fPl_leads .., _, rfl, _, rfl, _, rfl, _, rfl, px, a, st, b, e, n, ds, g, nd, dr, ot, fr, ldr, lcb, M, rfl, an, bn, n16, ok, tl.pl, fun v H1 f1 pl1 hv => ⟨v, rfl, ?_⟩⟩
    cases v with
    | true => exact iteT (q true H1 f1 ⟨fun _ => .inl (hv.mp rfl), fun _ => rfl⟩)
    | false =>
      have tl1 := tl.move f1 pl1
      have hx1 := tl.pl.lst f1 hx (fun _ z => nomatch z)
      refine iteF ⟨_, rfl, x, dx, _, rfl, hx1, fTi_falls_to .., _, rfl, _, rfl, x, a, st, px, n, ds, g, nd, dr, ot, fr, ldr, lcb, M, gd, tu, gb, lb, tb, lgd, ltu, lgb, llb, ltb, rfl, an, n16, ok, tl1, fun m H2 f2 tl2 hm => ?_⟩
      have hx2 := tl1.pl.lst f2 hx1 (fun _ z => nomatch z)
      refine ⟨_, rfl, x, dx, _, rfl, hx2, fTi_zeros_to .., _, rfl, _, rfl, x, b, e, px, n, ds, g, nd, dr, ot, fr, ldr, lcb, M, gd, tu, gb, lb, tb, lgd, ltu, lgb, llb, ltb, rfl, bn, n16, ok, tl2, fun m2 H3 f3 tl3 hm2 => ?_⟩
      refine ⟨_, _, rfl, rfl, rfl, ?_⟩
      show Q (V.bl (!decide (V.int (Builtin.bitAnd (m : Int) (m2 : Int)) = V.int 0))) H3
      have e1 : (!decide (V.int (Builtin.bitAnd (m : Int) (m2 : Int)) = V.int 0)) = decide (m &&& m2 ≠ 0) := by
        rw [and_nat, Bool.eq_iff_iff]
        simp
      rw [e1]
      refine q _ H3 (f1.trans (f2.trans f3)) ?_
      rw [decide_eq_true_eq, and_ne]
      constructor
      · rintro ⟨z, h1, h2⟩
        obtain ⟨z', h3, h4⟩ := (hm2 z).mp h2
        exact .inr ⟨z, z', (hm z).mp h1, h3, h4⟩
      · rintro (h | ⟨z, z', h1, h2, h3⟩)
        · exact nomatch hv.mpr h
        · exact ⟨z, (hm z).mpr h1, (hm2 z).mpr ⟨z', h2, h3⟩⟩
end
end L2.K71
end

section
set_option Elab.async false
set_option linter.all false
set_option maxRecDepth 100000
set_option maxHeartbeats 4000000
namespace L2.K71
open PySem PySem.Spec PyProof.Rows L2.Gd L2.Lv
section
variable {P : Program} {w : World} {K : PySem.W.Frag} {mg : Str → Option Value} {base : Heap} {C CP C2 : Addr}
theorem ok_ti {f : Addr} {fd : FuncData} (F : Fun K "__init__" "Tills.__init__" (cTi 0) f fd) (k : TiK P w K mg base C CP C2) : FnOk P w K mg base CX0 8 f fd ["self", "house"] (spTi C CP C2) := by
  refine F.ok scTi (fun vs H Q E h => ?_) (fun cdv A outer s H vs Q E hr h => ?_)
  · obtain ⟨x, dx, h, l, n, xs, ds, rfl, _⟩ := h
    rfl
  · obtain ⟨x, dx, h, l, n, xs, ds, rfl, hx, hh, wf, q⟩ := h
    have N := scTi.nd
    have r3 := hr.mono (k := 7) (j := 3) (by decide)
    have r1 := hr.mono (k := 7) (j := 1) (by decide)
    refine ⟨_, pss_cons (ps_fld (pv 0) (pe_pln k.MP k.TP hr (pa_cons (pv 1) pa_nil)) rfl)
      (pss_cons (ps_fld (pv 0) (pe_ix ix_list (pe_fld (pe_fld (pv 0) rfl) rfl) pe_int (fun _ _ => rfl)) rfl)
      (pss_cons (ps_fld (pv 0) (pe_fn k.de r3 (pa_cons (pv 1) (pa_cons pe_int (pa_cons pe_str pa_nil)))) rfl)
      (pss_cons (ps_fld (pv 0) (pe_fn k.de r3 (pa_cons (pv 1) (pa_cons pe_int (pa_cons pe_str pa_nil)))) rfl)
      (pss_cons (ps_fld (pv 0) (pe_fn k.fo r3 (pa_cons (pe_fn k.fo r3 (pa_cons (pe_fld (pv 0) rfl) (pa_cons (pe_fld (pe_fld (pv 0) rfl) rfl) pa_nil))) (pa_cons (pe_fld (pv 0) rfl) pa_nil))) rfl)
      (pss_cons (ps_fld (pv 0) (pe_fn k.cl r1 (pa_cons (pe_fn k.jo r1 (pa_cons (pe_fn k.jo r1 (pa_cons (pe_fld (pv 0) rfl) (pa_cons (pe_fld (pv 0) rfl) pa_nil))) (pa_cons (pe_fld (pv 0) rfl) pa_nil))) pa_nil)) rfl)
      (pss_cons (ps_fld (pv 0) (pe_fn k.lb r3 (pa_cons (pe_fld (pv 0) rfl) pa_nil)) rfl)
      (pss_cons (ps_fld (pv 0) (pe_fn k.lb r3 (pa_cons (pe_fld (pv 0) rfl) pa_nil)) rfl)
      (pss_one (ps_fld (pv 0) (pe_fn k.lb r3 (pa_cons (pe_fld (pv 0) rfl) pa_nil)) rfl))))))))), ?_⟩
    have ok := wf.ok
    have n16 : n ≤ 16 := by have := wf.m16; omega
    obtain ⟨dh, hob⟩ := hh.ob
    have hne : h ≠ x := fun z => by
      rw [z, hx, flds_eq] at hob
      have := (HO.ins.inj (Option.some.inj hob)).2.2
      exact nomatch this
    clear hob
    have iE : ∀ c, In n (De ds c) := fun c => De.inn ok c
    have iD := Dl.inn ok (-1)
    -- plains
    refine ⟨_, rfl, ?_⟩
    refine pln_any (C2 := C2) hh wf (fun px H1 g nd dr ot fr ldr lcb M np s1 pl not nfr mn => ⟨rfl, _, rfl, x, C, dx, _, rfl, s1 _ _ hx, k.T.cl, k.T.n_px, lt_of20 (Nat.le_refl 0), ?_⟩)
    have pxx : px ≠ x := (ne_of_none hx np).symm
    generalize hF1 : putF "plains" (V.ref px) [] = F1
    have l1 : F1.length ≤ 1 := by rw [← hF1]; exact putF_le (Nat.le_refl 0)
    have e1p : F1.lookup ("plains" : Str) = some (.ref px) := by rw [← hF1, lookup_putF, if_pos rfl]
    have B1 : ButD x H (upd H1 x (.ins C dx F1)) := put_x s1
    replace pl := pl.butX ⟨_, _, _, s1 _ _ hx⟩ pxx (put_x (o := .ins C dx F1) Same.refl)
    replace hh := hh.butX ⟨_, _, _, hx⟩ hne B1
    have hx1 : upd H1 x (.ins C dx F1) x = some (.ins C dx F1) := upd_same
    generalize upd H1 x (.ins C dx F1) = G1 at pl hh hx1 B1 ⊢
    clear s1 H1 np mn
    -- ground
    obtain ⟨dp, pu, pf, pd, pcl, pcb, hpx, hpcb⟩ := pl.ob
    obtain ⟨gx, gys, hg, ms, le⟩ := id pl.gr
    obtain ⟨x0, hx0⟩ : ∃ x0, gx[0]? = some x0 := ⟨_, List.getElem?_eq_getElem (by rw [Paired.length ms, le.len]; omega)⟩
    obtain ⟨lgd, hy0, gd, rfl, ngd, hgd⟩ := Paired.at ms hx0
    have rgd : Rep n lgd (gG n ds) := le.rep 0 lgd hy0
    have gdx : gd ≠ x := ne_ins hgd hx1
    refine ⟨_, rfl, x, C, dx, _, _, rfl, hx1, k.T.cl, k.T.n_px, e1p, px, CP, dp, _, _, rfl, hpx, k.TP.cl, k.TP.n_g, fPl_g .., g, _, _, _, rfl, rfl, .inl (.inl hg), atI_nat (j := 0) hx0, _, rfl, x, C, dx, _, rfl, hx1, k.T.cl, k.T.n_gd, lt_of20 l1, ?_⟩
    generalize hF2 : putF "ground" (V.ref gd) F1 = F2
    have l2 : F2.length ≤ 2 := by rw [← hF2]; exact putF_le l1
    have e2p : F2.lookup ("plains" : Str) = some (.ref px) := by rw [← hF2, lookup_putF, if_neg (by decide +kernel)]; exact e1p
    have e2g : F2.lookup ("ground" : Str) = some (.ref gd) := by rw [← hF2, lookup_putF, if_pos rfl]
    have b2 : ButD x G1 (upd G1 x (.ins C dx F2)) := put_x Same.refl
    have B2 := ButD.trans B1 b2
    replace pl := pl.butX ⟨_, _, _, hx1⟩ pxx b2
    replace hh := hh.butX ⟨_, _, _, hx1⟩ hne b2
    replace hgd := b2 _ _ gdx hgd
    have hx2 : upd G1 x (.ins C dx F2) x = some (.ins C dx F2) := upd_same
    generalize upd G1 x (.ins C dx F2) = G2 at pl hh hgd hx2 B2 ⊢
    clear hg ms hpx hpcb hx1 B1 b2 e1p G1
    -- lasting
    refine ⟨_, rfl, h, l, n, 0, xs, ds, rfl, hh, wf, fun la H1 lla n1 s1 h1 rla => ⟨_, rfl, x, C, dx, _, rfl, s1 _ _ hx2, k.T.cl, k.T.n_la, lt_of20 l2, ?_⟩⟩
    generalize hF3 : putF "lasting" (V.ref la) F2 = F3
    have l3 : F3.length ≤ 3 := by rw [← hF3]; exact putF_le l2
    have e3p : F3.lookup ("plains" : Str) = some (.ref px) := by rw [← hF3, lookup_putF, if_neg (by decide +kernel)]; exact e2p
    have e3g : F3.lookup ("ground" : Str) = some (.ref gd) := by rw [← hF3, lookup_putF, if_neg (by decide +kernel)]; exact e2g
    have e3a : F3.lookup ("lasting" : Str) = some (.ref la) := by rw [← hF3, lookup_putF, if_pos rfl]
    have b3 : ButD x G2 (upd H1 x (.ins C dx F3)) := put_x s1
    have lax : la ≠ x := ne_ins h1 (s1 _ _ hx2)
    have hla : upd H1 x (.ins C dx F3) la = some (.lst (iN lla)) := by rw [upd_ne lax]; exact h1
    have B3 := ButD.trans B2 b3
    replace pl := pl.butX ⟨_, _, _, hx2⟩ pxx b3
    replace hh := hh.butX ⟨_, _, _, hx2⟩ hne b3
    replace hgd := b3 _ _ gdx hgd
    have hx3 : upd H1 x (.ins C dx F3) x = some (.ins C dx F3) := upd_same
    generalize upd H1 x (.ins C dx F3) = G3 at pl hh hgd hla hx3 B3 ⊢
    clear s1 h1 n1 H1 hx2 B2 b3 e2p e2g G2
    -- lifting
    refine ⟨_, rfl, h, l, n, 1, xs, ds, rfl, hh, wf, fun li H1 lli n1 s1 h1 rli => ⟨_, rfl, x, C, dx, _, rfl, s1 _ _ hx3, k.T.cl, k.T.n_li, lt_of20 l3, ?_⟩⟩
    generalize hF4 : putF "lifting" (V.ref li) F3 = F4
    have l4 : F4.length ≤ 4 := by rw [← hF4]; exact putF_le l3
    have e4p : F4.lookup ("plains" : Str) = some (.ref px) := by rw [← hF4, lookup_putF, if_neg (by decide +kernel)]; exact e3p
    have e4g : F4.lookup ("ground" : Str) = some (.ref gd) := by rw [← hF4, lookup_putF, if_neg (by decide +kernel)]; exact e3g
    have e4a : F4.lookup ("lasting" : Str) = some (.ref la) := by rw [← hF4, lookup_putF, if_neg (by decide +kernel)]; exact e3a
    have e4i : F4.lookup ("lifting" : Str) = some (.ref li) := by rw [← hF4, lookup_putF, if_pos rfl]
    have b4 : ButD x G3 (upd H1 x (.ins C dx F4)) := put_x s1
    have lix : li ≠ x := ne_ins h1 (s1 _ _ hx3)
    have hli : upd H1 x (.ins C dx F4) li = some (.lst (iN lli)) := by rw [upd_ne lix]; exact h1
    have B4 := ButD.trans B3 b4
    replace pl := pl.butX ⟨_, _, _, hx3⟩ pxx b4
    replace hgd := b4 _ _ gdx hgd
    replace hla := b4 _ _ lax hla
    have hx4 : upd H1 x (.ins C dx F4) x = some (.ins C dx F4) := upd_same
    generalize upd H1 x (.ins C dx F4) = G4 at pl hgd hla hli hx4 B4 ⊢
    clear s1 h1 n1 H1 hx3 B3 b4 e3p e3g e3a G3 hh
    -- hops
    obtain ⟨dp, pu, pf, pd, pcl, pcb, hpx, hpcb⟩ := pl.ob
    refine ⟨_, rfl, x, C, dx, _, _, rfl, hx4, k.T.cl, k.T.n_li, e4i, _, rfl, x, C, dx, _, _, rfl, hx4, k.T.cl, k.T.n_px, e4p, px, CP, dp, _, _, rfl, hpx, k.TP.cl, k.TP.n_dr, fPl_dr .., li, dr, lli, ldr, n, _, _, rfl, hli, pl.hdr, rli, pl.rdr, by omega, iE 1, fun q1 H1 lq1 n1 s1 h1 rq1 => ?_⟩
    refine ⟨_, rfl, x, C, dx, _, _, rfl, s1 _ _ hx4, k.T.cl, k.T.n_gd, e4g, q1, gd, lq1, lgd, n, _, _, rfl, h1, s1 _ _ hgd, rq1, rgd, by omega, (iE 1).cp (gr_in.cp iD), fun ho H2 lho n2 s2 h2 rho => ⟨_, rfl, x, C, dx, _, rfl, s2 _ _ (s1 _ _ hx4), k.T.cl, k.T.n_ho, lt_of20 l4, ?_⟩⟩
    generalize hF5 : putF "_hops" (V.ref ho) F4 = F5
    have l5 : F5.length ≤ 5 := by rw [← hF5]; exact putF_le l4
    have e5g : F5.lookup ("ground" : Str) = some (.ref gd) := by rw [← hF5, lookup_putF, if_neg (by decide +kernel)]; exact e4g
    have e5a : F5.lookup ("lasting" : Str) = some (.ref la) := by rw [← hF5, lookup_putF, if_neg (by decide +kernel)]; exact e4a
    have e5i : F5.lookup ("lifting" : Str) = some (.ref li) := by rw [← hF5, lookup_putF, if_neg (by decide +kernel)]; exact e4i
    have e5h : F5.lookup ("_hops" : Str) = some (.ref ho) := by rw [← hF5, lookup_putF, if_pos rfl]
    have b5 : ButD x G4 (upd H2 x (.ins C dx F5)) := put_x (s1.trans s2)
    have hox : ho ≠ x := ne_ins h2 (s2 _ _ (s1 _ _ hx4))
    have hho : upd H2 x (.ins C dx F5) ho = some (.lst (iN lho)) := by rw [upd_ne hox]; exact h2
    have B5 := ButD.trans B4 b5
    replace pl := pl.butX ⟨_, _, _, hx4⟩ pxx b5
    replace hgd := b5 _ _ gdx hgd
    replace hla := b5 _ _ lax hla
    replace hli := b5 _ _ lix hli
    have hx5 : upd H2 x (.ins C dx F5) x = some (.ins C dx F5) := upd_same
    generalize upd H2 x (.ins C dx F5) = G5 at pl hgd hla hli hho hx5 B5 ⊢
    clear s1 h1 n1 s2 h2 n2 H1 H2 hx4 B4 b5 e4p e4g e4a e4i G4 hpx hpcb
    -- turns
    refine ⟨_, rfl, x, C, dx, _, _, rfl, hx5, k.T.cl, k.T.n_gd, e5g, _, rfl, x, C, dx, _, _, rfl, hx5, k.T.cl, k.T.n_la, e5a, gd, la, lgd, lla, n, _, _, rfl, hgd, hla, rgd, rla, by omega, fun q1 H1 lq1 n1 s1 h1 rq1 => ?_⟩
    refine ⟨_, rfl, x, C, dx, _, _, rfl, s1 _ _ hx5, k.T.cl, k.T.n_ho, e5h, q1, ho, lq1, lho, n, _, _, rfl, h1, s1 _ _ hho, rq1, rho, by omega, fun q2 H2 lq2 n2 s2 h2 rq2 => ?_⟩
    have iT1 : In n (Tn1 n (Dl ds 1) (Dl ds 0) (Dl ds (-1)) (De ds 0) (De ds 1)) := (gr_in.or (iE 0)).or (((iE 1).cp (gr_in.cp iD)).cp gr_in)
    refine ⟨q2, lq2, n, _, rfl, h2, rq2, by omega, iT1, fun tu H3 ltu n3 s3 h3 rtu => ⟨_, rfl, x, C, dx, _, rfl, s3 _ _ (s2 _ _ (s1 _ _ hx5)), k.T.cl, k.T.n_tu, lt_of20 l5, ?_⟩⟩
    generalize hF6 : putF "turns" (V.ref tu) F5 = F6
    have l6 : F6.length ≤ 6 := by rw [← hF6]; exact putF_le l5
    have e6g : F6.lookup ("ground" : Str) = some (.ref gd) := by rw [← hF6, lookup_putF, if_neg (by decide +kernel)]; exact e5g
    have e6i : F6.lookup ("lifting" : Str) = some (.ref li) := by rw [← hF6, lookup_putF, if_neg (by decide +kernel)]; exact e5i
    have e6t : F6.lookup ("turns" : Str) = some (.ref tu) := by rw [← hF6, lookup_putF, if_pos rfl]
    have s123 := s1.trans (s2.trans s3)
    have b6 : ButD x G5 (upd H3 x (.ins C dx F6)) := put_x s123
    have tux : tu ≠ x := ne_ins h3 (s123 _ _ hx5)
    have htu : upd H3 x (.ins C dx F6) tu = some (.lst (iN ltu)) := by rw [upd_ne tux]; exact h3
    have B6 := ButD.trans B5 b6
    replace pl := pl.butX ⟨_, _, _, hx5⟩ pxx b6
    replace hgd := b6 _ _ gdx hgd
    replace hli := b6 _ _ lix hli
    have hx6 : upd H3 x (.ins C dx F6) x = some (.ins C dx F6) := upd_same
    generalize upd H3 x (.ins C dx F6) = G6 at pl hgd hli htu hx6 B6 ⊢
    clear s1 h1 n1 s2 h2 n2 s3 h3 n3 s123 H1 H2 H3 hx5 B5 b6 e5g e5a e5i e5h G5 hho hla
    -- ground back
    refine ⟨_, rfl, x, C, dx, _, _, rfl, hx6, k.T.cl, k.T.n_gd, e6g, gd, lgd, n, _, rfl, hgd, rgd, gr_in, n16, fun gb H1 lgb n1 s1 h1 rgb => ⟨_, rfl, x, C, dx, _, rfl, s1 _ _ hx6, k.T.cl, k.T.n_gb, lt_of20 l6, ?_⟩⟩
    generalize hF7 : putF "_ground_back" (V.ref gb) F6 = F7
    have l7 : F7.length ≤ 7 := by rw [← hF7]; exact putF_le l6
    have e7i : F7.lookup ("lifting" : Str) = some (.ref li) := by rw [← hF7, lookup_putF, if_neg (by decide +kernel)]; exact e6i
    have e7t : F7.lookup ("turns" : Str) = some (.ref tu) := by rw [← hF7, lookup_putF, if_neg (by decide +kernel)]; exact e6t
    have b7 : ButD x G6 (upd H1 x (.ins C dx F7)) := put_x s1
    have gbx : gb ≠ x := ne_ins h1 (s1 _ _ hx6)
    have hgb : upd H1 x (.ins C dx F7) gb = some (.lst (iN lgb)) := by rw [upd_ne gbx]; exact h1
    have B7 := ButD.trans B6 b7
    replace pl := pl.butX ⟨_, _, _, hx6⟩ pxx b7
    replace hgd := b7 _ _ gdx hgd
    replace hli := b7 _ _ lix hli
    replace htu := b7 _ _ tux htu
    have hx7 : upd H1 x (.ins C dx F7) x = some (.ins C dx F7) := upd_same
    generalize upd H1 x (.ins C dx F7) = G7 at pl hgd hli htu hgb hx7 B7 ⊢
    clear s1 h1 n1 H1 hx6 B6 b7 e6g e6i e6t G6
    -- lifting back
    refine ⟨_, rfl, x, C, dx, _, _, rfl, hx7, k.T.cl, k.T.n_li, e7i, li, lli, n, _, rfl, hli, rli, iE 1, n16, fun lb H1 llb n1 s1 h1 rlb => ⟨_, rfl, x, C, dx, _, rfl, s1 _ _ hx7, k.T.cl, k.T.n_lb, lt_of20 l7, ?_⟩⟩
    generalize hF8 : putF "_lifting_back" (V.ref lb) F7 = F8
    have l8 : F8.length ≤ 8 := by rw [← hF8]; exact putF_le l7
    have e8t : F8.lookup ("turns" : Str) = some (.ref tu) := by rw [← hF8, lookup_putF, if_neg (by decide +kernel)]; exact e7t
    have b8 : ButD x G7 (upd H1 x (.ins C dx F8)) := put_x s1
    have lbx : lb ≠ x := ne_ins h1 (s1 _ _ hx7)
    have hlb : upd H1 x (.ins C dx F8) lb = some (.lst (iN llb)) := by rw [upd_ne lbx]; exact h1
    have B8 := ButD.trans B7 b8
    replace pl := pl.butX ⟨_, _, _, hx7⟩ pxx b8
    replace hgd := b8 _ _ gdx hgd
    replace htu := b8 _ _ tux htu
    replace hgb := b8 _ _ gbx hgb
    have hx8 : upd H1 x (.ins C dx F8) x = some (.ins C dx F8) := upd_same
    generalize hG8 : upd H1 x (.ins C dx F8) = G8 at pl hgd htu hgb hlb hx8 B8 ⊢
    clear s1 h1 n1 hx7 B7 b8 e7i e7t hli G7
    -- turns back
    refine ⟨_, rfl, x, C, dx, _, _, rfl, hx8, k.T.cl, k.T.n_tu, e8t, tu, ltu, n, _, rfl, htu, rtu, Cl.inn, n16, fun tb H2 ltb n1 s1 h1 rtb => ⟨_, rfl, x, C, dx, _, rfl, s1 _ _ hx8, k.T.cl, k.T.n_tb, lt_of20 l8, ?_⟩⟩
    have b9 : ButD x G8 (upd H2 x (.ins C dx (putF "_turns_back" (V.ref tb) F8))) := put_x s1
    have tbx : tb ≠ x := ne_ins h1 (s1 _ _ hx8)
    refine q _ px g nd dr ot fr ldr lcb M gd tu gb lb tb lgd ltu lgb llb ltb (ButD.trans B8 b9) ⟨⟨dx, la, li, ho, ?_⟩, pl.butX ⟨_, _, _, hx8⟩ pxx b9, b9 _ _ gdx hgd, b9 _ _ tux htu, b9 _ _ gbx hgb, b9 _ _ lbx hlb, ?_, rgd, rtu, rgb, rlb, rtb⟩ not nfr
    · rw [upd_same, ← hF8, ← hF7, ← hF6, ← hF5, ← hF4, ← hF3, ← hF2, ← hF1]
      rfl
    · rw [upd_ne tbx]
      exact h1
end
end L2.K71
end

section
set_option Elab.async false
set_option linter.all false
set_option maxRecDepth 100000
set_option maxHeartbeats 4000000
namespace L2.K71
open PySem PySem.Spec PyProof.Rows L2.Gd L2.Lv
section
variable {P : Program} {w : World} {K : PySem.W.Frag} {mg : Str → Option Value} {base : Heap} {C CP C2 : Addr}
/-- Tills(..) -/
structure MkT (P : Program) (w : World) (K : PySem.W.Frag) (mg : Str → Option Value) (base : Heap) (C CP C2 : Addr) : Prop where
  ex : ∃ f fd, Mk K C f ∧ Binds K fd ["self", "house"] [] ∧ FnOk P w K mg base CX0 8 f fd ["self", "house"] (spTi C CP C2)
theorem pe_til {X : Cx} {e : Expr} {es : List Expr} {t : TA} {p pos : Pos} {C CP C2 : Addr} (M : MkT X.prog X.w X.K X.mg X.base C CP C2) (T : ClsI X.K X.mg C) (hr : Room 9 X.A) (ha : PA X (e :: es) t)
    (hg : Gl X "Tills" := by rfl) (he : starEach (e :: es) X.env = (false, eval e X.env) :: starEach es X.env := by rfl)
    (hpl : (backTo pos (starEach es X.env)).any (·.1) = false := by rfl) :
    PE X (.Call (.Name "Tills" p) (e :: es) [] pos) (tMake C (spTi C CP C2) [] E0 t) := by
  obtain ⟨f, fd, mk, b, F⟩ := M.ex
  exact pe_make mk F hr hg T.mgC b .nil pass0 ha (by decide) he hpl
theorem til_any {R : Addr → VK} {H : Hp} {E : XK} {h l : Addr} {n : Nat} {xs : List V} {ds : List Dd} (hh : HouseL C2 H h l n xs ds) (wf : WF n ds)
    (k : ∀ x H' px g nd dr ot fr ldr lcb M gd tu gb lb tb lgd ltu lgb llb ltb, H x = none → Same H H' → TilAt C CP H' x px n ds g nd dr ot fr ldr lcb M gd tu gb lb tb lgd ltu lgb llb ltb → H ot = none → H fr = none → R x .non H') :
    ∀ x dx, H x = none → H dx = none → dx ≠ x → spTi C CP C2 (.ref x :: ([.ref h] ++ [])) (upd (upd H dx (.own x)) x (.ins C dx [])) (R x) E := by
  intro x dx nx ndx ne
  have s0 : Same H (upd (upd H dx (.own x)) x (.ins C dx [])) := fun b o e => by
    rw [upd_ne (ne_of_none e nx), upd_ne (ne_of_none e ndx)]
    exact e
  refine ⟨x, dx, h, l, n, xs, ds, rfl, upd_same, hh.same s0, wf, fun H' px g nd dr ot fr ldr lcb M gd tu gb lb tb lgd ltu lgb llb ltb b tl n1 n2 => ?_⟩
  exact k x H' px g nd dr ot fr ldr lcb M gd tu gb lb tb lgd ltu lgb llb ltb nx (fun c o e => b c o (ne_of_none e nx) (s0 c o e)) tl (s0.free n1) (s0.free n2)
/-! ### checks -/
def spCP (C2 : Addr) : Sp := fun vs H Q _ => ∃ (h l : Addr) (m p : Int) (xs : List V) (ds : List Dd), vs = [.ref h, .int p] ∧ HouseL C2 H h l m xs ds ∧ 0 ≤ p ∧ p < m ∧ Q .non H
theorem scCP : FnScope ["house", "place"] ["house", "place"] (defScope (top 15)) := ⟨rfl, rfl, rfl, by decide +kernel, rfl, by decide +kernel, by decide +kernel⟩
theorem ok_cp {f : Addr} {fd : FuncData} (F : Fun K "check_place" "check_place" (top 15) f fd) (T : ClsT K mg C2) (GC : Fn P w K mg base 2 "is_count" ["value"] spIsCount) (PL : PrH P w K mg base C2 "places" (spPlaces C2)) : FnOk P w K mg base CX0 3 f fd ["house", "place"] (spCP C2) := by
  refine F.ok scCP (fun vs H Q E h => ?_) (fun cdv A outer s H vs Q E hr h => ?_)
  · obtain ⟨h, l, m, p, xs, ds, rfl, _⟩ := h
    rfl
  · obtain ⟨h, l, m, p, xs, ds, rfl, hh, p0, pm, k⟩ := h
    obtain ⟨dx, ob⟩ := hh.ob
    refine ⟨_, pss_one (ps_if (pw_or (pt_not (pt_val (pe_fn GC hr (pa_cons (pv 1) pa_nil)))) (pw_or1 (pt_cmpR op_ge (pv 1) (pe_prH PL T hr (pv 0)) (nomark _)))).pt pss_never pss_nil), ?_⟩
    refine ⟨_, rfl, p, rfl, p0, true, rfl, iteF ?_⟩
    refine ⟨_, rfl, _, rfl, h, dx, _, rfl, ob, h, dx, l, m, rfl, ob, _, _, rfl, rfl, false, congrArg V.bl (decide_eq_false (by omega)), ?_⟩
    exact iteF k
def spCM : Sp := fun vs H Q _ => ∃ p : Int, vs = [.int p] ∧ 0 ≤ p ∧ Q .non H
theorem scCM : FnScope ["many"] ["many"] (defScope (top 14)) := ⟨rfl, rfl, rfl, by decide +kernel, rfl, by decide +kernel, by decide +kernel⟩
theorem ok_cm {f : Addr} {fd : FuncData} (F : Fun K "check_many" "check_many" (top 14) f fd) (GC : Fn P w K mg base 2 "is_count" ["value"] spIsCount) : FnOk P w K mg base CX0 3 f fd ["many"] spCM := by
  refine F.ok scCM (fun vs H Q E h => ?_) (fun cdv A outer s H vs Q E hr h => ?_)
  · obtain ⟨p, rfl, _⟩ := h
    rfl
  · obtain ⟨p, rfl, p0, k⟩ := h
    refine ⟨_, pss_one (ps_if (pt_not (pt_val (pe_fn GC hr (pa_cons (pv 0) pa_nil)))) pss_never pss_nil), ?_⟩
    exact ⟨_, rfl, p, rfl, p0, true, rfl, iteF k⟩
def spCS (C2 : Addr) : Sp := fun vs H Q _ => ∃ (h l : Addr) (m a s b e : Int) (xs : List V) (ds : List Dd), vs = [.ref h, .int a, .int s, .int b, .int e] ∧ HouseL C2 H h l m xs ds ∧ 0 ≤ a ∧ a < m ∧ 0 ≤ s ∧ 0 ≤ b ∧ b < m ∧ 0 ≤ e ∧ Q .non H
theorem scCS : FnScope ["house", "place", "start", "goal", "end"] ["house", "place", "start", "goal", "end"] (defScope (top 16)) := ⟨rfl, rfl, rfl, by decide +kernel, rfl, by decide +kernel, by decide +kernel⟩
theorem ok_cs {f : Addr} {fd : FuncData} (F : Fun K "check_stands" "check_stands" (top 16) f fd) (GP : Fn P w K mg base 3 "check_place" ["house", "place"] (spCP C2)) (GM : Fn P w K mg base 3 "check_many" ["many"] spCM) : FnOk P w K mg base CX0 4 f fd ["house", "place", "start", "goal", "end"] (spCS C2) := by
  refine F.ok scCS (fun vs H Q E h => ?_) (fun cdv A outer s H vs Q E hr h => ?_)
  · obtain ⟨h, l, m, a, s, b, e, xs, ds, rfl, _⟩ := h
    rfl
  · obtain ⟨h, l, m, a, st, b, e, xs, ds, rfl, hh, a0, am, s0, b0, bm, e0, k⟩ := h
    refine ⟨_, pss_cons (ps_expr (pe_fn GP hr (pa_cons (pv 0) (pa_cons (pv 1) pa_nil)))) (pss_cons (ps_expr (pe_fn GM hr (pa_cons (pv 2) pa_nil)))
      (pss_cons (ps_expr (pe_fn GP hr (pa_cons (pv 0) (pa_cons (pv 3) pa_nil)))) (pss_one (ps_expr (pe_fn GM hr (pa_cons (pv 4) pa_nil)))))), ?_⟩
    refine ⟨_, rfl, _, rfl, h, l, m, a, xs, ds, rfl, hh, a0, am, ?_⟩
    refine ⟨_, rfl, st, rfl, s0, ?_⟩
    refine ⟨_, rfl, _, rfl, h, l, m, b, xs, ds, rfl, hh, b0, bm, ?_⟩
    exact ⟨_, rfl, e, rfl, e0, k⟩
/-! ### leads -/
def spEl (C2 : Addr) : Sp := fun vs H Q _ => ∃ (h l : Addr) (n a s b e : Nat) (xs : List V) (ds : List Dd), vs = [.ref h, .int (a : Nat), .int (s : Nat), .int (b : Nat), .int (e : Nat)] ∧ HouseL C2 H h l n xs ds ∧ WF n ds ∧ a < n ∧ b < n ∧
  ∀ (v : Bool) H', Same H H' → (v = true ↔ LedZ n ds (a, s) (b, e)) → Q (.bl v) H'
theorem scEl : FnScope ["house", "place", "start", "goal", "end"] ["house", "place", "start", "goal", "end"] (defScope (top 48)) := ⟨rfl, rfl, rfl, by decide +kernel, rfl, by decide +kernel, by decide +kernel⟩
theorem ok_el {f : Addr} {fd : FuncData} (F : Fun K "leads" "leads" (top 48) f fd) (MT : MkT P w K mg base C CP C2) (T : ClsI K mg C) (CS : Fn P w K mg base 4 "check_stands" ["house", "place", "start", "goal", "end"] (spCS C2))
    (TL : MeH P w K mg base C "leads" 8 ["self", "place", "start", "goal", "end"] (spTl C CP)) : FnOk P w K mg base CX0 10 f fd ["house", "place", "start", "goal", "end"] (spEl C2) := by
  refine F.ok scEl (fun vs H Q E h => ?_) (fun cdv A outer s H vs Q E hr h => ?_)
  · obtain ⟨h, l, n, a, s, b, e, xs, ds, rfl, _⟩ := h
    rfl
  · obtain ⟨h, l, n, a, st, b, e, xs, ds, rfl, hh, wf, an, bn, q⟩ := h
    have r4 := hr.mono (k := 9) (j := 4) (by decide)
    have r8 := hr.mono (k := 9) (j := 8) (by decide)
    have n16 : n ≤ 16 := by have := wf.m16; omega
    refine ⟨_, pss_cons (ps_expr (pe_fn CS r4 (pa_cons (pv 0) (pa_cons (pv 1) (pa_cons (pv 2) (pa_cons (pv 3) (pa_cons (pv 4) pa_nil)))))))
      (pss_one (ps_ret (pe_mP TL T.cl r8 (pe_til MT T hr (pa_cons (pv 0) pa_nil)) (pa_cons (pv 1) (pa_cons (pv 2) (pa_cons (pv 3) (pa_cons (pv 4) pa_nil))))))), ?_⟩
    refine ⟨_, rfl, _, rfl, _, rfl, _, rfl, _, rfl, h, l, n, a, st, b, e, xs, ds, rfl, hh, by omega, by omega, by omega, by omega, by omega, by omega, ?_⟩
    refine ⟨_, rfl, ?_⟩
    refine til_any (C2 := C2) hh wf (fun x H1 px g nd dr ot fr ldr lcb M gd tu gb lb tb lgd ltu lgb llb ltb nx s1 tl n1 n2 => ⟨rfl, ?_⟩)
    obtain ⟨dx, la, li, ho, hx⟩ := tl.ob
    refine ⟨x, dx, _, rfl, hx, fTi_leads .., _, rfl, _, rfl, _, rfl, _, rfl, x, a, st, b, e, px, n, ds, g, nd, dr, ot, fr, ldr, lcb, M, gd, tu, gb, lb, tb, lgd, ltu, lgb, llb, ltb, rfl, an, bn, n16, wf.ok, tl, fun v H2 f2 hv => ?_⟩
    exact q v H2 (fun c o z => f2 c o (ne_of_none z n1) (ne_of_none z n2) (s1 c o z)) hv
end
end L2.K71
end

section
set_option Elab.async false
set_option linter.all false
set_option maxRecDepth 100000
set_option maxHeartbeats 4000000
namespace L2.K71
open PySem PySem.Spec PyProof.Rows L2.Gd L2.Lv
def PlAt (p : Addr) (H : Hp) (v : V) (ps : List (Nat × Nat)) : Prop := ∃ a zs, v = .ref a ∧ a ≠ p ∧ H a = some (.lst zs) ∧ PrAll H zs ps
def PlAll (p : Addr) (H : Hp) (vs : List V) (pss : List (List (Nat × Nat))) : Prop := Paired (PlAt p H) vs pss
theorem PlAt.but {p : Addr} {H H' : Hp} {v : V} {ps : List (Nat × Nat)} (b : ButD p H H') (hp : ∃ zs, H p = some (.lst zs)) (h : PlAt p H v ps) : PlAt p H' v ps :=
  let ⟨a, zs, e, ne, q, pa⟩ := h; ⟨a, zs, e, ne, b _ _ ne q, pa.but b hp⟩
theorem PlAll.but {p : Addr} {H H' : Hp} {vs : List V} {pss : List (List (Nat × Nat))} (b : ButD p H H') (hp : ∃ zs, H p = some (.lst zs)) (h : PlAll p H vs pss) : PlAll p H' vs pss := Paired.mapP h fun _ _ q => q.but b hp
end L2.K71
end

section
set_option Elab.async false
set_option linter.all false
set_option maxRecDepth 100000
set_option maxHeartbeats 2000000
/-! {k: v}, one pair, k a tuple -/
namespace L2.Gd
open PySem PySem.Spec PyProof.Rows
section
variable {prog : Program} {w : World} {K : Type} [DecidableEq K] {knd : HeapKind prog w K} {A : Around} {E : Value → Shared → Prop} {s : Shared} {env : Env}
theorem subDict_one {k v : Sem Value} {Q : Addr → Shared → Prop}
    (h : wpAny (model prog w) A (evalPairs [(k, v)]) (fun vs s₁ => ∃ a key u, vs = [(.ref a, u)] ∧ knd.room A ∧ knd.is s₁.heap key a ∧ s₁.heap.DictOfH knd s.heap.objs.size [] ∧
      ∀ h', h'.DictOfH knd s.heap.objs.size (storedH [] key a u) → Heap.SameBut s.heap.objs.size s₁.heap h' → Q s.heap.objs.size { s₁ with heap := h', toks := s₁.toks + knd.draws key }) E
      { s with heap := s.heap.push { cls := .type "dict", data := .dict #[] } }) :
    wpAny (model prog w) A (subDict [(k, v)]) Q E s := by
  unfold subDict
  refine wpAny_bind (wpAny_alloc ?_)
  refine wpAny_bind (wpAny_holding ?_)
  rw [if_pos (show [(k, v)].length ≤ 15 by show 1 ≤ 15; decide)]
  refine wpAny_bind (wpAny_mono h (fun vs s₁ h₁ => ?_) fun _ _ e => e)
  obtain ⟨a, key, u, rfl, hu, hk, hm, hQ⟩ := h₁
  refine wpAny_holding ?_
  refine wpAny_bind ?_
  rw [List.forIn_cons]
  refine wpAny_bind (wpAny_bind (wpAny_dictSet_heap (hsz := by rw [sizeLine_eq]; exact Nat.zero_le _) hu hk hm fun h' hm' hs' => wpAny_pure ?_))
  show wpAny _ _ (forIn [] _ _) _ _ _
  rw [List.forIn_nil]
  exact wpAny_pure (wpAny_pure (wpAny_pure (hQ h' hm' hs')))
end
def tDisp1 (tk tv : TE) : TE := fun σ H Q => ∀ p, H p = none → tk σ (upd H p (.dT [])) fun x H1 => tv σ H1 fun y H2 => ∃ (b : Addr) (k : List Key), x = .ref b ∧ H2 b = some (.tup (k.map kV)) ∧ H2 p = some (.dT []) ∧ Q (.ref p) (upd H2 p (.dT [(k, y)]))
theorem pe_disp1 {X : Cx} {ke ve : Expr} {tk tv : TE} {pos : Pos} (hu : X.A.units + 1 < cLine) (hk : PE X ke tk) (hv : PE X ve tv) : PE X (.Dict [some ke] [ve] pos) (tDisp1 tk tv) := by
  refine ⟨fun pins s σ H Q I q => ?_⟩
  have hn := I.hok.fresh (Nat.le_refl s.heap.objs.size)
  have I1 := I.laid (a := s.heap.objs.size) (o := .dT []) (h' := s.heap.push { cls := .type "dict", data := .dict #[] }) (t' := s.toks) (fun _ _ q => Heap.get?_push_of_some _ q) (Nat.le_refl _) (dt_empty s.heap I.big)
  rw [arm_eval_Dict, zip_pairTrees [some ke] [ve] X.env pos (by rfl) (by rfl), dictDisplay_pairs (pairTrees [some ke] [ve] X.env pos) (by simp [pairTrees]) (by simp [pairTrees])]
  refine wpAny_bind (wpAny_standAt (wpAny_bind (subDict_one (knd := tupleKind (mixKind X.prog X.w)) ?_)))
  have P : PPs X pos [some ke] [ve] [(tk, tv)] := pps_cons hk hv pps_nil
  refine thn (P.run pins _ σ _ (fun ps H2 => match ps with
    | [(x, y)] => ∃ (b : Addr) (k : List Key), x = .ref b ∧ H2 b = some (.tup (k.map kV)) ∧ H2 s.heap.objs.size = some (.dT []) ∧ Q (.ref s.heap.objs.size) (upd H2 s.heap.objs.size (.dT [(k, y)]))
    | _ => False) I1 (q _ hn)) ?_
  rintro vs s2 ⟨ps, H2, I2, rel, q2⟩
  match ps, rel, q2 with
  | [(x, y)], .cons (b := (kv, u)) r .nil, ⟨b, k, ex, hb, hp, q3⟩ =>
    have ex : x = V.ref b := ex
    subst ex
    obtain ⟨r1, r2⟩ := r
    obtain rfl : kv = Value.ref b := r1
    obtain ⟨z, hd, xs, rel, dd⟩ := dt_of I2.hok hp
    cases rel
    refine ⟨b, k, u, rfl, (by show X.A.units < cLine; omega), key_of I2.hok hb, dd, fun h' dd' hs => ?_⟩
    refine wpAny_pure ⟨.ref s.heap.objs.size, upd H2 s.heap.objs.size (.dT [(k, y)]), ?_, rfl, q3⟩
    obtain ⟨o, es, ep, hq, h2, h3, h4, _, h5⟩ := dd'
    have rel0 : KT H2 [(k, y)] (storedH [] k b u) := .cons ⟨rfl, hb, r2⟩ .nil
    refine d_write I2 (by rw [hp]; exact True.intro) hs ⟨o, hq⟩ ⟨by rw [sizeLine_eq]; show 1 ≤ _; decide, hd, _, rel0.keeps fun c ys ec => ?_, o, es, ep, hq, h2, h3, h4, h5⟩
    rw [upd_ne (ne_of ec hp (fun z => nomatch z))]
    exact ec
end L2.Gd
end

section
set_option Elab.async false
set_option linter.all false
set_option maxRecDepth 100000
set_option maxHeartbeats 4000000
namespace L2.K71
open PySem PySem.Spec PyProof.Rows L2.Gd L2.Lv
theorem few_nat : ∀ (N : Nat) (l : List Nat), l.Nodup → (∀ x ∈ l, x < N) → l.length ≤ N
  | 0, l, _, h => by
    cases l with
    | nil => exact Nat.le_refl _
    | cons x r => exact absurd (h x List.mem_cons_self) (Nat.not_lt_zero _)
  | N + 1, l, nd, h => by
    by_cases c : N ∈ l
    · have e := few_nat N (l.erase N) (nd.erase N) (fun x hx => by
        have := (nd.mem_erase_iff.mp hx)
        have := h x this.2
        omega)
      rw [List.length_erase_of_mem c] at e
      omega
    · have := few_nat N l nd (fun x hx => by
        have := h x hx
        have : x ≠ N := fun z => c (z ▸ hx)
        omega)
      omega
theorem few_pairs {n m : Nat} {l : List (Nat × Nat)} (nd : l.Nodup) (h : ∀ t ∈ l, t.1 < n ∧ t.2 < m) : l.length ≤ n * m := by
  have e := few_nat (n * m) (l.map fun t => t.1 * m + t.2) (by
    refine (List.pairwise_map).mpr ?_
    refine nd.imp_of_mem ?_
    intro a b ha hb ne z
    have h1 := h a ha
    have h2 := h b hb
    apply ne
    have e1 : a.1 = b.1 := by
      have x := congrArg (· / m) z
      have y1 : (a.1 * m + a.2) / m = a.1 := by rw [Nat.mul_comm, Nat.mul_add_div (by omega), Nat.div_eq_of_lt h1.2]; rfl
      have y2 : (b.1 * m + b.2) / m = b.1 := by rw [Nat.mul_comm, Nat.mul_add_div (by omega), Nat.div_eq_of_lt h2.2]; rfl
      rw [← y1, ← y2]
      exact x
    have e2 : a.2 = b.2 := by
      have z' : a.1 * m + a.2 = b.1 * m + b.2 := z
      rw [e1] at z'
      omega
    exact Prod.ext e1 e2) (by
    intro x hx
    obtain ⟨t, ht, rfl⟩ := List.mem_map.mp hx
    have := h t ht
    have : t.1 * m + m ≤ n * m := by rw [← Nat.succ_mul]; exact Nat.mul_le_mul_right m this.1
    omega)
  rwa [List.length_map] at e
/-- stands as keys -/
def kS (t : Nat × Nat) : List Key := [.inl (t.1 : Int), .inl (t.2 : Int)]
def kvS (fs : List (Nat × Nat)) : List (List Key × V) := fs.map fun t => (kS t, V.bl true)
theorem kS_inj {a b : Nat × Nat} (h : kS a = kS b) : a = b := by
  unfold kS at h
  have h1 := Sum.inl.inj (List.cons.inj h).1
  have h2 := Sum.inl.inj (List.cons.inj (List.cons.inj h).2).1
  exact Prod.ext (Int.ofNat.inj h1) (Int.ofNat.inj h2)
theorem valV_S (t : Nat × Nat) : ∀ fs : List (Nat × Nat), (valV (kvS fs) (kS t)).isSome = decide (t ∈ fs)
  | [] => by rw [decide_eq_false (by simp)]; rfl
  | f :: r => by
    unfold kvS
    rw [List.map_cons]
    by_cases e : f = t
    · subst e
      rw [valV_pos rfl, decide_eq_true List.mem_cons_self]
      rfl
    · rw [valV_neg (fun z => e (kS_inj z))]
      have := valV_S t r
      unfold kvS at this
      rw [this, Bool.eq_iff_iff, decide_eq_true_eq, decide_eq_true_eq, List.mem_cons]
      exact ⟨.inr, fun z => z.resolve_left fun z => e z.symm⟩
theorem valV_none {t : Nat × Nat} {fs : List (Nat × Nat)} (h : t ∉ fs) : valV (kvS fs) (kS t) = none := by
  have := valV_S t fs
  rw [decide_eq_false h] at this
  exact Option.isNone_iff_eq_none.mp (by cases hv : valV (kvS fs) (kS t) with | none => rfl | some _ => rw [hv] at this; exact nomatch this)
theorem kS_V (t : Nat × Nat) : (kS t).map kV = [V.int (t.1 : Nat), V.int (t.2 : Nat)] := rfl
theorem PrAt.same {H H' : Hp} {v : V} {p : Nat × Nat} (s : Same H H') (h : PrAt H v p) : PrAt H' v p := let ⟨t, e, q⟩ := h; ⟨t, e, s _ _ q⟩
section
variable {P : Program} {w : World} {K : PySem.W.Frag} {mg : Str → Option Value} {base : Heap} {C : Addr}
def pD (p : Nat × Nat) : PyData := .tuple [.int (p.1 : Nat), .int (p.2 : Nat)]
theorem PrAll.dps {H : Hp} : ∀ {vs : List V} {ps : List (Nat × Nat)}, PrAll H vs ps → DpAll K H vs (ps.map pD)
  | _, _, .nil => .nil
  | _, _, .cons ⟨t, e, q⟩ r => by
    subst e
    exact .cons (.tup (.inl (.inl q)) (.cons (.int _) (.cons (.int _) .nil))) (PrAll.dps r)
theorem pD_lay : ∀ ps : List (Nat × Nat), PyData.canLayAll0 (ps.map pD) = true
  | [] => by simp [PyData.canLayAll0]
  | x :: r => by simp [PyData.canLayAll0, PyData.canLay0, pD, pD_lay r]
theorem pD_dep : ∀ ps : List (Nat × Nat), PyData.depthAll (ps.map pD) ≤ 1
  | [] => by simp [PyData.depthAll]
  | x :: r => by
    have := pD_dep r
    simp [PyData.depthAll, PyData.depth, pD]
    omega
theorem pD_shaped (ps : List (Nat × Nat)) : SeqAt.shaped (.list (ps.map pD)) = true := by
  show (PyData.canLay0 (.list (ps.map pD)) && decide (PyData.depth (.list (ps.map pD)) ≤ 64)) = true
  rw [Bool.and_eq_true]
  refine ⟨by simp only [PyData.canLay0]; exact pD_lay ps, decide_eq_true ?_⟩
  have := pD_dep ps
  simp only [PyData.depth]
  omega
theorem pD_nil (ps : List (Nat × Nat)) : PyData.eqv (.list (ps.map pD)) (.list []) = decide (ps = []) := by
  cases ps with
  | nil => simp [PyData.eqv, PyData.eqvAll]
  | cons x r => simp [PyData.eqv, PyData.eqvAll]
theorem paired_snoc {α β : Type} {R : α → β → Prop} {y : β} : ∀ {ys : List β} {xs : List α}, Paired R xs (ys ++ [y]) → ∃ xs0 x, xs = xs0 ++ [x] ∧ Paired R xs0 ys ∧ R x y
  | [], _, .cons h .nil => ⟨[], _, rfl, .nil, h⟩
  | z :: ys, _, .cons h t => by
    obtain ⟨xs0, x, rfl, h1, h2⟩ := paired_snoc (ys := ys) t
    exact ⟨_ :: xs0, x, rfl, .cons h h1, h2⟩
end
end L2.K71
end

section
set_option Elab.async false
set_option linter.all false
set_option maxRecDepth 100000
set_option maxHeartbeats 4000000
namespace L2.K71
open PySem PySem.Spec PyProof.Rows L2.Gd L2.Lv
/-! ### a relation's pairs, in order -/
open Classical in
noncomputable def rowC (n : Nat) (r : Rl) (a : Nat) : List (Nat × Nat) := ((List.range n).filter fun b => decide (r a b)).map fun b => (a, b)
noncomputable def canon (n : Nat) (r : Rl) : List (Nat × Nat) := (List.range n).flatMap (rowC n r)
theorem rowC_congr {n : Nat} {r s : Rl} {a : Nat} (h : ∀ b, r a b ↔ s a b) : rowC n r a = rowC n s a := by
  unfold rowC
  congr 2
  funext b
  rw [decide_eq_decide]
  exact h b
theorem canon_congr {n : Nat} {r s : Rl} (h : ∀ a, a < n → ∀ b, r a b ↔ s a b) : canon n r = canon n s := by
  unfold canon
  have : ∀ k, k ≤ n → (List.range k).flatMap (rowC n r) = (List.range k).flatMap (rowC n s) := by
    intro k
    induction k with
    | zero => intro _; rfl
    | succ k ih =>
      intro hk
      rw [List.range_succ, List.flatMap_append, List.flatMap_append, ih (by omega), List.flatMap_cons, List.flatMap_cons, rowC_congr (h k (by omega))]
      rfl
  exact this n (Nat.le_refl n)
open Classical in
theorem mem_canon {n : Nat} {r : Rl} {a b : Nat} : (a, b) ∈ canon n r ↔ a < n ∧ b < n ∧ r a b := by
  unfold canon rowC
  rw [List.mem_flatMap]
  constructor
  · rintro ⟨c, hc, h⟩
    obtain ⟨d, hd, e⟩ := List.mem_map.mp h
    obtain ⟨rfl, rfl⟩ := Prod.mk.inj e
    obtain ⟨h1, h2⟩ := List.mem_filter.mp hd
    exact ⟨List.mem_range.mp hc, List.mem_range.mp h1, of_decide_eq_true h2⟩
  · rintro ⟨h1, h2, h3⟩
    exact ⟨a, List.mem_range.mpr h1, List.mem_map.mpr ⟨b, List.mem_filter.mpr ⟨List.mem_range.mpr h2, decide_eq_true h3⟩, rfl⟩⟩
theorem canon_inj {n : Nat} {r s : Rl} (hr : In n r) (hs : In n s) (h : canon n r = canon n s) (a b : Nat) : r a b ↔ s a b := by
  have e : (a, b) ∈ canon n r ↔ (a, b) ∈ canon n s := by rw [h]
  rw [mem_canon, mem_canon] at e
  exact ⟨fun x => (e.mp ⟨(hr a b x).1, (hr a b x).2, x⟩).2.2, fun x => (e.mpr ⟨(hs a b x).1, (hs a b x).2, x⟩).2.2⟩
open Classical in
theorem prs_canon {n : Nat} {l : List Nat} {r : Rl} (h : Rep n l r) (i : In n r) : prsL l = canon n r := by
  unfold prsL canon
  rw [h.len]
  have : ∀ a, rowP l a = rowC n r a := fun a => by
    unfold rowP rowC
    congr 1
    rw [onesL_range (n := l.getD a 0) (m := n) (lt_pow fun b hb => (i a b ((h.bit a b).mp hb)).2)]
    congr 1
    funext b
    rw [Bool.eq_iff_iff, decide_eq_true_eq]
    exact h.bit a b
  rw [show rowP l = rowC n r from funext this]
theorem rowC_len (n : Nat) (r : Rl) (a : Nat) : (rowC n r a).length ≤ n := by
  unfold rowC
  rw [List.length_map]
  exact Nat.le_trans (List.length_filter_le _ _) (Nat.le_of_eq List.length_range)
theorem canon_len (n : Nat) (r : Rl) : ∀ k, ((List.range k).flatMap (rowC n r)).length ≤ k * n
  | 0 => Nat.zero_le _
  | k + 1 => by
    have := canon_len n r k
    have := rowC_len n r k
    rw [List.range_succ, List.flatMap_append, List.length_append, List.flatMap_cons, List.flatMap_nil, List.append_nil, Nat.succ_mul]
    omega
theorem pD_eqv : ∀ ps qs : List (Nat × Nat), PyData.eqvAll (ps.map pD) (qs.map pD) = decide (ps = qs)
  | [], [] => by simp [PyData.eqvAll]
  | [], _ :: _ => by simp [PyData.eqvAll]
  | _ :: _, [] => by simp [PyData.eqvAll]
  | (a, b) :: r, (c, d) :: t => by
    rw [List.map_cons, List.map_cons, PyData.eqvAll, pD_eqv r t]
    simp [PyData.eqv, PyData.eqvAll, pD]
    rw [Bool.eq_iff_iff]
    simp
    omega
theorem pL_eqv (ps qs : List (Nat × Nat)) : PyData.eqv (.list (ps.map pD)) (.list (qs.map pD)) = decide (ps = qs) := by
  rw [PyData.eqv, pD_eqv]
theorem PrAll.app {H : Hp} {xs ys : List V} {ps qs : List (Nat × Nat)} (h : PrAll H xs ps) (k : PrAll H ys qs) : PrAll H (xs ++ ys) (ps ++ qs) := Paired.app h k
section
variable {P : Program} {w : World} {K : PySem.W.Frag} {mg : Str → Option Value} {base : Heap} {C : Addr}
end
end L2.K71
end

section
set_option Elab.async false
set_option linter.all false
set_option maxRecDepth 100000
set_option maxHeartbeats 4000000
namespace L2.K71
open PySem PySem.Spec PyProof.Rows L2.Gd L2.Lv
/-! ### strictly ascending lists of pairs -/
def cN (p : Nat × Nat) : Nat := p.1 * 64 + p.2
theorem asc_eq : ∀ xs ys : List (Nat × Nat), xs.Pairwise (fun a b => cN a < cN b) → ys.Pairwise (fun a b => cN a < cN b) → (∀ a, a ∈ xs ↔ a ∈ ys) → xs = ys
  | [], [], _, _, _ => rfl
  | [], y :: ys, _, _, h => nomatch (h y).mpr List.mem_cons_self
  | x :: xs, [], _, _, h => nomatch (h x).mp List.mem_cons_self
  | x :: xs, y :: ys, hx, hy, h => by
    obtain ⟨hx1, hx2⟩ := List.pairwise_cons.mp hx
    obtain ⟨hy1, hy2⟩ := List.pairwise_cons.mp hy
    have e : x = y := by
      rcases List.mem_cons.mp ((h x).mp List.mem_cons_self) with e | e
      · exact e
      rcases List.mem_cons.mp ((h y).mpr List.mem_cons_self) with f | f
      · exact f.symm
      have := hy1 x e
      have := hx1 y f
      omega
    subst e
    rw [asc_eq xs ys hx2 hy2 fun a => ?_]
    constructor
    · intro ha
      rcases List.mem_cons.mp ((h a).mp (List.mem_cons_of_mem _ ha)) with e | e
      · subst e
        have := hx1 a ha
        omega
      · exact e
    · intro ha
      rcases List.mem_cons.mp ((h a).mpr (List.mem_cons_of_mem _ ha)) with e | e
      · subst e
        have := hy1 a ha
        omega
      · exact e
theorem rowC_fst {n : Nat} {r : Rl} {a : Nat} {p : Nat × Nat} (h : p ∈ rowC n r a) : p.1 = a ∧ p.2 < n := by
  unfold rowC at h
  obtain ⟨d, hd, rfl⟩ := List.mem_map.mp h
  exact ⟨rfl, List.mem_range.mp (List.mem_filter.mp hd).1⟩
theorem rowC_asc (n : Nat) (r : Rl) (a : Nat) : (rowC n r a).Pairwise (fun a b => cN a < cN b) := by
  unfold rowC
  rw [List.pairwise_map]
  refine List.Pairwise.filter _ (List.Pairwise.imp ?_ List.pairwise_lt_range)
  intro x y h
  unfold cN
  omega
theorem canon_asc {n : Nat} (n64 : n ≤ 64) (r : Rl) : (canon n r).Pairwise (fun a b => cN a < cN b) := by
  unfold canon
  have : ∀ k, ((List.range k).flatMap (rowC n r)).Pairwise (fun a b => cN a < cN b) ∧ ∀ p ∈ (List.range k).flatMap (rowC n r), p.1 < k := by
    intro k
    induction k with
    | zero => exact ⟨.nil, fun p h => nomatch h⟩
    | succ k ih =>
      rw [List.range_succ, List.flatMap_append, List.flatMap_cons, List.flatMap_nil, List.append_nil]
      refine ⟨List.pairwise_append.mpr ⟨ih.1, rowC_asc n r k, fun x hx y hy => ?_⟩, fun p hp => ?_⟩
      · have h1 := ih.2 x hx
        have h3 := rowC_fst hy
        have h4 : x.2 < n := by
          obtain ⟨c, _, hc⟩ := List.mem_flatMap.mp hx
          exact (rowC_fst hc).2
        unfold cN
        omega
      · rcases List.mem_append.mp hp with h | h
        · have := ih.2 p h
          omega
        · have := (rowC_fst h).1
          omega
  exact (this n).1
/-- a strictly ascending list with the relation's pairs -/
theorem canon_of {n : Nat} (n64 : n ≤ 64) {r : Rl} {ps : List (Nat × Nat)} (h : ps.Pairwise (fun a b => cN a < cN b)) (m : ∀ a b, (a, b) ∈ ps ↔ a < n ∧ b < n ∧ r a b) : ps = canon n r :=
  asc_eq _ _ h (canon_asc n64 r) fun ⟨a, b⟩ => (m a b).trans mem_canon.symm
theorem canon_nodup {n : Nat} (n64 : n ≤ 64) (r : Rl) : (canon n r).Nodup := (canon_asc n64 r).imp fun {a b} h e => by
  subst e
  omega
/-! ### pairs and their addresses -/
def prI (p : Nat × Nat) : List Int := [(p.1 : Int), (p.2 : Int)]
def natP (l : List Int) : Nat × Nat := ((l.getD 0 0).toNat, (l.getD 1 0).toNat)
theorem natP_prI (p : Nat × Nat) : natP (prI p) = p := by
  unfold natP prI
  simp
theorem prI_inj {p q : Nat × Nat} (h : prI p = prI q) : p = q := by rw [← natP_prI p, ← natP_prI q, h]
theorem prI_code (p : Nat × Nat) : TS.code 64 (prI p) = (cN p : Nat) := by
  unfold prI cN
  rw [code_pair]
  simp
theorem prs_ks {H : Hp} : ∀ {xs : List V} {ps : List (Nat × Nat)}, PrAll H xs ps → ∃ ks : List (Addr × List Int), xs = ks.map (fun q => V.ref q.1) ∧ (∀ q ∈ ks, H q.1 = some (.tup (q.2.map V.int))) ∧ ks.map (·.2) = ps.map prI
  | _, _, .nil => ⟨[], rfl, (fun q h => nomatch h), rfl⟩
  | _, p :: _, .cons ⟨t, e, ht⟩ r => by
    obtain ⟨ks, e1, e2, e3⟩ := prs_ks r
    refine ⟨(t, prI p) :: ks, by rw [e, e1]; rfl, fun q hq => ?_, by rw [List.map_cons, List.map_cons, e3]⟩
    rcases List.mem_cons.mp hq with rfl | hq
    · exact ht
    · exact e2 q hq
theorem ks_prs {H : Hp} : ∀ {ks : List (Addr × List Int)}, (∀ q ∈ ks, H q.1 = some (.tup (q.2.map V.int)) ∧ ∃ p, q.2 = prI p) → PrAll H (ks.map fun q => V.ref q.1) (ks.map fun q => natP q.2)
  | [], _ => .nil
  | q :: ks, h => by
    obtain ⟨h1, p, h2⟩ := h q List.mem_cons_self
    refine .cons ⟨q.1, rfl, ?_⟩ (ks_prs fun x hx => h x (List.mem_cons_of_mem _ hx))
    show _ = some (HO.tup [V.int ((natP q.2).1 : Nat), V.int ((natP q.2).2 : Nat)])
    rw [h1, h2, natP_prI]
    rfl
theorem bd_pair {p : Nat × Nat} (h1 : p.1 < 64) (h2 : p.2 < 64) : TS.Bd 64 (prI p) := by
  intro x hx
  unfold prI at hx
  simp only [List.mem_cons, List.not_mem_nil, or_false] at hx
  omega
section
variable {P : Program} {w : World} {K : PySem.W.Frag} {mg : Str → Option Value} {base : Heap} {C : Addr}
/-- sorted(set(xs)) -/
theorem sorted_set {H : Hp} {t : Addr} {xs : List V} {ps : List (Nat × Nat)} {n : Nat} {r : Rl} {Q : VK} (ht : H t = some (.lst xs)) (pa : PrAll H xs ps) (h64 : ps.length < 64) (n64 : n ≤ 64)
    (mem : ∀ a b, (a, b) ∈ ps ↔ a < n ∧ b < n ∧ r a b) (q : ∀ p H' ys, H p = none → Same H H' → H' p = some (.lst ys) → PrAll H' ys (canon n r) → Q (.ref p) H') :
    rSetOfT K P w [.ref t] H (fun v H1 => rSortedT K P w [v] H1 Q) := by
  obtain ⟨ks, e1, e2, e3⟩ := prs_ks pa
  have hk : ∀ q ∈ ks, ∃ p ∈ ps, q.2 = prI p := fun q hq => by
    have : q.2 ∈ ps.map prI := by
      rw [← e3]
      exact List.mem_map.mpr ⟨q, hq, rfl⟩
    obtain ⟨p, hp, e⟩ := List.mem_map.mp this
    exact ⟨p, hp, e.symm⟩
  have bd : ∀ p ∈ ps, p.1 < 64 ∧ p.2 < 64 := fun p hp => by
    have := (mem p.1 p.2).mp hp
    omega
  have kl : ks.length = ps.length := by
    have := congrArg List.length e3
    simpa using this
  subst e1
  refine ⟨t, ks, rfl, .inl (.inl ht), fun p hp => .inl (.inl (e2 p hp)), by omega, fun a L ha sub all => ?_⟩
  have sa := same_upd (o := SetTO P w a L) ha
  refine ⟨a, L, 2, 64, rfl, upd_same, fun p hp => .inl (.inl (sa _ _ (e2 p (sub p hp)))), by decide, fun q hq => ?_, fun L' p pm nd l64 pw hp => ?_⟩
  · obtain ⟨p, hp, e⟩ := hk q (sub q hq)
    rw [e]
    exact ⟨rfl, bd_pair (bd p hp).1 (bd p hp).2⟩
  · have sp := same_upd (o := .lst (L'.map fun q => V.ref q.1)) hp
    have inL : ∀ q ∈ L', ∃ p ∈ ps, q.2 = prI p := fun q hq => hk q (sub q (pm.mem_iff.mp hq))
    have pa' : PrAll (upd (upd H a (SetTO P w a L)) p (.lst (L'.map fun q => V.ref q.1))) (L'.map fun q => V.ref q.1) (L'.map fun q => natP q.2) :=
      ks_prs fun q hq => ⟨sp _ _ (sa _ _ (e2 q (sub q (pm.mem_iff.mp hq)))), let ⟨p, _, e⟩ := inL q hq; ⟨p, e⟩⟩
    have ec : L'.map (fun q => natP q.2) = canon n r := by
      refine canon_of n64 ?_ fun a b => ?_
      · rw [List.pairwise_map]
        have nd' := List.pairwise_map.mp nd
        refine List.Pairwise.imp_of_mem (fun {x y} hx hy hh => ?_) (pw.and nd')
        obtain ⟨p1, _, f1⟩ := inL x hx
        obtain ⟨p2, _, f2⟩ := inL y hy
        obtain ⟨h1, h2⟩ := hh
        rw [f1, f2] at h1 h2
        rw [prI_code, prI_code] at h1
        rw [f1, f2, natP_prI, natP_prI]
        have b1 := bd p1 ‹_›
        have b2 := bd p2 ‹_›
        have ne : cN p1 ≠ cN p2 := fun e => h2 (by
          unfold cN at e
          have : p1 = p2 := Prod.ext (by omega) (by omega)
          rw [this])
        omega
      · rw [← mem a b, List.mem_map]
        constructor
        · rintro ⟨q, hq, e⟩
          obtain ⟨p, hp, f⟩ := inL q hq
          rw [f, natP_prI] at e
          rw [← e]
          exact hp
        · intro hab
          have : prI (a, b) ∈ ks.map (·.2) := by
            rw [e3]
            exact List.mem_map.mpr ⟨_, hab, rfl⟩
          obtain ⟨q, hq, e⟩ := List.mem_map.mp this
          obtain ⟨q', hq', e'⟩ := List.mem_map.mp (all q hq)
          refine ⟨q', pm.mem_iff.mpr hq', ?_⟩
          have : q'.2 = prI (a, b) := e'.trans e
          rw [this, natP_prI]
    rw [ec] at pa'
    exact q p _ _ (sa.free hp) (sa.trans sp) upd_same pa'
theorem perm_of {α β : Type} {R : α → β → Prop} {ys xs : List α} (h : ys.Perm xs) : ∀ {ps : List β}, Paired R xs ps → ∃ qs, Paired R ys qs ∧ qs.Perm ps := by
  induction h with
  | nil => exact fun {ps} h => ⟨ps, h, .refl _⟩
  | cons x _ ih =>
    rintro _ (_ | ⟨r, t⟩)
    obtain ⟨qs, h1, h2⟩ := ih t
    exact ⟨_ :: qs, .cons r h1, h2.cons _⟩
  | swap x y l =>
    rintro _ (_ | ⟨r, _ | ⟨s, t⟩⟩)
    exact ⟨_, .cons s (.cons r t), .swap _ _ _⟩
  | trans _ _ i1 i2 =>
    intro ps h
    obtain ⟨qs, h1, h2⟩ := i2 h
    obtain ⟨rs, h3, h4⟩ := i1 h1
    exact ⟨rs, h3, h4.trans h2⟩
theorem paired_mem {α β : Type} {R : α → β → Prop} : ∀ {xs : List α} {ys : List β}, Paired R xs ys → ∀ y ∈ ys, ∃ x ∈ xs, R x y
  | _, _, .cons r t, y, hy => by
    rcases List.mem_cons.mp hy with rfl | hy
    · exact ⟨_, List.mem_cons_self, r⟩
    · obtain ⟨x, hx, h⟩ := paired_mem t y hy
      exact ⟨x, List.mem_cons_of_mem _ hx, h⟩
theorem paired_memL {α β : Type} {R : α → β → Prop} : ∀ {xs : List α} {ys : List β}, Paired R xs ys → ∀ x ∈ xs, ∃ y ∈ ys, R x y
  | _, _, .cons r t, y, hy => by
    rcases List.mem_cons.mp hy with rfl | hy
    · exact ⟨_, List.mem_cons_self, r⟩
    · obtain ⟨x, hx, h⟩ := paired_memL t y hy
      exact ⟨x, List.mem_cons_of_mem _ hx, h⟩
theorem pw_of {α β : Type} {R : α → β → Prop} {S : α → α → Prop} {T : β → β → Prop} (st : ∀ x y a b, S x y → R x a → R y b → T a b) : ∀ {xs : List α} {ys : List β}, Paired R xs ys → xs.Pairwise S → ys.Pairwise T
  | _, _, .nil, _ => .nil
  | _, _, .cons r t, h => by
    obtain ⟨h1, h2⟩ := List.pairwise_cons.mp h
    refine List.pairwise_cons.mpr ⟨fun b hb => ?_, pw_of st t h2⟩
    obtain ⟨y, hy, ry⟩ := paired_mem t b hb
    exact st _ _ _ _ (h1 y hy) r ry
theorem PrAt.tupI {H : Hp} {v : V} {p : Nat × Nat} (h : PrAt H v p) : TupI K H v (prI p) := let ⟨t, e, q⟩ := h; ⟨t, e, .inl (.inl q)⟩
/-- sorted(xs) -/
theorem sorted_prs {H : Hp} {t : Addr} {xs : List V} {ps : List (Nat × Nat)} {n : Nat} {r : Rl} {Q : VK} (ht : H t = some (.lst xs)) (pa : PrAll H xs ps) (h64 : ps.length < 64) (n64 : n ≤ 64) (nd : ps.Nodup)
    (mem : ∀ a b, (a, b) ∈ ps ↔ a < n ∧ b < n ∧ r a b) (q : ∀ p H' ys, H p = none → Same H H' → H' p = some (.lst ys) → PrAll H' ys (canon n r) → Q (.ref p) H') :
    rSortU K 2 64 [.ref t] H Q := by
  have bd : ∀ p ∈ ps, p.1 < 64 ∧ p.2 < 64 := fun p hp => by
    have := (mem p.1 p.2).mp hp
    omega
  refine ⟨t, xs, rfl, .inl (.inl ht), by rw [Paired.length pa]; exact h64, fun x hx => ?_, fun ys p pm pw hp => ?_⟩
  · obtain ⟨y, hy, h⟩ := paired_memL pa x hx
    exact ⟨prI y, h.tupI, rfl, bd_pair (bd y hy).1 (bd y hy).2⟩
  · obtain ⟨qs, h1, h2⟩ := perm_of pm pa
    have le : qs.Pairwise (fun a b => cN a ≤ cN b) := pw_of (R := PrAt H) (fun x y a b s ra rb => by
      have := s _ _ ra.tupI rb.tupI
      rw [prI_code, prI_code] at this
      omega) h1 pw
    have ec : qs = canon n r := by
      refine canon_of n64 ?_ fun a b => (h2.mem_iff).trans (mem a b)
      refine List.Pairwise.imp_of_mem (fun {x y} hx hy hh => ?_) (le.and (h2.nodup_iff.mpr nd))
      have b1 := bd x (h2.mem_iff.mp hx)
      have b2 := bd y (h2.mem_iff.mp hy)
      have ne : cN x ≠ cN y := fun e => hh.2 (by
        unfold cN at e
        exact Prod.ext (by omega) (by omega))
      have := hh.1
      omega
    have s := same_upd (o := .lst ys) hp
    rw [ec] at h1
    exact q p _ ys hp s upd_same (PrAll.same s h1)
end
end L2.K71
end

section
set_option Elab.async false
set_option linter.all false
set_option maxRecDepth 100000
set_option maxHeartbeats 4000000
namespace L2.K71
open PySem PySem.Spec PyProof.Rows L2.Gd L2.Lv
theorem pD_in (p : Nat × Nat) (ps : List (Nat × Nat)) : (ps.map pD).any (fun z => PyData.eqv z (pD p)) = decide (p ∈ ps) := by
  rw [List.any_map, Bool.eq_iff_iff, List.any_eq_true, decide_eq_true_eq]
  have e : ∀ q : Nat × Nat, PyData.eqv (pD q) (pD p) = decide (q = p) := fun q => by
    have := pD_eqv [q] [p]
    simp only [List.map_cons, List.map_nil, PyData.eqvAll, Bool.and_true] at this
    rw [this]
    simp
  constructor
  · rintro ⟨q, hq, h⟩
    have h : PyData.eqv (pD q) (pD p) = true := h
    rw [e, decide_eq_true_eq] at h
    exact h ▸ hq
  · intro h
    exact ⟨p, h, by show PyData.eqv (pD p) (pD p) = true; rw [e]; exact decide_eq_true rfl⟩
theorem pD_shaped1 (p : Nat × Nat) : SeqAt.shaped (pD p) = true := by
  show (PyData.canLay0 (pD p) && decide (PyData.depth (pD p) ≤ 64)) = true
  simp [pD, PyData.canLay0, PyData.canLayAll0, PyData.depth, PyData.depthAll]
section
variable {P : Program} {w : World} {K : PySem.W.Frag} {mg : Str → Option Value} {base : Heap} {C : Addr}
theorem in_prs {H : Hp} {t e : Addr} {xs : List V} {ps : List (Nat × Nat)} {a b : Nat} {Q : VK} (ht : H t = some (.tup [.int (a : Nat), .int (b : Nat)])) (he : H e = some (.lst xs)) (pa : PrAll H xs ps) (q : Q (.bl (decide ((a, b) ∈ ps))) H) :
    rInD K (.ref t) (.ref e) H Q :=
  ⟨pD (a, b), ps.map pD, .tup (.inl (.inl ht)) (.cons (.int _) (.cons (.int _) .nil)), .lst (.inl (.inl he)) pa.dps, pD_shaped1 _, pD_shaped _, by rw [pD_in]; exact q⟩
theorem notin_prs {H : Hp} {t e : Addr} {xs : List V} {ps : List (Nat × Nat)} {a b : Nat} {Q : VK} (ht : H t = some (.tup [.int (a : Nat), .int (b : Nat)])) (he : H e = some (.lst xs)) (pa : PrAll H xs ps) (q : Q (.bl (!decide ((a, b) ∈ ps))) H) :
    rNotInD K (.ref t) (.ref e) H Q :=
  ⟨pD (a, b), ps.map pD, .tup (.inl (.inl ht)) (.cons (.int _) (.cons (.int _) .nil)), .lst (.inl (.inl he)) pa.dps, pD_shaped1 _, pD_shaped _, by rw [pD_in]; exact q⟩
/-! ### climbs and drops of the walked level -/
theorem getElem_mapR {α : Type} (f : Nat → α) {n i : Nat} (h : i < n) : ((List.range n).map f)[i]? = some (f i) := by
  rw [List.getElem?_map, List.getElem?_range h]
  rfl
theorem atI_take1 {α : Type} {xs : List α} {j : Nat} {v : α} (h : xs[j]? = some v) : atI (xs.take (j + 1)) (-1) = some v := by
  rw [List.take_succ, h]
  exact atI_last _ _
theorem atI_last2 {α : Type} (xs : List α) (v u : α) : atI (xs ++ [v, u]) (-2) = some v := by
  unfold atI
  have e : ixN (xs ++ [v, u]).length (-2) = some xs.length := by
    unfold ixN
    rw [List.length_append]
    rw [if_neg (by decide), if_pos (by show -((xs.length + 2 : Nat) : Int) ≤ -2; omega)]
    congr 1
    show (-2 + ((xs.length + 2 : Nat) : Int)).toNat = _
    omega
  rw [e]
  simp
theorem atI_take2 {α : Type} {xs : List α} {j : Nat} {v u : α} (h : xs[j]? = some v) (k : xs[j + 1]? = some u) : atI (xs.take (j + 2)) (-2) = some v := by
  rw [List.take_succ, k, List.take_succ, h, List.append_assoc]
  exact atI_last2 _ _ _
theorem dropLast_take {α : Type} {xs : List α} {j : Nat} {v : α} (h : xs[j]? = some v) : (xs.take (j + 1)).dropLast = xs.take j := by
  rw [List.take_succ, h]
  exact List.dropLast_concat
end
end L2.K71
end

section
set_option Elab.async false
set_option linter.all false
set_option maxRecDepth 100000
set_option maxHeartbeats 4000000
namespace L2.K71
open PySem PySem.Spec PyProof.Rows L2.Gd L2.Lv
/-! ### what is told of deeds fits -/
theorem small_tab : ∀ k : Fin 70, (PyData.int ((k.val : Int) - 1)).intsShort 13 = true ∧ (PyData.int ((k.val : Int) - 1)).showable = true ∧ (PyData.int ((k.val : Int) - 1)).weight ≤ 8 := by
  decide +kernel
theorem small_int {i : Int} (h1 : -1 ≤ i) (h2 : i ≤ 68) : (PyData.int i).intsShort 13 = true ∧ (PyData.int i).showable = true ∧ (PyData.int i).weight ≤ 8 := by
  have e : (((i + 1).toNat : Nat) : Int) - 1 = i := by omega
  have := small_tab ⟨(i + 1).toNat, by omega⟩
  rw [show (((⟨(i + 1).toNat, by omega⟩ : Fin 70)).val : Int) - 1 = i from e] at this
  exact this
/-- plain data that is small: at most n in weight -/
structure Sml (d : PyData) (n : Nat) : Prop where
  lay : d.canLay0 = true
  sh : d.showable = true
  hd : d.hasDict = false
  is : d.intsShort 13 = true
  we : d.weight ≤ n
structure SmlAll (ds : List PyData) (n : Nat) : Prop where
  lay : PyData.canLayAll0 ds = true
  sh : PyData.showableAll ds = true
  hd : PyData.hasDictAll ds = false
  is : PyData.intsShortAll 13 ds = true
  we : PyData.weightAll ds ≤ n
theorem SmlAll.nil : SmlAll [] 0 := ⟨by simp [PyData.canLayAll0], by simp [PyData.showableAll], by simp [PyData.hasDictAll], by simp [PyData.intsShortAll], by simp [PyData.weightAll]⟩
theorem SmlAll.cons {d : PyData} {ds : List PyData} {n m : Nat} (a : Sml d n) (b : SmlAll ds m) : SmlAll (d :: ds) (n + 1 + m) :=
  ⟨by simp [PyData.canLayAll0, a.lay, b.lay], by simp [PyData.showableAll, a.sh, b.sh], by simp [PyData.hasDictAll, a.hd, b.hd], by simp [PyData.intsShortAll, a.is, b.is],
    by simp only [PyData.weightAll]; have := a.we; have := b.we; omega⟩
theorem SmlAll.tup {ds : List PyData} {n : Nat} (a : SmlAll ds n) : Sml (.tuple ds) n :=
  ⟨by simp only [PyData.canLay0, a.lay], by simp only [PyData.showable, a.sh], by simp only [PyData.hasDict, a.hd], by simp only [PyData.intsShort, a.is], by simp only [PyData.weight]; exact a.we⟩
theorem SmlAll.lst {ds : List PyData} {n : Nat} (a : SmlAll ds n) : Sml (.list ds) n :=
  ⟨by simp only [PyData.canLay0, a.lay], by simp only [PyData.showable, a.sh], by simp only [PyData.hasDict, a.hd], by simp only [PyData.intsShort, a.is], by simp only [PyData.weight]; exact a.we⟩
theorem Sml.int {i : Int} (h1 : -1 ≤ i) (h2 : i ≤ 68) : Sml (.int i) 8 :=
  let ⟨a, b, c⟩ := small_int h1 h2
  ⟨by simp [PyData.canLay0], b, by simp [PyData.hasDict], a, c⟩
theorem Sml.bool (b : Bool) : Sml (.bool b) 0 := ⟨by simp [PyData.canLay0], by simp [PyData.showable], by simp [PyData.hasDict], by simp [PyData.intsShort], by simp [PyData.weight]⟩
theorem Sml.short {d : PyData} {n : Nat} (a : Sml d n) (hn : n ≤ 100000) (hd : d.depth ≤ 20) : d.shown.length ≤ 15728653 := by
  have l : PyData.layable0 d = true := by
    show (PyData.canLay0 d && decide (PyData.depth d ≤ 64) && decide (PyData.weight d ≤ 2 ^ 20)) = true
    rw [a.lay, decide_eq_true (by omega : d.depth ≤ 64), decide_eq_true]
    · rfl
    · have := a.we
      have e : (2 : Nat) ^ 20 = 1048576 := by decide
      omega
  exact shown_le13 l a.is
theorem Sml.showy {d : PyData} {n : Nat} (a : Sml d n) (hn : n ≤ 100000) (hd : d.depth ≤ 20) : Showy d := by
  refine ⟨a.sh, a.hd, hd, ?_⟩
  have := a.short hn hd
  rw [sizeLine_eq]
  omega
/-! ### a def called by keywords alone -/
section
variable {X : Cx} {CX : CXT} {k n : Nat} {f : Addr} {fd : FuncData} {ps ks : List Str} {sp : Sp} {E : XK} {x : Str} {p pos : Pos} {kws : List Keyword} {tk : TA} {g : List Value → List Value → List Value} {gV : List V → List V → List V}
theorem pe_callN0 (F : FnOk X.prog X.w X.K X.mg X.base CX k f fd ps sp) (hr : Room k X.A) (hg : Gl X x) (hm : X.mg x = some (.ref f)) (hk : PySem.W.keepIn X.K (.ref f) = true) (hb : KBn X.K fd ps 0 ks g gV) (hx : Passes CX X E)
    (hkw : PK X kws tk) (hall : (backToKw pos (keywordEach kws X.env)).all (·.1.isSome) = true := by rfl) (hks : (backToKw pos (keywordEach kws X.env)).filterMap (·.1) = ks := by rfl)
    (hdb : (x == ("__debug__" : Str)) = false := by decide)
    (hpl : ((backTo pos (starEach [] X.env)).any (·.1) || (backToKw pos (keywordEach kws X.env)).any (·.1.isNone)) = false := by rfl) :
    PE X (.Call (.Name x p) [] kws pos) (tCallN 0 ks.length sp gV E tNil tk) := by
  refine ⟨fun pins s σ H Q I h => ?_⟩
  refine wpAny_Call_Name_kw (ld_glob I hg hm ?_ hdb)
  refine PySem.W.callWith_KW0 (h₀ := X.base) I.ok.mod.kin hk hall ?_ hpl
  refine thn (hkw.run pos pins s σ H _ I h) fun ws s2 ⟨zs, H2, I2, rz, l1, l2, q2⟩ => ⟨I2.kIn, ?_⟩
  rw [hks]
  exact run_fnN (us := []) (vs := []) F hr hb hx I2 .nil rz l1 l2 q2
end
/-- a def called by its name, where nothing is being shown -/
structure FnGd (P : Program) (w : World) (K : PySem.W.Frag) (mg : Str → Option Value) (base : Heap) (k : Nat) (x : Str) (ps : List Str) (sp : Sp) : Prop where
  ex : ∃ f fd, mg x = some (.ref f) ∧ PySem.W.keepIn K (.ref f) = true ∧ Binds K fd ps [] ∧ FnG P w K mg base k f fd ps sp
theorem pe_fnG {X : Cx} {k : Nat} {x : Str} {ps : List Str} {sp : Sp} {e : Expr} {es : List Expr} {t : TA} {p pos : Pos}
    (F : FnGd X.prog X.w X.K X.mg X.base k x ps sp) (hg : X.A.guards = some []) (hr : Room k X.A) (ha : PA X (e :: es) t) (gl : Gl X x := by rfl) (hdb : (x == ("__debug__" : Str)) = false := by decide)
    (he : starEach (e :: es) X.env = (false, eval e X.env) :: starEach es X.env := by rfl)
    (hpl : (backTo pos (starEach es X.env)).any (·.1) = false := by rfl) :
    PE X (.Call (.Name x p) (e :: es) [] pos) (tCall sp [] E0 t) := by
  obtain ⟨f, fd, m, kp, b, G⟩ := F.ex
  exact pe_callG G hg hr gl m kp b ha hdb he hpl

/-- a def of one parameter, called by its keyword -/
structure KFn (P : Program) (w : World) (K : PySem.W.Frag) (mg : Str → Option Value) (base : Heap) (k : Nat) (x y : Str) (sp : Sp) : Prop where
  ex : ∃ f fd, mg x = some (.ref f) ∧ PySem.W.keepIn K (.ref f) = true ∧ KBn K fd [y] 0 [y] (fun _ ws => ws) (fun _ zs => zs) ∧ FnOk P w K mg base CX0 k f fd [y] sp
theorem pe_kfn {X : Cx} {k : Nat} {x y : Str} {sp : Sp} {kws : List Keyword} {tk : TA} {p pos : Pos} (G : KFn X.prog X.w X.K X.mg X.base k x y sp) (hr : Room k X.A) (hkw : PK X kws tk)
    (hg : Gl X x := by rfl) (hdb : (x == ("__debug__" : Str)) = false := by decide) (hall : (backToKw pos (keywordEach kws X.env)).all (·.1.isSome) = true := by rfl) (hks : (backToKw pos (keywordEach kws X.env)).filterMap (·.1) = [y] := by rfl)
    (hpl : ((backTo pos (starEach [] X.env)).any (·.1) || (backToKw pos (keywordEach kws X.env)).any (·.1.isNone)) = false := by rfl) :
    PE X (.Call (.Name x p) [] kws pos) (tCallN 0 1 sp (fun _ zs => zs) E0 tNil tk) := by
  obtain ⟨f, fd, m, kp, b, F⟩ := G.ex
  exact pe_callN0 F hr hg m kp b pass0 hkw hall hks hdb hpl
/-! ### what levels, climbs and drops tell, as data -/
def dL (ps : List (Nat × Nat)) : PyData := .list (ps.map pD)
def dT (ls : List (List (Nat × Nat))) (c d : List (Nat × Nat)) : PyData := .list [.list (ls.map dL), dL c, dL d]
theorem SmlAll.mono {ds : List PyData} {n m : Nat} (a : SmlAll ds n) (h : n ≤ m) : SmlAll ds m := ⟨a.lay, a.sh, a.hd, a.is, Nat.le_trans a.we h⟩
theorem sm_prs : ∀ {ps : List (Nat × Nat)}, (∀ p ∈ ps, p.1 ≤ 16 ∧ p.2 ≤ 16) → SmlAll (ps.map pD) (19 * ps.length)
  | [], _ => .nil
  | p :: r, h => by
    obtain ⟨h1, h2⟩ := h p List.mem_cons_self
    have a := SmlAll.cons (SmlAll.cons (Sml.int (i := (p.1 : Int)) (by omega) (by omega)) (.cons (Sml.int (i := (p.2 : Int)) (by omega) (by omega)) .nil)).tup (sm_prs (ps := r) fun q hq => h q (List.mem_cons_of_mem _ hq))
    exact a.mono (by rw [List.length_cons]; omega)
theorem sm_canon {n : Nat} (n4 : n ≤ 4) (r : Rl) : Sml (dL (canon n r)) 304 := by
  have cl : (canon n r).length ≤ n * n := canon_len n r n
  have mm : n * n ≤ 4 * 4 := Nat.mul_le_mul n4 n4
  refine ((sm_prs fun p hp => ?_).mono (m := 304) (by omega)).lst
  have := mem_canon.mp (show (p.1, p.2) ∈ canon n r from hp)
  omega
theorem sm_all {ls : List (List (Nat × Nat))} : (∀ ps ∈ ls, Sml (dL ps) 304) → SmlAll (ls.map dL) (305 * ls.length) := by
  induction ls with
  | nil => exact fun _ => .nil
  | cons ps r ih =>
    intro h
    have a := SmlAll.cons (h ps List.mem_cons_self) (ih fun q hq => h q (List.mem_cons_of_mem _ hq))
    exact a.mono (by rw [List.length_cons]; omega)
theorem dL_dep (ps : List (Nat × Nat)) : (dL ps).depth ≤ 2 := by
  have := pD_dep ps
  unfold dL
  simp only [PyData.depth]
  omega
theorem dLs_dep : ∀ ls : List (List (Nat × Nat)), PyData.depthAll (ls.map dL) ≤ 2
  | [] => by simp [PyData.depthAll]
  | ps :: r => by
    have := dL_dep ps
    have := dLs_dep r
    simp only [List.map_cons, PyData.depthAll]
    omega
theorem dT_dep (ls : List (List (Nat × Nat))) (c d : List (Nat × Nat)) : (dT ls c d).depth ≤ 4 := by
  have := dLs_dep ls
  have := dL_dep c
  have := dL_dep d
  unfold dT
  simp only [PyData.depth, PyData.depthAll]
  omega
theorem dLs_lay : ∀ ls : List (List (Nat × Nat)), PyData.canLayAll0 (ls.map dL) = true
  | [] => by simp [PyData.canLayAll0]
  | ps :: r => by
    have := pD_lay ps
    simp [PyData.canLayAll0, PyData.canLay0, dL, dLs_lay r, this]
theorem dLs_shaped (ls : List (List (Nat × Nat))) : SeqAt.shaped (.list (ls.map dL)) = true := by
  show (PyData.canLay0 (.list (ls.map dL)) && decide (PyData.depth (.list (ls.map dL)) ≤ 64)) = true
  rw [Bool.and_eq_true]
  refine ⟨by simp only [PyData.canLay0]; exact dLs_lay ls, decide_eq_true ?_⟩
  have := dLs_dep ls
  simp only [PyData.depth]
  omega
theorem dT_shaped (ls : List (List (Nat × Nat))) (c d : List (Nat × Nat)) : SeqAt.shaped (dT ls c d) = true := by
  show (PyData.canLay0 (dT ls c d) && decide (PyData.depth (dT ls c d) ≤ 64)) = true
  rw [Bool.and_eq_true]
  refine ⟨?_, decide_eq_true ?_⟩
  · have h1 := dLs_lay ls
    have h2 := pD_lay c
    have h3 := pD_lay d
    simp [dT, dL, PyData.canLay0, PyData.canLayAll0, h2, h3]
    exact h1
  · have := dT_dep ls c d
    omega
theorem dLs_eqv : ∀ ls : List (List (Nat × Nat)), PyData.eqvAll (ls.map dL) (ls.map dL) = true
  | [] => by simp [PyData.eqvAll]
  | ps :: r => by
    have h1 : PyData.eqv (dL ps) (dL ps) = true := by
      unfold dL
      rw [pL_eqv]
      exact decide_eq_true rfl
    rw [List.map_cons, PyData.eqvAll, h1, dLs_eqv r]
    rfl
theorem dLs_eqv' (ls : List (List (Nat × Nat))) : PyData.eqv (.list (ls.map dL)) (.list (ls.map dL)) = true := by rw [PyData.eqv, dLs_eqv]
theorem dL_eqv (ps : List (Nat × Nat)) : PyData.eqv (dL ps) (dL ps) = true := by
  unfold dL
  rw [pL_eqv]
  exact decide_eq_true rfl
theorem dT_eqv (ls : List (List (Nat × Nat))) (c d : List (Nat × Nat)) : PyData.eqv (dT ls c d) (dT ls c d) = true := by
  unfold dT
  rw [PyData.eqv, PyData.eqvAll, PyData.eqvAll, PyData.eqvAll, dLs_eqv', dL_eqv, dL_eqv]
  simp [PyData.eqvAll]
theorem d2_eqv (c d : List (Nat × Nat)) : PyData.eqv (.list [dL c, dL d]) (.list [dL c, dL d]) = true := by
  rw [PyData.eqv, PyData.eqvAll, PyData.eqvAll, dL_eqv, dL_eqv]
  simp [PyData.eqvAll]
theorem d2_shaped (c d : List (Nat × Nat)) : SeqAt.shaped (.list [dL c, dL d]) = true := dLs_shaped [c, d]
theorem dT_showy {ls : List (List (Nat × Nat))} {c d : List (Nat × Nat)} (h : ∀ ps ∈ ls, Sml (dL ps) 304) (hc : Sml (dL c) 304) (hd : Sml (dL d) 304) (l : ls.length ≤ 17) : Showy (dT ls c d) := by
  have a := (SmlAll.cons (sm_all h).lst (.cons hc (.cons hd .nil))).lst
  exact Sml.showy a (by omega) (Nat.le_trans (dT_dep ls c d) (by decide))
theorem PlAll.same {p : Addr} {H H' : Hp} {vs : List V} {pss : List (List (Nat × Nat))} (s : Same H H') (h : PlAll p H vs pss) : PlAll p H' vs pss := Paired.mapP h fun _ _ ⟨a, zs, e, ne, q, pa⟩ => ⟨a, zs, e, ne, s _ _ q, pa.same s⟩
section
variable {K : PySem.W.Frag}
theorem PlAll.dps {p : Addr} {H : Hp} : ∀ {vs : List V} {pss : List (List (Nat × Nat))}, PlAll p H vs pss → DpAll K H vs (pss.map dL)
  | _, _, .nil => .nil
  | _, _, .cons ⟨a, zs, e, _, q, pa⟩ t => by
    subst e
    exact .cons (.lst (.inl (.inl q)) pa.dps) (PlAll.dps t)
end
theorem Dl_plain (ds : List Dd) : Dl (ds.filter isAny) = Dl ds := by
  funext c a b
  refine propext ⟨fun ⟨d, hd, z⟩ => ⟨d, (List.mem_filter.mp hd).1, z⟩, fun ⟨d, hd, h1, h2, h3, h4⟩ => ⟨d, List.mem_filter.mpr ⟨hd, (isAny_w d).mpr h4⟩, h1, h2, h3, h4⟩⟩
theorem stops_one {f : Nat → Rl} {m m' : Nat} (h : Stops f m) (g : ∀ j, j < m → ¬ Stops f j) (h' : Stops f m') (g' : ∀ j, j < m' → ¬ Stops f j) : m = m' := by
  rcases Nat.lt_trichotomy m m' with l | l | l
  · exact absurd h (g' m l)
  · exact l
  · exact absurd h' (g m' l)
end L2.K71
end

section
set_option Elab.async false
set_option linter.all false
set_option maxRecDepth 100000
set_option maxHeartbeats 4000000
namespace L2.K71
open PySem PySem.Spec PyProof.Rows L2.Gd L2.Lv
/-! ### the least roof -/
abbrev RzD (cap : Nat) (ds : List Dd) (s t : Nat × Nat) : Prop := Rz cap (Dl ds 1) (Dl ds 0) (Dl ds (-1)) (De ds 0) (De ds 1) s t
theorem ledz_iff {n : Nat} {ds : List Dd} (ok : ∀ d ∈ ds, d.Ok (n : Int)) {cap a s b e : Nat} (ha : a < n) (hb : b < n) (c0 : 1 + n * n ≤ cap) (c1 : s + n * n ≤ cap) (c2 : e + n * n ≤ cap) : RzD cap ds (a, s) (b, e) ↔ LedZ n ds (a, s) (b, e) :=
  rz_iff (Dl.inn ok 1) (Dl.inn ok 0) (Dl.inn ok (-1)) (De.inn ok 0) (De.inn ok 1) (s := (a, s)) (t := (b, e)) ha hb c0 c1 c2
/-- it leads under R -/
def RU (ds : List Dd) (a s b e R : Nat) : Prop := s ≤ R ∧ e ≤ R ∧ RzD R ds (a, s) (b, e)
theorem RU.mono {ds : List Dd} {a s b e R R' : Nat} (h : RU ds a s b e R) (l : R ≤ R') : RU ds a s b e R' := ⟨by have := h.1; omega, by have := h.2.1; omega, rz_mono l h.2.2⟩
section
variable {n : Nat} {ds : List Dd} {a s b e : Nat}
theorem RU.near (ok : ∀ d ∈ ds, d.Ok (n : Int)) (ha : a < n) (hb : b < n) {R : Nat} (h : RU ds a s b e R) : RU ds a s b e (max s e + (n * n - 1)) :=
  ⟨by omega, by omega, rz_least (Dl.inn ok 1) (Dl.inn ok 0) (Dl.inn ok (-1)) (De.inn ok 0) (De.inn ok 1) ha hb h.1 h.2.1 h.2.2⟩
theorem RU.led (ok : ∀ d ∈ ds, d.Ok (n : Int)) (ha : a < n) (hb : b < n) : (∃ R, RU ds a s b e R) ↔ LedZ n ds (a, s) (b, e) := by
  constructor
  · rintro ⟨R, h⟩
    exact (ledz_iff ok ha hb (cap := max R (1 + s + e + n * n)) (by omega) (by omega) (by omega)).mp (rz_mono (by omega) h.2.2)
  · intro h
    exact ⟨1 + s + e + n * n, by omega, by omega, (ledz_iff ok ha hb (by omega) (by omega) (by omega)).mpr h⟩
theorem RU.shaft (ok : ∀ d ∈ ds, d.Ok (n : Int)) (ha : a < n) (hb : b < n) {R : Nat} : (s ≤ R ∧ e ≤ R ∧ (LedU n (Dl ds 1) (Dl ds 0) (Dl ds (-1)) R a s b e ∨ LedE n (Dl ds 1) (Dl ds 0) (Dl ds (-1)) (De ds 0) (Or2 (Dl ds 1) (De ds 1)) R a s b e)) ↔ RU ds a s b e R :=
  ⟨fun ⟨h1, h2, h⟩ => ⟨h1, h2, (rzu_iff (Dl.inn ok 1) (Dl.inn ok 0) (Dl.inn ok (-1)) (De.inn ok 0) (De.inn ok 1) ha hb h1 h2).mpr h⟩, fun h => ⟨h.1, h.2.1, (rzu_iff (Dl.inn ok 1) (Dl.inn ok 0) (Dl.inn ok (-1)) (De.inn ok 0) (De.inn ok 1) ha hb h.1 h.2.1).mp h.2.2⟩⟩
end
/-- the least of them -/
def Lst (p : Nat → Prop) : Option Nat → Prop
  | none => ∀ R, ¬ p R
  | some R => p R ∧ ∀ R', R' < R → ¬ p R'
theorem Lst.uniq {p : Nat → Prop} {r q : Option Nat} (h : Lst p r) (k : Lst p q) : r = q := by
  cases r with
  | none =>
    cases q with
    | none => rfl
    | some y => exact absurd k.1 (h y)
  | some x =>
    cases q with
    | none => exact absurd h.1 (k x)
    | some y =>
      have h1 : ¬ y < x := fun z => h.2 y z k.1
      have h2 : ¬ x < y := fun z => k.2 x z h.1
      rw [show x = y by omega]
def P5 : List Str := ["house", "place", "start", "goal", "end"]
def spLow (C C2 : Addr) : Sp := fun vs H Q _ => ∃ (h l x : Addr) (a s b e n : Nat) (xs : List V) (ds : List Dd) (sd : SD), vs = [.ref h, .ref x, .int (a : Nat), .int (s : Nat), .int (b : Nat), .int (e : Nat)] ∧ HouseL C2 H h l n xs ds ∧ WF n ds ∧ a < n ∧ b < n ∧ s ≤ 1000000 ∧ e ≤ 1000000 ∧
  SS C H x n (Dl ds 1) (Dl ds 0) (Dl ds (-1)) (De ds 0) (Or2 (Dl ds 1) (De ds 1)) sd ∧ ∀ H' r, ButS sd H H' → Lst (RU ds a s b e) r → Q (oV r) H'
def NLow : List Str := ["house", "shaft", "place", "start", "goal", "end", "least", "most", "middle"]
theorem scLow : FnScope NLow ["house", "shaft", "place", "start", "goal", "end"] (defScope (top 45)) := ⟨rfl, rfl, rfl, by decide +kernel, rfl, by decide +kernel, by decide +kernel⟩
section
variable {P : Program} {w : World} {K : PySem.W.Frag} {mg : Str → Option Value} {base : Heap} {C CP C2 CS : Addr}
theorem ok_low {f : Addr} {fd : FuncData} (F : Fun K "lowest_roof" "lowest_roof" (top 45) f fd) (n : Nm mg) (MT : MkT P w K mg base C CP C2) (T : ClsI K mg C) (TS : ClsS K mg CS) (T2 : ClsT K mg C2) (PL : PrH P w K mg base C2 "places" (spPlaces C2))
    (TL : MeH P w K mg base C "leads" 8 ["self", "place", "start", "goal", "end"] (spTl C CP)) (LL : MeH P w K mg base CS "leads" 11 P6 (spLL CS)) : FnOk P w K mg base CX0 12 f fd ["house", "shaft", "place", "start", "goal", "end"] (spLow CS C2) := by
  refine F.ok scLow (fun vs H Q E h => ?_) (fun cdv A outer s H vs Q E hr h => ?_)
  · obtain ⟨h, l, x, a, s, b, e, n, xs, ds, sd, rfl, _⟩ := h
    rfl
  · obtain ⟨h, l, x, a, st, b, e, nn, xs, ds, sd, rfl, hh, wf, an, bn, s6, e6, ss, q⟩ := h
    have N := scLow.nd
    have r2 := hr.mono (k := 11) (j := 2) (by decide)
    have r8 := hr.mono (k := 11) (j := 8) (by decide)
    have r9 := hr.mono (k := 11) (j := 9) (by decide)
    have n16 : nn ≤ 16 := by have := wf.m16; omega
    have ok := wf.ok
    refine ⟨_, pss_cons (ps_if (pt_not (pt_val (pe_mP TL T.cl r8 (pe_til MT T r9 (pa_cons (pv 0) pa_nil)) (pa_cons (pv 2) (pa_cons (pv 3) (pa_cons (pv 4) (pa_cons (pv 5) pa_nil))))))) (pss_one (ps_ret pe_non)) pss_nil)
      (pss_cons (ps_set (i := 6) N rfl (.inl rfl) (pe_callB (call_max2 rfl) (by rfl) n.max (by decide +kernel) (pa_cons (pv 3) (pa_cons (pv 5) pa_nil))))
      (pss_cons (ps_set (i := 7) N rfl (.inl rfl) (pe_op op_add (pv 6) (pe_op op_mul (pe_prH PL T2 r2 (pv 0)) (pe_prH PL T2 r2 (pv 0)))))
      (pss_cons (ps_while PassesOwn.never (pt_cmpR op_lt (pv 6) (pv 7) (nomark _))
        (pss_cons (ps_set (i := 8) N rfl (.inl rfl) (pe_op op_fdiv (pe_op op_add (pv 6) (pv 7)) pe_int))
        (pss_one (ps_if (pt_val (pe_mP LL TS.cl hr (pv 1) (pa_cons (pv 2) (pa_cons (pv 3) (pa_cons (pv 4) (pa_cons (pv 5) (pa_cons (pv 8) pa_nil)))))))
          (pss_one (ps_set (i := 7) N rfl (.inl rfl) (pv 8))) (pss_one (ps_set (i := 6) N rfl (.inl rfl) (pe_op op_add (pv 8) pe_int)))))))
      (pss_one (ps_ret (pv 6)))))), ?_⟩
    refine seqV (Good := fun σ2 H2 => Same H H2 ∧ LedZ nn ds (a, st) (b, e) ∧ σ2 = [some (.ref h), some (.ref x), some (.int (a : Nat)), some (.int (st : Nat)), some (.int (b : Nat)), some (.int (e : Nat)), none, none, none]) ?_ ?_
    · intro nx hnx
      refine ⟨_, rfl, ?_⟩
      refine til_any (C2 := C2) hh wf (fun t H1 px g nd dr ot fr ldr lcb M gd tu gb lb tb lgd ltu lgb llb ltb nx s1 tl n1 n2 => ⟨rfl, ?_⟩)
      obtain ⟨dx, la, li, ho, hx⟩ := tl.ob
      refine ⟨t, dx, _, rfl, hx, fTi_leads .., _, rfl, _, rfl, _, rfl, _, rfl, t, a, st, b, e, px, nn, ds, g, nd, dr, ot, fr, ldr, lcb, M, gd, tu, gb, lb, tb, lgd, ltu, lgb, llb, ltb, rfl, an, bn, n16, wf.ok, tl, fun v H2 f2 hv => ⟨v, rfl, ?_⟩⟩
      have s2 : Same H H2 := fun c o z => f2 c o (ne_of_none z n1) (ne_of_none z n2) (s1 c o z)
      cases v with
      | false => exact iteT (q H2 none (Same.but3 s2) fun R hR => nomatch hv.mpr ((RU.led ok an bn).mp ⟨R, hR⟩))
      | true => exact iteF (hnx _ _ ⟨s2, hv.mp rfl, rfl⟩)
    rintro _ H2 ⟨s2, hv, rfl⟩
    obtain ⟨R0, hR0⟩ := (RU.led ok an bn).mpr hv
    have hN := (hR0.near ok an bn).mono (R' := max st e + nn * nn) (by omega)
    have ss2 := ss.same s2
    have hh2 := hh.same s2
    obtain ⟨dh, ob⟩ := hh2.ob
    refine seqV (Good := fun σ2 H3 => H2 = H3 ∧ σ2 = [some (.ref h), some (.ref x), some (.int (a : Nat)), some (.int (st : Nat)), some (.int (b : Nat)), some (.int (e : Nat)), some (.int ((max st e : Nat) : Int)), none, none]) ?_ ?_
    · intro nx hnx
      refine ⟨_, rfl, _, rfl, _, _, rfl, ?_⟩
      refine gn (hnx _ _ ⟨rfl, ?_⟩)
      have e1 : (if (e : Int) > st then (e : Int) else (st : Int)) = ((max st e : Nat) : Int) := by split <;> omega
      rw [← e1]
      rfl
    rintro _ _ ⟨rfl, rfl⟩
    refine seqV (Good := fun σ2 H3 => H2 = H3 ∧ σ2 = [some (.ref h), some (.ref x), some (.int (a : Nat)), some (.int (st : Nat)), some (.int (b : Nat)), some (.int (e : Nat)), some (.int ((max st e : Nat) : Int)), some (.int ((max st e + nn * nn : Nat) : Int)), none]) ?_ ?_
    · intro nx hnx
      refine ⟨_, rfl, _, rfl, h, dh, _, rfl, ob, h, dh, l, nn, rfl, ob, _, rfl, h, dh, _, rfl, ob, h, dh, l, nn, rfl, ob, _, _, rfl, rfl, .inl ⟨by omega, by omega⟩, _, _, rfl, rfl, ?_⟩
      refine gn (hnx _ _ ⟨rfl, ?_⟩)
      show _ = [some (V.ref h), some (V.ref x), some (V.int (a : Nat)), some (V.int (st : Nat)), some (V.int (b : Nat)), some (V.int (e : Nat)), some (V.int ((max st e : Nat) : Int)), some (V.int ((max st e + nn * nn : Nat) : Int)), none]
      rw [Int.natCast_add, Int.natCast_mul]
      rfl
    rintro _ _ ⟨rfl, rfl⟩
    refine ⟨fun μ σ H3 => ∃ (lo hi : Nat) (v8 : Option V), μ = hi - lo ∧ σ = [some (.ref h), some (.ref x), some (.int (a : Nat)), some (.int (st : Nat)), some (.int (b : Nat)), some (.int (e : Nat)), some (.int (lo : Nat)), some (.int (hi : Nat)), v8] ∧ ButS sd H H3 ∧ SS CS H3 x nn (Dl ds 1) (Dl ds 0) (Dl ds (-1)) (De ds 0) (Or2 (Dl ds 1) (De ds 1)) sd ∧ lo ≤ hi ∧ RU ds a st b e hi ∧ ∀ R, R < lo → ¬ RU ds a st b e R,
      ⟨_, _, _, none, rfl, rfl, Same.but3 s2, ss2, by omega, hN, fun R hR z => by have := z.1; have := z.2.1; omega⟩, ?_⟩
    clear ss ss2 hh hh2 ob s2
    rintro μ σ H3 ⟨lo, hi, v8, rfl, rfl, b3, ss3, lh, hup, hlo⟩
    refine ⟨_, rfl, _, rfl, _, _, rfl, rfl, decide ((lo : Int) < (hi : Int)), rfl, ?_⟩
    by_cases c : lo < hi
    · rw [decide_eq_true (by omega)]
      refine iteT ⟨_, fun σ' H' h => h, ?_⟩
      refine seqV (Good := fun σ2 H4 => H3 = H4 ∧ σ2 = [some (.ref h), some (.ref x), some (.int (a : Nat)), some (.int (st : Nat)), some (.int (b : Nat)), some (.int (e : Nat)), some (.int (lo : Nat)), some (.int (hi : Nat)), some (.int (((lo + hi) / 2 : Nat) : Int))]) ?_ ?_
      · intro nx hnx
        refine ⟨_, rfl, _, rfl, _, _, rfl, rfl, _, _, rfl, rfl, ⟨by decide, by decide⟩, ?_⟩
        refine gn (hnx _ _ ⟨rfl, ?_⟩)
        show _ = [some (V.ref h), some (V.ref x), some (V.int (a : Nat)), some (V.int (st : Nat)), some (V.int (b : Nat)), some (V.int (e : Nat)), some (V.int (lo : Nat)), some (V.int (hi : Nat)), some (V.int (((lo + hi) / 2 : Nat) : Int))]
        rw [show (((lo + hi) / 2 : Nat) : Int) = ((lo : Int) + (hi : Int)) / 2 by omega]
        rfl
      rintro _ _ ⟨rfl, rfl⟩
      obtain ⟨mi, hmi⟩ : ∃ mi, (lo + hi) / 2 = mi := ⟨_, rfl⟩
      have m1 : lo ≤ mi := by omega
      have m2 : mi < hi := by omega
      rw [hmi]
      clear hmi
      obtain ⟨dx, hx⟩ := ss3.ob
      refine ⟨_, rfl, x, dx, _, rfl, hx, fSh_mleads .., _, rfl, _, rfl, _, rfl, _, rfl, _, rfl, x, a, st, b, e, mi, nn, _, _, _, _, _, sd, rfl, ss3, an, bn, s6, e6, fun H4 v b4 ss4 hv => ⟨v, rfl, ?_⟩⟩
      have hv := hv.trans (RU.shaft ok an bn)
      cases v with
      | true => exact iteT ⟨_, rfl, gn ⟨_, by omega, lo, mi, _, rfl, rfl, b3.trans b4, ss4, m1, hv.mp rfl, hlo⟩⟩
      | false =>
        refine iteF ⟨_, rfl, _, _, rfl, rfl, gn ⟨_, ?_, mi + 1, hi, some (V.int (mi : Nat)), rfl, ?_, b3.trans b4, ss4, by omega, hup, fun R hR z => ?_⟩⟩
        · omega
        · show _ = [some (V.ref h), some (V.ref x), some (V.int (a : Nat)), some (V.int (st : Nat)), some (V.int (b : Nat)), some (V.int (e : Nat)), some (V.int ((mi + 1 : Nat) : Int)), some (V.int (hi : Nat)), some (V.int (mi : Nat))]
          rw [show ((mi + 1 : Nat) : Int) = (mi : Int) + 1 by omega]
          rfl
        · exact nomatch hv.mpr (z.mono (R' := mi) (by omega))
    · rw [decide_eq_false (by omega)]
      obtain rfl : lo = hi := by omega
      exact iteF ⟨_, rfl, q H3 (some lo) b3 ⟨hup, hlo⟩⟩
/-! ### leads_under, least_roof -/
def spLR (C2 : Addr) : Sp := fun vs H Q _ => ∃ (h l : Addr) (a s b e n : Nat) (xs : List V) (ds : List Dd), vs = [.ref h, .int (a : Nat), .int (s : Nat), .int (b : Nat), .int (e : Nat)] ∧ HouseL C2 H h l n xs ds ∧ WF n ds ∧ a < n ∧ b < n ∧ s ≤ 1000000 ∧ e ≤ 1000000 ∧
  ∀ H' r, Same H H' → Lst (RU ds a s b e) r → Q (oV r) H'
def spLU (C2 : Addr) : Sp := fun vs H Q _ => ∃ (h l : Addr) (a s b e R n : Nat) (xs : List V) (ds : List Dd), vs = [.ref h, .int (a : Nat), .int (s : Nat), .int (b : Nat), .int (e : Nat), .int (R : Nat)] ∧ HouseL C2 H h l n xs ds ∧ WF n ds ∧ a < n ∧ b < n ∧ s ≤ 1000000 ∧ e ≤ 1000000 ∧
  ∀ H' (v : Bool), Same H H' → (v = true ↔ RU ds a s b e R) → Q (.bl v) H'
theorem scLR : FnScope P5 P5 (defScope (top 46)) := ⟨rfl, rfl, rfl, by decide +kernel, rfl, by decide +kernel, by decide +kernel⟩
abbrev P7 : List Str := ["house", "place", "start", "goal", "end", "roof"]
theorem scLU : FnScope P7 P7 (defScope (top 44)) := ⟨rfl, rfl, rfl, by decide +kernel, rfl, by decide +kernel, by decide +kernel⟩
theorem ButS.all {sd : SD} {H H1 H2 : Hp} (s : Same H H1) (b : ButS sd H1 H2) (h1 : H sd.li = none) (h2 : H sd.fl = none) (h3 : H sd.wh = none) : Same H H2 :=
  fun t o e => b t o (ne_of_none e h1) (ne_of_none e h2) (ne_of_none e h3) (s t o e)
theorem ok_lrf {f : Addr} {fd : FuncData} (F : Fun K "least_roof" "least_roof" (top 46) f fd) (CSt : Fn P w K mg base 4 "check_stands" P5 (spCS C2)) (SF : Fn P w K mg base 4 "shaft_of" ["house"] (spSf CS C2))
    (LO : Fn P w K mg base 12 "lowest_roof" ["house", "shaft", "place", "start", "goal", "end"] (spLow CS C2)) : FnOk P w K mg base CX0 13 f fd P5 (spLR C2) := by
  refine F.ok scLR (fun vs H Q E h => ?_) (fun cdv A outer s H vs Q E hr h => ?_)
  · obtain ⟨h, l, a, s, b, e, n, xs, ds, rfl, _⟩ := h
    rfl
  · obtain ⟨h, l, a, st, b, e, n, xs, ds, rfl, hh, wf, an, bn, s6, e6, q⟩ := h
    have r4 := hr.mono (k := 12) (j := 4) (by decide)
    have n16 : n ≤ 16 := by have := wf.m16; omega
    have n1 : 1 ≤ n := by omega
    refine ⟨_, pss_cons (ps_expr (pe_fn CSt r4 (pa_cons (pv 0) (pa_cons (pv 1) (pa_cons (pv 2) (pa_cons (pv 3) (pa_cons (pv 4) pa_nil)))))))
      (pss_one (ps_ret (pe_fn LO hr (pa_cons (pv 0) (pa_cons (pe_fn SF r4 (pa_cons (pv 0) pa_nil)) (pa_cons (pv 1) (pa_cons (pv 2) (pa_cons (pv 3) (pa_cons (pv 4) pa_nil))))))))), ?_⟩
    refine ⟨_, rfl, _, rfl, _, rfl, _, rfl, _, rfl, h, l, n, a, st, b, e, xs, ds, rfl, hh, by omega, by omega, by omega, by omega, by omega, by omega, ?_⟩
    refine ⟨_, rfl, _, rfl, h, l, n, xs, ds, rfl, hh, wf, fun H1 x u f d la fu ldn li fl wh lu lf ld nx s1 sh z eld nli nfl nwh => ?_⟩
    obtain ⟨lla, lfu, z⟩ := z
    subst eld
    refine ⟨_, rfl, _, rfl, _, rfl, _, rfl, h, l, x, a, st, b, e, n, xs, ds, _, rfl, hh.same s1, wf, an, bn, s6, e6, SS.mk0 sh z n1 n16, fun H2 r b2 hr => ?_⟩
    exact q H2 r (ButS.all s1 b2 nli nfl nwh) hr
theorem ok_lun {f : Addr} {fd : FuncData} (F : Fun K "leads_under" "leads_under" (top 44) f fd) (TS : ClsS K mg CS) (CSt : Fn P w K mg base 4 "check_stands" P5 (spCS C2)) (CM : Fn P w K mg base 3 "check_many" ["many"] spCM) (SF : Fn P w K mg base 4 "shaft_of" ["house"] (spSf CS C2))
    (LL : MeH P w K mg base CS "leads" 11 P6 (spLL CS)) : FnOk P w K mg base CX0 12 f fd P7 (spLU C2) := by
  refine F.ok scLU (fun vs H Q E h => ?_) (fun cdv A outer s H vs Q E hr h => ?_)
  · obtain ⟨h, l, a, s, b, e, R, n, xs, ds, rfl, _⟩ := h
    rfl
  · obtain ⟨h, l, a, st, b, e, R, n, xs, ds, rfl, hh, wf, an, bn, s6, e6, q⟩ := h
    have r4 := hr.mono (k := 11) (j := 4) (by decide)
    have r3 := hr.mono (k := 11) (j := 3) (by decide)
    have n16 : n ≤ 16 := by have := wf.m16; omega
    have n1 : 1 ≤ n := by omega
    refine ⟨_, pss_cons (ps_expr (pe_fn CSt r4 (pa_cons (pv 0) (pa_cons (pv 1) (pa_cons (pv 2) (pa_cons (pv 3) (pa_cons (pv 4) pa_nil)))))))
      (pss_cons (ps_expr (pe_fn CM r3 (pa_cons (pv 5) pa_nil)))
      (pss_one (ps_ret (pe_mP LL TS.cl hr (pe_fn SF r4 (pa_cons (pv 0) pa_nil)) (pa_cons (pv 1) (pa_cons (pv 2) (pa_cons (pv 3) (pa_cons (pv 4) (pa_cons (pv 5) pa_nil))))))))), ?_⟩
    refine ⟨_, rfl, _, rfl, _, rfl, _, rfl, _, rfl, h, l, n, a, st, b, e, xs, ds, rfl, hh, by omega, by omega, by omega, by omega, by omega, by omega, ?_⟩
    refine ⟨_, rfl, R, rfl, by omega, ?_⟩
    refine ⟨_, rfl, h, l, n, xs, ds, rfl, hh, wf, fun H1 x u f d la fu ldn li fl wh lu lf ld nx s1 sh z eld nli nfl nwh => ?_⟩
    obtain ⟨lla, lfu, z⟩ := z
    subst eld
    obtain ⟨dx, hx⟩ := sh.ob
    refine ⟨x, dx, _, rfl, hx, fSh_mleads .., _, rfl, _, rfl, _, rfl, _, rfl, _, rfl, x, a, st, b, e, R, n, _, _, _, _, _, _, rfl, SS.mk0 sh z n1 n16, an, bn, s6, e6, fun H2 v b2 ss2 hv => ?_⟩
    exact q H2 v (ButS.all s1 b2 nli nfl nwh) (hv.trans (RU.shaft wf.ok an bn))
/-- least_roof(end=.., goal=.., start=.., place=.., house=..) -/
def prm5 {α : Type} : List α → List α
  | [e, b, s, a, h] => [h, a, s, b, e]
  | _ => []
theorem prm5_vals {zs : List V} {ws : List Value} (h : Vals zs ws) : Vals (prm5 zs) (prm5 ws) := by
  match zs, ws, h with
  | [], [], .nil => exact .nil
  | [_], [_], .cons _ .nil => exact .nil
  | [_, _], [_, _], .cons _ (.cons _ .nil) => exact .nil
  | [_, _, _], [_, _, _], .cons _ (.cons _ (.cons _ .nil)) => exact .nil
  | [_, _, _, _], [_, _, _, _], .cons _ (.cons _ (.cons _ (.cons _ .nil))) => exact .nil
  | [_, _, _, _, _], [_, _, _, _, _], .cons a (.cons b (.cons c (.cons d (.cons e .nil)))) => exact .cons e (.cons d (.cons c (.cons b (.cons a .nil))))
  | _ :: _ :: _ :: _ :: _ :: _ :: _, _ :: _ :: _ :: _ :: _ :: _ :: _, .cons _ (.cons _ (.cons _ (.cons _ (.cons _ (.cons _ _))))) => exact .nil
/-- leads_under(roof=.., end=.., goal=.., start=.., place=.., house=..) -/
def prm6 {α : Type} : List α → List α
  | [r, e, b, s, a, h] => [h, a, s, b, e, r]
  | _ => []
theorem prm6_vals {zs : List V} {ws : List Value} (h : Vals zs ws) : Vals (prm6 zs) (prm6 ws) := by
  match zs, ws, h with
  | [], [], .nil => exact .nil
  | [_], [_], .cons _ .nil => exact .nil
  | [_, _], [_, _], .cons _ (.cons _ .nil) => exact .nil
  | [_, _, _], [_, _, _], .cons _ (.cons _ (.cons _ .nil)) => exact .nil
  | [_, _, _, _], [_, _, _, _], .cons _ (.cons _ (.cons _ (.cons _ .nil))) => exact .nil
  | [_, _, _, _, _], [_, _, _, _, _], .cons _ (.cons _ (.cons _ (.cons _ (.cons _ .nil)))) => exact .nil
  | [_, _, _, _, _, _], [_, _, _, _, _, _], .cons a (.cons b (.cons c (.cons d (.cons e (.cons g .nil))))) => exact .cons g (.cons e (.cons d (.cons c (.cons b (.cons a .nil)))))
  | _ :: _ :: _ :: _ :: _ :: _ :: _ :: _, _ :: _ :: _ :: _ :: _ :: _ :: _ :: _, .cons _ (.cons _ (.cons _ (.cons _ (.cons _ (.cons _ (.cons _ _)))))) => exact .nil
abbrev Q5 : List Str := ["end", "goal", "start", "place", "house"]
abbrev Q6 : List Str := ["roof", "end", "goal", "start", "place", "house"]
structure KLR (P : Program) (w : World) (K : PySem.W.Frag) (mg : Str → Option Value) (base : Heap) (C2 : Addr) : Prop where
  ex : ∃ f fd, mg "least_roof" = some (.ref f) ∧ PySem.W.keepIn K (.ref f) = true ∧ KBn K fd ["house", "place", "start", "goal", "end"] 0 ["end", "goal", "start", "place", "house"] (fun _ ws => prm5 ws) (fun _ zs => prm5 zs) ∧ FnOk P w K mg base CX0 13 f fd ["house", "place", "start", "goal", "end"] (spLR C2)
theorem pe_kLR {X : Cx} {kws : List Keyword} {tk : TA} {p pos : Pos} {C2 : Addr} (G : KLR X.prog X.w X.K X.mg X.base C2) (hr : Room 13 X.A) (hkw : PK X kws tk)
    (hg : Gl X "least_roof" := by rfl) (hall : (backToKw pos (keywordEach kws X.env)).all (·.1.isSome) = true := by rfl) (hks : (backToKw pos (keywordEach kws X.env)).filterMap (·.1) = (["end", "goal", "start", "place", "house"] : List Str) := by rfl)
    (hpl : ((backTo pos (starEach [] X.env)).any (·.1) || (backToKw pos (keywordEach kws X.env)).any (·.1.isNone)) = false := by rfl) :
    PE X (.Call (.Name "least_roof" p) [] kws pos) (tCallN 0 5 (spLR C2) (fun _ zs => prm5 zs) E0 tNil tk) := by
  obtain ⟨f, fd, m, kp, b, F⟩ := G.ex
  exact pe_callN0 F hr hg m kp b pass0 hkw hall hks (by decide) hpl
structure KLU (P : Program) (w : World) (K : PySem.W.Frag) (mg : Str → Option Value) (base : Heap) (C2 : Addr) : Prop where
  ex : ∃ f fd, mg "leads_under" = some (.ref f) ∧ PySem.W.keepIn K (.ref f) = true ∧ KBn K fd ["house", "place", "start", "goal", "end", "roof"] 0 ["roof", "end", "goal", "start", "place", "house"] (fun _ ws => prm6 ws) (fun _ zs => prm6 zs) ∧ FnOk P w K mg base CX0 12 f fd ["house", "place", "start", "goal", "end", "roof"] (spLU C2)
theorem pe_kLU {X : Cx} {kws : List Keyword} {tk : TA} {p pos : Pos} {C2 : Addr} (G : KLU X.prog X.w X.K X.mg X.base C2) (hr : Room 12 X.A) (hkw : PK X kws tk)
    (hg : Gl X "leads_under" := by rfl) (hall : (backToKw pos (keywordEach kws X.env)).all (·.1.isSome) = true := by rfl) (hks : (backToKw pos (keywordEach kws X.env)).filterMap (·.1) = (["roof", "end", "goal", "start", "place", "house"] : List Str) := by rfl)
    (hpl : ((backTo pos (starEach [] X.env)).any (·.1) || (backToKw pos (keywordEach kws X.env)).any (·.1.isNone)) = false := by rfl) :
    PE X (.Call (.Name "leads_under" p) [] kws pos) (tCallN 0 6 (spLU C2) (fun _ zs => prm6 zs) E0 tNil tk) := by
  obtain ⟨f, fd, m, kp, b, F⟩ := G.ex
  exact pe_callN0 F hr hg m kp b pass0 hkw hall hks (by decide) hpl
end
end L2.K71
end

section
set_option Elab.async false
set_option linter.all false
set_option maxRecDepth 100000
set_option maxHeartbeats 4000000
namespace L2.K71
open PySem PySem.Spec PyProof.Rows L2.Gd L2.Lv
/-! ### the pot, drawn deeds -/
abbrev sPot : Stmt := top 56
def spPot (K : PySem.W.Frag) : Sp := fun vs H Q _ => ∃ (s : Addr) (k : Nat) (ns : List Int), vs = [.ref s, .int k] ∧ SqL K H s (ns.map V.int) ∧ (ns.length ≤ 100000) ∧
  ∀ p H', H p = none → Same H H' → PotAt H' p → Q (.ref p) H'
theorem scPot : FnScope ["_law_script", "_law_k", "_law_cell"] ["_law_script", "_law_k"] (defScope sPot) := ⟨rfl, rfl, rfl, by decide +kernel, rfl, by decide +kernel, by decide +kernel⟩
theorem pot_refs {H : Hp} {p b : Addr} {zs : List V} (hp : PotAt H p) (h : H b = some (.lst zs)) (hr : ∀ v ∈ zs, ∃ t, v = V.ref t) : b ≠ p := by
  rintro rfl
  obtain ⟨x, y, e, _⟩ := hp
  rw [h] at e
  have e : zs = [V.int x, V.int y] := HO.lst.inj (Option.some.inj e)
  obtain ⟨t, ht⟩ := hr (.int x) (by rw [e]; exact List.mem_cons_self)
  exact nomatch ht
theorem DdAll.refs {H : Hp} : ∀ {zs : List V} {ps : List Dd}, DdAll H zs ps → ∀ v ∈ zs, ∃ t, v = V.ref t
  | _, _, .nil, _, h => nomatch h
  | _, _, .cons ⟨t, e, _⟩ r, v, h => (List.mem_cons.mp h).elim (fun z => ⟨t, z.trans e⟩) (DdAll.refs r v)
theorem pot_free {H H' : Hp} {p l : Addr} (hp : PotAt H p) (hp' : PotAt H' p) (b : ButD p H H') (n : H' l = none) : H l = none := by
  by_cases e : l = p
  · subst e
    obtain ⟨x, y, e, _⟩ := hp'
    rw [n] at e
    exact nomatch e
  · cases h : H l with
    | none => rfl
    | some o =>
      have := b _ _ e h
      rw [n] at this
      exact nomatch this
section
variable {P : Program} {w : World} {K : PySem.W.Frag} {mg : Str → Option Value} {base : Heap} {C C2 : Addr}
theorem ok_pot {f : Addr} {fd : FuncData} (F : Fun K "_law_pot" "_law_pot" sPot f fd) (n : Nm mg) : FnOk P w K mg base CX0 1 f fd ["_law_script", "_law_k"] (spPot K) := by
  refine F.ok scPot (fun vs H Q E h => ?_) (fun cdv A outer s H vs Q E hr h => ?_)
  · obtain ⟨s, k, ns, rfl, _⟩ := h
    rfl
  · obtain ⟨s, k, ns, rfl, hs, hz, q⟩ := h
    have N := scPot.nd
    refine ⟨_, pss_cons (ps_set (i := 2) N rfl (.inl rfl) (pe_ifExp (pt_cmpR op_lt (pv 1) (pe_callB call_len_seq (by rfl) n.len PySem.boot_len (pa_cons (pv 0) pa_nil)) (nomark _))
          (pe_callB call_abs (by rfl) n.abs (by decide +kernel) (pa_cons (pe_ix ix_list (pv 0) (pv 1) (fun _ _ => rfl)) pa_nil)) (pe_op op_add (pe_op op_mul pe_int (pv 1)) pe_int)))
      (pss_one (ps_ret (pe_lst (pa_cons (pe_callB (call_max2 rfl) (by rfl) n.max (by decide +kernel) (pa_cons pe_int (pa_cons (pe_op op_sub (pv 2) (pe_op op_pow pe_int pe_int)) pa_nil)))
        (pa_cons (pe_op op_add (pe_op op_mod (pe_callTy call_int1 (by rfl) n.int (by decide +kernel) (pa_cons (pe_op op_add (pe_op op_add (pe_op op_mul (pe_op op_mod (pe_callTy call_int1 (by rfl) n.int (by decide +kernel) (pa_cons (pv 2) pa_nil)) pe_int) pe_int) (pe_op op_mul pe_int (pv 1))) pe_int) pa_nil)) pe_int) pe_int) pa_nil))))), ?_⟩
    refine seqV (Good := fun σ2 H2 => H = H2 ∧ ∃ c : Int, σ2 = [some (.ref s), some (.int (k : Nat)), some (.int c)]) ?_ ?_
    · intro nx hnx
      refine ⟨_, rfl, _, rfl, s, _, rfl, .inl hs, _, _, rfl, rfl, decide ((k : Int) < (ns.map V.int).length), rfl, ?_⟩
      rw [List.length_map]
      by_cases hk : k < ns.length
      · rw [decide_eq_true (by omega)]
        exact iteT ⟨_, rfl, _, rfl, s, _, _, _, rfl, rfl, hs, atI_nat (by rw [List.getElem?_map, List.getElem?_eq_getElem hk]; rfl), _, rfl, hnx _ _ ⟨rfl, _, rfl⟩⟩
      · rw [decide_eq_false (by omega)]
        exact iteF ⟨_, rfl, _, _, rfl, rfl, .inl (by decide), _, _, rfl, rfl, hnx _ _ ⟨rfl, _, rfl⟩⟩
    rintro _ _ ⟨rfl, c, rfl⟩
    refine ⟨_, rfl, _, _, rfl, rfl, ⟨by decide, by decide, by decide⟩, _, _, rfl, rfl, _, _, rfl, ?_⟩
    refine ⟨_, rfl, .inl ⟨_, rfl, _, _, rfl, rfl, (by show (0 : Int) < 2147483549; decide), _, _, rfl, rfl, .inr (by decide), _, rfl, _, _, rfl, rfl, .inl (by decide), _, _, rfl, rfl, _, _, rfl, rfl, .inl ⟨_, rfl, ?_⟩⟩⟩
    refine ⟨_, _, rfl, rfl, (by show (0 : Int) < 2147483563; decide), _, _, rfl, rfl, (by show 2 ≤ sizeLine; decide), fun p hp => ?_⟩
    refine q p _ hp (same_upd hp) ⟨_, _, upd_same, ?_, ?_, ?_⟩
    · split <;> omega
    · omega
    · omega
/-! ### one of some -/
def spPick : Sp := fun vs H Q _ => ∃ (p a : Addr) (xs : List V), vs = [.ref p, .ref a] ∧ PotAt H p ∧ H a = some (.lst xs) ∧ a ≠ p ∧ 0 < xs.length ∧ xs.length ≤ 1000 ∧ ∀ x H', x ∈ xs → PotAt H' p → ButD p H H' → Q x H'
theorem scPick : FnScope ["_law_pot_here", "_law_some"] ["_law_pot_here", "_law_some"] (defScope (top 58)) := ⟨rfl, rfl, rfl, by decide +kernel, rfl, by decide +kernel, by decide +kernel⟩
theorem ok_pick {f : Addr} {fd : FuncData} (F : Fun K "_law_pick" "_law_pick" (top 58) f fd) (n : Nm mg) (GD : Fn P w K mg base 1 "_law_draw" ["_law_pot_here", "_law_many"] spDraw) : FnOk P w K mg base CX0 2 f fd ["_law_pot_here", "_law_some"] spPick := by
  refine F.ok scPick (fun vs H Q E h => ?_) (fun cdv A outer s H vs Q E hr h => ?_)
  · obtain ⟨p, a, xs, rfl, _⟩ := h
    rfl
  · obtain ⟨p, a, xs, rfl, hp, ha, nap, x0, x1, q⟩ := h
    refine ⟨_, pss_one (ps_ret (pe_ix ix_list (pv 1) (pe_fn GD hr (pa_cons (pv 0) (pa_cons (pe_callB call_len_seq (by rfl) n.len PySem.boot_len (pa_cons (pv 1) pa_nil)) pa_nil))) (fun _ _ => rfl))), ?_⟩
    refine ⟨_, rfl, _, rfl, _, rfl, a, xs, rfl, .inl (.inl (.inl ha)), p, (xs.length : Int), rfl, hp, by omega, by omega, fun d H1 d0 d1 hp1 b1 => ?_⟩
    obtain ⟨k, rfl⟩ : ∃ k : Nat, d = k := ⟨d.toNat, by omega⟩
    have hk : k < xs.length := by omega
    exact ⟨a, xs, _, _, rfl, rfl, .inl (.inl (b1 _ _ nap ha)), atI_nat (List.getElem?_eq_getElem hk), q _ H1 (List.getElem_mem hk) hp1 b1⟩
/-! more deeds -/
def spMd : Sp := fun vs H Q _ => ∃ (p D : Addr) (ys : List V) (ds : List Dd) (m : Int) (k : Nat), vs = [.ref p, .int m, .ref D, .int (k : Nat), .bl false] ∧ PotAt H p ∧ H D = some (.lst ys) ∧ D ≠ p ∧ DdAll H ys ds ∧ (∀ d ∈ ds, d.Ok m) ∧ ds.Nodup ∧ ds.length ≤ 30 ∧ 1 ≤ m ∧ m ≤ 100 ∧ k ≤ 30 ∧
  ∀ l xs es H', H l = none → H' l = some (.lst xs) → PotAt H' p → ButD p H H' → DdAll H' xs es → (∀ d ∈ es, d.Ok m) → es.Nodup → es.length ≤ ds.length + k → Q (.ref l) H'
def NMd : List Str := ["_law_pot_here", "_law_places", "_law_deeds", "_law_many", "_law_is_plain", "_law_found", "_law_turn", "_law_change", "_law_is_empty", "_law_deed"]
theorem scMd : FnScope NMd ["_law_pot_here", "_law_places", "_law_deeds", "_law_many", "_law_is_plain"] (defScope (top 59)) := ⟨rfl, rfl, rfl, by decide +kernel, rfl, by decide +kernel, by decide +kernel⟩
theorem ok_md {f : Addr} {fd : FuncData} (F : Fun K "_law_more_deeds" "_law_more_deeds" (top 59) f fd) (n : Nm mg) (GD : Fn P w K mg base 1 "_law_draw" ["_law_pot_here", "_law_many"] spDraw) :
    FnOk P w K mg base CX0 2 f fd ["_law_pot_here", "_law_places", "_law_deeds", "_law_many", "_law_is_plain"] spMd := by
  refine F.ok scMd (fun vs H Q E h => ?_) (fun cdv A outer s H vs Q E hr h => ?_)
  · obtain ⟨p, D, ys, ds, m, k, rfl, _⟩ := h
    rfl
  · obtain ⟨p, D, ys, ds, m, k, rfl, hp, hD, nDp, dd, ok, nd, d30, m1, m100, k30, q⟩ := h
    have N := scMd.nd
    refine ⟨_, pss_cons (ps_set (i := 5) N rfl (.inl rfl) (pe_callTy call_list_of (by rfl) n.list (by decide +kernel) (pa_cons (pv 2) pa_nil)))
      (pss_cons (ps_for PassesOwn.never rfl (pi_range1 (by rfl) n.range (pa_cons (pv 3) pa_nil)) (pg_name (i := 6) N rfl (.inl rfl))
        (pss_cons (ps_set (i := 7) N rfl (.inl rfl) (pe_op op_sub (pe_fn GD hr (pa_cons (pv 0) (pa_cons pe_int pa_nil))) pe_int))
        (pss_cons (ps_set (i := 8) N rfl (.inl rfl) (pe_and (pe_not (pv 4)) (pe_and (pe_cmpR op_gt (pv 7) (pe_un un_neg pe_int) (nomark _)) (pe_one (pe_cmpR op_eq (pe_fn GD hr (pa_cons (pv 0) (pa_cons pe_int pa_nil))) pe_int (nomark _))))))
        (pss_cons (ps_set (i := 9) N rfl (.inl rfl) (pe_tup (pa_cons (pe_fn GD hr (pa_cons (pv 0) (pa_cons (pv 1) pa_nil))) (pa_cons (pv 7) (pa_cons (pe_fn GD hr (pa_cons (pv 0) (pa_cons (pv 1) pa_nil))) (pa_cons (pe_ifExp (pt_val (pv 8)) pe_str pe_str) pa_nil))))))
        (pss_one (ps_set (i := 5) N rfl (.inl rfl) (pe_ifExp (pt_cmpR (op_inD (hu65 hr)) (pv 9) (pv 5) (by rfl)) (pv 5) (pe_op op_cat (pv 5) (pe_lst (pa_cons (pv 9) pa_nil))))))))))
      (pss_one (ps_ret (pv 5)))), ?_⟩
    refine ⟨_, rfl, D, ys, rfl, .inl (.inl (.inl hD)), fun l hl => ?_⟩
    have sl := same_upd (o := .lst ys) hl
    refine ⟨_, rfl, k, rfl, by omega, by omega, for_range (lo := 0) (n := (k : Int).toNat) (fun i σ H2 => ∃ (l : Addr) (a6 a7 a8 a9 : Option V) (xs : List V) (es : List Dd),
      σ = [some (.ref p), some (.int m), some (.ref D), some (.int (k : Nat)), some (.bl false), some (.ref l), a6, a7, a8, a9] ∧ PotAt H2 p ∧ ButD p H H2 ∧ H l = none ∧ H2 l = some (.lst xs) ∧ DdAll H2 xs es ∧ (∀ d ∈ es, d.Ok m) ∧ es.Nodup ∧ es.length ≤ ds.length + i)
      ⟨l, none, none, none, none, ys, ds, rfl, hp.same sl, Same.but sl, hl, upd_same, dd.same sl, ok, nd, Nat.le_refl _⟩ ?_ ?_⟩
    · clear sl hl l
      rintro i σ H2 hi ⟨l, a6, a7, a8, a9, xs, es, rfl, hp2, b2, nl, hl2, dd2, ok2, nd2, len⟩
      refine gn ?_
      refine seqV (Good := fun σ2 H3 => ∃ ch : Int, -1 ≤ ch ∧ ch ≤ 1 ∧ PotAt H3 p ∧ ButD p H2 H3 ∧ σ2 = [some (.ref p), some (.int m), some (.ref D), some (.int (k : Nat)), some (.bl false), some (.ref l), some (.int (0 + (i : Int))), some (.int ch), a8, a9])
        (fun nx hnx => ⟨_, rfl, p, 3, rfl, hp2, by decide, by decide, fun d H3 d0 d3 hp3 b3 => ⟨_, _, rfl, rfl, hnx _ _ ⟨_, by omega, by omega, hp3, b3, rfl⟩⟩⟩) ?_
      rintro _ H3 ⟨ch, c1, c2, hp3, b3, rfl⟩
      refine seqV (Good := fun σ2 H4 => ∃ em : Bool, (em = true → -1 < ch) ∧ PotAt H4 p ∧ ButD p H2 H4 ∧ σ2 = [some (.ref p), some (.int m), some (.ref D), some (.int (k : Nat)), some (.bl false), some (.ref l), some (.int (0 + (i : Int))), some (.int ch), some (.bl em), a9]) ?_ ?_
      · intro nx hnx
        refine ⟨_, rfl, false, rfl, true, rfl, iteT ⟨_, rfl, 1, rfl, _, _, rfl, rfl, decide (ch > -1), rfl, ?_⟩⟩
        by_cases c : ch > -1
        · rw [decide_eq_true c]
          exact iteT ⟨_, rfl, p, 3, rfl, hp3, by decide, by decide, fun d H4 d0 d3 hp4 b4 => ⟨rfl, hnx _ _ ⟨_, fun _ => by omega, hp4, ButD.trans b3 b4, rfl⟩⟩⟩
        · rw [decide_eq_false c]
          exact iteF (hnx _ _ ⟨false, (fun z => nomatch z), hp3, b3, rfl⟩)
      rintro _ H4 ⟨em, hem, hp4, b4, rfl⟩
      refine seqV (Good := fun σ2 H5 => ∃ (t : Addr) (dn : Dd), dn.Ok m ∧ H5 t = some (.tup dn.vs) ∧ PotAt H5 p ∧ ButD p H2 H5 ∧ σ2 = [some (.ref p), some (.int m), some (.ref D), some (.int (k : Nat)), some (.bl false), some (.ref l), some (.int (0 + (i : Int))), some (.int ch), some (.bl em), some (.ref t)]) ?_ ?_
      · intro nx hnx
        refine ⟨_, rfl, _, rfl, p, m, rfl, hp4, m1, by omega, fun pl H5 pl0 pln hp5 b5 => ⟨_, rfl, _, rfl, _, rfl, p, m, rfl, hp5, m1, by omega, fun gl H6 gl0 gln hp6 b6 => ⟨_, rfl, em, rfl, ?_⟩⟩⟩
        have b6' : ButD p H2 H6 := ButD.trans b4 (ButD.trans b5 b6)
        cases em with
        | true =>
          refine iteT ⟨(by show 4 ≤ sizeLine; decide), fun t ht => ?_⟩
          have st := same_upd (o := .tup [.int pl, .int ch, .int gl, .str "empty"]) ht
          have := hem rfl
          exact hnx _ _ ⟨t, ⟨pl, ch, gl, "empty"⟩, ⟨pl0, pln, gl0, gln, .inr ⟨rfl, by show 0 ≤ ch; omega, c2⟩⟩, upd_same, hp6.same st, ButD.trans b6' (Same.but st), rfl⟩
        | false =>
          refine iteF ⟨(by show 4 ≤ sizeLine; decide), fun t ht => ?_⟩
          have st := same_upd (o := .tup [.int pl, .int ch, .int gl, .str "any"]) ht
          exact hnx _ _ ⟨t, ⟨pl, ch, gl, "any"⟩, ⟨pl0, pln, gl0, gln, .inl ⟨rfl, c1, c2⟩⟩, upd_same, hp6.same st, ButD.trans b6' (Same.but st), rfl⟩
      rintro _ H5 ⟨t, dn, okd, ht, hp5, b5, rfl⟩
      have nlp : l ≠ p := pot_refs hp2 hl2 dd2.refs
      have hl5 := b5 _ _ nlp hl2
      have dd5 := DdAll.pot hp2 b5 dd2
      refine ⟨_, rfl, _, rfl, dn.d, es.map Dd.d, DdAt.dp ⟨_, rfl, ht⟩, .lst (.inl (.inl hl5)) dd5.dps, Dd.shaped okd.wd, shapedL (fun x hx => (ok2 x hx).wd), _, rfl, ?_⟩
      rw [any_in]
      by_cases hin : dn ∈ es
      · rw [decide_eq_true hin]
        exact iteT ⟨_, rfl, l, _, _, _, _, xs, es, rfl, hp5, ButD.trans b2 b5, nl, hl5, dd5, ok2, nd2, by omega⟩
      · rw [decide_eq_false hin]
        have xl := Paired.length dd5
        refine iteF ⟨_, rfl, _, rfl, (by show 1 ≤ sizeLine; decide), fun e he => ?_⟩
        have se := same_upd (o := .lst [V.ref t]) he
        refine ⟨l, e, xs, [.ref t], rfl, rfl, se _ _ hl5, upd_same, by rw [sizeLine_eq]; show xs.length + 1 ≤ _; omega, fun u hu => ?_⟩
        have su := same_upd (o := .lst (xs ++ [V.ref t])) hu
        have s57 := se.trans su
        refine ⟨u, _, _, _, _, xs ++ [.ref t], es ++ [dn], rfl, hp5.same s57, ButD.trans b2 (ButD.trans b5 (Same.but s57)), pot_free hp hp5 (ButD.trans b2 b5) (se.free hu), upd_same, PySem.Paired.snoc (DdAll.same s57 dd5) ⟨t, rfl, s57 _ _ ht⟩, fun d hd => ?_, ?_, by rw [List.length_append]; show es.length + 1 ≤ _; omega⟩
        · rcases List.mem_append.mp hd with hd | hd
          · exact ok2 d hd
          · rw [List.mem_singleton.mp hd]
            exact okd
        · exact List.nodup_append.mpr ⟨nd2, List.pairwise_singleton _ _, fun a ha b hb z => by
            rw [List.mem_singleton.mp hb] at z
            exact hin (z ▸ ha)⟩
    · rintro σ H2 ⟨l, a6, a7, a8, a9, xs, es, rfl, hp2, b2, nl, hl2, dd2, ok2, nd2, len⟩
      exact ⟨_, rfl, q l xs es H2 nl hl2 hp2 b2 dd2 ok2 nd2 (by omega)⟩
end
end L2.K71
end

section
set_option Elab.async false
set_option linter.all false
set_option maxRecDepth 100000
set_option maxHeartbeats 4000000
namespace L2.K71
open PySem PySem.Spec PyProof.Rows L2.Gd L2.Lv
/-! ### a drawn house -/
theorem rgI_mem {lo e : Int} {n : Nat} : e ∈ rgI lo n ↔ lo ≤ e ∧ e < lo + n := by
  unfold rgI
  rw [List.mem_map]
  constructor
  · rintro ⟨i, hi, rfl⟩
    have := List.mem_range.mp hi
    omega
  · rintro ⟨h1, h2⟩
    exact ⟨(e - lo).toNat, List.mem_range.mpr (by omega), by omega⟩
theorem rgI_lt (lo : Int) (n : Nat) : (rgI lo n).Pairwise (· < ·) := by
  unfold rgI
  rw [List.pairwise_map]
  exact List.pairwise_lt_range.imp fun {a b} h => by omega
/-- a ring up, a ring down -/
def dU (u : Nat) (e : Int) : Dd := ⟨e, 1, (e + 1) % (u : Int), "any"⟩
def dV (u v : Nat) (e : Int) : Dd := ⟨(u : Int) + e, -1, (u : Int) + (e + 1) % (v : Int), "any"⟩
theorem ring_ok {u v : Nat} {d : Dd} {x : Int} (u1 : 1 ≤ u) (v1 : 1 ≤ v) (x0 : 0 ≤ x) (xu : x < u) (c1 : -1 ≤ d.c) (c2 : d.c ≤ 1) (hd : d = ⟨x, d.c, (u : Int), "any"⟩) :
    (∀ a ∈ (rgI 0 u).map (dU u) ++ [d] ++ (rgI 0 v).map (dV u v), a.Ok ((u : Int) + v)) ∧ ((rgI 0 u).map (dU u) ++ [d] ++ (rgI 0 v).map (dV u v)).Nodup := by
  have mU : ∀ a ∈ (rgI 0 u).map (dU u), 0 ≤ a.p ∧ a.p < u ∧ 0 ≤ a.g ∧ a.g < u ∧ a.c = 1 ∧ a.w = "any" := fun a ha => by
    obtain ⟨e, he, rfl⟩ := List.mem_map.mp ha
    have := rgI_mem.mp he
    exact ⟨this.1, by show e < u; omega, Int.emod_nonneg _ (by omega), Int.emod_lt_of_pos _ (by omega), rfl, rfl⟩
  have mV : ∀ a ∈ (rgI 0 v).map (dV u v), (u : Int) ≤ a.p ∧ a.p < u + v ∧ (u : Int) ≤ a.g ∧ a.g < u + v ∧ a.c = -1 ∧ a.w = "any" := fun a ha => by
    obtain ⟨e, he, rfl⟩ := List.mem_map.mp ha
    have := rgI_mem.mp he
    have h1 := Int.emod_nonneg (e + 1) (show (v : Int) ≠ 0 by omega)
    have h2 := Int.emod_lt_of_pos (e + 1) (show (0 : Int) < v by omega)
    refine ⟨?_, ?_, ?_, ?_, rfl, rfl⟩
    · show (u : Int) ≤ u + e; omega
    · show (u : Int) + e < u + v; omega
    · show (u : Int) ≤ u + (e + 1) % (v : Int); omega
    · show (u : Int) + (e + 1) % (v : Int) < u + v; omega
  have dg : d.g = u := by rw [hd]
  have dp : d.p = x := by rw [hd]
  have dw : d.w = "any" := by rw [hd]
  constructor
  · intro a ha
    rcases List.mem_append.mp ha with ha | ha
    · rcases List.mem_append.mp ha with ha | ha
      · obtain ⟨h1, h2, h3, h4, h5, h6⟩ := mU a ha
        exact ⟨h1, by omega, h3, by omega, .inl ⟨h6, by omega, by omega⟩⟩
      · rw [List.mem_singleton.mp ha]
        exact ⟨by omega, by omega, by omega, by omega, .inl ⟨dw, c1, c2⟩⟩
    · obtain ⟨h1, h2, h3, h4, h5, h6⟩ := mV a ha
      exact ⟨by omega, h2, by omega, h4, .inl ⟨h6, by omega, by omega⟩⟩
  · refine List.nodup_append.mpr ⟨List.nodup_append.mpr ⟨?_, List.pairwise_singleton _ _, fun a ha b hb z => ?_⟩, ?_, fun a ha b hb z => ?_⟩
    · exact List.pairwise_map.mpr ((rgI_lt 0 u).imp fun {a b} h e => by
        have := congrArg Dd.p e
        have : a = b := this
        omega)
    · rw [List.mem_singleton.mp hb] at z
      have := mU a ha
      rw [z] at this
      omega
    · exact List.pairwise_map.mpr ((rgI_lt 0 v).imp fun {a b} h e => by
        have := congrArg Dd.p e
        have : (u : Int) + a = u + b := this
        omega)
    · have hb := mV b hb
      rcases List.mem_append.mp ha with ha | ha
      · have := mU a ha
        rw [z] at this
        omega
      · rw [List.mem_singleton.mp ha] at z
        rw [← z] at hb
        omega
def spHo : Sp := fun vs H Q _ => ∃ (p : Addr), vs = [.ref p, .int 5, .bl false] ∧ PotAt H p ∧
  ∀ t D ys ds (n : Nat) H', H' t = some (.tup [.int (n : Nat), .ref D]) → H' D = some (.lst ys) → D ≠ p → DdAll H' ys ds → WF n ds → n ≤ 5 → PotAt H' p → ButD p H H' → Q (.ref t) H'
def NHo : List Str := ["_law_pot_here", "_law_most", "_law_is_plain", "_law_places", "_law_ups", "_law_downs", "_law_deeds", "_law_at"]
theorem scHo : FnScope NHo ["_law_pot_here", "_law_most", "_law_is_plain"] (defScope (top 60)) := ⟨rfl, rfl, rfl, by decide +kernel, rfl, by decide +kernel, by decide +kernel⟩
abbrev σH (p : Addr) (x3 x4 x5 x6 : Option V) : L2.St := [some (.ref p), some (.int 5), some (.bl false), x3, x4, x5, x6, none]
section
variable {P : Program} {w : World} {K : PySem.W.Frag} {mg : Str → Option Value} {base : Heap} {C C2 : Addr}
theorem ok_ho {f : Addr} {fd : FuncData} (F : FunD K "_law_house" "_law_house" (defArgs (top 60)) (defBody (top 60)) (defScope (top 60)) [.bl false] [] f fd) (n : Nm mg) (GD : Fn P w K mg base 1 "_law_draw" ["_law_pot_here", "_law_many"] spDraw)
    (MD : Fn P w K mg base 2 "_law_more_deeds" ["_law_pot_here", "_law_places", "_law_deeds", "_law_many", "_law_is_plain"] spMd) :
    FnOk P w K mg base CX0 3 f fd ["_law_pot_here", "_law_most", "_law_is_plain"] spHo := by
  refine F.ok scHo (fun vs H Q E h => ?_) (fun cdv A outer s H vs Q E hr h => ?_)
  · obtain ⟨p, rfl, _⟩ := h
    rfl
  · obtain ⟨p, rfl, hp, q⟩ := h
    have N := scHo.nd
    have r1 := hr.mono (k := 2) (j := 1) (by decide)
    refine ⟨_, pss_cons (ps_if (pt_cmpR op_eq (pe_fn GD r1 (pa_cons (pv 0) (pa_cons pe_int pa_nil))) pe_int (nomark _))
        (pss_cons (ps_set (i := 3) N rfl (.inl rfl) (pe_op op_add pe_int (pe_fn GD r1 (pa_cons (pv 0) (pa_cons (pv 1) pa_nil)))))
        (pss_one (ps_ret (pe_tup (pa_cons (pv 3) (pa_cons (pe_fn MD hr (pa_cons (pv 0) (pa_cons (pv 3) (pa_cons (pe_lst pa_nil) (pa_cons (pe_op op_add pe_int (pe_fn GD r1 (pa_cons (pv 0) (pa_cons pe_int pa_nil)))) (pa_cons (pv 2) pa_nil)))))) pa_nil)))))) pss_nil)
      (pss_cons (ps_set (i := 4) N rfl (.inr rfl) (pe_op op_add pe_int (pe_fn GD r1 (pa_cons (pv 0) (pa_cons (pe_ifExp (pt_cmpR op_lt (pv 1) pe_int (nomark _)) (pe_op op_sub (pv 1) pe_int) pe_int) pa_nil)))))
      (pss_cons (ps_set (i := 5) N rfl (.inr rfl) (pe_op op_add pe_int (pe_fn GD r1 (pa_cons (pv 0) (pa_cons (pe_op op_sub (pv 1) (pv 4)) pa_nil)))))
      (pss_cons (ps_setLc (i := 6) (own := [("_law_at", 7)]) (g := gName 7) (tt := tYes) (by rfl) N rfl rfl (sw_true rfl rfl rfl (by decide +kernel)) (pi_range1 (by rfl) n.range (pa_cons (pv 4) pa_nil)) (blkOk_by (N := NHo) (sc := defScope (top 60)) (by decide +kernel)) (fun _ _ _ _ _ => pg_name (i := 7) N rfl (.inl rfl))
          (fun _ _ _ _ _ => pts_nil) (fun _ _ _ _ _ => pe_tup (pa_cons (pv 7) (pa_cons pe_int (pa_cons (pe_op op_mod (pe_op op_add (pv 7) pe_int) (pv 4)) (pa_cons pe_str pa_nil))))))
      (pss_cons (ps_expr (pe_bm PySem.F.plainAttrs_list PySem.F.slot_list_append PySem.F.type_list_append mt_append (pv 6) (pa_cons
          (pe_tup (pa_cons (pe_fn GD r1 (pa_cons (pv 0) (pa_cons (pv 4) pa_nil))) (pa_cons (pe_op op_sub (pe_fn GD r1 (pa_cons (pv 0) (pa_cons pe_int pa_nil))) pe_int) (pa_cons (pv 4) (pa_cons pe_str pa_nil))))) pa_nil)))
      (pss_cons (ps_expr (pe_bm PySem.F.plainAttrs_list PySem.F.slot_list_extend PySem.F.type_list_extend mt_extend (pv 6) (pa_cons
          (pe_lc (own := [("_law_at", 7)]) (g := gName 7) (tt := tYes) rfl N (pi_range1 (by rfl) n.range (pa_cons (pv 5) pa_nil)) (blkOk_by (N := NHo) (sc := defScope (top 60)) (by decide +kernel)) (fun _ _ _ _ _ => pg_name (i := 7) N rfl (.inl rfl))
            (fun _ _ _ _ _ => pts_nil) (fun _ _ _ _ _ => pe_tup (pa_cons (pe_op op_add (pv 4) (pv 7)) (pa_cons (pe_un un_neg pe_int) (pa_cons (pe_op op_add (pv 4) (pe_op op_mod (pe_op op_add (pv 7) pe_int) (pv 5))) (pa_cons pe_str pa_nil)))))) pa_nil)))
      (pss_one (ps_ret (pe_tup (pa_cons (pe_op op_add (pv 4) (pv 5)) (pa_cons (pe_fn MD hr (pa_cons (pv 0) (pa_cons (pe_op op_add (pv 4) (pv 5)) (pa_cons (pv 6) (pa_cons (pe_fn GD r1 (pa_cons (pv 0) (pa_cons pe_int pa_nil))) (pa_cons (pv 2) pa_nil)))))) pa_nil)))))))))), ?_⟩
    -- drawn deeds alone
    refine seqV (Good := fun σ2 H2 => PotAt H2 p ∧ ButD p H H2 ∧ σ2 = σH p none none none none) ?_ ?_
    · intro nx hnx
      refine ⟨_, rfl, p, 2, rfl, hp, by decide, by decide, fun z H1 z0 z2 hp1 b1 => ⟨rfl, decide (V.int z = V.int 0), rfl, ?_⟩⟩
      by_cases c : z = 0
      · rw [decide_eq_true (by rw [c])]
        refine iteT ?_
        refine ⟨_, rfl, _, rfl, p, 5, rfl, hp1, by decide, by decide, fun d H2 d0 d5 hp2 b2 => ⟨_, _, rfl, rfl, ?_⟩⟩
        obtain ⟨k, rfl⟩ : ∃ k : Nat, d = k := ⟨d.toNat, by omega⟩
        have e1 : (1 : Int) + (k : Int) = ((k + 1 : Nat) : Int) := by omega
        refine ⟨_, rfl, _, rfl, _, rfl, (by show 0 ≤ sizeLine; decide), fun l hl => ?_⟩
        have sl := same_upd (o := .lst []) hl
        refine ⟨_, rfl, p, 6, rfl, hp2.same sl, by decide, by decide, fun j H3 j0 j6 hp3 b3 => ⟨_, _, rfl, rfl, _, rfl, ?_⟩⟩
        obtain ⟨j, rfl⟩ : ∃ k : Nat, j = k := ⟨j.toNat, by omega⟩
        have nlp : l ≠ p := fun z => by
          subst z
          obtain ⟨_, _, e, _⟩ := hp2
          rw [hl] at e
          exact nomatch e
        refine ⟨p, l, [], [], 1 + (k : Int), 2 + j, ?_, hp3, b3 _ _ nlp upd_same, nlp, .nil, (fun d z => nomatch z), .nil, Nat.zero_le _, by omega, by omega, by omega, fun u xs es H4 nu hu hp4 b4 dd ok nd le => ⟨(by show 2 ≤ sizeLine; decide), fun t ht => ?_⟩⟩
        · show [V.ref p, V.int (1 + (k : Int)), V.ref l, V.int (2 + (j : Int)), V.bl false] = _
          rw [show (2 + (j : Int)) = ((2 + j : Nat) : Int) by omega]
        have st := same_upd (o := .tup [V.int (1 + (k : Int)), V.ref u]) ht
        have nup : u ≠ p := pot_refs hp4 hu dd.refs
        have le : es.length ≤ 0 + (2 + j) := le
        refine q t u xs es (k + 1) _ ?_ (st _ _ hu) nup (dd.same st) ⟨by omega, by omega, ?_, nd, by omega⟩ (by omega) (hp4.same st) (ButD.trans b1 (ButD.trans b2 (ButD.trans (Same.but sl) (ButD.trans b3 (ButD.trans b4 (Same.but st))))))
        · rw [← e1]
          exact upd_same
        · rw [← e1]
          exact ok
      · rw [decide_eq_false (fun z => c (V.int.inj z))]
        exact iteF (hnx _ _ ⟨hp1, b1, rfl⟩)
    clear hp
    rintro _ H1 ⟨hp1, b1, rfl⟩
    -- ups
    refine seqV (Good := fun σ2 H2 => ∃ u : Nat, 1 ≤ u ∧ u ≤ 3 ∧ PotAt H2 p ∧ ButD p H H2 ∧ σ2 = σH p none (some (.int (u : Nat))) none none) ?_ ?_
    · intro nx hnx
      refine ⟨_, rfl, _, rfl, _, _, rfl, rfl, false, rfl, iteF ?_⟩
      refine ⟨p, 3, rfl, hp1, by decide, by decide, fun d H2 d0 d3 hp2 b2 => ⟨_, _, rfl, rfl, ?_⟩⟩
      obtain ⟨k, rfl⟩ : ∃ k : Nat, d = k := ⟨d.toNat, by omega⟩
      refine hnx _ _ ⟨k + 1, by omega, by omega, hp2, ButD.trans b1 b2, ?_⟩
      show _ = [some (V.ref p), some (V.int 5), some (V.bl false), none, some (V.int ((k + 1 : Nat) : Int)), none, none, none]
      rw [show ((k + 1 : Nat) : Int) = 1 + (k : Int) by omega]
      rfl
    clear hp1 b1 H1
    rintro _ H1 ⟨u, u1, u3, hp1, b1, rfl⟩
    -- downs
    refine seqV (Good := fun σ2 H2 => ∃ v : Nat, 1 ≤ v ∧ u + v ≤ 5 ∧ PotAt H2 p ∧ ButD p H H2 ∧ σ2 = σH p none (some (.int (u : Nat))) (some (.int (v : Nat))) none) ?_ ?_
    · intro nx hnx
      refine ⟨_, rfl, _, rfl, _, rfl, _, _, rfl, rfl, ?_⟩
      refine ⟨p, 5 - (u : Int), rfl, hp1, by omega, by omega, fun d H2 d0 d3 hp2 b2 => ⟨_, _, rfl, rfl, ?_⟩⟩
      obtain ⟨k, rfl⟩ : ∃ k : Nat, d = k := ⟨d.toNat, by omega⟩
      refine hnx _ _ ⟨k + 1, by omega, by omega, hp2, ButD.trans b1 b2, ?_⟩
      show _ = [some (V.ref p), some (V.int 5), some (V.bl false), none, some (V.int (u : Nat)), some (V.int ((k + 1 : Nat) : Int)), none, none]
      rw [show ((k + 1 : Nat) : Int) = 1 + (k : Int) by omega]
      rfl
    clear hp1 b1 H1
    rintro _ H1 ⟨v, v1, uv, hp1, b1, rfl⟩
    -- the ring up
    refine seqV (Good := fun σ2 H2 => ∃ (l : Addr) (ys : List V), H1 l = none ∧ Same H1 H2 ∧ H2 l = some (.lst ys) ∧ DdAll H2 ys ((rgI 0 u).map (dU u)) ∧ σ2 = σH p none (some (.int (u : Nat))) (some (.int (v : Nat))) (some (.ref l))) ?_ ?_
    · intro nx hnx
      refine ⟨_, rfl, u, rfl, by omega, by omega, fun D hD => ?_⟩
      refine lc_mapR (lo := 0) (n := ((u : Int)).toNat) (G := DdAt) (f := fun e => some (dU u e)) (stabD D) (by omega) ?_ ?_
      · rintro x e H2 A B he rfl b ⟨zs, hz⟩ hA hB
        refine ⟨rfl, yes_ite ?_⟩
        refine ⟨_, rfl, _, rfl, _, _, rfl, rfl, _, rfl, _, _, rfl, rfl, (by show (0 : Int) < u; omega), (by show 4 ≤ sizeLine; decide), fun t ht => ?_⟩
        exact hA _ _ _ rfl (same_upd ht) ⟨t, rfl, upd_same⟩
      · intro ys H2 h1 h2 h3
        rw [mapE, Int.toNat_natCast] at h2
        exact hnx _ _ ⟨D, ys, hD, h3.new hD, h1, h2, rfl⟩
    rintro _ H2 ⟨l, ys, nl, s2, hl, dd, rfl⟩
    have hp2 := hp1.same s2
    have nlp : l ≠ p := pot_refs hp2 hl dd.refs
    have yl := Paired.length dd
    rw [List.length_map, rgI_len] at yl
    -- the way across
    refine seqV (Good := fun σ2 H3 => ∃ (zs : List V) (d : Dd) (x : Int), 0 ≤ x ∧ x < u ∧ -1 ≤ d.c ∧ d.c ≤ 1 ∧ d = ⟨x, d.c, (u : Int), "any"⟩ ∧ PotAt H3 p ∧ ButD p H H3 ∧ H3 l = some (.lst zs) ∧ DdAll H3 zs ((rgI 0 u).map (dU u) ++ [d]) ∧ σ2 = σH p none (some (.int (u : Nat))) (some (.int (v : Nat))) (some (.ref l))) ?_ ?_
    · intro nx hnx
      refine ⟨_, rfl, .inl ⟨rfl, _, .inl (.inl hl)⟩, _, rfl, _, rfl, p, u, rfl, hp2, by omega, by omega, fun x H3 x0 xu hp3 b3 => ?_⟩
      refine ⟨_, rfl, p, 3, rfl, hp3, by decide, by decide, fun c H4 c0 c3 hp4 b4 => ⟨_, _, rfl, rfl, _, rfl, (by show 4 ≤ sizeLine; decide), fun t ht => ?_⟩⟩
      have st := same_upd (o := .tup [V.int x, V.int (c - 1), V.int (u : Nat), V.str "any"]) ht
      have b24 : ButD p H2 _ := ButD.trans b3 (ButD.trans b4 (Same.but st))
      have hl5 := b24 _ _ nlp hl
      have dd5 := DdAll.pot hp2 b24 dd
      have hp5 := hp4.same st
      have bl : ButD l (upd H4 t (.tup [V.int x, V.int (c - 1), V.int (u : Nat), V.str "any"])) (upd (upd H4 t (.tup [V.int x, V.int (c - 1), V.int (u : Nat), V.str "any"])) l (.lst (ys ++ [.ref t]))) := ButD.start
      have tup_l : ∀ {t : Addr} {us : List V}, upd H4 t (.tup us) t = some (.tup us) := fun {_ _} => upd_same
      refine ⟨l, _, _, rfl, rfl, hl5, by rw [sizeLine_eq]; omega, ?_⟩
      have ddl : DdAll (upd (upd H4 t (.tup [V.int x, V.int (c - 1), V.int (u : Nat), V.str "any"])) l (.lst (ys ++ [.ref t]))) (ys ++ [.ref t]) ((rgI 0 u).map (dU u) ++ [⟨x, c - 1, (u : Int), "any"⟩]) := by
        have st2 : ∀ {y d}, DdAt (upd H4 t (.tup [V.int x, V.int (c - 1), V.int (u : Nat), V.str "any"])) y d → DdAt (upd (upd H4 t (.tup [V.int x, V.int (c - 1), V.int (u : Nat), V.str "any"])) l (.lst (ys ++ [.ref t]))) y d := fun {y d} ⟨a, e, hq⟩ => ⟨a, e, bl _ _ (fun z => by rw [z, hl5] at hq; exact nomatch hq) hq⟩
        exact PySem.Paired.snoc (Paired.mapP dd5 fun _ _ z => st2 z) (st2 ⟨t, rfl, upd_same⟩)
      refine hnx _ _ ⟨_, ⟨x, c - 1, (u : Int), "any"⟩, x, x0, xu, by show -1 ≤ c - 1; omega, by show c - 1 ≤ 1; omega, rfl, ?_, ?_, upd_same, ddl, rfl⟩
      · obtain ⟨a, b, e, r⟩ := hp5
        exact ⟨a, b, bl _ _ (Ne.symm nlp) e, r⟩
      · intro a o ne e
        have e1 := b1 a o ne e
        exact bl _ _ (ne_of_none e1 nl) (b24 _ _ ne (s2 _ _ e1))
    clear hp2 dd hl s2
    rintro _ H3 ⟨zs, d, x, x0, xu, c1, c2, ed, hp3, b3, hl3, dd3, rfl⟩
    have zl := Paired.length dd3
    rw [List.length_append, List.length_map, rgI_len] at zl
    have zl : zs.length = u + 1 := zl
    -- the ring down
    refine seqV (Good := fun σ2 H4 => ∃ (ys : List V), PotAt H4 p ∧ ButD p H H4 ∧ H4 l = some (.lst ys) ∧ DdAll H4 ys ((rgI 0 u).map (dU u) ++ [d] ++ (rgI 0 v).map (dV u v)) ∧ σ2 = σH p none (some (.int (u : Nat))) (some (.int (v : Nat))) (some (.ref l))) ?_ ?_
    · intro nx hnx
      refine ⟨_, rfl, .inl ⟨rfl, _, .inl (.inl hl3)⟩, _, rfl, v, rfl, by omega, by omega, fun D hD => ?_⟩
      refine lc_mapR (lo := 0) (n := ((v : Int)).toNat) (G := DdAt) (f := fun e => some (dV u v e)) (stabD D) (by omega) ?_ ?_
      · rintro x e H4 A B he rfl b ⟨zs, hz⟩ hA hB
        refine ⟨rfl, yes_ite ?_⟩
        refine ⟨_, rfl, _, rfl, _, _, rfl, rfl, 1, rfl, _, rfl, _, rfl, _, _, rfl, rfl, _, rfl, _, _, rfl, rfl, (by show (0 : Int) < v; omega), _, _, rfl, rfl, (by show 4 ≤ sizeLine; decide), fun t ht => ?_⟩
        exact hA _ _ _ rfl (same_upd ht) ⟨t, rfl, upd_same⟩
      · intro us H4 h1 h2 h3
        rw [mapE, Int.toNat_natCast] at h2
        have s4 := h3.new hD
        have hl4 := s4 _ _ hl3
        have ul := Paired.length h2
        rw [List.length_map, rgI_len] at ul
        have bl : ButD l H4 (upd H4 l (.lst (zs ++ us))) := ButD.start
        refine ⟨l, D, zs, us, rfl, rfl, hl4, h1, by rw [sizeLine_eq]; omega, ?_⟩
        refine hnx _ _ ⟨_, ?_, ?_, upd_same, ?_, rfl⟩
        · obtain ⟨a, b, e, r⟩ := hp3
          exact ⟨a, b, bl _ _ (Ne.symm nlp) (s4 _ _ e), r⟩
        · intro a o ne e
          exact bl _ _ (ne_of_none (b1 a o ne e) nl) (s4 _ _ (b3 a o ne e))
        · have st2 : ∀ {y d}, DdAt H4 y d → DdAt (upd H4 l (.lst (zs ++ us))) y d := fun {y d} ⟨a, e, hq⟩ => ⟨a, e, bl _ _ (fun z => by rw [z, hl4] at hq; exact nomatch hq) hq⟩
          exact Paired.app (Paired.mapP (DdAll.same s4 dd3) fun _ _ z => st2 z) (Paired.mapP h2 fun _ _ z => st2 z)
    clear hp3 b3 hl3 dd3
    rintro _ H4 ⟨zs, hp4, b4, hl4, dd4, rfl⟩
    obtain ⟨ok, nd⟩ := ring_ok u1 v1 x0 xu c1 c2 ed
    have dl : ((rgI 0 u).map (dU u) ++ [d] ++ (rgI 0 v).map (dV u v)).length = u + 1 + v := by
      rw [List.length_append, List.length_append, List.length_map, List.length_map, rgI_len, rgI_len]
      rfl
    refine ⟨_, rfl, _, rfl, _, _, rfl, rfl, _, rfl, _, rfl, _, rfl, _, _, rfl, rfl, _, rfl, _, rfl, p, 3, rfl, hp4, by decide, by decide, fun k H5 k0 k3 hp5 b5 => ⟨_, rfl, ?_⟩⟩
    obtain ⟨k, rfl⟩ : ∃ j : Nat, k = j := ⟨k.toNat, by omega⟩
    refine ⟨p, l, zs, _, (u : Int) + (v : Int), k, rfl, hp5, b5 _ _ nlp hl4, nlp, DdAll.pot hp4 b5 dd4, ok, nd, by omega, by omega, by omega, by omega, fun a xs es H6 na ha hp6 b6 dd ok6 nd6 le => ⟨(by show 2 ≤ sizeLine; decide), fun t ht => ?_⟩⟩
    have st := same_upd (o := .tup [V.int ((u : Int) + (v : Int)), V.ref a]) ht
    have nap : a ≠ p := pot_refs hp6 ha dd.refs
    have euv : (u : Int) + (v : Int) = ((u + v : Nat) : Int) := by omega
    refine q t a xs es (u + v) _ ?_ (st _ _ ha) nap (dd.same st) ⟨by omega, by omega, ?_, nd6, by omega⟩ uv (hp6.same st) (ButD.trans b4 (ButD.trans b5 (ButD.trans b6 (Same.but st))))
    · rw [← euv]
      exact upd_same
    · rw [← euv]
      exact ok6
end
end L2.K71
end

section
set_option linter.all false
namespace L2.K71
open L2.Lv
/-! Going over all stands, over the empty till too: the mathematics. -/
def nz (cap : Nat) (d : Dd) (s : Nat × Nat) : Option (Nat × Nat) :=
  if d.p = (s.1 : Int) ∧ (d.w = "any" ∨ s.2 = 0) ∧ 0 ≤ (s.2 : Int) + d.c ∧ (s.2 : Int) + d.c ≤ cap then some (d.g.toNat, ((s.2 : Int) + d.c).toNat) else none
theorem nz_rz {n : Int} {cap : Nat} {ds : List Dd} (ok : ∀ d ∈ ds, d.Ok n) {d : Dd} (hd : d ∈ ds) {o s t : Nat × Nat} (hs : s.2 ≤ cap) (h : nz cap d s = some t) (r : RzD cap ds o s) : RzD cap ds o t := by
  unfold nz at h
  split at h
  · rename_i q
    obtain ⟨q1, q2, q3, q4⟩ := q
    obtain rfl := Option.some.inj h
    have od := ok d hd
    have g0 := od.g0
    obtain ⟨a, i⟩ := s
    have q2 : d.w = "any" ∨ i = 0 := q2
    have q3 : 0 ≤ (i : Int) + d.c := q3
    have q4 : (i : Int) + d.c ≤ cap := q4
    have hs : i ≤ cap := hs
    rcases od.w with ⟨w, c1, c2⟩ | ⟨w, c1, c2⟩
    · have dl : ∀ c : Int, d.c = c → Dl ds c a d.g.toNat := fun c e => ⟨d, hd, q1, by show d.g = ((d.g.toNat : Nat) : Int); omega, e, w⟩
      have c3 : d.c = 1 ∨ d.c = 0 ∨ d.c = -1 := by omega
      rcases c3 with e | e | e
      · have : ((i : Int) + d.c).toNat = i + 1 := by omega
        show Rz _ _ _ _ _ _ _ (d.g.toNat, ((i : Int) + d.c).toNat)
        rw [this]
        exact .next r (.up (dl 1 e) (by omega))
      · have : ((i : Int) + d.c).toNat = i := by omega
        show Rz _ _ _ _ _ _ _ (d.g.toNat, ((i : Int) + d.c).toNat)
        rw [this]
        exact .next r (.flat (dl 0 e) hs)
      · obtain ⟨j, rfl⟩ : ∃ j, i = j + 1 := ⟨i - 1, by omega⟩
        have : (((j + 1 : Nat) : Int) + d.c).toNat = j := by omega
        show Rz _ _ _ _ _ _ _ (d.g.toNat, (((j + 1 : Nat) : Int) + d.c).toNat)
        rw [this]
        exact .next r (.down (dl (-1) e) hs)
    · have i0 : i = 0 := q2.resolve_left (by rw [w]; decide)
      subst i0
      have de : ∀ c : Int, d.c = c → De ds c a d.g.toNat := fun c e => ⟨d, hd, q1, by show d.g = ((d.g.toNat : Nat) : Int); omega, e, w⟩
      have c3 : d.c = 1 ∨ d.c = 0 := by omega
      rcases c3 with e | e
      · have : (((0 : Nat) : Int) + d.c).toNat = 1 := by omega
        show Rz _ _ _ _ _ _ _ (d.g.toNat, (((0 : Nat) : Int) + d.c).toNat)
        rw [this]
        exact .zero r (.lift (de 1 e) (by omega))
      · have : (((0 : Nat) : Int) + d.c).toNat = 0 := by omega
        show Rz _ _ _ _ _ _ _ (d.g.toNat, (((0 : Nat) : Int) + d.c).toNat)
        rw [this]
        exact .zero r (.last (de 0 e))
  · exact nomatch h
theorem st_nz {cap : Nat} {ds : List Dd} {s t : Nat × Nat} (h : St1 cap (Dl ds 1) (Dl ds 0) (Dl ds (-1)) s t) : ∃ d ∈ ds, nz cap d s = some t := by
  cases h with
  | @up a b i u hc =>
    obtain ⟨d, hd, e1, e2, e3, e4⟩ := u
    refine ⟨d, hd, ?_⟩
    unfold nz
    rw [if_pos ⟨e1, .inl e4, by rw [e3]; show 0 ≤ (i : Int) + 1; omega, by rw [e3]; show (i : Int) + 1 ≤ cap; omega⟩, e2, e3]
    show some (((b : Int)).toNat, ((i : Int) + 1).toNat) = _
    rw [Int.toNat_natCast, show ((i : Int) + 1).toNat = i + 1 by omega]
  | @flat a b i u hc =>
    obtain ⟨d, hd, e1, e2, e3, e4⟩ := u
    refine ⟨d, hd, ?_⟩
    unfold nz
    rw [if_pos ⟨e1, .inl e4, by rw [e3]; show 0 ≤ (i : Int) + 0; omega, by rw [e3]; show (i : Int) + 0 ≤ cap; omega⟩, e2, e3]
    show some (((b : Int)).toNat, ((i : Int) + 0).toNat) = _
    rw [Int.toNat_natCast, show ((i : Int) + 0).toNat = i by omega]
  | @down a b i u hc =>
    obtain ⟨d, hd, e1, e2, e3, e4⟩ := u
    refine ⟨d, hd, ?_⟩
    unfold nz
    rw [if_pos ⟨e1, .inl e4, by rw [e3]; show 0 ≤ ((i + 1 : Nat) : Int) + -1; omega, by rw [e3]; show ((i + 1 : Nat) : Int) + -1 ≤ cap; omega⟩, e2, e3]
    show some (((b : Int)).toNat, (((i + 1 : Nat) : Int) + -1).toNat) = _
    rw [Int.toNat_natCast, show (((i + 1 : Nat) : Int) + -1).toNat = i by omega]
theorem s0_nz {cap : Nat} {ds : List Dd} {s t : Nat × Nat} (h : St0 cap (De ds 0) (De ds 1) s t) : ∃ d ∈ ds, nz cap d s = some t := by
  cases h with
  | @last a b u =>
    obtain ⟨d, hd, e1, e2, e3, e4⟩ := u
    refine ⟨d, hd, ?_⟩
    unfold nz
    rw [if_pos ⟨e1, .inr rfl, by rw [e3]; show 0 ≤ ((0 : Nat) : Int) + 0; omega, by rw [e3]; show ((0 : Nat) : Int) + 0 ≤ cap; omega⟩, e2, e3]
    show some (((b : Int)).toNat, (((0 : Nat) : Int) + 0).toNat) = _
    rw [Int.toNat_natCast]
    rfl
  | @lift a b u hc =>
    obtain ⟨d, hd, e1, e2, e3, e4⟩ := u
    refine ⟨d, hd, ?_⟩
    unfold nz
    rw [if_pos ⟨e1, .inr rfl, by rw [e3]; show 0 ≤ ((0 : Nat) : Int) + 1; omega, by rw [e3]; show ((0 : Nat) : Int) + 1 ≤ cap; omega⟩, e2, e3]
    show some (((b : Int)).toNat, (((0 : Nat) : Int) + 1).toNat) = _
    rw [Int.toNat_natCast]
    rfl
end L2.K71
end

section
set_option linter.all false
namespace L2.K71
open PySem PySem.Spec PyProof.Rows L2.Gd L2.Lv
/-! Stands by their roofs: the mathematics. -/
def sz (d : Dd) (s : Nat × Nat) : Option (Nat × Nat) :=
  if d.p = (s.1 : Int) ∧ 0 ≤ (s.2 : Int) + d.c ∧ (d.w = "any" ∨ s.2 = 0) then some (d.g.toNat, ((s.2 : Int) + d.c).toNat) else none
theorem sz_nz {d : Dd} {s u : Nat × Nat} {R : Nat} (h : sz d s = some u) (l : u.2 ≤ R) : nz R d s = some u := by
  unfold sz at h
  split at h
  · rename_i q
    obtain ⟨q1, q2, q3⟩ := q
    have e := Option.some.inj h
    unfold nz
    have : ((s.2 : Int) + d.c) ≤ R := by
      have := congrArg Prod.snd e
      have : ((s.2 : Int) + d.c).toNat = u.2 := this
      omega
    rw [if_pos ⟨q1, q3, q2, this⟩, e]
  · exact nomatch h
theorem nz_sz {d : Dd} {s u : Nat × Nat} {R : Nat} (h : nz R d s = some u) : sz d s = some u ∧ u.2 ≤ R := by
  unfold nz at h
  split at h
  · rename_i q
    obtain ⟨q1, q2, q3, q4⟩ := q
    have e := Option.some.inj h
    refine ⟨?_, ?_⟩
    · unfold sz
      rw [if_pos ⟨q1, q3, q2⟩, e]
    · rw [← e]
      show ((s.2 : Int) + d.c).toNat ≤ R
      omega
  · exact nomatch h
theorem sz_lt {d : Dd} {m : Int} {s u : Nat × Nat} (ok : d.Ok m) (h : sz d s = some u) : (u.1 : Int) < m ∧ u.2 ≤ s.2 + 1 := by
  unfold sz at h
  split at h
  · rename_i q
    obtain ⟨q1, q2, q3⟩ := q
    have e := Option.some.inj h
    have g0 := ok.g0
    have gn := ok.gn
    have c1 : d.c ≤ 1 := by rcases ok.w with ⟨_, _, c⟩ | ⟨_, _, c⟩ <;> exact c
    rw [← e]
    refine ⟨?_, ?_⟩
    · show ((d.g.toNat : Nat) : Int) < m
      omega
    · show ((s.2 : Int) + d.c).toNat ≤ s.2 + 1
      omega
  · exact nomatch h
/-! ### the table -/
def kvR (fs : List ((Nat × Nat) × Nat)) : List (List Key × V) := fs.map fun q => (kS q.1, V.int (q.2 : Nat))
def keysR (fs : List ((Nat × Nat) × Nat)) : List (Nat × Nat) := fs.map Prod.fst
def look : List ((Nat × Nat) × Nat) → Nat × Nat → Option Nat
  | [], _ => none
  | q :: r, t => if q.1 = t then some q.2 else look r t
theorem valV_R (t : Nat × Nat) : ∀ fs : List ((Nat × Nat) × Nat), valV (kvR fs) (kS t) = (look fs t).map fun s => V.int (s : Nat)
  | [] => rfl
  | q :: r => by
    unfold kvR look
    rw [List.map_cons]
    by_cases e : q.1 = t
    · rw [if_pos e, e, valV_pos rfl]
      rfl
    · rw [if_neg e, valV_neg (fun z => e (kS_inj z))]
      exact valV_R t r
theorem look_mem : ∀ {fs : List ((Nat × Nat) × Nat)} {t : Nat × Nat} {r : Nat}, look fs t = some r → (t, r) ∈ fs
  | [], _, _, h => nomatch h
  | q :: fs, t, r, h => by
    unfold look at h
    split at h
    · rename_i e
      rw [← e, ← Option.some.inj h]
      exact List.mem_cons_self
    · exact List.mem_cons_of_mem _ (look_mem h)
theorem look_none : ∀ {fs : List ((Nat × Nat) × Nat)} {t : Nat × Nat}, look fs t = none ↔ t ∉ keysR fs
  | [], _ => ⟨fun _ z => (nomatch z), fun _ => rfl⟩
  | q :: fs, t => by
    unfold look
    by_cases e : q.1 = t
    · rw [if_pos e]
      exact ⟨fun z => (nomatch z), fun z => absurd (show t ∈ keysR (q :: fs) from e ▸ List.mem_cons_self) z⟩
    · rw [if_neg e, look_none]
      constructor
      · intro h z
        rcases List.mem_cons.mp (show t ∈ q.1 :: keysR fs from z) with z | z
        · exact e z.symm
        · exact h z
      · exact fun h z => h (List.mem_cons_of_mem _ z)
theorem valR_none {t : Nat × Nat} {fs : List ((Nat × Nat) × Nat)} (h : t ∉ keysR fs) : valV (kvR fs) (kS t) = none := by
  rw [valV_R, look_none.mpr h]
  rfl
theorem valR_isSome (t : Nat × Nat) (fs : List ((Nat × Nat) × Nat)) : (valV (kvR fs) (kS t)).isSome = decide (t ∈ keysR fs) := by
  rw [valV_R, Option.isSome_map]
  by_cases h : t ∈ keysR fs
  · rw [decide_eq_true h]
    cases e : look fs t with
    | none => exact absurd h (look_none.mp e)
    | some _ => rfl
  · rw [decide_eq_false h, look_none.mpr h]
    rfl
/-! ### one roof after another -/
structure Ly (n R : Nat) (ds : List Dd) (s : Nat × Nat) (fs : List ((Nat × Nat) × Nat)) (ws ls : List (Nat × Nat)) : Prop where
  sR : s.2 ≤ R
  nd : (keysR fs).Nodup
  ok : ∀ q ∈ fs, q.1.1 < n ∧ q.1.2 ≤ q.2 ∧ q.2 ≤ R ∧ s.2 ≤ q.2 ∧ RzD q.2 ds s q.1 ∧ ∀ r, s.2 ≤ r → r < q.2 → ¬ RzD r ds s q.1
  wk : ∀ v ∈ ws, v.1 < n ∧ v.2 ≤ R ∧ RzD R ds s v
  lk : ∀ v ∈ ls, v.1 < n ∧ v.2 ≤ R + 1 ∧ RzD (R + 1) ds s v
  st : s ∈ keysR fs ∨ s ∈ ws
  old : ∀ r, s.2 ≤ r → r < R → ∀ t, RzD r ds s t → t ∈ keysR fs
def Cld (es : List Dd) (R : Nat) (fs : List ((Nat × Nat) × Nat)) (ws ls : List (Nat × Nat)) (t : Nat × Nat) : Prop :=
  ∀ d ∈ es, ∀ u, sz d t = some u → (u.2 ≤ R → u ∈ keysR fs ∨ u ∈ ws) ∧ (R < u.2 → u ∈ ls)
section
variable {n R : Nat} {ds : List Dd} {s : Nat × Nat} {fs : List ((Nat × Nat) × Nat)} {ws ls : List (Nat × Nat)} {t0 u : Nat × Nat}
theorem keys_snoc (q : (Nat × Nat) × Nat) : keysR (fs ++ [q]) = keysR fs ++ [q.1] := by
  unfold keysR
  rw [List.map_append]
  rfl
theorem Ly.key (h : Ly n R ds s fs ws ls) {t : Nat × Nat} (ht : t ∈ keysR fs) : t.1 < n ∧ t.2 ≤ R ∧ RzD R ds s t := by
  obtain ⟨q, hq, rfl⟩ := List.mem_map.mp ht
  obtain ⟨h1, h2, h3, _, h4, _⟩ := h.ok q hq
  exact ⟨h1, by omega, rz_mono h3 h4⟩
theorem Ly.len (h : Ly n R ds s fs ws ls) : fs.length ≤ n * (R + 1) := by
  have := few_pairs (n := n) (m := R + 1) h.nd fun t ht => ⟨(h.key ht).1, by have := (h.key ht).2.1; omega⟩
  unfold keysR at this
  rw [List.length_map] at this
  exact this
theorem Ly.pop (h : Ly n R ds s fs (ws ++ [t0]) ls) (k : t0 ∈ keysR fs) (c : ∀ t ∈ keysR fs, Cld ds R fs (ws ++ [t0]) ls t) : Ly n R ds s fs ws ls ∧ ∀ t ∈ keysR fs, Cld ds R fs ws ls t := by
  refine ⟨⟨h.sR, h.nd, h.ok, fun v hv => h.wk v (List.mem_append_left _ hv), h.lk, ?_, h.old⟩, fun t ht d hd u e => ⟨fun l => ?_, (c t ht d hd u e).2⟩⟩
  · rcases h.st with z | z
    · exact .inl z
    · rcases List.mem_append.mp z with z | z
      · exact .inr z
      · exact .inl ((List.mem_singleton.mp z) ▸ k)
  · rcases (c t ht d hd u e).1 l with z | z
    · exact .inl z
    · rcases List.mem_append.mp z with z | z
      · exact .inr z
      · exact .inl ((List.mem_singleton.mp z) ▸ k)
theorem Ly.push (h : Ly n R ds s fs (ws ++ [t0]) ls) (k : t0 ∉ keysR fs) (c : ∀ t ∈ keysR fs, Cld ds R fs (ws ++ [t0]) ls t) : Ly n R ds s (fs ++ [(t0, R)]) ws ls ∧ (∀ t ∈ keysR (fs ++ [(t0, R)]), t ≠ t0 → Cld ds R (fs ++ [(t0, R)]) ws ls t) := by
  have w0 := h.wk t0 (by simp)
  have mv : ∀ {v}, v ∈ keysR fs ∨ v ∈ ws ++ [t0] → v ∈ keysR (fs ++ [(t0, R)]) ∨ v ∈ ws := fun {v} z => by
    rw [keys_snoc]
    rcases z with z | z
    · exact .inl (List.mem_append_left _ z)
    · rcases List.mem_append.mp z with z | z
      · exact .inr z
      · exact .inl (List.mem_append_right _ z)
  refine ⟨⟨h.sR, ?_, fun q hq => ?_, fun v hv => h.wk v (List.mem_append_left _ hv), h.lk, mv h.st, fun r h1 h2 t z => ?_⟩, fun t ht ne d hd u e => ?_⟩
  · rw [keys_snoc]
    exact List.nodup_append.mpr ⟨h.nd, List.pairwise_singleton _ _, fun a ha b hb z => by
      rw [List.mem_singleton.mp hb] at z
      have z : a = t0 := z
      exact k (z ▸ ha)⟩
  · rcases List.mem_append.mp hq with hq | hq
    · exact h.ok q hq
    · rw [List.mem_singleton.mp hq]
      exact ⟨w0.1, w0.2.1, Nat.le_refl _, h.sR, w0.2.2, fun r h1 h2 z => k (h.old r h1 h2 t0 z)⟩
  · rw [keys_snoc]
    exact List.mem_append_left _ (h.old r h1 h2 t z)
  · rw [keys_snoc] at ht
    have ht : t ∈ keysR fs := (List.mem_append.mp ht).resolve_right fun z => ne (List.mem_singleton.mp z)
    exact ⟨fun l => mv ((c t ht d hd u e).1 l), (c t ht d hd u e).2⟩
theorem Ly.low (ok : ∀ d ∈ ds, d.Ok (n : Int)) (h : Ly n R ds s fs ws ls) (k : t0 ∈ keysR fs) {d : Dd} (hd : d ∈ ds) (e : sz d t0 = some u) (l : u.2 ≤ R) : Ly n R ds s fs (ws ++ [u]) ls := by
  obtain ⟨k1, k2, k3⟩ := h.key k
  have z := sz_lt (ok d hd) e
  refine ⟨h.sR, h.nd, h.ok, fun v hv => ?_, h.lk, h.st.imp id fun z => List.mem_append_left _ z, h.old⟩
  rcases List.mem_append.mp hv with hv | hv
  · exact h.wk v hv
  · rw [List.mem_singleton.mp hv]
    exact ⟨by omega, l, nz_rz ok hd k2 (sz_nz e l) k3⟩
theorem Ly.high (ok : ∀ d ∈ ds, d.Ok (n : Int)) (h : Ly n R ds s fs ws ls) (k : t0 ∈ keysR fs) {d : Dd} (hd : d ∈ ds) (e : sz d t0 = some u) : Ly n R ds s fs ws (ls ++ [u]) := by
  obtain ⟨k1, k2, k3⟩ := h.key k
  have z := sz_lt (ok d hd) e
  refine ⟨h.sR, h.nd, h.ok, h.wk, fun v hv => ?_, h.st, h.old⟩
  rcases List.mem_append.mp hv with hv | hv
  · exact h.lk v hv
  · rw [List.mem_singleton.mp hv]
    exact ⟨by omega, by omega, nz_rz ok hd (by omega) (sz_nz e (by omega)) (rz_mono (by omega) k3)⟩
theorem Cld.mono {es : List Dd} {ws' ls' : List (Nat × Nat)} {t : Nat × Nat} (c : Cld es R fs ws ls t) (hw : ∀ v ∈ ws, v ∈ ws') (hl : ∀ v ∈ ls, v ∈ ls') : Cld es R fs ws' ls' t :=
  fun d hd u e => ⟨fun l => ((c d hd u e).1 l).imp id (hw u), fun l => hl u ((c d hd u e).2 l)⟩
theorem Ly.all (h : Ly n R ds s fs [] ls) (c : ∀ t ∈ keysR fs, Cld ds R fs [] ls t) {t : Nat × Nat} (r : RzD R ds s t) : t ∈ keysR fs := by
  induction r with
  | start => exact h.st.resolve_right fun z => (nomatch z)
  | @next t u _ x ih =>
    obtain ⟨d, hd, e⟩ := st_nz x
    obtain ⟨e1, e2⟩ := nz_sz e
    exact ((c t ih d hd u e1).1 e2).resolve_right fun z => (nomatch z)
  | @zero t u _ x ih =>
    obtain ⟨d, hd, e⟩ := s0_nz x
    obtain ⟨e1, e2⟩ := nz_sz e
    exact ((c t ih d hd u e1).1 e2).resolve_right fun z => (nomatch z)
theorem Ly.next (ok : ∀ d ∈ ds, d.Ok (n : Int)) (h : Ly n R ds s fs [] ls) (c : ∀ t ∈ keysR fs, Cld ds R fs [] ls t) : Ly n (R + 1) ds s fs ls [] ∧ ∀ t ∈ keysR fs, Cld ds (R + 1) fs ls [] t := by
  refine ⟨⟨by have := h.sR; omega, h.nd, fun q hq => ?_, h.lk, fun v z => (nomatch z), ?_, fun r h1 h2 t z => h.all c (rz_mono (by omega) z)⟩, fun t ht d hd u e => ⟨fun l => ?_, fun l => ?_⟩⟩
  · obtain ⟨h1, h2, h3, h4⟩ := h.ok q hq
    exact ⟨h1, h2, by omega, h4⟩
  · exact .inl (h.st.resolve_right fun z => (nomatch z))
  · by_cases g : u.2 ≤ R
    · exact .inl (((c t ht d hd u e).1 g).resolve_right fun z => (nomatch z))
    · exact .inr ((c t ht d hd u e).2 (by omega))
  · have := (h.key ht).2.1
    have := (sz_lt (ok d hd) e).2
    omega
theorem Ly.init (hs : s.1 < n) : Ly n s.2 ds s [] [s] [] :=
  ⟨Nat.le_refl _, .nil, fun q z => (nomatch z), fun v hv => by
    rw [List.mem_singleton.mp hv]
    exact ⟨hs, Nat.le_refl _, .start⟩, fun v z => (nomatch z), .inr List.mem_cons_self, fun r h1 h2 => by omega⟩
/-- what was found up to a cap -/
def FdR (n cap : Nat) (ds : List Dd) (s : Nat × Nat) (fs : List ((Nat × Nat) × Nat)) : Prop :=
  (∀ t r, look fs t = some r → s.2 ≤ r ∧ t.2 ≤ r ∧ RzD r ds s t ∧ ∀ r', s.2 ≤ r' → r' < r → ¬ RzD r' ds s t) ∧ ∀ t, RzD cap ds s t → ∃ r, look fs t = some r
theorem Ly.found (h : Ly n R ds s fs [] ls) (c : ∀ t ∈ keysR fs, Cld ds R fs [] ls t) : FdR n R ds s fs := by
  refine ⟨fun t r e => ?_, fun t z => ?_⟩
  · obtain ⟨h1, h2, h3, h4, h5, h6⟩ := h.ok _ (look_mem e)
    exact ⟨h4, h2, h5, h6⟩
  · have := h.all c z
    cases e : look fs t with
    | none => exact absurd this (look_none.mp e)
    | some r => exact ⟨r, rfl⟩
theorem FdR.least {cap a st b e : Nat} (ok : ∀ d ∈ ds, d.Ok (n : Int)) (ha : a < n) (hb : b < n) (h : FdR n cap ds (a, st) fs) (hc : max st e + (n * n - 1) ≤ cap) : Lst (RU ds a st b e) (look fs (b, e)) := by
  cases v : look fs (b, e) with
  | none =>
    intro R hR
    have := hR.near ok ha hb
    obtain ⟨r, hr⟩ := h.2 (b, e) (rz_mono hc this.2.2)
    rw [v] at hr
    exact nomatch hr
  | some r =>
    obtain ⟨h1, h2, h3, h4⟩ := h.1 _ _ v
    exact ⟨⟨h1, h2, h3⟩, fun R' l z => h4 R' z.1 l z.2.2⟩
end
end L2.K71
end

section
set_option Elab.async false
set_option linter.all false
set_option maxRecDepth 100000
set_option maxHeartbeats 4000000
namespace L2.K71
open PySem PySem.Spec PyProof.Rows L2.Gd L2.Lv
section
variable {P : Program} {w : World} {K : PySem.W.Frag} {mg : Str → Option Value} {base : Heap} {C : Addr}
/-! ### a deed from a stand -/
def spCan : Sp := fun vs H Q _ => ∃ (t : Addr) (d : Dd) (s : Nat × Nat), vs = [.ref t, .int (s.1 : Nat), .int (s.2 : Nat)] ∧ H t = some (.tup d.vs) ∧ Q (.bl (sz d s).isSome) H
theorem scCan : FnScope ["_law_deed", "_law_here", "_law_number"] ["_law_deed", "_law_here", "_law_number"] (defScope (top 61)) := ⟨rfl, rfl, rfl, by decide +kernel, rfl, by decide +kernel, by decide +kernel⟩
theorem ok_can {f : Addr} {fd : FuncData} (F : Fun K "_law_can" "_law_can" (top 61) f fd) : FnOk P w K mg base CX0 1 f fd ["_law_deed", "_law_here", "_law_number"] spCan := by
  refine F.ok scCan (fun vs H Q E h => ?_) (fun cdv A outer s H vs Q E hr h => ?_)
  · obtain ⟨t, d, s, rfl, _⟩ := h
    rfl
  · obtain ⟨t, d, st, rfl, ht, q⟩ := h
    refine ⟨_, pss_one (ps_ret (pe_and (pe_cmpR op_eq (pe_ix ix_tup (pv 0) pe_int (fun _ _ => rfl)) (pv 1) (nomark _)) (pe_and (pe_cmpR op_ge (pe_op op_add (pv 2) (pe_ix ix_tup (pv 0) pe_int (fun _ _ => rfl))) pe_int (nomark _))
      (pe_one (pe_or (pe_cmpR op_eq (pe_ix ix_tup (pv 0) pe_int (fun _ _ => rfl)) pe_str (nomark _)) (pe_one (pe_cmpR op_eq (pv 2) pe_int (nomark _)))))))), ?_⟩
    have e2 : decide (V.int d.p = V.int (st.1 : Nat)) = decide (d.p = (st.1 : Int)) := by simp
    have e0 : decide (V.int (st.2 : Nat) = V.int 0) = decide (st.2 = 0) := by
      rw [decide_eq_decide]
      exact ⟨fun z => by have := V.int.inj z; omega, fun z => by rw [z]; rfl⟩
    refine ⟨_, rfl, t, _, _, _, rfl, rfl, .inl (.inl ht), rfl, _, rfl, rfl, _, congrArg V.bl e2, ?_⟩
    by_cases c1 : ¬ d.p = (st.1 : Int)
    · rw [decide_eq_false c1]
      have : (sz d st).isSome = false := by
        unfold sz
        rw [if_neg fun z => c1 z.1]
        rfl
      rw [this] at q
      exact iteF q
    replace c1 := Decidable.not_not.mp c1
    rw [decide_eq_true c1]
    refine iteT ⟨_, rfl, _, rfl, t, _, _, _, rfl, rfl, .inl (.inl ht), rfl, _, _, rfl, rfl, _, _, rfl, rfl, decide (((st.2 : Nat) : Int) + d.c ≥ 0), rfl, ?_⟩
    by_cases c2 : ¬ ((st.2 : Nat) : Int) + d.c ≥ 0
    · rw [decide_eq_false c2]
      have : (sz d st).isSome = false := by
        unfold sz
        rw [if_neg fun z => c2 z.2.1]
        rfl
      rw [this] at q
      exact iteF q
    replace c2 := Decidable.not_not.mp c2
    rw [decide_eq_true c2]
    refine iteT ⟨_, rfl, t, _, _, _, rfl, rfl, .inl (.inl ht), rfl, rfl, isAny d, congrArg V.bl (anyE d), ?_⟩
    cases c3 : isAny d with
    | true =>
      have : (sz d st).isSome = true := by
        unfold sz
        rw [if_pos ⟨c1, c2, .inl ((isAny_w d).mp c3)⟩]
        rfl
      rw [this] at q
      exact iteT q
    | false =>
      have ny : ¬ d.w = "any" := fun z => by
        rw [(isAny_w d).mpr z] at c3
        exact nomatch c3
      refine iteF ⟨_, rfl, rfl, ?_⟩
      have : (sz d st).isSome = decide (st.2 = 0) := by
        unfold sz
        by_cases c4 : st.2 = 0
        · rw [if_pos ⟨c1, c2, .inr c4⟩, decide_eq_true c4]
          rfl
        · rw [if_neg fun z => z.2.2.elim ny c4, decide_eq_false c4]
          rfl
      rw [this, ← e0] at q
      exact q
/-! ### all stands by their roofs -/
def spRo : Sp := fun vs H Q _ => ∃ (D : Addr) (ys : List V) (ds : List Dd) (n a st cap : Nat), vs = [.ref D, .int (a : Nat), .int (st : Nat), .int (cap : Nat)] ∧ H D = some (.lst ys) ∧ DdAll H ys ds ∧ (∀ d ∈ ds, d.Ok (n : Int)) ∧ a < n ∧ st ≤ cap ∧ n ≤ 16 ∧ cap ≤ 100 ∧ ds.length ≤ 60 ∧
  ∀ f H' fs, H f = none → Same H H' → H' f = some (.dT (kvR fs)) → FdR n cap ds (a, st) fs → Q (.ref f) H'
def NRo : List Str := ["_law_deeds", "_law_place", "_law_start", "_law_cap", "_law_found", "_law_later", "_law_roof", "_law_todo", "_law_here", "_law_number", "_law_deed", "_law_there"]
theorem scRo : FnScope NRo ["_law_deeds", "_law_place", "_law_start", "_law_cap"] (defScope (top 62)) := ⟨rfl, rfl, rfl, by decide +kernel, rfl, by decide +kernel, by decide +kernel⟩
abbrev σO (D : Addr) (a st cap : Nat) (f x5 : Addr) (x6 x7 x8 x9 x10 x11 : Option V) : L2.St := [some (.ref D), some (.int (a : Nat)), some (.int (st : Nat)), some (.int (cap : Nat)), some (.ref f), some (.ref x5), x6, x7, x8, x9, x10, x11]
/-- found, to do, for later -/
structure RoAt (H H2 : Hp) (f w l : Addr) (fs : List ((Nat × Nat) × Nat)) (ws ls : List (Nat × Nat)) : Prop where
  nf : H f = none
  nw : H w = none
  nl : H l = none
  fw : f ≠ w
  fl : f ≠ l
  wl : w ≠ l
  same : Same H H2
  hf : H2 f = some (.dT (kvR fs))
  hw : ∃ xs, H2 w = some (.lst xs) ∧ PrAll H2 xs ws
  hl : ∃ xs, H2 l = some (.lst xs) ∧ PrAll H2 xs ls
theorem RoAt.go {H H2 H3 : Hp} {f w l : Addr} {fs : List ((Nat × Nat) × Nat)} {ws ls : List (Nat × Nat)} (r : RoAt H H2 f w l fs ws ls) (s : Same H2 H3) : RoAt H H3 f w l fs ws ls := by
  obtain ⟨xs, h1, p1⟩ := r.hw
  obtain ⟨ys, h2, p2⟩ := r.hl
  exact ⟨r.nf, r.nw, r.nl, r.fw, r.fl, r.wl, r.same.trans s, s _ _ r.hf, ⟨xs, s _ _ h1, PrAll.same s p1⟩, ⟨ys, s _ _ h2, PrAll.same s p2⟩⟩
theorem RoAt.ne {H H2 : Hp} {f w l T : Addr} {fs : List ((Nat × Nat) × Nat)} {ws ls : List (Nat × Nat)} (r : RoAt H H2 f w l fs ws ls) {vs : List V} (h : H2 T = some (.tup vs)) : T ≠ f ∧ T ≠ w ∧ T ≠ l := by
  obtain ⟨xs, h1, p1⟩ := r.hw
  obtain ⟨ys, h2, p2⟩ := r.hl
  refine ⟨fun z => ?_, fun z => ?_, fun z => ?_⟩
  · rw [z, r.hf] at h
    exact nomatch h
  · rw [z, h1] at h
    exact nomatch h
  · rw [z, h2] at h
    exact nomatch h
theorem PrAll.tup {H H' : Hp} {vs : List V} {ps : List (Nat × Nat)} (h : PrAll H vs ps) (b : ∀ t us, H t = some (.tup us) → H' t = some (.tup us)) : PrAll H' vs ps :=
  Paired.mapP h fun _ _ ⟨t, e, q⟩ => ⟨t, e, b _ _ q⟩
/-- one of the three is changed -/
theorem RoAt.putF {H H2 : Hp} {f w l : Addr} {fs gs : List ((Nat × Nat) × Nat)} {ws ls : List (Nat × Nat)} (r : RoAt H H2 f w l fs ws ls) : RoAt H (upd H2 f (.dT (kvR gs))) f w l gs ws ls := by
  obtain ⟨xs, h1, p1⟩ := r.hw
  obtain ⟨ys, h2, p2⟩ := r.hl
  have t : ∀ t us, H2 t = some (.tup us) → upd H2 f (.dT (kvR gs)) t = some (.tup us) := fun t us e => by rw [upd_ne (r.ne e).1]; exact e
  exact ⟨r.nf, r.nw, r.nl, r.fw, r.fl, r.wl, fun b o e => by rw [upd_ne (ne_of_none e r.nf)]; exact r.same _ _ e, upd_same, ⟨xs, by rw [upd_ne r.fw.symm]; exact h1, p1.tup t⟩, ⟨ys, by rw [upd_ne r.fl.symm]; exact h2, p2.tup t⟩⟩
theorem RoAt.putW {H H2 : Hp} {f w l : Addr} {fs : List ((Nat × Nat) × Nat)} {ws vs ls : List (Nat × Nat)} {xs : List V} (r : RoAt H H2 f w l fs ws ls) (p : PrAll H2 xs vs) : RoAt H (upd H2 w (.lst xs)) f w l fs vs ls := by
  obtain ⟨ys, h2, p2⟩ := r.hl
  have t : ∀ t us, H2 t = some (.tup us) → upd H2 w (.lst xs) t = some (.tup us) := fun t us e => by rw [upd_ne (r.ne e).2.1]; exact e
  exact ⟨r.nf, r.nw, r.nl, r.fw, r.fl, r.wl, fun b o e => by rw [upd_ne (ne_of_none e r.nw)]; exact r.same _ _ e, by rw [upd_ne r.fw]; exact r.hf, ⟨xs, upd_same, p.tup t⟩, ⟨ys, by rw [upd_ne r.wl.symm]; exact h2, p2.tup t⟩⟩
theorem RoAt.putL {H H2 : Hp} {f w l : Addr} {fs : List ((Nat × Nat) × Nat)} {ws vs ls : List (Nat × Nat)} {xs : List V} (r : RoAt H H2 f w l fs ws ls) (p : PrAll H2 xs vs) : RoAt H (upd H2 l (.lst xs)) f w l fs ws vs := by
  obtain ⟨ys, h2, p2⟩ := r.hw
  have t : ∀ t us, H2 t = some (.tup us) → upd H2 l (.lst xs) t = some (.tup us) := fun t us e => by rw [upd_ne (r.ne e).2.2]; exact e
  exact ⟨r.nf, r.nw, r.nl, r.fw, r.fl, r.wl, fun b o e => by rw [upd_ne (ne_of_none e r.nl)]; exact r.same _ _ e, by rw [upd_ne r.fl]; exact r.hf, ⟨ys, by rw [upd_ne r.wl]; exact h2, p2.tup t⟩, ⟨xs, upd_same, p.tup t⟩⟩
theorem ok_ro {f : Addr} {fd : FuncData} (F : Fun K "_law_roofs" "_law_roofs" (top 62) f fd) (n : Nm mg) (CA : Fn P w K mg base 1 "_law_can" ["_law_deed", "_law_here", "_law_number"] spCan) : FnOk P w K mg base CX0 2 f fd ["_law_deeds", "_law_place", "_law_start", "_law_cap"] spRo := by
  refine F.ok scRo (fun vs H Q E h => ?_) (fun cdv A outer s H vs Q E hr h => ?_)
  · obtain ⟨D, ys, ds, n, a, st, cap, rfl, _⟩ := h
    rfl
  · obtain ⟨D, ys, ds, nn, a, st, cap, rfl, hD, dd, ok, an, sc, n16, c100, d60, q⟩ := h
    have N := scRo.nd
    have hu := hu_of hr
    have yl := Paired.length dd
    refine ⟨_, pss_cons (ps_par (i := 4) (j := 5) rfl N rfl rfl (by decide) rfl rfl (pa_cons pe_dnewT (pa_cons (pe_lst (pa_cons (pe_tup (pa_cons (pv 1) (pa_cons (pv 2) pa_nil))) pa_nil)) pa_nil)) (by rfl))
      (pss_cons (ps_for PassesOwn.never rfl (pi_range2 (by rfl) n.range (pa_cons (pv 2) (pa_cons (pe_op op_add (pv 3) pe_int) pa_nil))) (pg_name (i := 6) N rfl (.inl rfl))
        (pss_cons (ps_par (i := 7) (j := 5) rfl N rfl rfl (by decide) rfl rfl (pa_cons (pv 5) (pa_cons (pe_lst pa_nil) pa_nil)) (by rfl))
        (pss_one (ps_while PassesOwn.never (pt_cmpR (op_neD hr.units) (pv 7) (pe_lst pa_nil) (nomark _))
          (pss_cons (ps_asg (pe_bm0 PySem.F.plainAttrs_list PySem.F.slot_list_pop PySem.F.type_list_pop mt_pop (pv 7)) (pg_tup rfl (pgs_cons (pg_name (i := 8) N rfl (.inl rfl)) (pgs_cons (pg_name (i := 9) N rfl (.inl rfl)) pgs_nil))))
          (pss_one (ps_if (pt_cmp (pc_dnotin hu (pe_tup (pa_cons (pv 8) (pa_cons (pv 9) pa_nil))) (pv 4)))
            (pss_cons (ps_dput hu (pv 4) (pe_tup (pa_cons (pv 8) (pa_cons (pv 9) pa_nil))) (pv 6) rfl)
            (pss_one (ps_for PassesOwn.never rfl (pi_list (pv 0)) (pg_name (i := 10) N rfl (.inl rfl))
              (pss_one (ps_if (pt_val (pe_fn CA hr (pa_cons (pv 10) (pa_cons (pv 8) (pa_cons (pv 9) pa_nil)))))
                (pss_cons (ps_set (i := 11) N rfl (.inl rfl) (pe_tup (pa_cons (pe_ix ix_tup (pv 10) pe_int (fun _ _ => rfl)) (pa_cons (pe_op op_add (pv 9) (pe_ix ix_tup (pv 10) pe_int (fun _ _ => rfl))) pa_nil))))
                (pss_one (ps_if (pt_cmpR op_gt (pe_ix ix_tup (pv 11) pe_int (fun _ _ => rfl)) (pv 6) (nomark _))
                  (pss_one (ps_expr (pe_bm PySem.F.plainAttrs_list PySem.F.slot_list_append PySem.F.type_list_append mt_append (pv 5) (pa_cons (pv 11) pa_nil))))
                  (pss_one (ps_expr (pe_bm PySem.F.plainAttrs_list PySem.F.slot_list_append PySem.F.type_list_append mt_append (pv 7) (pa_cons (pv 11) pa_nil))))))) pss_nil))))) pss_nil)))))))
      (pss_one (ps_ret (pv 4)))), ?_⟩
    -- the two
    refine seqV (Good := fun σ2 H2 => ∃ (f w : Addr), H f = none ∧ H w = none ∧ f ≠ w ∧ Same H H2 ∧ H2 f = some (.dT (kvR [])) ∧ (∃ xs, H2 w = some (.lst xs) ∧ PrAll H2 xs [(a, st)]) ∧ σ2 = σO D a st cap f w none none none none none none) ?_ ?_
    · intro nx hnx
      intro f hf
      have s1 : Same H (upd H f (.dT [])) := same_upd hf
      refine ⟨_, rfl, _, rfl, (by show 2 ≤ sizeLine; decide), fun t ht => ⟨(by show 1 ≤ sizeLine; decide), fun w hw => ?_⟩⟩
      have s2 := same_upd (o := .tup [V.int a, V.int st]) ht
      have s3 := same_upd (o := .lst [V.ref t]) hw
      have fw : f ≠ w := ne_of_none (s2 _ _ (show upd H f (.dT []) f = some _ from upd_same)) hw
      exact ⟨_, _, rfl, hnx _ _ ⟨f, w, hf, (s1.trans s2).free hw, fw, (s1.trans s2).trans s3, s3 _ _ (s2 _ _ upd_same), ⟨_, upd_same, .cons ⟨t, rfl, s3 _ _ upd_same⟩ .nil⟩, rfl⟩⟩
    rintro _ H1 ⟨f, w, nf, nw, fw, s1, hf, hw, rfl⟩
    refine ⟨_, rfl, _, rfl, _, _, rfl, rfl, (st : Int), (cap : Int) + 1, rfl, ⟨by omega, by omega, by omega, by omega⟩, ?_⟩
    refine for_range (lo := (st : Int)) (n := ((cap : Int) + 1 - (st : Int)).toNat) (fun i σ2 H2 => ∃ (w : Addr) (fs : List ((Nat × Nat) × Nat)) (ws : List (Nat × Nat)) (x6 x7 x8 x9 x10 x11 : Option V), H w = none ∧ f ≠ w ∧ Same H H2 ∧ H2 f = some (.dT (kvR fs)) ∧ (∃ xs, H2 w = some (.lst xs) ∧ PrAll H2 xs ws) ∧ σ2 = σO D a st cap f w x6 x7 x8 x9 x10 x11 ∧
        (∀ R, R = st + i → Ly nn R ds (a, st) fs ws [] ∧ (∀ t ∈ keysR fs, Cld ds R fs ws [] t)) ∧ (0 < i → ∀ R, R + 1 = st + i → FdR nn R ds (a, st) fs) ∧ ws.length ≤ 1 + fs.length * 60)
      ⟨w, [], [(a, st)], none, none, none, none, none, none, nw, fw, s1, hf, hw, rfl, fun R eR => ?_, (fun z => absurd z (Nat.lt_irrefl 0)), by show 1 ≤ _; omega⟩ ?_ ?_
    · have : R = st := by omega
      rw [this]
      exact ⟨Ly.init (s := (a, st)) an, fun t z => (nomatch z)⟩
    · clear fw s1 hf hw nw w H1
      rintro i σ2 H2 hi ⟨w, fs, ws, x6, x7, x8, x9, x10, x11, nw, fw, s2, hf, hw, rfl, ly0, fnd, wl⟩
      refine gn ?_
      obtain ⟨R, eR⟩ : ∃ R, R = st + i := ⟨_, rfl⟩
      obtain ⟨ly, cl⟩ := ly0 R eR
      have Rc : R ≤ cap := by omega
      clear fnd ly0
      have eR2 : (st : Int) + (i : Int) = (R : Int) := by omega
      rw [eR2]
      -- to do, for later
      refine seqV (Good := fun σ3 H3 => ∃ (l : Addr), RoAt H H3 f w l fs ws [] ∧ σ3 = σO D a st cap f l (some (.int (R : Nat))) (some (.ref w)) x8 x9 x10 x11) ?_ ?_
      · intro nx hnx
        refine ⟨_, rfl, (by show 0 ≤ sizeLine; decide), fun l hl => ⟨_, _, rfl, hnx _ _ ⟨l, ?_, rfl⟩⟩⟩
        have sl := same_upd (o := .lst []) hl
        obtain ⟨xs, hw, pa⟩ := hw
        exact ⟨nf, nw, s2.free hl, fw, ne_of_none hf hl, ne_of_none hw hl, s2.trans sl, sl _ _ hf, ⟨xs, sl _ _ hw, PrAll.same sl pa⟩, ⟨[], upd_same, .nil⟩⟩
      clear hf hw s2
      rintro _ H3 ⟨l, r3, rfl⟩
      refine ⟨fun m σ H4 => ∃ (fs : List ((Nat × Nat) × Nat)) (ws ls : List (Nat × Nat)) (x8 x9 x10 x11 : Option V), m = (nn * (R + 1) - fs.length) * 61 + ws.length ∧ σ = σO D a st cap f l (some (.int (R : Nat))) (some (.ref w)) x8 x9 x10 x11 ∧ RoAt H H4 f w l fs ws ls ∧ Ly nn R ds (a, st) fs ws ls ∧ (∀ t ∈ keysR fs, Cld ds R fs ws ls t) ∧ ws.length + ls.length ≤ 1 + fs.length * 60,
        ⟨_, fs, ws, [], x8, x9, x10, x11, rfl, rfl, r3, ly, cl, wl⟩, ?_⟩
      clear r3 ly cl wl H3 fs ws x8 x9 x10 x11
      rintro m σ H2 ⟨fs, ws, ls, x8, x9, x10, x11, rfl, rfl, r2, ly, cl, wl⟩
      obtain ⟨xs, hw, pa⟩ := r2.hw
      refine ⟨_, rfl, (by show 0 ≤ sizeLine; decide), fun e he => ?_⟩
      have se := same_upd (o := .lst []) he
      refine ⟨_, .list [], .lst (.inl (.inl (se _ _ hw))) (PrAll.same se pa).dps, .lst (.inl (.inl upd_same)) .nil, pD_shaped _, by decide +kernel, !decide (ws = []), congrArg (fun b => V.bl (!b)) (pD_nil ws), ?_⟩
      rcases List.eq_nil_or_concat ws with rfl | ⟨ws0, t0, rfl⟩
      · have r4 := r2.go se
        refine iteF ⟨l, fs, ls, _, _, _, _, _, _, r4.nl, r4.fl, r4.same, r4.hf, r4.hl, rfl, fun R' e' => ?_, fun _ R' e' => ?_, by simpa using wl⟩
        · obtain rfl : R' = R + 1 := by omega
          exact ly.next ok cl
        · obtain rfl : R' = R := by omega
          exact ly.found cl
      have hne : decide (ws0 ++ [t0] = []) = false := decide_eq_false (by simp)
      rw [List.concat_eq_append] at *
      rw [hne]
      refine iteT ⟨_, fun σ' H' h => h, ?_⟩
      obtain ⟨xs0, x0, rfl, pa0, t, rfl, ht⟩ := paired_snoc pa
      have hw' := se _ _ hw
      have tn := (r2.go se).ne (se _ _ ht)
      refine ⟨_, rfl, .inl ⟨rfl, _, .inl (.inl hw')⟩, w, _, .ref t, rfl, rfl, hw', by simp, ?_⟩
      rw [List.dropLast_concat]
      have r3 : RoAt H (upd (upd H2 e (.lst [])) w (.lst xs0)) f w l fs ws0 ls := (r2.go se).putW (PrAll.same se pa0)
      refine ⟨t, _, rfl, .inl (.inl (by rw [upd_ne tn.2.1]; exact se _ _ ht)), rfl, _, _, rfl, _, _, rfl, rfl, ?_⟩
      generalize upd (upd H2 e (.lst [])) w (.lst xs0) = H3 at r3
      clear hw hw' ht tn pa se he e r2 pa0
      rw [List.length_append] at wl
      have wl : (ws0.length + 1) + ls.length ≤ 1 + fs.length * 60 := wl
      -- met before?
      refine ⟨_, rfl, _, rfl, (by show 2 ≤ sizeLine; decide), fun T hT => ?_⟩
      have sT := same_upd (o := .tup [V.int (t0.1 : Nat), V.int (t0.2 : Nat)]) hT
      have hTk : upd H3 T (.tup [V.int (t0.1 : Nat), V.int (t0.2 : Nat)]) T = some (.tup ((kS t0).map kV)) := upd_same
      have r4 := r3.go sT
      generalize upd H3 T (.tup [V.int (t0.1 : Nat), V.int (t0.2 : Nat)]) = H4 at hTk r4
      refine ⟨_, rfl, f, _, rfl, .t r4.hf hTk, _, rfl, ?_⟩
      rw [valR_isSome]
      by_cases k : t0 ∈ keysR fs
      · rw [decide_eq_true k]
        obtain ⟨ly2, cl2⟩ := ly.pop k cl
        refine iteF ⟨_, ?_, fs, ws0, ls, _, _, _, _, rfl, rfl, r4, ly2, cl2, by omega⟩
        rw [List.length_append]
        show _ < _ + (ws0.length + 1)
        omega
      rw [decide_eq_false k]
      obtain ⟨ly2, cl2⟩ := ly.push k cl
      have ll := ly2.len
      rw [List.length_append] at ll
      have ll : fs.length + 1 ≤ nn * (R + 1) := ll
      have nb : nn * (R + 1) ≤ 16 * 101 := Nat.mul_le_mul n16 (by omega)
      refine iteT ⟨_, rfl, _, rfl, _, rfl, _, rfl, (by show 2 ≤ sizeLine; decide), fun T2 hT2 => ?_⟩
      have sT2 := same_upd (o := .tup [V.int (t0.1 : Nat), V.int (t0.2 : Nat)]) hT2
      have hTk2 : upd H4 T2 (.tup [V.int (t0.1 : Nat), V.int (t0.2 : Nat)]) T2 = some (.tup ((kS t0).map kV)) := upd_same
      have r5 := r4.go sT2
      generalize upd H4 T2 (.tup [V.int (t0.1 : Nat), V.int (t0.2 : Nat)]) = H5 at hTk2 r5
      refine ⟨f, _, rfl, .t r5.hf hTk2 (by unfold kvR; rw [List.length_map, sizeLine_eq]; omega), ?_⟩
      rw [putK_new _ (valR_none k)]
      have r6 : RoAt H (upd H5 f (.dT (kvR fs ++ [(kS t0, V.int (R : Nat))]))) f w l (fs ++ [(t0, R)]) ws0 ls := by
        have := r5.putF (gs := fs ++ [(t0, R)])
        unfold kvR at this ⊢
        rw [List.map_append] at this
        exact this
      generalize upd H5 f (.dT (kvR fs ++ [(kS t0, V.int (R : Nat))])) = H6 at r6
      clear r5 r4 r3 hTk hTk2 sT sT2 hT hT2 ly
      refine ⟨_, rfl, D, rfl, ⟨ys, .inl (.inl (r6.same _ _ hD))⟩, ?_⟩
      have k0 : t0 ∈ keysR (fs ++ [(t0, R)]) := by
        rw [keys_snoc]
        exact List.mem_append_right _ (List.mem_singleton.mpr rfl)
      generalize hgs : fs ++ [(t0, R)] = gs at r6 ly2 cl2 k0
      have gl : gs.length = fs.length + 1 := by
        rw [← hgs, List.length_append]
        rfl
      refine loop_of (n := ys.length) (fun j σ H4 => ∃ (us vs : List (Nat × Nat)) (x10 x11 : Option V), σ = σO D a st cap f l (some (.int (R : Nat))) (some (.ref w)) (some (.int (t0.1 : Nat))) (some (.int (t0.2 : Nat))) x10 x11 ∧ RoAt H H4 f w l gs us vs ∧ Ly nn R ds (a, st) gs us vs ∧
          (∀ t ∈ keysR gs, t ≠ t0 → Cld ds R gs us vs t) ∧ Cld (ds.take j) R gs us vs t0 ∧ us.length + vs.length ≤ ws0.length + ls.length + j ∧ us.length ≤ ws0.length + j)
        ⟨ws0, ls, x10, x11, rfl, r6, ly2, cl2, (fun d hd => by rw [List.take_zero] at hd; exact nomatch hd), Nat.le_refl _, Nat.le_refl _⟩ ?_ ?_
      · rintro σ H7 ⟨us, vs, x10, x11, rfl, r7, ly7, cl7, c7, l7, l8⟩
        refine ⟨⟨_, .inl (.inl (r7.same _ _ hD)), Nat.le_refl _⟩, ?_⟩
        refine ⟨_, ?_, gs, us, vs, _, _, _, _, rfl, rfl, r7, ly7, fun t ht => ?_, by omega⟩
        · rw [List.length_append, gl]
          show _ < _ + (ws0.length + 1)
          omega
        · by_cases e : t = t0
          · rw [yl, List.take_length] at c7
            rw [e]
            exact c7
          · exact cl7 t ht e
      · rintro j σ H7 hj ⟨us, vs, x10, x11, rfl, r7, ly7, cl7, c7, l7, l8⟩
        refine ⟨⟨_, _, .inl (.inl (r7.same _ _ hD)), List.getElem?_eq_getElem hj⟩, ?_⟩
        rintro x H8 ⟨rfl, hy⟩
        have hyi := hy _ (.inl (.inl (r7.same _ _ hD)))
        obtain ⟨d, hd, td, rfl, htd⟩ := Paired.at dd hyi
        have dm := List.mem_of_getElem? hd
        have od := ok d dm
        have htd := r7.same _ _ htd
        have tk : ds.take (j + 1) = ds.take j ++ [d] := by rw [List.take_succ, hd]; rfl
        refine gn ?_
        refine ⟨_, rfl, _, rfl, _, rfl, td, d, t0, rfl, htd, (sz d t0).isSome, rfl, ?_⟩
        cases hz : sz d t0 with
        | none =>
          refine iteF ⟨us, vs, _, _, rfl, r7, ly7, cl7, fun d' hd' u e => ?_, by omega, by omega⟩
          rw [tk] at hd'
          rcases List.mem_append.mp hd' with hd' | hd'
          · exact c7 d' hd' u e
          · rw [List.mem_singleton.mp hd', hz] at e
            exact nomatch e
        | some u =>
          have hu2 : u = (d.g.toNat, ((t0.2 : Int) + d.c).toNat) ∧ 0 ≤ (t0.2 : Int) + d.c := by
            unfold sz at hz
            split at hz
            · rename_i z
              exact ⟨(Option.some.inj hz).symm, z.2.1⟩
            · exact nomatch hz
          have g0 := od.g0
          have eu1 : d.g = ((u.1 : Nat) : Int) := by rw [hu2.1]; show d.g = ((d.g.toNat : Nat) : Int); omega
          have eu2 : (t0.2 : Int) + d.c = ((u.2 : Nat) : Int) := by rw [hu2.1]; show _ = ((((t0.2 : Int) + d.c).toNat : Nat) : Int); have := hu2.2; omega
          refine iteT ?_
          refine ⟨_, rfl, td, _, _, _, rfl, rfl, .inl (.inl htd), rfl, _, rfl, _, rfl, td, _, _, _, rfl, rfl, .inl (.inl htd), rfl, _, _, rfl, rfl, (by show 2 ≤ sizeLine; decide), fun T hT => ?_⟩
          have hTT : ∀ {o : HO}, o = .tup [V.int d.g, V.int ((t0.2 : Nat) + d.c)] → o = .tup ((kS u).map kV) := fun z => by
            rw [z, kS_V, eu1, eu2]
          have sT := same_upd (o := .tup [V.int d.g, V.int ((t0.2 : Nat) + d.c)]) hT
          have hTk : upd H8 T (.tup [V.int d.g, V.int ((t0.2 : Nat) + d.c)]) T = some (.tup [V.int (u.1 : Nat), V.int (u.2 : Nat)]) := by rw [upd_same, eu1, eu2]
          have r8 := r7.go sT
          generalize upd H8 T (.tup [V.int d.g, V.int ((t0.2 : Nat) + d.c)]) = H9 at hTk r8
          refine ⟨_, rfl, T, _, _, _, rfl, rfl, .inl (.inl hTk), rfl, _, rfl, _, _, rfl, rfl, decide (((u.2 : Nat) : Int) > (R : Int)), rfl, ?_⟩
          obtain ⟨xs1, hw1, p1⟩ := r8.hw
          obtain ⟨xs2, hl2, p2⟩ := r8.hl
          have xl1 := Paired.length p1
          have xl2 := Paired.length p2
          have jl : j < 60 := by omega
          have f60 : fs.length * 60 ≤ (16 * 101) * 60 := Nat.mul_le_mul_right _ (by omega)
          by_cases c : R < u.2
          · rw [decide_eq_true (by omega)]
            refine iteT ⟨_, rfl, .inl ⟨rfl, _, .inl (.inl hl2)⟩, _, rfl, l, _, _, rfl, rfl, hl2, by rw [sizeLine_eq]; omega, ?_⟩
            refine ⟨us, vs ++ [u], _, _, rfl, r8.putL (PySem.Paired.snoc p2 ⟨T, rfl, hTk⟩), ly7.high ok k0 dm hz, fun t ht ne => (cl7 t ht ne).mono (fun _ z => z) fun _ z => List.mem_append_left _ z, fun d' hd' u' e => ?_, by rw [List.length_append]; show us.length + (vs.length + 1) ≤ _; omega, by omega⟩
            rw [tk] at hd'
            rcases List.mem_append.mp hd' with hd' | hd'
            · exact (c7.mono (ws' := us) (ls' := vs ++ [u]) (fun _ z => z) fun _ z => List.mem_append_left _ z) d' hd' u' e
            · rw [List.mem_singleton.mp hd', hz] at e
              obtain rfl := Option.some.inj e
              exact ⟨fun z => absurd z (by omega), fun _ => List.mem_append_right _ (List.mem_singleton.mpr rfl)⟩
          · rw [decide_eq_false (by omega)]
            refine iteF ⟨_, rfl, .inl ⟨rfl, _, .inl (.inl hw1)⟩, _, rfl, w, _, _, rfl, rfl, hw1, by rw [sizeLine_eq]; omega, ?_⟩
            refine ⟨us ++ [u], vs, _, _, rfl, r8.putW (PySem.Paired.snoc p1 ⟨T, rfl, hTk⟩), ly7.low ok k0 dm hz (by omega), fun t ht ne => (cl7 t ht ne).mono (fun _ z => List.mem_append_left _ z) fun _ z => z, fun d' hd' u' e => ?_, by rw [List.length_append]; show (us.length + 1) + vs.length ≤ _; omega, by rw [List.length_append]; show us.length + 1 ≤ _; omega⟩
            rw [tk] at hd'
            rcases List.mem_append.mp hd' with hd' | hd'
            · exact (c7.mono (ws' := us ++ [u]) (ls' := vs) (fun _ z => List.mem_append_left _ z) fun _ z => z) d' hd' u' e
            · rw [List.mem_singleton.mp hd', hz] at e
              obtain rfl := Option.some.inj e
              exact ⟨fun z => .inr (List.mem_append_right _ (List.mem_singleton.mpr rfl)), fun z => absurd z c⟩
    · rintro σ H2 ⟨w, fs, ws, x6, x7, x8, x9, x10, x11, nw, fw, s2, hf, hw, rfl, ly, fnd, wl⟩
      exact ⟨_, rfl, q f H2 fs nf s2 hf (fnd (by omega) cap (by omega))⟩
end
end L2.K71
end

section
set_option Elab.async false
set_option linter.all false
set_option maxRecDepth 100000
set_option maxHeartbeats 4000000
namespace L2.K71
open PySem PySem.Spec PyProof.Rows L2.Gd L2.Lv
/-! ### is, is not of truths -/
def rIsB (neg : Bool) : R2 := fun x y H Q => ∃ a b : Bool, x = .bl a ∧ y = .bl b ∧ Q (.bl (if neg then !decide (a = b) else decide (a = b))) H
theorem same_bl {M : Model} {A : Around} {E : Value → Shared → Prop} {s : Shared} {a b : Bool} {R : Bool → Shared → Prop} (q : R (decide (a = b)) s) : wpAny M A (isSame (.bool a) (.bool b)) R E s := by
  refine wpAny_isSame_plain (by cases a <;> cases b <;> rfl) ?_
  have : (Value.bool a == Value.bool b) = decide (a = b) := by cases a <;> cases b <;> rfl
  rw [this]
  exact q
theorem op_isB {X : Cx} : OpR X (compareOp .Is) (rIsB false) := by
  rintro pins s σ H x y v u Q I rx ry ⟨a, b, rfl, rfl, q⟩
  cases rx
  cases ry
  show wpAny _ _ ((isSame (.bool a) (.bool b)) >>= fun z => pure (Value.bool z)) _ _ s
  exact wpAny_bind (same_bl (wpAny_pure (fin_bl I q rfl)))
theorem op_isnotB {X : Cx} : OpR X (compareOp .IsNot) (rIsB true) := by
  rintro pins s σ H x y v u Q I rx ry ⟨a, b, rfl, rfl, q⟩
  cases rx
  cases ry
  show wpAny _ _ ((isSame (.bool a) (.bool b)) >>= fun z => pure (Value.bool (!z))) _ _ s
  exact wpAny_bind (same_bl (wpAny_pure (fin_bl I q rfl)))
/-! ### what is told of great numbers fits -/
def dO : Option Int → PyData
  | none => .none
  | some i => .int i
def OkO (v : Option Int) : Prop := ∀ i, v = some i → i.natAbs < 2 ^ 90
theorem big_log {i : Int} (h : i.natAbs < 2 ^ 90) : i.natAbs.log2 < 90 := by
  by_cases c : i.natAbs = 0
  · rw [c]
    decide
  · exact (Nat.log2_lt c).mpr h
theorem shown_big {i : Int} (h : i.natAbs < 2 ^ 90) : (PyData.shown (.int i)).length ≤ 91 := by
  have e := int_text_length_le (a := i) (k := 90) (by decide) (big_log h)
  show (Str.ofString (toString i)).length ≤ 91
  rw [PySem.ofString_length]
  exact e
theorem dO_showy {v : Option Int} (h : OkO v) : Showy (dO v) := by
  cases v with
  | none => exact ⟨rfl, rfl, by decide, by rw [sizeLine_eq]; show 4 ≤ _; decide⟩
  | some i =>
    have l := big_log (h i rfl)
    have e := shown_big (h i rfl)
    refine ⟨decide_eq_true (show i.natAbs.log2 < 1920 by omega), rfl, by show 0 ≤ 20; decide, ?_⟩
    rw [sizeLine_eq]
    exact Nat.le_trans e (by decide)
theorem dO_showy2 {v : Option Int} (h : OkO v) : Showy (.list [dO v, dO v]) := by
  have a := dO_showy h
  have ls : PyData.leavesShort 100 (dO v) = true := by
    cases v with
    | none => rfl
    | some i => exact decide_eq_true (Nat.le_trans (shown_big (h i rfl)) (by decide))
  have we : (dO v).weight ≤ 91 := by
    cases v with
    | none => exact Nat.zero_le _
    | some i =>
      have l := big_log (h i rfl)
      show (if i == 0 then 0 else i.natAbs.log2 + 1) ≤ 91
      split <;> omega
  have de : (dO v).depth = 0 := by cases v <;> rfl
  have b := PyData.shown_le 100 (by decide) (.list [dO v, dO v]) (by simp [PyData.leavesShort, PyData.leavesShortAll, ls])
  have w2 : (PyData.list [dO v, dO v]).weight ≤ 184 := by
    simp only [PyData.weight, PyData.weightAll]
    omega
  refine ⟨by simp [PyData.showable, PyData.showableAll, a.1], by simp [PyData.hasDict, PyData.hasDictAll, a.2.1], by simp only [PyData.depth, PyData.depthAll, de]; decide, ?_⟩
  rw [sizeLine_eq]
  have : (100 + 2) * (PyData.list [dO v, dO v]).weight + 100 ≤ (100 + 2) * 184 + 100 := Nat.add_le_add_right (Nat.mul_le_mul_left _ w2) _
  omega
end L2.K71
end

section
set_option Elab.async false
set_option linter.all false
set_option maxRecDepth 100000
set_option maxHeartbeats 4000000
namespace L2.K71
open PySem PySem.Spec PyProof.Rows L2.Gd L2.Lv
theorem bl_showy (v : Bool) : Showy (.bool v) := by
  cases v
  · exact ⟨rfl, rfl, by decide, by rw [sizeLine_eq]; show 5 ≤ _; decide⟩
  · exact ⟨rfl, rfl, by decide, by rw [sizeLine_eq]; show 4 ≤ _; decide⟩
theorem oV_dp {K : PySem.W.Frag} {H : Hp} (r : Option Nat) : Dp K H (oV r) (dO (r.map fun k => (k : Int))) := by
  cases r with
  | none => exact .non
  | some k => exact .int _
theorem okO_sm {r : Option Nat} (h : ∀ k, r = some k → k ≤ 1000) : OkO (r.map fun k => (k : Int)) := by
  intro i z
  cases r with
  | none => exact nomatch z
  | some k =>
    have := h k rfl
    obtain rfl := Option.some.inj z
    have e2 : (2 : Nat) ^ 90 = 1237940039285380274899124224 := by decide
    rw [e2]
    show k < _
    omega
theorem HouseL.pot {C : Addr} {H H' : Hp} {p h l : Addr} {m : Int} {xs : List V} {ds : List Dd} (hp : PotAt H p) (ne : l ≠ p) (b : ButD p H H') (hh : HouseL C H h l m xs ds) : HouseL C H' h l m xs ds := by
  obtain ⟨dx, ob⟩ := hh.ob
  refine ⟨⟨dx, b _ _ (fun z => ?_) ob⟩, b _ _ ne hh.ls, DdAll.pot hp b hh.dd⟩
  obtain ⟨x, y, e, _⟩ := hp
  rw [z, e] at ob
  exact nomatch ob
def spPr (C2 : Addr) : Sp := fun vs H Q _ => ∃ (p h l : Addr) (a s b e n : Nat) (r : Option Nat) (xs : List V) (ds : List Dd), vs = [.ref p, .ref h, .int (a : Nat), .int (s : Nat), .int (b : Nat), .int (e : Nat), oV r] ∧ PotAt H p ∧ HouseL C2 H h l n xs ds ∧ WF n ds ∧ l ≠ p ∧ a < n ∧ b < n ∧ n ≤ 5 ∧ s ≤ 20 ∧ e ≤ 20 ∧ Lst (RU ds a s b e) r ∧
  ∀ H', PotAt H' p → ButD p H H' → Q (.bl true) H'
def NPq : List Str := ["_law_pot_here", "_law_house_here", "_law_place", "_law_start", "_law_goal", "_law_end", "_law_due", "_law_told", "_law_more"]
abbrev PPr : List Str := ["_law_pot_here", "_law_house_here", "_law_place", "_law_start", "_law_goal", "_law_end", "_law_due"]
theorem scPr : FnScope NPq PPr (defScope (top 63)) := ⟨rfl, rfl, rfl, by decide +kernel, rfl, by decide +kernel, by decide +kernel⟩
abbrev σP (p h : Addr) (a s b e : Nat) (r : V) (x7 x8 : Option V) : L2.St := [some (.ref p), some (.ref h), some (.int (a : Nat)), some (.int (s : Nat)), some (.int (b : Nat)), some (.int (e : Nat)), some r, x7, x8]
section
variable {P : Program} {w : World} {K : PySem.W.Frag} {mg : Str → Option Value} {base : Heap} {C2 : Addr}
theorem ok_pr {f : Addr} {fd : FuncData} (F : Fun K "_law_pair_right" "_law_pair_right" (top 63) f fd) (n : Nm mg) (T2 : ClsT K mg C2) (PL : PrH P w K mg base C2 "places" (spPlaces C2)) (LR : Fn P w K mg base 13 "least_roof" P5 (spLR C2)) (KR : KLR P w K mg base C2) (LU : Fn P w K mg base 12 "leads_under" P7 (spLU C2)) (KU : KLU P w K mg base C2)
    (LE : Fn P w K mg base 10 "leads" ["house", "place", "start", "goal", "end"] (spEl C2)) (DR : Fn P w K mg base 1 "_law_draw" ["_law_pot_here", "_law_many"] spDraw) (PK : Fn P w K mg base 2 "_law_pick" ["_law_pot_here", "_law_some"] spPick) : FnG P w K mg base 14 f fd PPr (spPr C2) := by
  refine okG F scPr (fun vs H Q h => ?_) (fun cdv A outer s H vs Q hg hr h => ?_)
  · obtain ⟨p, h, l, a, s, b, e, n, r, xs, ds, rfl, _⟩ := h
    rfl
  · obtain ⟨p, h, l, a, st, b, e, m, r, xs, ds, rfl, hp, hh, wf, lp, am, bm, m5, s20, e20, ls, q⟩ := h
    have N := scPr.nd
    have ok := wf.ok
    have r1 := hr.mono (k := 13) (j := 1) (by decide)
    have r2 := hr.mono (k := 13) (j := 2) (by decide)
    have r10 := hr.mono (k := 13) (j := 10) (by decide)
    have r12 := hr.mono (k := 13) (j := 12) (by decide)
    have mm : m * m ≤ 5 * 5 := Nat.mul_le_mul m5 m5
    refine ⟨_, pss_cons (ps_set (i := 7) N rfl (.inl rfl) (pe_lst (pa_cons (pe_fn LR hr (pa_cons (pv 1) (pa_cons (pv 2) (pa_cons (pv 3) (pa_cons (pv 4) (pa_cons (pv 5) pa_nil)))))) (pa_cons (pe_kLR KR hr (pk_cons (pv 5) (pk_cons (pv 4) (pk_cons (pv 3) (pk_cons (pv 2) (pk_cons (pv 1) pk_nil)))))) pa_nil))))
      (pss_cons (ps_if (pt_cmpR op_ne (pe_callB (call_reprAny hg hr.units) (by rfl) n.repr (by decide +kernel) (pa_cons (pv 7) pa_nil)) (pe_callB (call_reprAny hg hr.units) (by rfl) n.repr (by decide +kernel) (pa_cons (pe_op op_rep (pe_lst (pa_cons (pv 6) pa_nil)) pe_int) pa_nil)) (nomark _)) (pss_one (ps_ret pe_bl)) pss_nil)
      (pss_cons (ps_if (pw_and (pt_cmpR op_eq (pe_fn DR r1 (pa_cons (pv 0) (pa_cons pe_int pa_nil))) pe_int (nomark _)) (pw_and1 (pt_cmpR op_ne (pe_callB (call_reprAny hg hr.units) (by rfl) n.repr (by decide +kernel) (pa_cons (pe_fn LE r10 (pa_cons (pv 1) (pa_cons (pv 2) (pa_cons (pv 3) (pa_cons (pv 4) (pa_cons (pv 5) pa_nil)))))) pa_nil))
          (pe_callB (call_reprAny hg hr.units) (by rfl) n.repr (by decide +kernel) (pa_cons (pe_cmp (pc_notN (pv 6)) rfl) pa_nil)) (nomark _)))).pt (pss_one (ps_ret pe_bl)) pss_nil)
      (pss_cons (ps_if (pt_cmp (pc_isN (pv 6))) (pss_one (ps_ret (pe_cmpR op_isB (pe_fn LU r12 (pa_cons (pv 1) (pa_cons (pv 2) (pa_cons (pv 3) (pa_cons (pv 4) (pa_cons (pv 5) (pa_cons (pe_op op_add pe_int (pe_fn DR r1 (pa_cons (pv 0) (pa_cons pe_int pa_nil)))) pa_nil))))))) pe_bl (nomark _)))) pss_nil)
      (pss_cons (ps_if (pt_not (pt_chain op_le op_lt (pe_callB (call_max2 rfl) (by rfl) n.max (by decide +kernel) (pa_cons (pv 3) (pa_cons (pv 5) pa_nil))) (pv 6) (pe_op op_add (pe_callB (call_max2 rfl) (by rfl) n.max (by decide +kernel) (pa_cons (pv 3) (pa_cons (pv 5) pa_nil))) (pe_op op_mul (pe_prH PL T2 r2 (pv 1)) (pe_prH PL T2 r2 (pv 1)))))) (pss_one (ps_ret pe_bl)) pss_nil)
      (pss_cons (ps_if (pw_and (pt_cmpR op_gt (pv 6) pe_int (nomark _)) (pw_and1 (pt_cmpR op_isnotB (pe_fn LU r12 (pa_cons (pv 1) (pa_cons (pv 2) (pa_cons (pv 3) (pa_cons (pv 4) (pa_cons (pv 5) (pa_cons (pe_op op_sub (pv 6) pe_int) pa_nil))))))) pe_bl (nomark _)))).pt (pss_one (ps_ret pe_bl)) pss_nil)
      (pss_cons (ps_set (i := 8) N rfl (.inl rfl) (pe_op op_add (pv 6) (pe_fn PK r2 (pa_cons (pv 0) (pa_cons (pe_lst (pa_cons pe_int (pa_cons pe_int (pa_cons pe_int (pa_cons pe_int (pa_cons (pe_op op_pow pe_int pe_int) pa_nil)))))) pa_nil)))))
      (pss_one (ps_ret (pe_cmpR op_isB (pe_kLU KU r12 (pk_cons (pv 8) (pk_cons (pv 5) (pk_cons (pv 4) (pk_cons (pv 3) (pk_cons (pv 2) (pk_cons (pv 1) pk_nil))))))) pe_bl (nomark _)))))))))), ?_⟩
    have near : ∀ k, r = some k → RU ds a st b e k ∧ (∀ R, R < k → ¬ RU ds a st b e R) ∧ k ≤ max st e + (m * m - 1) := fun k hk => by
      rw [hk] at ls
      refine ⟨ls.1, ls.2, Nat.le_of_not_lt fun z => ls.2 _ z (ls.1.near ok am bm)⟩
    have okO : OkO (r.map fun k => (k : Int)) := okO_sm fun k hk => by have := (near k hk).2.2; omega
    -- told
    refine seqV (Good := fun σ2 H2 => ∃ t : Addr, Same H H2 ∧ H2 t = some (.lst [oV r, oV r]) ∧ σ2 = σP p h a st b e (oV r) (some (.ref t)) none) ?_ ?_
    · intro nx hnx
      refine ⟨_, rfl, _, rfl, _, rfl, _, rfl, _, rfl, h, l, a, st, b, e, m, xs, ds, rfl, hh, wf, am, bm, by omega, by omega, fun H2 r2 s2 l2 => ?_⟩
      refine ⟨_, rfl, _, rfl, _, rfl, _, rfl, _, rfl, rfl, rfl, h, l, a, st, b, e, m, xs, ds, rfl, hh.same s2, wf, am, bm, by omega, by omega, fun H3 r3 s3 l3 => ⟨(by show 2 ≤ sizeLine; decide), fun t ht => ?_⟩⟩
      rw [l2.uniq ls, l3.uniq ls]
      exact hnx _ _ ⟨t, s2.trans (s3.trans (same_upd ht)), upd_same, rfl⟩
    rintro _ H2 ⟨t, s2, ht, rfl⟩
    refine seqV (Good := fun σ2 H3 => Same H H3 ∧ σ2 = σP p h a st b e (oV r) (some (.ref t)) none) ?_ ?_
    · intro nx hnx
      refine ⟨_, rfl, _, _, rfl, .lst (.inl (.inl ht)) (.cons (oV_dp r) (.cons (oV_dp r) .nil)), dO_showy2 okO, ?_⟩
      refine ⟨_, rfl, (by show 1 ≤ sizeLine; decide), fun o ho => ?_⟩
      have so := same_upd (o := .lst [oV r]) ho
      refine ⟨o, 2, _, rfl, rfl, upd_same, by decide, by decide, (by show 1 * 2 ≤ sizeLine; decide), fun o2 ho2 => ?_⟩
      have eo : (List.replicate (2 : Int).toNat [oV r]).flatten = [oV r, oV r] := rfl
      rw [eo]
      have so2 := same_upd (o := .lst [oV r, oV r]) ho2
      exact ⟨_, _, rfl, .lst (.inl (.inl upd_same)) (.cons (oV_dp r) (.cons (oV_dp r) .nil)), dO_showy2 okO, rfl, false, by simp, iteF (hnx _ _ ⟨s2.trans (so.trans so2), rfl⟩)⟩
    clear ht s2 H2
    rintro _ H2 ⟨s2, rfl⟩
    have hp2 := hp.same s2
    have hh2 := hh.same s2
    have b2 : ButD p H H2 := Same.but s2
    clear s2
    -- leads
    refine seqV (Good := fun σ2 H3 => PotAt H3 p ∧ ButD p H2 H3 ∧ σ2 = σP p h a st b e (oV r) (some (.ref t)) none) ?_ ?_
    · intro nx hnx
      refine ⟨_, rfl, p, 16, rfl, hp2, by decide, by decide, fun z H3 z0 z16 hp3 b3 => ⟨rfl, decide (V.int z = V.int 0), rfl, ?_⟩⟩
      by_cases c : z = 0
      · rw [decide_eq_true (by rw [c])]
        refine iteT ⟨_, rfl, _, rfl, _, rfl, _, rfl, _, rfl, h, l, m, a, st, b, e, xs, ds, rfl, hh2.pot hp2 lp b3, wf, am, bm, fun v H4 s4 hv => ?_⟩
        refine ⟨_, .bool v, rfl, .bl v, bl_showy v, _, rfl, ?_⟩
        have ev : v = !decide (oV r = .non) := by
          rw [Bool.eq_iff_iff, hv, ← RU.led ok am bm]
          cases r with
          | none => exact ⟨fun ⟨R, z⟩ => absurd z (ls R), fun z => (nomatch z)⟩
          | some k => exact ⟨fun _ => rfl, fun _ => ⟨k, ls.1⟩⟩
        exact ⟨_, .bool (!decide (oV r = .non)), rfl, .bl _, bl_showy _, rfl, false, by rw [← ev]; simp, iteF (hnx _ _ ⟨hp3.same s4, ButD.trans b3 (Same.but s4), rfl⟩)⟩
      · rw [decide_eq_false (fun y => c (V.int.inj y))]
        exact iteF (hnx _ _ ⟨hp3, b3, rfl⟩)
    rintro _ H3 ⟨hp3, b3, rfl⟩
    have hh3 := hh2.pot hp2 lp b3
    have b03 := ButD.trans b2 b3
    clear hp2 hh2 b2 b3 hp hh
    cases hr0 : r with
    | none =>
      rw [hr0] at ls
      refine ⟨_, rfl, true, rfl, iteT ?_⟩
      refine ⟨_, rfl, _, rfl, _, rfl, _, rfl, _, rfl, _, rfl, p, 20, rfl, hp3, by decide, by decide, fun d H4 d0 d20 hp4 b4 => ?_⟩
      obtain ⟨k, rfl⟩ : ∃ k : Nat, d = k := ⟨d.toNat, by omega⟩
      refine ⟨_, _, rfl, rfl, h, l, a, st, b, e, 20 + k, m, xs, ds, ?_, hh3.pot hp3 lp b4, wf, am, bm, by omega, by omega, fun H5 v s5 hv => ?_⟩
      · rw [show ((20 + k : Nat) : Int) = 20 + (k : Int) by omega]
        rfl
      have : v = false := Bool.eq_false_iff.mpr fun z => ls _ (hv.mp z)
      subst this
      exact ⟨false, false, rfl, rfl, q H5 (hp4.same s5) (ButD.trans b03 (ButD.trans b4 (Same.but s5)))⟩
    | some k =>
      obtain ⟨k1, k2, k3⟩ := near k hr0
      obtain ⟨k4, k5, _⟩ := id k1
      obtain ⟨dh, ob⟩ := hh3.ob
      have mm1 : 1 * 1 ≤ m * m := Nat.mul_le_mul (by omega) (by omega)
      refine seqV (Good := fun σ2 H4 => H3 = H4 ∧ σ2 = σP p h a st b e (.int (k : Nat)) (some (.ref t)) none) (fun nx hnx => ⟨_, rfl, false, rfl, iteF (hnx _ _ ⟨rfl, rfl⟩)⟩) ?_
      rintro _ _ ⟨rfl, rfl⟩
      refine seqV (Good := fun σ2 H4 => H3 = H4 ∧ σ2 = σP p h a st b e (.int (k : Nat)) (some (.ref t)) none) ?_ ?_
      · intro nx hnx
        have e1 : (if (e : Int) > st then (e : Int) else (st : Int)) ≤ (k : Int) := by split <;> omega
        have e2 : (k : Int) < (if (e : Int) > st then (e : Int) else (st : Int)) + (m : Int) * (m : Int) := by
          rw [← Int.natCast_mul]
          split <;> omega
        refine ⟨_, rfl, _, rfl, _, _, rfl, _, rfl, _, _, rfl, rfl, decide ((if (e : Int) > st then (e : Int) else (st : Int)) ≤ (k : Int)), rfl, ?_⟩
        rw [decide_eq_true e1]
        refine iteT ⟨_, rfl, _, rfl, _, _, rfl, _, rfl, h, dh, _, rfl, ob, h, dh, l, m, rfl, ob, _, rfl, h, dh, _, rfl, ob, h, dh, l, m, rfl, ob, _, _, rfl, rfl, .inl ⟨by omega, by omega⟩, _, _, rfl, rfl, _, _, rfl, rfl, decide ((k : Int) < (if (e : Int) > st then (e : Int) else (st : Int)) + (m : Int) * (m : Int)), rfl, ?_⟩
        rw [decide_eq_true e2]
        exact iteF (hnx _ _ ⟨rfl, rfl⟩)
      rintro _ _ ⟨rfl, rfl⟩
      refine seqV (Good := fun σ2 H4 => Same H3 H4 ∧ σ2 = σP p h a st b e (.int (k : Nat)) (some (.ref t)) none) ?_ ?_
      · intro nx hnx
        refine ⟨_, rfl, _, _, rfl, rfl, decide ((k : Int) > 0), rfl, ?_⟩
        by_cases c : k = 0
        · rw [decide_eq_false (by omega)]
          exact iteF (hnx _ _ ⟨Same.refl, rfl⟩)
        · rw [decide_eq_true (by omega)]
          obtain ⟨j, rfl⟩ : ∃ j, k = j + 1 := ⟨k - 1, by omega⟩
          refine iteT ⟨_, rfl, _, rfl, _, rfl, _, rfl, _, rfl, _, rfl, _, _, rfl, rfl, h, l, a, st, b, e, j, m, xs, ds, ?_, hh3, wf, am, bm, by omega, by omega, fun H5 v s5 hv => ?_⟩
          · show [V.ref h, V.int (a : Nat), V.int (st : Nat), V.int (b : Nat), V.int (e : Nat), V.int (((j + 1 : Nat) : Int) - 1)] = _
            rw [show (((j + 1 : Nat) : Int) - 1) = (j : Nat) by omega]
          have : v = false := Bool.eq_false_iff.mpr fun z => k2 j (by omega) (hv.mp z)
          subst this
          exact ⟨false, false, rfl, rfl, false, rfl, iteF (hnx _ _ ⟨s5, rfl⟩)⟩
      rintro _ H4 ⟨s4, rfl⟩
      have hp4 := hp3.same s4
      have hh4 := hh3.same s4
      have b04 := ButD.trans b03 (Same.but (D := p) s4)
      refine seqV (Good := fun σ2 H5 => ∃ j : Nat, PotAt H5 p ∧ ButD p H4 H5 ∧ σ2 = σP p h a st b e (.int (k : Nat)) (some (.ref t)) (some (.int ((k + j : Nat) : Int)))) ?_ ?_
      · intro nx hnx
        refine ⟨_, rfl, _, rfl, _, _, rfl, rfl, ⟨by decide, by decide, by decide⟩, (by show 5 ≤ sizeLine; decide), fun o ho => ?_⟩
        have so := same_upd (o := .lst [V.int 0, V.int 0, V.int 1, V.int 5, V.int ((10 : Int) ^ ((20 : Int)).toNat)]) ho
        have op : o ≠ p := fun z => by
          obtain ⟨_, _, e, _⟩ := hp4
          rw [← z, ho] at e
          exact nomatch e
        refine ⟨p, o, _, rfl, hp4.same so, upd_same, op, by simp, by simp, fun x H5 hx hp5 b5 => ?_⟩
        obtain ⟨j, rfl⟩ : ∃ j : Nat, x = .int (j : Nat) := by
          simp only [List.mem_cons, List.not_mem_nil, or_false] at hx
          rcases hx with rfl | rfl | rfl | rfl | rfl
          · exact ⟨0, rfl⟩
          · exact ⟨0, rfl⟩
          · exact ⟨1, rfl⟩
          · exact ⟨5, rfl⟩
          · exact ⟨10 ^ 20, by decide⟩
        refine ⟨_, _, rfl, rfl, hnx _ _ ⟨j, hp5, ButD.trans (Same.but so) b5, ?_⟩⟩
        show _ = σP p h a st b e (.int (k : Nat)) (some (.ref t)) (some (.int ((k + j : Nat) : Int)))
        rw [show ((k + j : Nat) : Int) = (k : Int) + (j : Int) by omega]
        rfl
      rintro _ H5 ⟨j, hp5, b5, rfl⟩
      refine ⟨_, rfl, _, rfl, _, rfl, _, rfl, _, rfl, _, rfl, rfl, rfl, h, l, a, st, b, e, k + j, m, xs, ds, rfl, hh4.pot hp4 lp b5, wf, am, bm, by omega, by omega, fun H6 v s6 hv => ?_⟩
      have : v = true := hv.mpr (k1.mono (by omega))
      subst this
      exact ⟨true, true, rfl, rfl, q H6 (hp5.same s6) (ButD.trans b04 (ButD.trans b5 (Same.but s6)))⟩
end
end L2.K71
end

section
set_option Elab.async false
set_option linter.all false
set_option maxRecDepth 100000
set_option maxHeartbeats 8000000
namespace L2.K71
open PySem PySem.Spec PyProof.Rows L2.Gd L2.Lv
/-! ### all is right -/
/-- a def called by its name, defaults behind what is written -/
structure FnD (P : Program) (w : World) (K : PySem.W.Frag) (mg : Str → Option Value) (base : Heap) (k : Nat) (x : Str) (ps : List Str) (dvs : List V) (sp : Sp) : Prop where
  ex : ∃ f fd ds, mg x = some (.ref f) ∧ PySem.W.keepIn K (.ref f) = true ∧ Vals dvs ds ∧ Binds K fd ps ds ∧ FnOk P w K mg base CX0 k f fd ps sp
theorem pe_fnD {X : Cx} {k : Nat} {x : Str} {ps : List Str} {dvs : List V} {sp : Sp} {e : Expr} {es : List Expr} {t : TA} {p pos : Pos}
    (F : FnD X.prog X.w X.K X.mg X.base k x ps dvs sp) (hr : Room k X.A) (ha : PA X (e :: es) t) (gl : Gl X x := by rfl) (hdb : (x == ("__debug__" : Str)) = false := by decide)
    (he : starEach (e :: es) X.env = (false, eval e X.env) :: starEach es X.env := by rfl)
    (hpl : (backTo pos (starEach es X.env)).any (·.1) = false := by rfl) :
    PE X (.Call (.Name x p) (e :: es) [] pos) (tCall sp dvs E0 t) := by
  obtain ⟨f, fd, ds, m, kp, v, b, G⟩ := F.ex
  exact pe_call G hr gl m kp b v pass0 ha hdb he hpl
section
variable {P : Program} {w : World} {K : PySem.W.Frag} {mg : Str → Option Value} {base : Heap} {C2 : Addr}
structure RK (P : Program) (w : World) (K : PySem.W.Frag) (mg : Str → Option Value) (base : Heap) (C2 : Addr) : Prop where
  n : Nm mg
  T : ClsT K mg C2
  M : MkH P w K mg base C2
  ho : FnD P w K mg base 3 "_law_house" ["_law_pot_here", "_law_most", "_law_is_plain"] [.bl false] spHo
  dw : Fn P w K mg base 1 "_law_draw" ["_law_pot_here", "_law_many"] spDraw
  pk : Fn P w K mg base 2 "_law_pick" ["_law_pot_here", "_law_some"] spPick
  ro : Fn P w K mg base 2 "_law_roofs" ["_law_deeds", "_law_place", "_law_start", "_law_cap"] spRo
  pr : FnGd P w K mg base 14 "_law_pair_right" PPr (spPr C2)
  de : MeH P w K mg base C2 "deeds" 1 ["self"] (spDeeds C2)
def spRight : Sp := fun vs H Q _ => ∃ (p : Addr), vs = [.ref p] ∧ PotAt H p ∧ ∀ H', ButD p H H' → Q (.bl true) H'
def NRi : List Str := ["_law_pot_here", "_law_places", "_law_deeds", "_law_house_here", "_law_turn", "_law_place", "_law_start", "_law_found", "_law_step", "_law_goal", "_law_end"]
theorem scRi : FnScope NRi ["_law_pot_here"] (defScope (top 64)) := ⟨rfl, rfl, rfl, by decide +kernel, rfl, by decide +kernel, by decide +kernel⟩
abbrev σR (p : Addr) (m : Nat) (D h : Addr) (x4 x5 x6 x7 x8 x9 x10 : Option V) : L2.St := [some (.ref p), some (.int (m : Nat)), some (.ref D), some (.ref h), x4, x5, x6, x7, x8, x9, x10]
theorem PotAt.ne {H : Hp} {p a : Addr} (hp : PotAt H p) {o : HO} (h : H a = some o) (ho : ∀ xs, o ≠ .lst xs) : a ≠ p := by
  rintro rfl
  obtain ⟨x, y, e, _⟩ := hp
  rw [h] at e
  exact ho _ (Option.some.inj e)
theorem new_ne {H : Hp} {p o : Addr} (hp : PotAt H p) (h : H o = none) : o ≠ p := fun z => by
  obtain ⟨_, _, e, _⟩ := hp
  rw [← z, h] at e
  exact nomatch e
theorem ok_right {f : Addr} {fd : FuncData} (F : Fun K "_law_right" "_law_right" (top 64) f fd) (k : RK P w K mg base C2) : FnG P w K mg base 15 f fd ["_law_pot_here"] spRight := by
  refine okG F scRi (fun vs H Q h => ?_) (fun cdv A outer s H vs Q hg hr h => ?_)
  · obtain ⟨p, rfl, _⟩ := h
    rfl
  · obtain ⟨p, rfl, hp, q⟩ := h
    have N := scRi.nd
    have T := k.T
    have n := k.n
    have hu := hu_of hr
    have r1 := hr.mono (k := 14) (j := 1) (by decide)
    have r2 := hr.mono (k := 14) (j := 2) (by decide)
    have r3 := hr.mono (k := 14) (j := 3) (by decide)
    have r6 := hr.mono (k := 14) (j := 6) (by decide)
    refine ⟨_, pss_cons (ps_asg (pe_fnD k.ho r3 (pa_cons (pv 0) (pa_cons pe_int pa_nil))) (pg_tup rfl (pgs_cons (pg_name (i := 1) N rfl (.inl rfl)) (pgs_cons (pg_name (i := 2) N rfl (.inl rfl)) pgs_nil))))
      (pss_cons (ps_set (i := 3) N rfl (.inl rfl) (pe_house k.M T r6 (pa_cons (pv 1) (pa_cons (pv 2) pa_nil))))
      (pss_cons (ps_for PassesOwn.never rfl (pi_range1 (by rfl) n.range (pa_cons pe_int pa_nil)) (pg_name (i := 4) N rfl (.inl rfl))
        (pss_cons (ps_par (i := 5) (j := 6) rfl N rfl rfl (by decide) rfl rfl (pa_cons (pe_fn k.dw r1 (pa_cons (pv 0) (pa_cons (pv 1) pa_nil))) (pa_cons (pe_fn k.pk r2 (pa_cons (pv 0) (pa_cons (pe_lst (pa_cons pe_int (pa_cons pe_int (pa_cons pe_int (pa_cons pe_int (pa_cons pe_int (pa_cons pe_int pa_nil))))))) pa_nil))) pa_nil)) (by rfl))
        (pss_cons (ps_set (i := 7) N rfl (.inl rfl) (pe_fn k.ro r2 (pa_cons (pv 2) (pa_cons (pv 5) (pa_cons (pv 6) (pa_cons (pe_op op_add pe_int (pe_op op_mul (pv 1) (pv 1))) pa_nil))))))
        (pss_one (ps_for PassesOwn.never rfl (pi_range1 (by rfl) n.range (pa_cons pe_int pa_nil)) (pg_name (i := 8) N rfl (.inl rfl))
          (pss_cons (ps_par (i := 9) (j := 10) rfl N rfl rfl (by decide) rfl rfl (pa_cons (pe_fn k.dw r1 (pa_cons (pv 0) (pa_cons (pv 1) pa_nil))) (pa_cons (pe_fn k.pk r2 (pa_cons (pv 0) (pa_cons (pe_lst (pa_cons pe_int (pa_cons (pv 6) (pa_cons (pe_op op_add (pv 6) pe_int) (pa_cons (pe_fn k.dw r1 (pa_cons (pv 0) (pa_cons pe_int pa_nil))) pa_nil))))) pa_nil))) pa_nil)) (by rfl))
          (pss_one (ps_if (pt_not (pt_val (pe_fnG k.pr hg hr (pa_cons (pv 0) (pa_cons (pv 3) (pa_cons (pv 5) (pa_cons (pv 6) (pa_cons (pv 9) (pa_cons (pv 10) (pa_cons (pe_dget1 hu (pv 7) (pe_tup (pa_cons (pv 9) (pa_cons (pv 10) pa_nil))) ⟨rfl, rfl, rfl, rfl⟩) pa_nil))))))))))
            (pss_one (ps_ret pe_bl)) pss_nil))))))))
      (pss_one (ps_ret (pe_cmpR (op_eqD hr.units) (pe_mH0 k.de T r1 (pv 3)) (pv 2) (nomark _)))))), ?_⟩
    refine seqV (Good := fun σ2 H1 => ∃ (m : Nat) (D : Addr) (ys : List V) (ds : List Dd), H1 D = some (.lst ys) ∧ D ≠ p ∧ DdAll H1 ys ds ∧ WF m ds ∧ m ≤ 5 ∧ PotAt H1 p ∧ ButD p H H1 ∧ σ2 = [some (.ref p), some (.int (m : Nat)), some (.ref D), none, none, none, none, none, none, none, none]) ?_ ?_
    · intro nx hnx
      refine ⟨_, rfl, p, rfl, hp, fun t D ys ds m H1 ht hD nD dd wf m5 hp1 b1 => ?_⟩
      exact ⟨t, _, rfl, .inl (.inl ht), rfl, _, _, rfl, _, _, rfl, rfl, hnx _ _ ⟨m, D, ys, ds, hD, nD, dd, wf, m5, hp1, b1, rfl⟩⟩
    rintro _ H1 ⟨m, D, ys, ds, hD, nD, dd, wf, m5, hp1, b1, rfl⟩
    have ok := wf.ok
    have m1 := wf.m1
    have mm : m * m ≤ 5 * 5 := Nat.mul_le_mul m5 m5
    refine seqV (Good := fun σ2 H2 => ∃ (h l : Addr), HouseL C2 H2 h l (m : Int) ys ds ∧ Same H1 H2 ∧ σ2 = σR p m D h none none none none none none none) ?_ ?_
    · intro nx hnx
      refine ⟨_, rfl, _, rfl, ?_⟩
      exact make_any (K := K) (C := C2) (.inl hD) dd wf (fun h l H3 n3 n3' s3 hh3 => ⟨rfl, hnx _ _ ⟨h, l, hh3, s3, rfl⟩⟩)
    rintro _ H2 ⟨h, l, hh, s2, rfl⟩
    have hp2 := hp1.same s2
    have hD2 := s2 _ _ hD
    have dd2 := dd.same s2
    have lp : l ≠ p := pot_refs hp2 hh.ls hh.dd.refs
    refine seqV (Good := fun σ2 H3 => ∃ x4 x5 x6 x7 x8 x9 x10 : Option V, PotAt H3 p ∧ ButD p H2 H3 ∧ σ2 = σR p m D h x4 x5 x6 x7 x8 x9 x10) ?_ ?_
    · intro nx hnx
      refine ⟨2, rfl, by decide, by decide, for_range (lo := 0) (n := (2 : Int).toNat) (fun i σ2 H3 => ∃ x4 x5 x6 x7 x8 x9 x10 : Option V, PotAt H3 p ∧ ButD p H2 H3 ∧ σ2 = σR p m D h x4 x5 x6 x7 x8 x9 x10)
        ⟨none, none, none, none, none, none, none, hp2, ButD.refl, rfl⟩ ?_ ?_⟩
      · rintro i σ2 H3 hi ⟨x4, x5, x6, x7, x8, x9, x10, hp3, b3, rfl⟩
        refine gn ?_
        refine seqV (Good := fun σ2 H4 => ∃ a st : Nat, a < m ∧ st ≤ 9 ∧ PotAt H4 p ∧ ButD p H2 H4 ∧ σ2 = σR p m D h (some (.int (0 + (i : Int)))) (some (.int (a : Nat))) (some (.int (st : Nat))) x7 x8 x9 x10) ?_ ?_
        · intro nx2 hnx2
          refine ⟨_, rfl, _, rfl, p, m, rfl, hp3, by omega, by omega, fun d1 H4 d10 d1n hp4 b4 => ?_⟩
          obtain ⟨a, rfl⟩ : ∃ a : Nat, d1 = a := ⟨d1.toNat, by omega⟩
          refine ⟨_, rfl, (by show 6 ≤ sizeLine; decide), fun o ho => ?_⟩
          have so := same_upd (o := .lst [V.int 0, V.int 0, V.int 1, V.int 2, V.int 5, V.int 9]) ho
          refine ⟨p, o, _, rfl, hp4.same so, upd_same, new_ne hp4 ho, by simp, by simp, fun x H5 hx hp5 b5 => ?_⟩
          obtain ⟨st, rfl, st9⟩ : ∃ j : Nat, x = .int (j : Nat) ∧ j ≤ 9 := by
            simp only [List.mem_cons, List.not_mem_nil, or_false] at hx
            rcases hx with rfl | rfl | rfl | rfl | rfl | rfl
            · exact ⟨0, rfl, by decide⟩
            · exact ⟨0, rfl, by decide⟩
            · exact ⟨1, rfl, by decide⟩
            · exact ⟨2, rfl, by decide⟩
            · exact ⟨5, rfl, by decide⟩
            · exact ⟨9, rfl, by decide⟩
          exact ⟨_, _, rfl, hnx2 _ _ ⟨a, st, by omega, st9, hp5, ButD.trans b3 (ButD.trans b4 (ButD.trans (Same.but so) b5)), rfl⟩⟩
        rintro _ H4 ⟨a, st, am, st9, hp4, b4, rfl⟩
        refine seqV (Good := fun σ2 H5 => ∃ (f : Addr) (fs : List ((Nat × Nat) × Nat)), Same H4 H5 ∧ H5 f = some (.dT (kvR fs)) ∧ FdR m (11 + m * m) ds (a, st) fs ∧ σ2 = σR p m D h (some (.int (0 + (i : Int)))) (some (.int (a : Nat))) (some (.int (st : Nat))) (some (.ref f)) x8 x9 x10) ?_ ?_
        · intro nx2 hnx2
          refine ⟨_, rfl, _, rfl, _, rfl, _, rfl, _, rfl, _, _, rfl, rfl, .inl ⟨by omega, by omega⟩, _, _, rfl, rfl, D, ys, ds, m, a, st, 11 + m * m, ?_, b4 _ _ nD hD2, DdAll.pot hp2 b4 dd2, ok, am, by omega, by omega, by omega, wf.len, fun f H5 fs nf s5 hf fd => hnx2 _ _ ⟨f, fs, s5, hf, fd, rfl⟩⟩
          rw [show ((11 + m * m : Nat) : Int) = 11 + (m : Int) * (m : Int) by rw [← Int.natCast_mul]; omega]
          rfl
        rintro _ H5 ⟨f, fs, s5, hf, fnd, rfl⟩
        have hp5 := hp4.same s5
        have b5 := ButD.trans b4 (Same.but (D := p) s5)
        refine ⟨4, rfl, by decide, by decide, for_range (lo := 0) (n := (4 : Int).toNat) (fun j σ2 H6 => ∃ x8 x9 x10 : Option V, PotAt H6 p ∧ ButD p H5 H6 ∧ σ2 = σR p m D h (some (.int (0 + (i : Int)))) (some (.int (a : Nat))) (some (.int (st : Nat))) (some (.ref f)) x8 x9 x10)
          ⟨x8, x9, x10, hp5, ButD.refl, rfl⟩ ?_ ?_⟩
        · clear x8 x9 x10
          rintro j σ2 H6 hj ⟨x8, x9, x10, hp6, b6, rfl⟩
          refine gn ?_
          refine seqV (Good := fun σ2 H7 => ∃ b e : Nat, b < m ∧ e ≤ 11 ∧ PotAt H7 p ∧ ButD p H5 H7 ∧ σ2 = σR p m D h (some (.int (0 + (i : Int)))) (some (.int (a : Nat))) (some (.int (st : Nat))) (some (.ref f)) (some (.int (0 + (j : Int)))) (some (.int (b : Nat))) (some (.int (e : Nat)))) ?_ ?_
          · intro nx2 hnx2
            refine ⟨_, rfl, _, rfl, p, m, rfl, hp6, by omega, by omega, fun d1 H7 d10 d1n hp7 b7 => ?_⟩
            obtain ⟨b, rfl⟩ : ∃ a : Nat, d1 = a := ⟨d1.toNat, by omega⟩
            refine ⟨_, rfl, _, rfl, _, rfl, _, _, rfl, rfl, _, rfl, p, 12, rfl, hp7, by decide, by decide, fun d2 H8 d20 d2n hp8 b8 => ⟨(by show 4 ≤ sizeLine; decide), fun o ho => ?_⟩⟩
            obtain ⟨e2, rfl⟩ : ∃ a : Nat, d2 = a := ⟨d2.toNat, by omega⟩
            have so := same_upd (o := .lst [V.int 0, V.int (st : Nat), V.int ((st : Int) + 1), V.int (e2 : Nat)]) ho
            refine ⟨p, o, _, rfl, hp8.same so, upd_same, new_ne hp8 ho, by simp, by simp, fun x H9 hx hp9 b9 => ?_⟩
            obtain ⟨e, rfl, e11⟩ : ∃ j : Nat, x = .int (j : Nat) ∧ j ≤ 11 := by
              simp only [List.mem_cons, List.not_mem_nil, or_false] at hx
              rcases hx with rfl | rfl | rfl | rfl
              · exact ⟨0, rfl, by decide⟩
              · exact ⟨st, rfl, by omega⟩
              · exact ⟨st + 1, rfl, by omega⟩
              · exact ⟨e2, rfl, by omega⟩
            exact ⟨_, _, rfl, hnx2 _ _ ⟨b, e, by omega, e11, hp9, ButD.trans b6 (ButD.trans b7 (ButD.trans b8 (ButD.trans (Same.but so) b9))), rfl⟩⟩
          rintro _ H7 ⟨b, e, bm, e11, hp7, b7, rfl⟩
          have hf7 := b7 _ _ (hp5.ne hf (fun _ z => nomatch z)) hf
          have b27 := ButD.trans b5 b7
          refine ⟨_, rfl, _, rfl, _, rfl, _, rfl, _, rfl, _, rfl, _, rfl, f, rfl, .inr ⟨_, .inl hf7⟩, _, rfl, _, rfl, (by show 2 ≤ sizeLine; decide), fun T2 hT2 => ?_⟩
          have sT := same_upd (o := .tup [V.int (b : Nat), V.int (e : Nat)]) hT2
          refine ⟨_, .inr ⟨_, kS (b, e), T2, .inl (sT _ _ hf7), rfl, upd_same, rfl⟩, ?_⟩
          have ev : (valV (kvR fs) (kS (b, e))).getD .non = oV (look fs (b, e)) := by
            rw [valV_R]
            cases look fs (b, e) <;> rfl
          rw [ev]
          have hh7 := hh.pot hp2 lp b27
          refine ⟨p, h, l, a, st, b, e, m, _, ys, ds, rfl, hp7.same sT, hh7.same sT, wf, lp, am, bm, m5, by omega, by omega, fnd.least ok am bm (by omega), fun H8 hp8 b8 => ⟨true, rfl, iteF ?_⟩⟩
          exact ⟨_, _, _, hp8, ButD.trans b7 (ButD.trans (Same.but sT) b8), rfl⟩
        · rintro σ2 H6 ⟨x8, x9, x10, hp6, b6, rfl⟩
          exact ⟨_, _, _, _, _, _, _, hp6, ButD.trans b5 b6, rfl⟩
      · rintro σ2 H3 ⟨x4, x5, x6, x7, x8, x9, x10, hp3, b3, rfl⟩
        exact hnx _ _ ⟨_, _, _, _, _, _, _, hp3, b3, rfl⟩
    rintro _ H3 ⟨x4, x5, x6, x7, x8, x9, x10, hp3, b3, rfl⟩
    have hh3 := hh.pot hp2 lp b3
    have hD3 := b3 _ _ nD hD2
    have dd3 := DdAll.pot hp2 b3 dd2
    obtain ⟨dx, ob⟩ := hh3.ob
    refine ⟨_, rfl, h, dx, _, rfl, ob, flds_no _ _ (by decide +kernel) (by decide +kernel), h, l, m, ys, ds, rfl, hh3, fun o no => ?_⟩
    have so := same_upd (o := .lst ys) no
    refine ⟨_, rfl, .list (ds.map Dd.d), .list (ds.map Dd.d), .lst (.inl (.inl upd_same)) (hh3.dd.same so).dps, .lst (.inl (.inl (so _ _ hD3))) (dd3.same so).dps, shapedL (fun x hx => (wf.ok x hx).wd), shapedL (fun x hx => (wf.ok x hx).wd), ?_⟩
    have e : PyData.eqv (.list (ds.map Dd.d)) (.list (ds.map Dd.d)) = true := by
      rw [PyData.eqv, eqvs]
      exact decide_eq_true rfl
    rw [e]
    exact q _ (ButD.trans b1 (ButD.trans (Same.but s2) (ButD.trans b3 (Same.but so))))
/-! the law -/
abbrev sLaw : Stmt := top 65
def spLaw (K : PySem.W.Frag) : Sp := fun vs H Q _ => ∃ (a : Addr) (ns : List Int), vs = [.ref a] ∧ SqL K H a (ns.map V.int) ∧ ns.length ≤ 63 ∧ ∀ H', Q (.bl true) H'
theorem scLaw : FnScope ["_law_script", "_law_k"] ["_law_script"] (defScope sLaw) := ⟨rfl, rfl, rfl, by decide +kernel, rfl, by decide +kernel, by decide +kernel⟩
theorem ok_law {f : Addr} {fd : FuncData} (F : Fun K "law" "law" sLaw f fd) (n : Nm mg) (GP : Fn P w K mg base 1 "_law_pot" ["_law_script", "_law_k"] (spPot K)) (GR : FnGd P w K mg base 15 "_law_right" ["_law_pot_here"] spRight) :
    FnG P w K mg base 16 f fd ["_law_script"] (spLaw K) := by
  refine okG F scLaw (fun vs H Q h => ?_) (fun cdv A outer s H vs Q hg hr h => ?_)
  · obtain ⟨a, ns, rfl, _⟩ := h
    rfl
  · obtain ⟨a, ns, rfl, hs, hl, q⟩ := h
    have N := scLaw.nd
    have r1 := hr.mono (k := 15) (j := 1) (by decide)
    refine ⟨_, pss_one (ps_ret (pe_callB (cr_all rfl) (by rfl) n.all (by decide +kernel) (pa_cons
      (pe_lc (own := [("_law_k", 1)]) (g := gName 1) (tt := tYes) rfl N (pi_range1 (by rfl) n.range (pa_cons (pe_callB (call_max2 rfl) (by rfl) n.max (by decide +kernel) (pa_cons pe_int (pa_cons
          (pe_callB (call_min2 rfl) (by rfl) n.min (by decide +kernel) (pa_cons pe_int (pa_cons (pe_callB call_len_seq (by rfl) n.len PySem.boot_len (pa_cons (pv 0) pa_nil)) pa_nil))) pa_nil))) pa_nil))
        (blkOk_by (N := ["_law_script", "_law_k"]) (sc := defScope sLaw) (by decide +kernel)) (fun _ _ _ _ _ => pg_name (i := 1) N rfl (.inl rfl)) (fun _ _ _ _ _ => pts_nil)
        (fun _ _ _ _ _ => pe_fnG GR hg hr (pa_cons (pe_fn GP r1 (pa_cons (pv 0) (pa_cons (pv 1) pa_nil))) pa_nil))) pa_nil))), ?_⟩
    refine ⟨_, rfl, a, _, rfl, .inl hs, _, _, rfl, _, _, rfl, ?_⟩
    have hlen : (ns.map V.int).length = ns.length := List.length_map _
    generalize hr' : (if (if ((ns.map V.int).length : Int) < 2 then ((ns.map V.int).length : Int) else 2) > 1 then (if ((ns.map V.int).length : Int) < 2 then ((ns.map V.int).length : Int) else 2) else 1) = R
    have R1 : 1 ≤ R ∧ R ≤ 2 := by
      rw [hlen] at hr'
      subst hr'
      split <;> split <;> omega
    refine ⟨R, rfl, by omega, by omega, fun D hD => ?_⟩
    refine lc_mapR (lo := 0) (n := R.toNat) (G := fun _ v b => v = V.bl b) (f := fun _ => some true) (fun _ _ _ _ _ _ z => z) (by omega) ?_ ?_
    · rintro x e H2 A B he rfl b ⟨zs, hz⟩ hA hB
      unfold rgI at he
      obtain ⟨i, hi, rfl⟩ := List.mem_map.mp he
      have s2 := b.new hD
      refine ⟨rfl, yes_ite ?_⟩
      refine ⟨_, rfl, _, rfl, a, i, ns, by rw [Int.zero_add]; rfl, s2.seq hs, by omega, fun p H4 np s4 hp4 => ?_⟩
      refine ⟨p, rfl, hp4, fun H5 b5 => hA true _ H5 rfl (fun c o z => ?_) rfl⟩
      exact b5 _ _ (ne_of_none z np) (s4 _ _ z)
    · intro ys H2 h1 h2 h3
      rw [mapE] at h2
      rw [bls_of h2] at h1
      exact ⟨D, _, rfl, .inl (.inl h1), by
        have : ((rgI 0 R.toNat).map fun _ => true).all id = true := by simp
        rw [this]
        exact q H2⟩
end
end L2.K71
end

section
set_option Elab.async false
set_option linter.all false
set_option maxRecDepth 100000
set_option maxHeartbeats 4000000
namespace L2.K71
open PySem PySem.Spec PyProof.Rows L2.Gd L2.Lv
section
variable {K : PySem.W.Frag} {mg : Str → Option Value} {h : Heap} {C f p g N : Addr} {x qual : Str} {st : Stmt} {oc kV doc pm cdv ct : Value} {od an : Option Addr} {osl : Array (Option Value)}
/-- a def of the top -/
def MFact (K : PySem.W.Frag) (mg : Str → Option Value) (x : Str) (st : Stmt) : Prop := ∃ f fd, mg x = some (.ref f) ∧ Fun K x x st f fd
theorem mfact (X : K.In h) (G : h.Ns mainGlobals mg) (a : PySem.W.nsIn K mainGlobals x = some (some (.ref f)))
    (l : K.lookup f = some ⟨oc, od, .func (PySem.W.fnOf x x (defArgs st) (defBody st) (defScope st) .none kV doc pm an cdv ct), osl⟩) (c : PySem.W.codeIn K cdv x = true) (k : PySem.W.keepIn K (.ref f) = true) : MFact K mg x st :=
  ⟨f, _, PySem.W.mg_of X G a, fun_mk l c k⟩
/-- a method -/
def CFact (K : PySem.W.Frag) (C : Addr) (x qual : Str) (st : Stmt) : Prop := ∃ f fd, Meth K C x f ∧ Fun K x qual st f fd
theorem cfact (a : PySem.W.findIn K (.ref C) x = some (some (.ref f))) (i : PySem.W.isFn K (.ref f) = true)
    (l : K.lookup f = some ⟨oc, od, .func (PySem.W.fnOf x qual (defArgs st) (defBody st) (defScope st) .none kV doc pm an cdv ct), osl⟩) (c : PySem.W.codeIn K cdv qual = true) (k : PySem.W.keepIn K (.ref f) = true) : CFact K C x qual st :=
  ⟨f, _, ⟨a, i, k⟩, fun_mk l c k⟩
/-- a property -/
def PFact (K : PySem.W.Frag) (C : Addr) (x qual : Str) (st : Stmt) : Prop := ∃ p g fd, PropOf K C x p g ∧ Fun K x qual st g fd
theorem pfact {rest : List Value} (a : PySem.W.findIn K (.ref C) x = some (some (.ref p))) (b : PySem.W.specialIn K (.ref p) "__get__" = some (some (.builtin "property.__get__"))) (t : PySem.W.takesIn K (.ref p) = some true)
    (r : PySem.W.recIn K p "property" = some (.ref g :: rest))
    (l : K.lookup g = some ⟨oc, od, .func (PySem.W.fnOf x qual (defArgs st) (defBody st) (defScope st) .none kV doc pm an cdv ct), osl⟩) (c : PySem.W.codeIn K cdv qual = true) (k : PySem.W.keepIn K (.ref g) = true) : PFact K C x qual st :=
  ⟨p, g, _, ⟨a, b, t, ⟨rest, r⟩⟩, fun_mk l c k⟩
theorem kbn_of {f : Addr} {fd : FuncData} {ps ks : List Str} {n : Nat} {g : List Value → List Value → List Value} {gV : List V → List V → List V} (F : Fun K x qual st f fd)
    (h : ∀ (kV doc pm : Value) (an : Option Addr) (cdv ct : Value) (us ws : List Value), us.length = n → ws.length = ks.length →
      bindArgs (PySem.W.fnOf x qual (defArgs st) (defBody st) (defScope st) .none kV doc pm an cdv ct) ⟨us, ks.zip ws⟩ = pure (ps.zip (g us ws)))
    (r : ∀ {vs : List V} {us : List Value} {zs : List V} {ws : List Value}, Vals vs us → Vals zs ws → Vals (gV vs zs) (g us ws)) : KBn K fd ps n ks g gV := by
  obtain ⟨oc, od, kV, doc, pm, an, cdv, ct, osl, rfl, lk, hcd⟩ := F.ex
  exact ⟨fun s us ws _ l1 l2 => .of_eq (h kV doc pm an cdv ct us ws l1 l2), r⟩
/-- a def with defaults -/
def DFact (K : PySem.W.Frag) (mg : Str → Option Value) (x : Str) (st : Stmt) (dvs : List V) : Prop := ∃ f fd, mg x = some (.ref f) ∧ FunD K x x (defArgs st) (defBody st) (defScope st) dvs [] f fd
theorem dfact_b {T : Addr} {tc : Value} {td : Option Addr} {b : Bool} {tn : Nat} {tsl : Array (Option Value)} (X : K.In h) (G : h.Ns mainGlobals mg) (a : PySem.W.nsIn K mainGlobals x = some (some (.ref f)))
    (l : K.lookup f = some ⟨oc, od, .func (PySem.W.fnOf x x (defArgs st) (defBody st) (defScope st) (.ref T) kV doc pm an cdv ct), osl⟩) (c : PySem.W.codeIn K cdv x = true) (k : PySem.W.keepIn K (.ref f) = true)
    (t : K.lookup T = some ⟨tc, td, .seq #[.bool b] tn, tsl⟩) : DFact K mg x st [.bl b] :=
  ⟨f, _, PySem.W.mg_of X G a, ⟨⟨oc, od, .ref T, kV, doc, pm, an, cdv, ct, osl, rfl, l, c, .inr ⟨List.cons_ne_nil _ _, T, _, [.bool b], tn, rfl, t, rfl, .cons rfl .nil⟩, .inl rfl⟩, k⟩⟩
theorem fun_ne {y r : Str} {st2 : Stmt} {g : Addr} {fd fd2 : FuncData} (F : Fun K x qual st f fd) (G : Fun K y r st2 g fd2) (n : x ≠ y) : f ≠ g := by
  rintro rfl
  obtain ⟨_, _, _, _, _, _, _, _, _, rfl, l, _⟩ := F.ex
  obtain ⟨_, _, _, _, _, _, _, _, _, rfl, l2, _⟩ := G.ex
  have e := Option.some.inj (l.symm.trans l2)
  injection e with _ _ e2 _
  injection e2 with e3
  exact n (congrArg FuncData.name e3)
end
/-- all that the top has left -/
structure Facts (K : PySem.W.Frag) (mg : Str → Option Value) (C CP CS C2 : Addr) : Prop where
  n : Nm mg
  m16 : ∃ t, mg "MOST_PLACES" = some (.int 16 t)
  m60 : ∃ t, mg "MOST_DEEDS" = some (.int 60 t)
  TC : ClsI K mg C
  mkC : PySem.W.makesIn K C = true
  kpC : PySem.W.keepIn K (.ref C) = true
  TCP : ClsP K mg CP
  mkCP : PySem.W.makesIn K CP = true
  kpCP : PySem.W.keepIn K (.ref CP) = true
  TCS : ClsS K mg CS
  mkCS : PySem.W.makesIn K CS = true
  kpCS : PySem.W.keepIn K (.ref CS) = true
  TC2 : ClsT K mg C2
  mkC2 : PySem.W.makesIn K C2 = true
  kpC2 : PySem.W.keepIn K (.ref C2) = true
  ii : MFact K mg "is_integer" (top 2)
  ic : MFact K mg "is_count" (top 3)
  il : MFact K mg "is_list" (top 4)
  cm : MFact K mg "check_many" (top 14)
  cp : MFact K mg "check_place" (top 15)
  cs : MFact K mg "check_stands" (top 16)
  on : MFact K mg "ones" (top 18)
  rel : MFact K mg "relation_of" (top 20)
  prs : MFact K mg "pairs_of" (top 21)
  img : MFact K mg "image" (top 22)
  fol : MFact K mg "followed" (top 23)
  joi : MFact K mg "joined" (top 24)
  lb : MFact K mg "led_back" (top 25)
  clo : MFact K mg "closed" (top 26)
  oo : MFact K mg "orbit_of" (top 28)
  oa : MFact K mg "orbit_at" (top 29)
  der : MFact K mg "deed_relation" (top 31)
  gro : MFact K mg "ground_of" (top 32)
  gra : MFact K mg "grades_of" (top 33)
  sf : MFact K mg "shaft_of" (top 36)
  nd : MFact K mg "needs_of" (top 38)
  lk : MFact K mg "least_known" (top 39)
  lu : MFact K mg "leads_under" (top 44)
  low : MFact K mg "lowest_roof" (top 45)
  lrf : MFact K mg "least_roof" (top 46)
  ld : MFact K mg "leads" (top 48)
  id : MFact K mg "is_deed" (top 52)
  ck : MFact K mg "check_deeds" (top 53)
  pot : MFact K mg "_law_pot" (top 56)
  dr : MFact K mg "_law_draw" (top 57)
  pk : MFact K mg "_law_pick" (top 58)
  md : MFact K mg "_law_more_deeds" (top 59)
  ca : MFact K mg "_law_can" (top 61)
  ro : MFact K mg "_law_roofs" (top 62)
  prr : MFact K mg "_law_pair_right" (top 63)
  ri : MFact K mg "_law_right" (top 64)
  ho : DFact K mg "_law_house" (top 60) [.bl false]
  h_init : CFact K C2 "__init__" "House.__init__" (cHouse 0)
  h_de : CFact K C2 "deeds" "House.deeds" (cHouse 3)
  p_init : CFact K CP "__init__" "Plains.__init__" (cPl 0)
  p_ct : CFact K CP "climbs_to" "Plains.climbs_to" (cPl 1)
  p_df : CFact K CP "drops_from" "Plains.drops_from" (cPl 2)
  p_na : CFact K CP "need_among" "Plains.need_among" (cPl 3)
  p_nf : CFact K CP "need_from" "Plains.need_from" (cPl 4)
  p_ex : CFact K CP "extra" "Plains.extra" (cPl 5)
  p_ls : CFact K CP "least_start" "Plains.least_start" (cPl 6)
  p_ld : CFact K CP "leads" "Plains.leads" (cPl 7)
  t_init : CFact K C "__init__" "Tills.__init__" (cTi 0)
  t_fa : CFact K C "falls_to" "Tills.falls_to" (cTi 1)
  t_rs : CFact K C "rises_to" "Tills.rises_to" (cTi 3)
  t_zt : CFact K C "zeros_to" "Tills.zeros_to" (cTi 4)
  t_ld : CFact K C "leads" "Tills.leads" (cTi 5)
  s_init : CFact K CS "__init__" "Shaft.__init__" (cSh 0)
  s_gw : CFact K CS "_grown" "Shaft._grown" (cSh 2)
  s_li : CFact K CS "lid" "Shaft.lid" (cSh 3)
  s_fo : CFact K CS "floor" "Shaft.floor" (cSh 4)
  s_al : CFact K CS "all_lids" "Shaft.all_lids" (cSh 5)
  s_to : CFact K CS "lid_top" "Shaft.lid_top" (cSh 7)
  s_bd : CFact K CS "band" "Shaft.band" (cSh 9)
  s_tu : CFact K CS "turns_under" "Shaft.turns_under" (cSh 10)
  s_cr : CFact K CS "climb_relation" "Shaft.climb_relation" (cSh 11)
  s_dr : CFact K CS "drop_relation" "Shaft.drop_relation" (cSh 12)
  s_rs : CFact K CS "risen" "Shaft.risen" (cSh 13)
  s_fa : CFact K CS "fallen" "Shaft.fallen" (cSh 14)
  s_zo : CFact K CS "zeros" "Shaft.zeros" (cSh 15)
  s_be : CFact K CS "begun" "Shaft.begun" (cSh 16)
  s_lp : CFact K CS "leads_plain" "Shaft.leads_plain" (cSh 17)
  s_lz : CFact K CS "leads_by_zero" "Shaft.leads_by_zero" (cSh 18)
  s_ll : CFact K CS "leads" "Shaft.leads" (cSh 19)
  h_pl : PFact K C2 "places" "House.places" (cHouse 1)
section
variable {P : Program} {w : World} {K : PySem.W.Frag} {mg : Str → Option Value} {base : Heap} {C C CP CS C2 : Addr}
theorem fn_mk {x : Str} {st : Stmt} {k : Nat} {ps : List Str} {sp : Sp} (m : MFact K mg x st)
    (b : ∀ (kV doc pm : Value) (an : Option Addr) (cdv ct : Value) (us : List Value), us.length = ps.length → bindArgs (PySem.W.fnOf x x (defArgs st) (defBody st) (defScope st) .none kV doc pm an cdv ct) ⟨us, []⟩ = pure (ps.zip us))
    (ok : ∀ f fd, Fun K x x st f fd → FnOk P w K mg base CX0 k f fd ps sp) : Fn P w K mg base k x ps sp := by
  obtain ⟨f, fd, e, F⟩ := m
  exact ⟨f, fd, e, F.kp, F.binds b, ok f fd F⟩
theorem fnG_mk {x : Str} {st : Stmt} {k : Nat} {ps : List Str} {sp : Sp} (m : MFact K mg x st)
    (b : ∀ (kV doc pm : Value) (an : Option Addr) (cdv ct : Value) (us : List Value), us.length = ps.length → bindArgs (PySem.W.fnOf x x (defArgs st) (defBody st) (defScope st) .none kV doc pm an cdv ct) ⟨us, []⟩ = pure (ps.zip us))
    (ok : ∀ f fd, Fun K x x st f fd → FnG P w K mg base k f fd ps sp) : FnGd P w K mg base k x ps sp := by
  obtain ⟨f, fd, e, F⟩ := m
  exact ⟨f, fd, e, F.kp, F.binds b, ok f fd F⟩
theorem me_mk {x qual : Str} {st : Stmt} {k : Nat} {ps : List Str} {sp : Sp} (m : CFact K C x qual st)
    (b : ∀ (kV doc pm : Value) (an : Option Addr) (cdv ct : Value) (us : List Value), us.length = ps.length → bindArgs (PySem.W.fnOf x qual (defArgs st) (defBody st) (defScope st) .none kV doc pm an cdv ct) ⟨us, []⟩ = pure (ps.zip us))
    (ok : ∀ f fd, Fun K x qual st f fd → FnOk P w K mg base CX0 k f fd ps sp) : MeH P w K mg base C x k ps sp := by
  obtain ⟨f, fd, e, F⟩ := m
  exact ⟨f, fd, e, F.binds b, ok f fd F⟩
theorem pr_mk {x qual : Str} {st : Stmt} {sp : Sp} (m : PFact K C x qual st)
    (b : ∀ (kV doc pm : Value) (an : Option Addr) (cdv ct : Value) (us : List Value), us.length = (["self"] : List Str).length → bindArgs (PySem.W.fnOf x qual (defArgs st) (defBody st) (defScope st) .none kV doc pm an cdv ct) ⟨us, []⟩ = pure ((["self"] : List Str).zip us))
    (ok : ∀ f fd, Fun K x qual st f fd → FnOk P w K mg base CX0 1 f fd ["self"] sp) : PrH P w K mg base C x sp := by
  obtain ⟨p, g, fd, e, F⟩ := m
  exact ⟨p, g, fd, e, F.binds b, ok g fd F⟩
theorem law_of (z : Facts K mg C CP CS C2) {f : Addr} {fd : FuncData} (F : Fun K "law" "law" sLaw f fd) : FnG P w K mg base 16 f fd ["_law_script"] (spLaw K) := by
  obtain ⟨tm16, m16⟩ := z.m16
  obtain ⟨tm60, m60⟩ := z.m60
  have n := z.n
  have T := z.TC2
  have TS := z.TCS
  have II : Fn P w K mg base 1 "is_integer" ["value"] spIsInt := fn_mk z.ii (fun _ _ _ _ _ _ us hl => match us, hl with | [_], _ => rfl) fun f fd F => ok_isInt F n
  have IC : Fn P w K mg base 2 "is_count" ["value"] spIsCount := fn_mk z.ic (fun _ _ _ _ _ _ us hl => match us, hl with | [_], _ => rfl) fun f fd F => ok_isCount F II
  have IL : Fn P w K mg base 1 "is_list" ["value"] (spIsList K) := fn_mk z.il (fun _ _ _ _ _ _ us hl => match us, hl with | [_], _ => rfl) fun f fd F => ok_isList F n
  have ID : Fn P w K mg base 3 "is_deed" ["value", "places"] spIsDeed := fn_mk z.id (fun _ _ _ _ _ _ us hl => match us, hl with | [_, _], _ => rfl) fun f fd F => ok_isDeed F n II IC
  have CK : Fn P w K mg base 4 "check_deeds" ["places", "deeds"] (spCheck K) := fn_mk z.ck (fun _ _ _ _ _ _ us hl => match us, hl with | [_, _], _ => rfl) fun f fd F => ok_check F n IL ID m60
  have MK : MkH P w K mg base C2 := by
    obtain ⟨f, fd, me, F⟩ := z.h_init
    exact ⟨f, fd, ⟨z.mkC2, me.at_, me.fn, z.kpC2⟩, F.binds (fun _ _ _ _ _ _ us hl => match us, hl with | [_, _, _], _ => rfl), ok_init F n T II CK m16⟩
  have PL : PrH P w K mg base C2 "places" (spPlaces C2) := pr_mk z.h_pl (fun _ _ _ _ _ _ us hl => match us, hl with | [_], _ => rfl) fun f fd F => ok_places F T
  have DE : MeH P w K mg base C2 "deeds" 1 ["self"] (spDeeds C2) := me_mk z.h_de (fun _ _ _ _ _ _ us hl => match us, hl with | [_], _ => rfl) fun f fd F => ok_deeds F n T
  have ON : Fn P w K mg base 1 "ones" ["bits"] spOnes := fn_mk z.on (fun _ _ _ _ _ _ us hl => match us, hl with | [_], _ => rfl) fun f fd F => ok_ones F n
  have RE : Fn P w K mg base 1 "relation_of" ["many", "pairs"] spRel := fn_mk z.rel (fun _ _ _ _ _ _ us hl => match us, hl with | [_, _], _ => rfl) fun f fd F => ok_rel F n
  have PS : Fn P w K mg base 2 "pairs_of" ["relation"] spPrs := fn_mk z.prs (fun _ _ _ _ _ _ us hl => match us, hl with | [_], _ => rfl) fun f fd F => ok_prs F n ON
  have IM : Fn P w K mg base 2 "image" ["relation", "mask"] spImg := fn_mk z.img (fun _ _ _ _ _ _ us hl => match us, hl with | [_, _], _ => rfl) fun f fd F => ok_img F n ON
  have FO : Fn P w K mg base 3 "followed" ["one", "two"] spFol := fn_mk z.fol (fun _ _ _ _ _ _ us hl => match us, hl with | [_, _], _ => rfl) fun f fd F => ok_fol F n IM
  have JO : Fn P w K mg base 1 "joined" ["one", "two"] spJoi := fn_mk z.joi (fun _ _ _ _ _ _ us hl => match us, hl with | [_, _], _ => rfl) fun f fd F => ok_joi F n
  have LB : Fn P w K mg base 3 "led_back" ["relation"] spLb := fn_mk z.lb (fun _ _ _ _ _ _ us hl => match us, hl with | [_], _ => rfl) fun f fd F => ok_lb F n RE PS
  have CL : Fn P w K mg base 1 "closed" ["relation"] spCl := fn_mk z.clo (fun _ _ _ _ _ _ us hl => match us, hl with | [_], _ => rfl) fun f fd F => ok_cl F n
  have rk : RelK P w K mg base := ⟨CL, JO, FO⟩
  have GO : Fn P w K mg base 4 "ground_of" ["ups", "flats", "downs"] spGro := fn_mk z.gro (fun _ _ _ _ _ _ us hl => match us, hl with | [_, _, _], _ => rfl) fun f fd F => ok_gro F rk
  have GA : Fn P w K mg base 5 "grades_of" ["ups", "flats", "downs"] spGra := fn_mk z.gra (fun _ _ _ _ _ _ us hl => match us, hl with | [_, _, _], _ => rfl) fun f fd F => ok_gra F rk GO
  have DR : Fn P w K mg base 3 "deed_relation" ["house", "change", "when"] (spDR C2) := fn_mk z.der (fun _ _ _ _ _ _ us hl => match us, hl with | [_, _, _], _ => rfl) fun f fd F => ok_dr F T PL DE RE
  have DX : Fn P w K mg base 3 "deed_relation" ["house", "change", "when"] (spDRe C2) := fn_mk z.der (fun _ _ _ _ _ _ us hl => match us, hl with | [_, _, _], _ => rfl) fun f fd F => ok_dre F T PL DE RE
  have OO : Fn P w K mg base 3 "orbit_of" ["relation", "mask"] spOrb := fn_mk z.oo (fun _ _ _ _ _ _ us hl => match us, hl with | [_, _], _ => rfl) fun f fd F => ok_orb F n IM
  have OA : Fn P w K mg base 1 "orbit_at" ["orbit", "steps"] spOat := fn_mk z.oa (fun _ _ _ _ _ _ us hl => match us, hl with | [_, _], _ => rfl) fun f fd F => ok_oat F n
  have ND : Fn P w K mg base 2 "needs_of" ["grades"] spNd := fn_mk z.nd (fun _ _ _ _ _ _ us hl => match us, hl with | [_], _ => rfl) fun f fd F => ok_nd F n ON
  have LK : Fn P w K mg base 1 "least_known" ["values"] spLk := fn_mk z.lk (fun _ _ _ _ _ _ us hl => match us, hl with | [_], _ => rfl) fun f fd F => ok_lk F n
  have pk : PlK P w K mg base CP C2 := { n := n, T := z.TCP, T2 := T, dr := DR, ga := GA, nd := ND, fo := FO, lb := LB, ob := OO, oa := OA, lk := LK, on := ON }
  have MP : MkP P w K mg base CP C2 := by
    obtain ⟨f, fd, me, F⟩ := z.p_init
    exact ⟨f, fd, ⟨z.mkCP, me.at_, me.fn, z.kpCP⟩, F.binds (fun _ _ _ _ _ _ us hl => match us, hl with | [_, _], _ => rfl), ok_pi F pk⟩
  have CT : MeH P w K mg base CP "climbs_to" 4 ["self", "goal"] (spCt CP) := me_mk z.p_ct (fun _ _ _ _ _ _ us hl => match us, hl with | [_, _], _ => rfl) fun f fd F => ok_ct F pk
  have DF : MeH P w K mg base CP "drops_from" 4 ["self", "place"] (spDf CP) := me_mk z.p_df (fun _ _ _ _ _ _ us hl => match us, hl with | [_, _], _ => rfl) fun f fd F => ok_df F pk
  have NA : MeH P w K mg base CP "need_among" 2 ["self", "place", "goals"] (spNa CP) := me_mk z.p_na (fun _ _ _ _ _ _ us hl => match us, hl with | [_, _, _], _ => rfl) fun f fd F => ok_na F pk
  have NF : MeH P w K mg base CP "need_from" 2 ["self", "places", "goal"] (spNf CP) := me_mk z.p_nf (fun _ _ _ _ _ _ us hl => match us, hl with | [_, _, _], _ => rfl) fun f fd F => ok_nf F pk
  have pm : PmK P w K mg base CP := { n := n, cl := z.TCP.cl, oa := OA, ct := CT, df := DF, na := NA, nf := NF }
  have EX : MeH P w K mg base CP "extra" 5 ["self", "place", "goal", "gain"] (spEx CP) := me_mk z.p_ex (fun _ _ _ _ _ _ us hl => match us, hl with | [_, _, _, _], _ => rfl) fun f fd F => ok_ex F pm
  have LS : MeH P w K mg base CP "least_start" 6 ["self", "place", "goal", "gain"] (spLs CP) := me_mk z.p_ls (fun _ _ _ _ _ _ us hl => match us, hl with | [_, _, _, _], _ => rfl) fun f fd F => ok_ls F n z.TCP.cl EX
  have LP : MeH P w K mg base CP "leads" 7 ["self", "place", "start", "goal", "end"] (spPl CP) := me_mk z.p_ld (fun _ _ _ _ _ _ us hl => match us, hl with | [_, _, _, _, _], _ => rfl) fun f fd F => ok_pll F n z.TCP.cl LS
  have ti : TiK P w K mg base C CP C2 := { n := n, T := z.TC, TP := z.TCP, T2 := T, MP := MP, de := DX, fo := FO, jo := JO, cl := CL, lb := LB }
  have MT : MkT P w K mg base C CP C2 := by
    obtain ⟨f, fd, me, F⟩ := z.t_init
    exact ⟨f, fd, ⟨z.mkC, me.at_, me.fn, z.kpC⟩, F.binds (fun _ _ _ _ _ _ us hl => match us, hl with | [_, _], _ => rfl), ok_ti F ti⟩
  have tm : TmK P w K mg base C CP := { T := z.TC, cp := z.TCP.cl, im := IM, oa := OA, ct := CT, df := DF }
  have FA : MeH P w K mg base C "falls_to" 5 ["self", "place", "start"] (spFa C CP) := me_mk z.t_fa (fun _ _ _ _ _ _ us hl => match us, hl with | [_, _, _], _ => rfl) fun f fd F => ok_fa F tm
  have RS : MeH P w K mg base C "rises_to" 5 ["self", "goal", "end"] (spRs C CP) := me_mk z.t_rs (fun _ _ _ _ _ _ us hl => match us, hl with | [_, _, _], _ => rfl) fun f fd F => ok_rs F tm
  have ZT : MeH P w K mg base C "zeros_to" 6 ["self", "goal", "end"] (spZt C CP) := me_mk z.t_zt (fun _ _ _ _ _ _ us hl => match us, hl with | [_, _, _], _ => rfl) fun f fd F => ok_zt F tm RS
  have TL : MeH P w K mg base C "leads" 8 ["self", "place", "start", "goal", "end"] (spTl C CP) := me_mk z.t_ld (fun _ _ _ _ _ _ us hl => match us, hl with | [_, _, _, _, _], _ => rfl) fun f fd F => ok_tl F tm LP FA ZT
  have GP : Fn P w K mg base 3 "check_place" ["house", "place"] (spCP C2) := fn_mk z.cp (fun _ _ _ _ _ _ us hl => match us, hl with | [_, _], _ => rfl) fun f fd F => ok_cp F T IC PL
  have GM : Fn P w K mg base 3 "check_many" ["many"] spCM := fn_mk z.cm (fun _ _ _ _ _ _ us hl => match us, hl with | [_], _ => rfl) fun f fd F => ok_cm F IC
  have CS5 : Fn P w K mg base 4 "check_stands" ["house", "place", "start", "goal", "end"] (spCS C2) := fn_mk z.cs (fun _ _ _ _ _ _ us hl => match us, hl with | [_, _, _, _, _], _ => rfl) fun f fd F => ok_cs F GP GM
  have LE : Fn P w K mg base 10 "leads" ["house", "place", "start", "goal", "end"] (spEl C2) := fn_mk z.ld (fun _ _ _ _ _ _ us hl => match us, hl with | [_, _, _, _, _], _ => rfl) fun f fd F => ok_el F MT z.TC CS5 TL
  have MS : MkS P w K mg base CS := by
    obtain ⟨f, fd, me, F⟩ := z.s_init
    exact ⟨f, fd, ⟨z.mkCS, me.at_, me.fn, z.kpCS⟩, F.binds (fun _ _ _ _ _ _ us hl => match us, hl with | [_, _, _, _], _ => rfl), ok_si F TS CL⟩
  have GW : MeH P w K mg base CS "_grown" 4 ["self", "word", "lots", "ahead", "behind", "number"] (spGw CS K) := me_mk z.s_gw (fun _ _ _ _ _ _ us hl => match us, hl with | [_, _, _, _, _, _], _ => rfl) fun f fd F => ok_gw F n TS CL JO FO
  have LI : MeH P w K mg base CS "lid" 5 ["self", "room"] (spLi CS) := me_mk z.s_li (fun _ _ _ _ _ _ us hl => match us, hl with | [_, _], _ => rfl) fun f fd F => ok_li F TS GW
  have LI2 : MeH P w K mg base CS "lid" 5 ["self", "room"] (spLd CS pkL) := me_mk z.s_li (fun _ _ _ _ _ _ us hl => match us, hl with | [_, _], _ => rfl) fun f fd F => ok_ld (ok_li F TS GW)
  have FL2 : MeH P w K mg base CS "floor" 5 ["self", "room"] (spLd CS pkF) := me_mk z.s_fo (fun _ _ _ _ _ _ us hl => match us, hl with | [_, _], _ => rfl) fun f fd F => ok_fd (ok_fo2 F TS GW)
  have AL : MeH P w K mg base CS "all_lids" 6 ["self"] (spAll CS) := me_mk z.s_al (fun _ _ _ _ _ _ us hl => match us, hl with | [_], _ => rfl) fun f fd F => ok_al F n TS LI
  have TO : MeH P w K mg base CS "lid_top" 7 ["self"] (spTop CS) := me_mk z.s_to (fun _ _ _ _ _ _ us hl => match us, hl with | [_], _ => rfl) fun f fd F => ok_top F n TS AL
  have BD : MeH P w K mg base CS "band" 6 ["self", "low", "high"] (spBd CS) := me_mk z.s_bd (fun _ _ _ _ _ _ us hl => match us, hl with | [_, _, _], _ => rfl) fun f fd F => ok_bd F TS CL JO FO LI2 FL2
  have CR : MeH P w K mg base CS "climb_relation" 6 ["self", "room"] (spLd CS pkC) := me_mk z.s_cr (fun _ _ _ _ _ _ us hl => match us, hl with | [_, _], _ => rfl) fun f fd F => ok_cr F TS FO LI2
  have DR2 : MeH P w K mg base CS "drop_relation" 6 ["self", "room"] (spLd CS pkD) := me_mk z.s_dr (fun _ _ _ _ _ _ us hl => match us, hl with | [_, _], _ => rfl) fun f fd F => ok_dr2 F TS FO LI2
  have sk : ShK P w K mg base CS := { n := n, T := TS, im := IM, oo := OO, oa := OA, fo := FO, jo := JO, cl := CL, li := LI2, bd := BD, to := TO, cr := CR, dr := DR2 }
  have RSS : MeH P w K mg base CS "risen" 8 ["self", "mask", "low", "high", "roof"] (spRsS CS) := me_mk z.s_rs (fun _ _ _ _ _ _ us hl => match us, hl with | [_, _, _, _, _], _ => rfl) fun f fd F => ok_rsS F sk
  have FAS : MeH P w K mg base CS "fallen" 8 ["self", "mask", "high", "low", "roof"] (spFaS CS) := me_mk z.s_fa (fun _ _ _ _ _ _ us hl => match us, hl with | [_, _, _, _, _], _ => rfl) fun f fd F => ok_faS F sk
  have ZO : MeH P w K mg base CS "zeros" 9 ["self", "mask", "high", "roof"] (spZo CS) := me_mk z.s_zo (fun _ _ _ _ _ _ us hl => match us, hl with | [_, _, _, _], _ => rfl) fun f fd F => ok_zo F sk FAS
  have BE : MeH P w K mg base CS "begun" 6 ["self", "zeros", "roof"] (spBe CS) := me_mk z.s_be (fun _ _ _ _ _ _ us hl => match us, hl with | [_, _, _], _ => rfl) fun f fd F => ok_be F sk
  have TU : MeH P w K mg base CS "turns_under" 6 ["self", "roof"] (spTu CS) := me_mk z.s_tu (fun _ _ _ _ _ _ us hl => match us, hl with | [_, _], _ => rfl) fun f fd F => ok_tu F sk
  have LPS : MeH P w K mg base CS "leads_plain" 9 ["self", "place", "start", "goal", "end", "roof"] (spLP CS) := me_mk z.s_lp (fun _ _ _ _ _ _ us hl => match us, hl with | [_, _, _, _, _, _], _ => rfl) fun f fd F => ok_lpS F sk RSS FAS
  have LZS : MeH P w K mg base CS "leads_by_zero" 10 ["self", "place", "start", "goal", "end", "roof"] (spLZ CS) := me_mk z.s_lz (fun _ _ _ _ _ _ us hl => match us, hl with | [_, _, _, _, _, _], _ => rfl) fun f fd F => ok_lzS F sk RSS ZO TU BE
  have LLS : MeH P w K mg base CS "leads" 11 ["self", "place", "start", "goal", "end", "roof"] (spLL CS) := me_mk z.s_ll (fun _ _ _ _ _ _ us hl => match us, hl with | [_, _, _, _, _, _], _ => rfl) fun f fd F => ok_llS F sk LPS LZS
  have SF : Fn P w K mg base 4 "shaft_of" ["house"] (spSf CS C2) := fn_mk z.sf (fun _ _ _ _ _ _ us hl => match us, hl with | [_], _ => rfl) fun f fd F => ok_sf F TS MS JO DR DX
  have LOW : Fn P w K mg base 12 "lowest_roof" ["house", "shaft", "place", "start", "goal", "end"] (spLow CS C2) := fn_mk z.low (fun _ _ _ _ _ _ us hl => match us, hl with | [_, _, _, _, _, _], _ => rfl) fun f fd F => ok_low F n MT z.TC TS T PL TL LLS
  have LRF : Fn P w K mg base 13 "least_roof" ["house", "place", "start", "goal", "end"] (spLR C2) := fn_mk z.lrf (fun _ _ _ _ _ _ us hl => match us, hl with | [_, _, _, _, _], _ => rfl) fun f fd F => ok_lrf F CS5 SF LOW
  have LUN : Fn P w K mg base 12 "leads_under" ["house", "place", "start", "goal", "end", "roof"] (spLU C2) := fn_mk z.lu (fun _ _ _ _ _ _ us hl => match us, hl with | [_, _, _, _, _, _], _ => rfl) fun f fd F => ok_lun F TS CS5 GM SF LLS
  have KR : KLR P w K mg base C2 := by
    obtain ⟨f, fd, e, F⟩ := z.lrf
    exact ⟨f, fd, e, F.kp, kbn_of F (fun _ _ _ _ _ _ us ws l1 l2 => match us, ws, l1, l2 with | [], [_, _, _, _, _], _, _ => rfl) (fun _ r => prm5_vals r), ok_lrf F CS5 SF LOW⟩
  have KU : KLU P w K mg base C2 := by
    obtain ⟨f, fd, e, F⟩ := z.lu
    exact ⟨f, fd, e, F.kp, kbn_of F (fun _ _ _ _ _ _ us ws l1 l2 => match us, ws, l1, l2 with | [], [_, _, _, _, _, _], _, _ => rfl) (fun _ r => prm6_vals r), ok_lun F TS CS5 GM SF LLS⟩
  have DW : Fn P w K mg base 1 "_law_draw" ["_law_pot_here", "_law_many"] spDraw := fn_mk z.dr (fun _ _ _ _ _ _ us hl => match us, hl with | [_, _], _ => rfl) fun f fd F => ok_draw F n
  have PK : Fn P w K mg base 2 "_law_pick" ["_law_pot_here", "_law_some"] spPick := fn_mk z.pk (fun _ _ _ _ _ _ us hl => match us, hl with | [_, _], _ => rfl) fun f fd F => ok_pick F n DW
  have MD : Fn P w K mg base 2 "_law_more_deeds" ["_law_pot_here", "_law_places", "_law_deeds", "_law_many", "_law_is_plain"] spMd := fn_mk z.md (fun _ _ _ _ _ _ us hl => match us, hl with | [_, _, _, _, _], _ => rfl) fun f fd F => ok_md F n DW
  have HO : FnD P w K mg base 3 "_law_house" ["_law_pot_here", "_law_most", "_law_is_plain"] [.bl false] spHo := by
    obtain ⟨f, fd, e, F⟩ := z.ho
    obtain ⟨ds, v, b⟩ := F.binds1 (ps := ["_law_pot_here", "_law_most", "_law_is_plain"]) 2 0 (List.cons_ne_nil _ _) rfl (fun _ _ _ _ _ _ _ us its hl hi => match us, its, hl, hi with | [_, _], [_], _, _ => ⟨_, rfl, rfl⟩)
    exact ⟨f, fd, ds, e, F.kp, v, b, ok_ho F n DW MD⟩
  have CA : Fn P w K mg base 1 "_law_can" ["_law_deed", "_law_here", "_law_number"] spCan := fn_mk z.ca (fun _ _ _ _ _ _ us hl => match us, hl with | [_, _, _], _ => rfl) fun f fd F => ok_can F
  have RO : Fn P w K mg base 2 "_law_roofs" ["_law_deeds", "_law_place", "_law_start", "_law_cap"] spRo := fn_mk z.ro (fun _ _ _ _ _ _ us hl => match us, hl with | [_, _, _, _], _ => rfl) fun f fd F => ok_ro F n CA
  have PRR : FnGd P w K mg base 14 "_law_pair_right" ["_law_pot_here", "_law_house_here", "_law_place", "_law_start", "_law_goal", "_law_end", "_law_due"] (spPr C2) := fnG_mk z.prr (fun _ _ _ _ _ _ us hl => match us, hl with | [_, _, _, _, _, _, _], _ => rfl) fun f fd F => ok_pr F n T PL LRF KR LUN KU LE DW PK
  have k : RK P w K mg base C2 := { n := n, T := T, M := MK, ho := HO, dw := DW, pk := PK, ro := RO, pr := PRR, de := DE }
  have RI : FnGd P w K mg base 15 "_law_right" ["_law_pot_here"] spRight := fnG_mk z.ri (fun _ _ _ _ _ _ us hl => match us, hl with | [_], _ => rfl) fun f fd F => ok_right F k
  have PO : Fn P w K mg base 1 "_law_pot" ["_law_script", "_law_k"] (spPot K) := fn_mk z.pot (fun _ _ _ _ _ _ us hl => match us, hl with | [_, _], _ => rfl) fun f fd F => ok_pot F n
  exact ok_law F n PO RI
theorem law_all (z : Facts K mg C CP CS C2) (l : MFact K mg "law" sLaw) {fa : Addr} (hfa : mg "law" = some (.ref fa)) :
    ∃ fd : FuncData, (∀ (s : Shared) (v : Value), BindsTo s fd ⟨[v], []⟩ [("_law_script", v)]) ∧ ∀ base : Heap, K.In base → base.Ns mainGlobals mg → FnG P w K mg base 16 fa fd ["_law_script"] (spLaw K) := by
  obtain ⟨f, fd, e, F⟩ := l
  cases hfa.symm.trans e
  refine ⟨fd, ?_, fun base _ _ => law_of z F⟩
  obtain ⟨oc, od, kV, doc, pm, an, cdv, ct, osl, rfl, _, _⟩ := F.ex
  exact fun s v => .of_eq rfl
end
end L2.K71
end

section
set_option Elab.async false
set_option linter.all false
set_option maxRecDepth 100000
set_option maxHeartbeats 2000000
namespace L2.K71
open PySem PySem.Spec PyProof.Rows L2.Gd
section
variable {K : PySem.W.Frag} {mg : Str → Option Value} {h : Heap} {C f N : Addr} {oc kV doc pm cdv ct : Value} {od an : Option Addr} {osl : Array (Option Value)}
  {nm q : Str} {bs : List Value} {sn : List Str} {sub : List Value} {ab : Bool} {col : Option Bool} {dd : Option Addr} {k0 k1 k2 k3 k5 : Option Value} {newId : String}
  {nc : Value} {nd : Option Addr} {es : Array DictEntry} {en : Nat} {nsl : Array (Option Value)}
theorem kit_ref {T : String} {b : Bool} (c1 : PySem.W.isClsIn K C = true) (c2 : PySem.W.typeIn K (.ref C) = some (.type "type")) (s : PySem.W.subIn K (.type T) (.ref C) = some b) : PySem.W.kitOne K (.type T) (.ref C) = some b := by
  unfold PySem.W.kitOne
  rw [if_neg (show ¬ (Value.type T == Value.ref C) = true from fun z => nomatch z)]
  unfold PySem.W.kitCls
  have c1' : (PySem.W.clsIn K C).isSome = true := c1
  show (if ((PySem.W.clsIn K C).isSome && PySem.W.typeIn K (.ref C) == some (.type "type")) = true then PySem.W.subIn K (.type T) (.ref C) else none) = some b
  rw [c1', c2, if_pos (by rfl)]
  exact s
theorem kit_self : PySem.W.kitOne K (.ref C) (.ref C) = some true := by
  unfold PySem.W.kitOne
  rw [if_pos (show (Value.ref C == Value.ref C) = true by simp)]
theorem ifact {x : Str} {n : Int} {t : Tok} (X : K.In h) (G : h.Ns mainGlobals mg) (a : PySem.W.nsIn K mainGlobals x = some (some (.int n t))) : ∃ t, mg x = some (.int n t) := ⟨t, PySem.W.mg_of X G a⟩
theorem clsT_of (mC : mg "House" = some (.ref C)) (pg : PySem.W.plainGet K C Str.empty = true) (hd : PySem.W.hasDictIn K C = true) (po : PySem.W.plainOver K C = true) (sa : PySem.W.findIn K (.ref C) "__setattr__" = some (some (.builtin "object.__setattr__")))
    (ha : PySem.W.findIn K (.ref C) "__class__" = some (some (.builtin "object.__class__"))) (hn : PySem.W.specialIn K (.builtin "object.__class__") "__get__" = some (some (.builtin "getset_descriptor.__get__"))) (ht : PySem.W.takesIn K (.builtin "object.__class__") = some true)
    (hm : PySem.W.mroIn K C (.type "object") = some true) (nP : PySem.W.findIn K (.ref C) "_places" = some none) (nD : PySem.W.findIn K (.ref C) "_deeds" = some none) : ClsT K mg C :=
  ⟨⟨⟨pg, hd, po, sa⟩, ha, hn, ht, hm, kit_self⟩, nP, nD, mC⟩
theorem clsP_of (mC : mg "Plains" = some (.ref C)) (pg : PySem.W.plainGet K C Str.empty = true) (hd : PySem.W.hasDictIn K C = true) (po : PySem.W.plainOver K C = true) (sa : PySem.W.findIn K (.ref C) "__setattr__" = some (some (.builtin "object.__setattr__")))
    (a0 : PySem.W.findIn K (.ref C) "ups" = some none) (a1 : PySem.W.findIn K (.ref C) "flats" = some none) (a2 : PySem.W.findIn K (.ref C) "downs" = some none) (a3 : PySem.W.findIn K (.ref C) "grades" = some none) (a4 : PySem.W.findIn K (.ref C) "needs" = some none) (a5 : PySem.W.findIn K (.ref C) "climbing" = some none) (a6 : PySem.W.findIn K (.ref C) "dropping" = some none) (a7 : PySem.W.findIn K (.ref C) "_climbs_back" = some none) (a8 : PySem.W.findIn K (.ref C) "_orbits_to" = some none) (a9 : PySem.W.findIn K (.ref C) "_orbits_from" = some none) : ClsP K mg C :=
  ⟨⟨pg, hd, po, sa⟩, a0, a1, a2, a3, a4, a5, a6, a7, a8, a9, mC⟩
theorem clsI_of (mC : mg "Tills" = some (.ref C)) (pg : PySem.W.plainGet K C Str.empty = true) (hd : PySem.W.hasDictIn K C = true) (po : PySem.W.plainOver K C = true) (sa : PySem.W.findIn K (.ref C) "__setattr__" = some (some (.builtin "object.__setattr__")))
    (a0 : PySem.W.findIn K (.ref C) "plains" = some none) (a1 : PySem.W.findIn K (.ref C) "ground" = some none) (a2 : PySem.W.findIn K (.ref C) "lasting" = some none) (a3 : PySem.W.findIn K (.ref C) "lifting" = some none) (a4 : PySem.W.findIn K (.ref C) "_hops" = some none) (a5 : PySem.W.findIn K (.ref C) "turns" = some none) (a6 : PySem.W.findIn K (.ref C) "_ground_back" = some none) (a7 : PySem.W.findIn K (.ref C) "_lifting_back" = some none) (a8 : PySem.W.findIn K (.ref C) "_turns_back" = some none) : ClsI K mg C :=
  ⟨⟨pg, hd, po, sa⟩, a0, a1, a2, a3, a4, a5, a6, a7, a8, mC⟩
theorem clsS_of (mC : mg "Shaft" = some (.ref C)) (pg : PySem.W.plainGet K C Str.empty = true) (hd : PySem.W.hasDictIn K C = true) (po : PySem.W.plainOver K C = true) (sa : PySem.W.findIn K (.ref C) "__setattr__" = some (some (.builtin "object.__setattr__")))
    (a0 : PySem.W.findIn K (.ref C) "ups" = some none) (a1 : PySem.W.findIn K (.ref C) "flats" = some none) (a2 : PySem.W.findIn K (.ref C) "downs" = some none) (a3 : PySem.W.findIn K (.ref C) "lasting" = some none) (a4 : PySem.W.findIn K (.ref C) "first_ups" = some none) (a5 : PySem.W.findIn K (.ref C) "last_downs" = some none) (a6 : PySem.W.findIn K (.ref C) "_lids" = some none) (a7 : PySem.W.findIn K (.ref C) "_floors" = some none) (a8 : PySem.W.findIn K (.ref C) "_whole" = some none) : ClsS K mg C :=
  ⟨⟨pg, hd, po, sa⟩, a0, a1, a2, a3, a4, a5, a6, a7, a8, mC⟩
end
end L2.K71
end

section
set_option Elab.async false
set_option linter.all false
open PySem PySem.W PyProof.Rows L2.K71
open Lean in
local macro_rules
  | `(tactic| kernel_rfl%$s) => do
    match s.getHeadInfo with
    | .none => Macro.throwUnsupported
    | _ =>
      let k : TSyntax `tactic := ⟨Syntax.node .none ``tacticKernel_rfl #[Syntax.atom .none "kernel_rfl"]⟩
      `(tactic| first | (with_reducible refine L2.Hs71.split3 ?h1 ?h2 ?h3; (case h1 => ($k:tactic)); (case h2 => (rename_i w0 os0; refine cast ?e (L2.Hs71.seen_ w0 os0); (case e => ($k:tactic)))); (case h3 => ($k:tactic))) | ($k:tactic))
set_option maxRecDepth 100000 in
set_option maxHeartbeats 0 in
theorem PySem.Challenge.cw_lonetill_k71_whole_least_roofs_by_plain_holds : PySem.Challenge.rw_lonetill_k71_whole_least_roofs_by_plain.Holds := by
  w_on; o_law; k_headL; (case hw => w_witness2)
  k_fill
  refine L2.Gd.walk_ofG (l := PySem.Challenge.rw_lonetill_k71_whole_least_roofs_by_plain) (n := 63) (k := 16) (x := "_law_script") (sp := L2.K71.spLaw) rfl (by decide) rfl ⟨rfl, by decide, by decide⟩ (fun w h Y => PySem.W.kIn_of Y) ?F ?hsp
  case hsp =>
    intro K H a ns hl _ hS
    exact ⟨a, ns, rfl, hS, hl, fun _ => rfl⟩
  case F =>
    intro w mg fa h KX G hmg
    refine' (fun {C CP CS C2 : Addr} (aC : PySem.W.nsIn _ mainGlobals "Tills" = some (some (.ref C))) (aCP : PySem.W.nsIn _ mainGlobals "Plains" = some (some (.ref CP))) (aCS : PySem.W.nsIn _ mainGlobals "Shaft" = some (some (.ref CS))) (aC2 : PySem.W.nsIn _ mainGlobals "House" = some (some (.ref C2))) (z : (mg "Tills" = some (.ref C)) → (mg "Plains" = some (.ref CP)) → (mg "Shaft" = some (.ref CS)) → (mg "House" = some (.ref C2)) → Facts _ mg C CP CS C2 ∧ MFact _ mg "law" sLaw) => law_all (z (PySem.W.mg_of KX G aC) (PySem.W.mg_of KX G aCP) (PySem.W.mg_of KX G aCS) (PySem.W.mg_of KX G aC2)).1 (z (PySem.W.mg_of KX G aC) (PySem.W.mg_of KX G aCP) (PySem.W.mg_of KX G aCS) (PySem.W.mg_of KX G aC2)).2 hmg) ?aC ?aCP ?aCS ?aC2 ?z
    (case aC => k_is)
    (case aCP => k_is)
    (case aCS => k_is)
    (case aC2 => k_is)
    case z =>
      intro mC mCP mCS mC2
      refine' ⟨⟨?n, ?m16, ?m60, ?TC, ?mkC, ?kpC, ?TCP, ?mkCP, ?kpCP, ?TCS, ?mkCS, ?kpCS, ?TC2, ?mkC2, ?kpC2, ?ii, ?ic, ?il, ?cm, ?cp, ?cs, ?on, ?rel, ?prs, ?img, ?fol, ?joi, ?lb, ?clo, ?oo, ?oa, ?der, ?gro, ?gra, ?sf, ?nd, ?lk, ?lu, ?low, ?lrf, ?ld, ?id, ?ck, ?pot, ?dr, ?pk, ?md, ?ca, ?ro, ?prr, ?ri, ?ho, ?h_init, ?h_de, ?p_init, ?p_ct, ?p_df, ?p_na, ?p_nf, ?p_ex, ?p_ls, ?p_ld, ?t_init, ?t_fa, ?t_rs, ?t_zt, ?t_ld, ?s_init, ?s_gw, ?s_li, ?s_fo, ?s_al, ?s_to, ?s_bd, ?s_tu, ?s_cr, ?s_dr, ?s_rs, ?s_fa, ?s_zo, ?s_be, ?s_lp, ?s_lz, ?s_ll, ?h_pl⟩, ?law⟩
      case n =>
        refine' ⟨PySem.W.mg_none_of KX G ?b0, PySem.W.mg_none_of KX G ?b1, PySem.W.mg_none_of KX G ?b2, PySem.W.mg_none_of KX G ?b3, PySem.W.mg_none_of KX G ?b4, PySem.W.mg_none_of KX G ?b5, PySem.W.mg_none_of KX G ?b6, PySem.W.mg_none_of KX G ?b7, PySem.W.mg_none_of KX G ?b8, PySem.W.mg_none_of KX G ?b9, PySem.W.mg_none_of KX G ?b10, PySem.W.mg_none_of KX G ?b11, PySem.W.mg_none_of KX G ?b12, PySem.W.mg_none_of KX G ?b13, PySem.W.mg_none_of KX G ?b14, PySem.W.mg_none_of KX G ?b15, PySem.W.mg_none_of KX G ?b16, PySem.W.mg_none_of KX G ?b17⟩
        (case b0 => k_is); (case b1 => k_is); (case b2 => k_is); (case b3 => k_is); (case b4 => k_is); (case b5 => k_is); (case b6 => k_is); (case b7 => k_is); (case b8 => k_is); (case b9 => k_is); (case b10 => k_is); (case b11 => k_is); (case b12 => k_is); (case b13 => k_is); (case b14 => k_is); (case b15 => k_is); (case b16 => k_is); (case b17 => k_is)
      case m16 =>
        refine' ifact KX G ?a
        case a => k_is
      case m60 =>
        refine' ifact KX G ?a
        case a => k_is
      case TC =>
        refine' clsI_of mC ?pg ?hd ?po ?sa ?a0 ?a1 ?a2 ?a3 ?a4 ?a5 ?a6 ?a7 ?a8
        (case pg => k_is); (case hd => k_is); (case po => k_is); (case sa => k_is); (case a0 => k_is); (case a1 => k_is); (case a2 => k_is); (case a3 => k_is); (case a4 => k_is); (case a5 => k_is); (case a6 => k_is); (case a7 => k_is); (case a8 => k_is)
      case mkC => k_is
      case kpC => k_is
      case TCP =>
        refine' clsP_of mCP ?pg ?hd ?po ?sa ?a0 ?a1 ?a2 ?a3 ?a4 ?a5 ?a6 ?a7 ?a8 ?a9
        (case pg => k_is); (case hd => k_is); (case po => k_is); (case sa => k_is); (case a0 => k_is); (case a1 => k_is); (case a2 => k_is); (case a3 => k_is); (case a4 => k_is); (case a5 => k_is); (case a6 => k_is); (case a7 => k_is); (case a8 => k_is); (case a9 => k_is)
      case mkCP => k_is
      case kpCP => k_is
      case TCS =>
        refine' clsS_of mCS ?pg ?hd ?po ?sa ?a0 ?a1 ?a2 ?a3 ?a4 ?a5 ?a6 ?a7 ?a8
        (case pg => k_is); (case hd => k_is); (case po => k_is); (case sa => k_is); (case a0 => k_is); (case a1 => k_is); (case a2 => k_is); (case a3 => k_is); (case a4 => k_is); (case a5 => k_is); (case a6 => k_is); (case a7 => k_is); (case a8 => k_is)
      case mkCS => k_is
      case kpCS => k_is
      case TC2 =>
        refine' clsT_of mC2 ?pg ?hd ?po ?sa ?ha ?hn ?ht ?hm ?nP ?nD
        (case pg => k_is); (case hd => k_is); (case po => k_is); (case sa => k_is); (case ha => k_is); (case hn => k_is); (case ht => k_is); (case hm => k_is); (case nP => k_is); (case nD => k_is)
      case mkC2 => k_is
      case kpC2 => k_is
      case ii =>
        refine' mfact KX G ?a ?l ?c ?k
        (case a => k_is); (case l => k_is); (case c => k_is); (case k => k_is)
      case ic =>
        refine' mfact KX G ?a ?l ?c ?k
        (case a => k_is); (case l => k_is); (case c => k_is); (case k => k_is)
      case il =>
        refine' mfact KX G ?a ?l ?c ?k
        (case a => k_is); (case l => k_is); (case c => k_is); (case k => k_is)
      case cm =>
        refine' mfact KX G ?a ?l ?c ?k
        (case a => k_is); (case l => k_is); (case c => k_is); (case k => k_is)
      case cp =>
        refine' mfact KX G ?a ?l ?c ?k
        (case a => k_is); (case l => k_is); (case c => k_is); (case k => k_is)
      case cs =>
        refine' mfact KX G ?a ?l ?c ?k
        (case a => k_is); (case l => k_is); (case c => k_is); (case k => k_is)
      case on =>
        refine' mfact KX G ?a ?l ?c ?k
        (case a => k_is); (case l => k_is); (case c => k_is); (case k => k_is)
      case rel =>
        refine' mfact KX G ?a ?l ?c ?k
        (case a => k_is); (case l => k_is); (case c => k_is); (case k => k_is)
      case prs =>
        refine' mfact KX G ?a ?l ?c ?k
        (case a => k_is); (case l => k_is); (case c => k_is); (case k => k_is)
      case img =>
        refine' mfact KX G ?a ?l ?c ?k
        (case a => k_is); (case l => k_is); (case c => k_is); (case k => k_is)
      case fol =>
        refine' mfact KX G ?a ?l ?c ?k
        (case a => k_is); (case l => k_is); (case c => k_is); (case k => k_is)
      case joi =>
        refine' mfact KX G ?a ?l ?c ?k
        (case a => k_is); (case l => k_is); (case c => k_is); (case k => k_is)
      case lb =>
        refine' mfact KX G ?a ?l ?c ?k
        (case a => k_is); (case l => k_is); (case c => k_is); (case k => k_is)
      case clo =>
        refine' mfact KX G ?a ?l ?c ?k
        (case a => k_is); (case l => k_is); (case c => k_is); (case k => k_is)
      case oo =>
        refine' mfact KX G ?a ?l ?c ?k
        (case a => k_is); (case l => k_is); (case c => k_is); (case k => k_is)
      case oa =>
        refine' mfact KX G ?a ?l ?c ?k
        (case a => k_is); (case l => k_is); (case c => k_is); (case k => k_is)
      case der =>
        refine' mfact KX G ?a ?l ?c ?k
        (case a => k_is); (case l => k_is); (case c => k_is); (case k => k_is)
      case gro =>
        refine' mfact KX G ?a ?l ?c ?k
        (case a => k_is); (case l => k_is); (case c => k_is); (case k => k_is)
      case gra =>
        refine' mfact KX G ?a ?l ?c ?k
        (case a => k_is); (case l => k_is); (case c => k_is); (case k => k_is)
      case sf =>
        refine' mfact KX G ?a ?l ?c ?k
        (case a => k_is); (case l => k_is); (case c => k_is); (case k => k_is)
      case nd =>
        refine' mfact KX G ?a ?l ?c ?k
        (case a => k_is); (case l => k_is); (case c => k_is); (case k => k_is)
      case lk =>
        refine' mfact KX G ?a ?l ?c ?k
        (case a => k_is); (case l => k_is); (case c => k_is); (case k => k_is)
      case lu =>
        refine' mfact KX G ?a ?l ?c ?k
        (case a => k_is); (case l => k_is); (case c => k_is); (case k => k_is)
      case low =>
        refine' mfact KX G ?a ?l ?c ?k
        (case a => k_is); (case l => k_is); (case c => k_is); (case k => k_is)
      case lrf =>
        refine' mfact KX G ?a ?l ?c ?k
        (case a => k_is); (case l => k_is); (case c => k_is); (case k => k_is)
      case ld =>
        refine' mfact KX G ?a ?l ?c ?k
        (case a => k_is); (case l => k_is); (case c => k_is); (case k => k_is)
      case id =>
        refine' mfact KX G ?a ?l ?c ?k
        (case a => k_is); (case l => k_is); (case c => k_is); (case k => k_is)
      case ck =>
        refine' mfact KX G ?a ?l ?c ?k
        (case a => k_is); (case l => k_is); (case c => k_is); (case k => k_is)
      case pot =>
        refine' mfact KX G ?a ?l ?c ?k
        (case a => k_is); (case l => k_is); (case c => k_is); (case k => k_is)
      case dr =>
        refine' mfact KX G ?a ?l ?c ?k
        (case a => k_is); (case l => k_is); (case c => k_is); (case k => k_is)
      case pk =>
        refine' mfact KX G ?a ?l ?c ?k
        (case a => k_is); (case l => k_is); (case c => k_is); (case k => k_is)
      case md =>
        refine' mfact KX G ?a ?l ?c ?k
        (case a => k_is); (case l => k_is); (case c => k_is); (case k => k_is)
      case ca =>
        refine' mfact KX G ?a ?l ?c ?k
        (case a => k_is); (case l => k_is); (case c => k_is); (case k => k_is)
      case ro =>
        refine' mfact KX G ?a ?l ?c ?k
        (case a => k_is); (case l => k_is); (case c => k_is); (case k => k_is)
      case prr =>
        refine' mfact KX G ?a ?l ?c ?k
        (case a => k_is); (case l => k_is); (case c => k_is); (case k => k_is)
      case ri =>
        refine' mfact KX G ?a ?l ?c ?k
        (case a => k_is); (case l => k_is); (case c => k_is); (case k => k_is)
      case ho =>
        refine' dfact_b KX G ?a ?l ?c ?k ?t
        (case a => k_is); (case l => k_is); (case c => k_is); (case k => k_is); (case t => k_is)
      case h_init =>
        refine' cfact ?a ?i ?l ?c ?k
        (case a => k_is); (case i => k_is); (case l => k_is); (case c => k_is); (case k => k_is)
      case h_de =>
        refine' cfact ?a ?i ?l ?c ?k
        (case a => k_is); (case i => k_is); (case l => k_is); (case c => k_is); (case k => k_is)
      case p_init =>
        refine' cfact ?a ?i ?l ?c ?k
        (case a => k_is); (case i => k_is); (case l => k_is); (case c => k_is); (case k => k_is)
      case p_ct =>
        refine' cfact ?a ?i ?l ?c ?k
        (case a => k_is); (case i => k_is); (case l => k_is); (case c => k_is); (case k => k_is)
      case p_df =>
        refine' cfact ?a ?i ?l ?c ?k
        (case a => k_is); (case i => k_is); (case l => k_is); (case c => k_is); (case k => k_is)
      case p_na =>
        refine' cfact ?a ?i ?l ?c ?k
        (case a => k_is); (case i => k_is); (case l => k_is); (case c => k_is); (case k => k_is)
      case p_nf =>
        refine' cfact ?a ?i ?l ?c ?k
        (case a => k_is); (case i => k_is); (case l => k_is); (case c => k_is); (case k => k_is)
      case p_ex =>
        refine' cfact ?a ?i ?l ?c ?k
        (case a => k_is); (case i => k_is); (case l => k_is); (case c => k_is); (case k => k_is)
      case p_ls =>
        refine' cfact ?a ?i ?l ?c ?k
        (case a => k_is); (case i => k_is); (case l => k_is); (case c => k_is); (case k => k_is)
      case p_ld =>
        refine' cfact ?a ?i ?l ?c ?k
        (case a => k_is); (case i => k_is); (case l => k_is); (case c => k_is); (case k => k_is)
      case t_init =>
        refine' cfact ?a ?i ?l ?c ?k
        (case a => k_is); (case i => k_is); (case l => k_is); (case c => k_is); (case k => k_is)
      case t_fa =>
        refine' cfact ?a ?i ?l ?c ?k
        (case a => k_is); (case i => k_is); (case l => k_is); (case c => k_is); (case k => k_is)
      case t_rs =>
        refine' cfact ?a ?i ?l ?c ?k
        (case a => k_is); (case i => k_is); (case l => k_is); (case c => k_is); (case k => k_is)
      case t_zt =>
        refine' cfact ?a ?i ?l ?c ?k
        (case a => k_is); (case i => k_is); (case l => k_is); (case c => k_is); (case k => k_is)
      case t_ld =>
        refine' cfact ?a ?i ?l ?c ?k
        (case a => k_is); (case i => k_is); (case l => k_is); (case c => k_is); (case k => k_is)
      case s_init =>
        refine' cfact ?a ?i ?l ?c ?k
        (case a => k_is); (case i => k_is); (case l => k_is); (case c => k_is); (case k => k_is)
      case s_gw =>
        refine' cfact ?a ?i ?l ?c ?k
        (case a => k_is); (case i => k_is); (case l => k_is); (case c => k_is); (case k => k_is)
      case s_li =>
        refine' cfact ?a ?i ?l ?c ?k
        (case a => k_is); (case i => k_is); (case l => k_is); (case c => k_is); (case k => k_is)
      case s_fo =>
        refine' cfact ?a ?i ?l ?c ?k
        (case a => k_is); (case i => k_is); (case l => k_is); (case c => k_is); (case k => k_is)
      case s_al =>
        refine' cfact ?a ?i ?l ?c ?k
        (case a => k_is); (case i => k_is); (case l => k_is); (case c => k_is); (case k => k_is)
      case s_to =>
        refine' cfact ?a ?i ?l ?c ?k
        (case a => k_is); (case i => k_is); (case l => k_is); (case c => k_is); (case k => k_is)
      case s_bd =>
        refine' cfact ?a ?i ?l ?c ?k
        (case a => k_is); (case i => k_is); (case l => k_is); (case c => k_is); (case k => k_is)
      case s_tu =>
        refine' cfact ?a ?i ?l ?c ?k
        (case a => k_is); (case i => k_is); (case l => k_is); (case c => k_is); (case k => k_is)
      case s_cr =>
        refine' cfact ?a ?i ?l ?c ?k
        (case a => k_is); (case i => k_is); (case l => k_is); (case c => k_is); (case k => k_is)
      case s_dr =>
        refine' cfact ?a ?i ?l ?c ?k
        (case a => k_is); (case i => k_is); (case l => k_is); (case c => k_is); (case k => k_is)
      case s_rs =>
        refine' cfact ?a ?i ?l ?c ?k
        (case a => k_is); (case i => k_is); (case l => k_is); (case c => k_is); (case k => k_is)
      case s_fa =>
        refine' cfact ?a ?i ?l ?c ?k
        (case a => k_is); (case i => k_is); (case l => k_is); (case c => k_is); (case k => k_is)
      case s_zo =>
        refine' cfact ?a ?i ?l ?c ?k
        (case a => k_is); (case i => k_is); (case l => k_is); (case c => k_is); (case k => k_is)
      case s_be =>
        refine' cfact ?a ?i ?l ?c ?k
        (case a => k_is); (case i => k_is); (case l => k_is); (case c => k_is); (case k => k_is)
      case s_lp =>
        refine' cfact ?a ?i ?l ?c ?k
        (case a => k_is); (case i => k_is); (case l => k_is); (case c => k_is); (case k => k_is)
      case s_lz =>
        refine' cfact ?a ?i ?l ?c ?k
        (case a => k_is); (case i => k_is); (case l => k_is); (case c => k_is); (case k => k_is)
      case s_ll =>
        refine' cfact ?a ?i ?l ?c ?k
        (case a => k_is); (case i => k_is); (case l => k_is); (case c => k_is); (case k => k_is)
      case h_pl =>
        refine' pfact ?a ?b ?t ?r ?l ?c ?k
        (case a => k_is); (case b => k_is); (case t => k_is); (case r => k_is); (case l => k_is); (case c => k_is); (case k => k_is)
      case law =>
        refine' mfact KX G ?a ?l ?c ?k
        (case a => k_is); (case l => k_is); (case c => k_is); (case k => k_is)
end
