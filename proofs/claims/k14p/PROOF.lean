import PyProof.Rows.All
import Wide.All
import OpenK.AllK
import Wide.FinOn
import KE.OsRunLaw
import PySem.Challenge.RW_lonetill_k14_whole_sums_and_differences
import PyProof.EqAt
import PyProof.EqKinds
import PyProof.TupleCall
import HandS.ForMost
import HandS.FStr
import HandS.RaiseMore
import HandS.IsInst
import PyProof.FactsAll.dict
import HandS.OwnEq
import PyProof.InstNe
import HandS.Defaults
import HandS.MakeKwOnly
import HandS.Conv
import HandS.Property
import HandS.Style
import HandS.ClsMeth
import HandS.CallLocal
import HandS.Codes
import HandS.WideBits
import HandS.Wide
import HandS.Iter
import PyProof.EnumMake
import PyProof.EnumIter
import HandS.Comp
import HandS.SetFor
import HandS.Strs
import HandS.Gcd
import KE.KMathGC
import HandS.Base
import HandS.Sort
import HandS.SortInts
import HandS.Zip
import PyProof.Rows.RegFStrParts
import HandS.NoneIn
import HandS.IntHex
import PyProof.FString3
import PyProof.Rows.StrIntSpec
import PyProof.Draws
import PyProof.StrLawsIn
import HandS.StrMore
import PyProof.FitsInt
import PyProof.ReprLen

section
set_option Elab.async false
set_option linter.all false
set_option maxRecDepth 100000
set_option maxHeartbeats 0
namespace L2.Hs14
open PySem PySem.W PySem.Calls PyProof.Rows HeadRun
def at_ (i : Nat) : Stmt := match PySem.Challenge.pw_lonetill_k14_whole_sums_and_differences.main.body[i]? with
  | some s => s
  | none => .Pass ⟨0, 0, 0, 0⟩
def q : Program := { PySem.Challenge.pw_lonetill_k14_whole_sums_and_differences with main := { PySem.Challenge.pw_lonetill_k14_whole_sums_and_differences.main with body := ([0, 1, 3, 4, 5, 7, 8, 9, 10, 11, 12, 13, 15, 17, 18, 19, 20, 21, 22, 23, 24, 25, 26, 27, 28, 29, 30, 31, 32, 34, 35, 36, 37, 38, 39, 40, 41, 42, 43, 44, 45, 46, 47, 48, 49, 50, 51, 52, 53, 54, 55, 56, 57, 58, 59, 60, 62, 63, 64, 65, 66, 67, 69, 70, 71, 72, 73, 74, 76, 77, 78, 79, 80, 81, 82, 83, 84, 85, 86, 88, 89, 90, 91, 92, 93, 95, 96, 97, 98, 99, 100, 101, 102, 103, 104, 105, 106, 107, 108, 109, 110, 111, 112] : List Nat).map at_ } }
def loose : List PySem.Str := [PySem.Str.ofString "GREATEST", PySem.Str.ofString "Line"]
def Xt : Shared → Bool := fun s => xlAt q [(PySem.Str.ofString "GREATEST", WData.int 6350400)] s && recOk [] s
noncomputable def fin (w : World) : Option (Shared × SharedT) := wholeF (fun p => stepQ (denQ tabQ) p w) fenceQ 12822 PySem.Challenge.pw_lonetill_k14_whole_sums_and_differences
noncomputable def c0 (s : Shared) := PySem.W.Fast.tw5160383126252970620 (PySem.W.R.mapR (fun x => x.name) (PySem.W.Fast.tw3399658132070893891 q)) (PySem.W.Fast.tw5991557255702980513 q) [] { heap := s.heap, drawn := s.drawn, toks := s.toks, os := s.os }
noncomputable def c1 (s : Shared) := s.heap.bltView
noncomputable def c2 (s : Shared) := PySem.W.Fast.tw10880121769531294198 s.heap (PySem.W.Fast.tw821141287760084731 q loose) (PySem.W.R.mapR (fun x => x.name) (PySem.W.Fast.tw3399658132070893891 q)) (PySem.W.R.mapR (fun x => x.fst) (PySem.W.Fast.tw7409074990110511671 q)) (PySem.W.R.mapR (fun x => x.name) (PySem.W.Fast.tw13664370479719496447 q (PySem.W.Fast.tw821141287760084731 q loose)))
  && PySem.W.Fast.tw14722251495701143533 s.heap (importedModules PySem.Challenge.pw_lonetill_k14_whole_sums_and_differences.main.body) && s.heap.isNs PySem.mainGlobals && s.heap.isNs PySem.builtinsNs && PySem.W.Fast.tw10994771534591457954 q s.heap && Xt s && if true = true then s.gens.size == 0 else !PySem.leftWithCleanup s.gens
noncomputable def c3 (s : Shared) := PySem.W.Fast.tw479339242167458305 q s
noncomputable def c4 (s : Shared) := PySem.W.Fast.tw16090120013241838585 q (PySem.W.Fast.tw3247288618530077131 q) s
noncomputable def c5 (s : Shared) := PySem.W.Fast.tw2386780881361962483 q (PySem.W.Fast.tw821141287760084731 q loose) s
noncomputable def c6 (s : Shared) := PySem.W.Fast.tw11698064438423848299 q loose s
noncomputable def c7 (s : Shared) := PySem.W.Fast.tw7317090234206586261 q s
noncomputable def c8 (s : Shared) := PySem.W.Fast.tw7369524293546568484 q loose s
def drs : List DefRec := q.main.body.filterMap fun st => match st with
  | .FunctionDef name a b _ _ _ sc _ _ pos => some ⟨name, a, b, sc, pos⟩
  | _ => none
theorem dq1 : PySem.W.Fast.tw3399658132070893891 q = drs := by kernel_rfl
theorem dq2 : recsOf q = drs := by kernel_rfl
theorem dq3 : PySem.W.Fast.tw694669760492028198 q = [] := by kernel_rfl
theorem dq4 : PySem.W.wdefsOf q = [] := by kernel_rfl
noncomputable def e0 (s : Shared) := PySem.W.Fast.tw5160383126252970620 (PySem.W.R.mapR (fun x => x.name) drs) (PySem.W.Fast.tw5991557255702980513 q) [] { heap := s.heap, drawn := s.drawn, toks := s.toks, os := s.os }
theorem c0e (s : Shared) : c0 s = e0 s := by
  unfold c0 e0
  rw [dq1]
def exq : PyProof.Rows.Seen := ⟨drs.map fun d => some d.shape, true, [], true, true, true, 0⟩
theorem exq_eq : expectedOf q = exq := by
  unfold expectedOf exq
  rw [dq2]
noncomputable def e7 (s : Shared) : List (Option FnShape) × Bool := ([], PySem.W.R.allR (PySem.W.Fast.tw11925523677476243305 q) (PySem.W.Fast.tw1696807537771891022 s.heap))
theorem c7e (s : Shared) : c7 s = e7 s := by
  unfold c7 e7 PySem.W.Fast.tw7317090234206586261
  rw [dq3]
  rfl
theorem wq_eq : wideGood q = ([], true) := by
  unfold wideGood
  rw [dq4]
  rfl
noncomputable def e2x (s : Shared) := PySem.W.Fast.tw10880121769531294198 s.heap (PySem.W.Fast.tw821141287760084731 q loose) (PySem.W.R.mapR (fun x => x.name) drs) (PySem.W.R.mapR (fun x => x.fst) (PySem.W.Fast.tw7409074990110511671 q)) (PySem.W.R.mapR (fun x => x.name) (PySem.W.Fast.tw13664370479719496447 q (PySem.W.Fast.tw821141287760084731 q loose)))
theorem c2e (s : Shared) : c2 s = (e2x s && PySem.W.Fast.tw14722251495701143533 s.heap (importedModules PySem.Challenge.pw_lonetill_k14_whole_sums_and_differences.main.body) && s.heap.isNs PySem.mainGlobals && s.heap.isNs PySem.builtinsNs && PySem.W.Fast.tw10994771534591457954 q s.heap && Xt s && if true = true then s.gens.size == 0 else !PySem.leftWithCleanup s.gens) := by
  unfold c2 e2x
  rw [dq1]
noncomputable def e3x (s : Shared) := PySem.W.R.allR drs fun d => PySem.W.Fast.tw5930804224584009831 s.heap d.name
theorem c3e (s : Shared) : c3 s = (e3x s && PySem.W.Fast.tw5244371056499926238 s.heap && PySem.W.Fast.tw2578726214315757710 q s.heap && (!PySem.W.Fast.tw2458874890965802552 q || PySem.W.Fast.tw9649274521512697073 s.heap)) := by
  unfold c3 e3x PySem.W.Fast.tw479339242167458305
  rw [dq1]
theorem comps (s : Shared) : seenQ q loose (importedModules PySem.Challenge.pw_lonetill_k14_whole_sums_and_differences.main.body) Xt s = (c0 s, c1 s, c2 s, c3 s, c4 s, c5 s, c6 s, c7 s, c8 s) := rfl
theorem good : openGood q loose = (expectedOf q, bltViewBooted, true, true, pinGoodD (drecsOf q), plainGoodE q (looseW q loose), plainGoodD q loose, wideGood q, clsGoodW q loose) := rfl
theorem s0 (w : World) : (fin w).map (fun s => e0 s.2.abs) = some exq := by kernel_rfl
theorem s2 (w : World) : (fin w).map (fun s => e2x s.2.abs) = some true := by kernel_rfl
theorem s2b (w : World) : (fin w).map (fun s => (PySem.W.Fast.tw14722251495701143533 s.2.abs.heap (importedModules PySem.Challenge.pw_lonetill_k14_whole_sums_and_differences.main.body), s.2.abs.heap.isNs PySem.mainGlobals, s.2.abs.heap.isNs PySem.builtinsNs, PySem.W.Fast.tw10994771534591457954 q s.2.abs.heap, Xt s.2.abs, (if true = true then s.2.abs.gens.size == 0 else !PySem.leftWithCleanup s.2.abs.gens))) = some (true, true, true, true, true, true) := by kernel_rfl
theorem s3 (w : World) : (fin w).map (fun s => e3x s.2.abs) = some true := by kernel_rfl
theorem s3b (w : World) : (fin w).map (fun s => (PySem.W.Fast.tw5244371056499926238 s.2.abs.heap, PySem.W.Fast.tw2578726214315757710 q s.2.abs.heap, (!PySem.W.Fast.tw2458874890965802552 q || PySem.W.Fast.tw9649274521512697073 s.2.abs.heap))) = some (true, true, true) := by kernel_rfl
theorem s7 (w : World) : (fin w).map (fun s => e7 s.2.abs) = some ([], true) := by kernel_rfl
theorem s1 (w : World) : (fin w).map (fun s => c1 s.2.abs) = some (bltViewBooted) := by kernel_rfl
theorem s4 (w : World) : (fin w).map (fun s => c4 s.2.abs) = some (pinGoodD (drecsOf q)) := by kernel_rfl
theorem s6 (w : World) : (fin w).map (fun s => c6 s.2.abs) = some (plainGoodD q loose) := by kernel_rfl
theorem s8 (w : World) : (fin w).map (fun s => c8 s.2.abs) = some (clsGoodW q loose) := by kernel_rfl
theorem pl0 : PySem.W.Fast.tw210736558901404530 q (PySem.W.Fast.tw821141287760084731 q loose) = [] := by kernel_rfl
theorem pg0 : plainGoodE q (looseW q loose) = [] := by kernel_rfl
theorem s5 (s : Shared) : c5 s = plainGoodE q (looseW q loose) := by
  rw [pg0]
  unfold c5 PySem.W.Fast.tw2386780881361962483
  rw [pl0]
  rfl
theorem seen_ (w : World) : (fin w).map (fun s => seenQ q loose (importedModules PySem.Challenge.pw_lonetill_k14_whole_sums_and_differences.main.body) Xt s.2.abs) = some (openGood q loose) := by
  have h0 := s0 w
  have h2 := s2 w
  have h2b := s2b w
  have h3 := s3 w
  have h3b := s3b w
  have h7 := s7 w
  have h1 := s1 w
  have h4 := s4 w
  have h6 := s6 w
  have h8 := s8 w
  revert h0 h2 h2b h3 h3b h7 h1 h4 h6 h8
  generalize fin w = x
  intro h0 h2 h2b h3 h3b h7 h1 h4 h6 h8
  cases x with
  | none => cases h0
  | some s =>
    have h0 : c0 s.2.abs = expectedOf q := (c0e _).trans ((Option.some.inj h0).trans exq_eq.symm)
    have h2 : c2 s.2.abs = true := by
      have a : e2x s.2.abs = true := Option.some.inj h2
      have b := Option.some.inj h2b
      obtain ⟨b1, b⟩ := Prod.mk.inj b
      obtain ⟨b2, b⟩ := Prod.mk.inj b
      obtain ⟨b3, b⟩ := Prod.mk.inj b
      obtain ⟨b4, b⟩ := Prod.mk.inj b
      obtain ⟨b5, b6⟩ := Prod.mk.inj b
      rw [c2e, a, b1, b2, b3, b4, b5, b6]
      rfl
    have h3 : c3 s.2.abs = true := by
      have a : e3x s.2.abs = true := Option.some.inj h3
      have b := Option.some.inj h3b
      obtain ⟨b1, b⟩ := Prod.mk.inj b
      obtain ⟨b2, b3⟩ := Prod.mk.inj b
      rw [c3e, a, b1, b2, b3]
      rfl
    have h7 : c7 s.2.abs = wideGood q := (c7e _).trans ((Option.some.inj h7).trans wq_eq.symm)
    have h1 : c1 s.2.abs = bltViewBooted := Option.some.inj h1
    have h4 : c4 s.2.abs = pinGoodD (drecsOf q) := Option.some.inj h4
    have h6 : c6 s.2.abs = plainGoodD q loose := Option.some.inj h6
    have h8 : c8 s.2.abs = clsGoodW q loose := Option.some.inj h8
    show some (seenQ q loose _ Xt s.2.abs) = _
    rw [comps, good, h0, h1, h2, h3, h4, s5, h6, h7, h8]
theorem looks_ (w : World) : (fin w).map (fun s => looksF PySem.Challenge.pw_lonetill_k14_whole_sums_and_differences s.1.heap s.2.abs) = some true := by kernel_rfl
theorem seenG (w : World) {p' q' : Program} {loose' mods' : List PySem.Str} {Xt' : Shared → Bool} (hp : p' = PySem.Challenge.pw_lonetill_k14_whole_sums_and_differences) (hq : q' = q) (hl : loose' = loose) (hm : mods' = importedModules PySem.Challenge.pw_lonetill_k14_whole_sums_and_differences.main.body) (hx : Xt' = Xt) :
    (wholeF (fun p => stepQ (denQ tabQ) p w) fenceQ 12822 p').map (fun x => seenQ q' loose' mods' Xt' x.2.abs) = some (openGood q' loose') := by
  subst hp hq hl hm hx
  exact seen_ w
theorem looksG (w : World) {p' : Program} (hp : p' = PySem.Challenge.pw_lonetill_k14_whole_sums_and_differences) : (wholeF (fun p => stepQ (denQ tabQ) p w) fenceQ 12822 p').map (fun x => looksF p' x.1.heap x.2.abs) = some true := by
  subst hp
  exact looks_ w
theorem split3 {α β γ δ : Type} {f : α → β} {g : α → γ} {h : α → δ} {x : Option α} {a : β} {b : γ} {c : δ} (h1 : x.map f = some a) (h2 : x.map g = some b) (h3 : x.map h = some c) : x.map (fun s => (f s, g s, h s)) = some (a, b, c) := by
  cases x with
  | none => cases h1
  | some s =>
    cases h1
    cases h2
    cases h3
    rfl
end L2.Hs14
end

section
set_option Elab.async false
set_option linter.all false
set_option maxRecDepth 100000
set_option maxHeartbeats 2000000
/-! Defs that are called while nothing is being shown (no repr runs around): their promise, their calls, the law's end. -/
namespace L2.Gd
open PySem PySem.Spec PyProof.Rows

structure FnG (P : Program) (w : World) (K : PySem.W.Frag) (mg : Str → Option Value) (base : Heap)
    (k : Nat) (f : Addr) (fd : FuncData) (ps : List Str) (sp : Sp) : Prop where
  cnt : ∀ (vs : List V) (H : Hp) (Q : VK), sp vs H Q E0 → vs.length = ps.length
  go : ∀ (A : Around) (outer : List Env) (s : Shared) (H : Hp) (args : Args)
      (us : List Value) (vs : List V) (Q : VK), A.guards = some [] → Room k A →
    Env0 P w K mg base A outer s H → BindsTo s fd args (ps.zip us) → Vals vs us →
    sp vs H Q E0 → codeAny (model P w) A (.call (.ref f) args) (CR CX0 outer P w H s Q E0) s

section
variable {P : Program} {w : World} {K : PySem.W.Frag} {mg : Str → Option Value} {base : Heap}
  {k : Nat} {f : Addr} {fd : FuncData} {ps N : List Str} {sp : Sp}

theorem FnG.of (F : FnOk P w K mg base CX0 k f fd ps sp) : FnG P w K mg base k f fd ps sp :=
  ⟨fun vs H Q h => F.len vs H Q E0 h,
   fun A outer s H args us vs Q _ hr e0 hb r h => F.run A outer s H args us vs Q E0 hr e0 hb r h⟩

theorem FnG.mono {j : Nat} (F : FnG P w K mg base j f fd ps sp) (h : j ≤ k) : FnG P w K mg base k f fd ps sp :=
  ⟨F.cnt, fun A outer s H args us vs Q hg hr => F.go A outer s H args us vs Q hg (hr.mono h)⟩

/-- a def of the text, by its body, where nothing is being shown around it -/
theorem okG {x qual : Str} {st : Stmt} (F : Fun K x qual st f fd) (S : FnScope N ps (defScope st))
    (cnt : ∀ (vs : List V) (H : Hp) (Q : VK), sp vs H Q E0 → vs.length = ps.length)
    (body : ∀ (cdv : Value) (A : Around) (outer : List Env) (s : Shared) (H : Hp) (vs : List V) (Q : VK),
      A.guards = some [] → Room k (A.deeper (envOfC qual (defScope st) s.heap.objs.size f cdv)) →
      sp vs H Q E0 →
      ∃ t, PSs (cxOf CX0 P w K mg base N qual (defScope st) f cdv A outer s H E0).nox (defBody st) t ∧
        t { nx := fun _ H' => Q .non H', rt := Q } (start N vs) H) :
    FnG P w K mg base (k + 1) f fd ps sp := by
  obtain ⟨oc, od, kV, doc, pm, an, cdv, ct, osl, rfl, there, code⟩ := F.ex
  refine ⟨cnt, ?_⟩
  intro A outer s H args us vs Q hg hr e0 bind rv hsp
  have inK : K.In s.heap := e0.mod.kin.keeps (fun b o q => (e0.bs b o q).1)
  have nolim : s.heap.NoLimit := e0.mod.nolimit.keeps (fun b o q => (e0.bs b o q).1)
  have kinds : ∀ y ∈ ps.zip us, (defScope st).names.lookup y.1 = some .local ∨
      ((defScope st).names.lookup y.1 = some .cell ∧
        ((cellsFrom (s.heap.objs.size + 1) (defScope st).names []).lookup y.1).isSome = true) := by
    rintro ⟨n, v⟩ hy
    cases S.par n (List.of_mem_zip hy).1 with
    | inl q => exact .inl q
    | inr q => exact .inr ⟨q, PySem.W.cellsFrom_some _ _ _ (.inl q)⟩
  refine codeAny_call_function hr.depth (inK _ _ there) rfl S.co S.gen rfl
    (PySem.W.codeRec_of inK code) (bind _ _ _ _ ?_)
  refine wpAny_newFunctionEnv_cells S.kind kinds ?_
  intro env he s1 ic
  subst he
  refine ⟨nolim.keeps ic.toInCall.keep, codeAny_func ?_⟩
  obtain ⟨t, ht, hq⟩ := body cdv A outer s H vs Q hg (hr.deeper _) hsp
  have hl : vs.length = ps.length := cnt _ _ _ hsp
  have I := inv_start (CX := CX0) (P := P) (w := w) (mg := mg) (base := base) (E := E0) S hr.hd e0 hl rv ic
  refine wpAny_mono (ht.nox.run [] s1 (start N vs) H _ I hq) (fun fl s' z => ?_) (fun e s' z => z)
  cases fl with
  | ret u =>
    obtain ⟨v, σ', H', J, r1, q⟩ := z
    exact ⟨v, H', J.os, J.bare, J.base, J.hok, r1, q⟩
  | next =>
    obtain ⟨σ', H', J, q⟩ := z
    exact ⟨.non, H', J.os, J.bare, J.base, J.hok, rfl, q⟩
  | brk =>
    obtain ⟨_, _, _, q⟩ := z
    exact q.elim
  | cont =>
    obtain ⟨_, _, _, q⟩ := z
    exact q.elim
end

section
variable {X : Cx} {k : Nat} {f : Addr} {fd : FuncData} {ps : List Str} {sp : Sp} {x : Str}
  {p pos : Pos} {e : Expr} {es : List Expr} {t : TA}

theorem run_fnG {pins : List (Addr × Obj)} {σ : St} {H : Hp} {s : Shared} {Q : VK} {us : List Value} {vs : List V}
    (F : FnG X.prog X.w X.K X.mg X.base k f fd ps sp) (hg : X.A.guards = some []) (hr : Room k X.A)
    (hb : Binds X.K fd ps []) (I : Inv X pins σ H s) (r : Vals vs us) (h : sp vs H Q E0) :
    wpAny (model X.prog X.w) X.A (call (.ref f) us) (EP X pins σ Q) X.xe s := by
  have hl : (us ++ []).length = ps.length := by
    rw [List.append_nil, ← r.length]
    exact F.cnt _ _ _ h
  have hb2 := hb s us I.kIn hl
  rw [List.append_nil] at hb2
  refine wpAny_call (codeAny_mono
    (F.go X.A X.stack s H ⟨us, []⟩ us vs Q hg hr I.env0 hb2 r h) ?_)
  intro res s' hq
  cases res with
  | error er => exact (show False from hq).elim
  | ok fl =>
    cases fl with
    | ret u => exact I.after hq
    | next => exact hq.elim
    | brk => exact hq.elim
    | cont => exact hq.elim

/-- f(e, ..), f such a def -/
theorem pe_callG (F : FnG X.prog X.w X.K X.mg X.base k f fd ps sp) (hg : X.A.guards = some [])
    (hr : Room k X.A) (gl : Gl X x) (hm : X.mg x = some (.ref f))
    (hk : PySem.W.keepIn X.K (.ref f) = true) (hb : Binds X.K fd ps []) (ha : PA X (e :: es) t)
    (hdb : (x == ("__debug__" : Str)) = false := by decide)
    (he : starEach (e :: es) X.env = (false, eval e X.env) :: starEach es X.env := by rfl)
    (hpl : (backTo pos (starEach es X.env)).any (·.1) = false := by rfl) :
    PE X (.Call (.Name x p) (e :: es) [] pos) (tCall sp [] E0 t) := by
  constructor
  intro pins s σ H Q I h
  refine wpAny_Call_Name_kw (ld_glob I gl hm ?_ hdb)
  refine PySem.W.callWith_K (h₀ := X.base) I.ok.mod.kin hk ?_ he hpl
  refine thn (ha.run pos pins s σ H _ I h) ?_
  rintro us s1 ⟨vs, H1, I1, r, q⟩
  rw [List.append_nil] at q
  exact ⟨I1.kIn, run_fnG F hg hr hb I1 r q⟩
end
end L2.Gd
end

section
set_option Elab.async false
set_option linter.all false
set_option maxRecDepth 100000
set_option maxHeartbeats 2000000
namespace L2.Gd
open PySem PySem.Spec PyProof.Rows

section
variable {P : Program} {w : World} {K : PySem.W.Frag} {mg mb : Str → Option Value} {k : Nat} {fa a : Addr}
  {fd : FuncData} {x : Str} {sp : Sp} {s₁ : Shared} {vs : List Value} {ns : List Int}

/-- the law's run from a heap of which at most the script is tracked -/
theorem law_core (inK : K.In s₁.heap) (hns : s₁.heap.Ns mainGlobals mg) (hb : s₁.heap.Ns builtinsNs mb)
    (hbb : ∀ x : Str, x ≠ "__name__" → mb x = bootBuiltins x) (nolim : s₁.heap.NoLimit) (hg : s₁.gens = #[])
    (ha : s₁.heap.get? a = some { cls := .type "list", data := .seq vs.toArray }) (hr : Room k callerA)
    (F : ∀ base : Heap, K.In base → base.Ns mainGlobals mg → FnG P w K mg base k fa fd [x] sp)
    (bind : ∀ (s : Shared) (u : Value), BindsTo s fd ⟨[u], []⟩ [(x, u)])
    (H : Hp) (only : Only H) (hsp : sp [.ref a] H (fun v _ => v = .bl true) E0)
    (ok : HOk P w H s₁.heap) (hA : ∀ b, H b ≠ none → b = a) (hK : H a ≠ none → K.lookup a = none) :
    codeAny (model P w) callerA (.call (.ref fa) ⟨[.ref a], []⟩)
      (fun r s' => r = .ok (.ret (.bool true)) ∧ OldK s₁.heap s'.heap ∧ s'.os = s₁.os ∧ AllBare s'.gens) s₁ := by
  have untracked : ∀ {b : Addr} {o : Obj} {es : Array DictEntry} {ep : Nat},
      s₁.heap.get? b = some o → o.data = .dict es ep → H b = none := by
    intro b o es ep q d
    cases hb' : H b with
    | none => rfl
    | some u =>
      have q2 : b = a := hA b (by rw [hb']; exact fun z => nomatch z)
      subst q2
      have q3 := ha.symm.trans q
      cases q3
      exact nomatch (show Data.seq vs.toArray _ = Data.dict es ep from d)
  have nsB : ∀ {b : Addr} {m : Str → Option Value}, s₁.heap.Ns b m → (hidT s₁.heap H).Ns b m := by
    rintro b m ⟨o, es, ep, q, d, r⟩
    exact ⟨o, es, ep, hidT_get q (untracked q d), d, r⟩
  have inB : K.In (hidT s₁.heap H) := by
    intro b o q
    refine hidT_get (inK b o q) ?_
    cases hb' : H b with
    | none => rfl
    | some u =>
      have q2 : b = a := hA b (by rw [hb']; exact fun z => nomatch z)
      subst q2
      rw [hK (by rw [hb']; exact fun z => nomatch z)] at q
      exact nomatch q
  obtain ⟨mc, l1, l2⟩ := nolim
  have md : Mod K mg (hidT s₁.heap H) := ⟨inB, nsB hns, ⟨mb, nsB hb, hbb⟩, ⟨mc, nsB l1, l2⟩⟩
  have e0 : Env0 P w K mg (hidT s₁.heap H) callerA [] s₁ H :=
    ⟨rfl, md, fun b o q => of_hidT q, Nat.le_of_eq (hidT_size _ _), trivial,
      fun b z => absurd (show b ∈ ([] : List Addr) from z) (by simp), ok, .of_eq hg⟩
  refine codeAny_mono ((F _ inB (nsB hns)).go callerA [] s₁ H ⟨[.ref a], []⟩ [.ref a] [.ref a] _ rfl hr e0
    (bind s₁ (.ref a)) (.cons rfl .nil) hsp) ?_
  intro r s' h
  cases r with
  | error e => exact (show False from h).elim
  | ok fl =>
    cases fl with
    | next => exact h.elim
    | brk => exact h.elim
    | cont => exact h.elim
    | ret u =>
      obtain ⟨v, H', os, bare, un, ok', rv, q⟩ := h
      obtain rfl : v = V.bl true := q
      obtain rfl : u = Value.bool true := rv
      refine ⟨rfl, OldK.of_keep ?_, os, bare⟩
      intro b o q1
      cases hb' : H b with
      | none =>
        exact un.keep b o q1 hb' (fun z => absurd (show b ∈ ([] : List Addr) from z) (by simp)) (by simp)
      | some u =>
        rcases only b with z | ⟨ob, xs, z⟩
        · exact nomatch hb'.symm.trans z
        · obtain ⟨q2, _⟩ := ok b _ z
          obtain ⟨q3, _⟩ := ok' b _ (un.frzs b ob _ z)
          cases q1.symm.trans q2
          exact q3

theorem law_callG (inK : K.In s₁.heap) (hns : s₁.heap.Ns mainGlobals mg) (hb : s₁.heap.Ns builtinsNs mb)
    (hbb : ∀ x : Str, x ≠ "__name__" → mb x = bootBuiltins x) (nolim : s₁.heap.NoLimit) (hg : s₁.gens = #[])
    (ha : s₁.heap.get? a = some { cls := .type "list", data := .seq vs.toArray }) (hi : IntsAre vs ns)
    (hl : ns.length ≤ sizeLine) (hr : Room k callerA)
    (F : ∀ base : Heap, K.In base → base.Ns mainGlobals mg → FnG P w K mg base k fa fd [x] sp)
    (bind : ∀ (s : Shared) (u : Value), BindsTo s fd ⟨[u], []⟩ [(x, u)])
    (hsp : ∀ H : Hp, Only H → SqL K H a (ns.map V.int) → sp [.ref a] H (fun v _ => v = .bl true) E0) :
    codeAny (model P w) callerA (.call (.ref fa) ⟨[.ref a], []⟩)
      (fun r s' => r = .ok (.ret (.bool true)) ∧ OldK s₁.heap s'.heap ∧ s'.os = s₁.os ∧ AllBare s'.gens) s₁ := by
  have rv := vals_ints hi
  have lenV := hi.length
  cases hk : K.lookup a with
  | some o =>
    -- the script is one of the module's own objects
    cases ha.symm.trans (inK a o hk)
    have only : Only (fun _ => none) := fun _ => .inl rfl
    have sq : SqL K (fun _ => none) a (ns.map V.int) :=
      .inr ⟨_, vs.toArray, _, hk, rfl, rfl, rfl, by rw [List.size_toArray, lenV]; exact hl, by simpa using rv⟩
    refine law_core inK hns hb hbb nolim hg ha hr F bind _ only (hsp _ only sq) ?_ ?_ ?_
    · intro b u z
      exact nomatch (show (none : Option HO) = some u from z)
    · exact fun b z => absurd rfl z
    · exact fun z => absurd rfl z
  | none =>
    let Hs : Hp := fun b => if b = a then some (.frz { cls := .type "list", data := .seq vs.toArray } (.lst (ns.map V.int))) else none
    have at_a : Hs a = some (.frz { cls := .type "list", data := .seq vs.toArray } (.lst (ns.map V.int))) := if_pos rfl
    have else_ : ∀ b, b ≠ a → Hs b = none := fun b n => if_neg n
    have only : Only Hs := by
      intro b
      by_cases q : b = a
      · subst q; exact .inr ⟨_, _, at_a⟩
      · exact .inl (else_ b q)
    refine law_core inK hns hb hbb nolim hg ha hr F bind Hs only (hsp _ only (.inl (.inr ⟨_, at_a⟩))) ?_ ?_ ?_
    · intro b u z
      by_cases q : b = a
      · subst q
        cases at_a.symm.trans z
        exact ⟨ha, by rw [List.length_map]; exact hl, vs, _, rv, ha⟩
      · exact nomatch (else_ b q).symm.trans z
    · intro b z
      by_cases q : b = a
      · exact q
      · exact absurd (else_ b q) z
    · exact fun _ => hk
end

/-- the goal that the head leaves, from the law's promise -/
theorem walk_ofG {l : PySem.W.OpenLaw} {n k : Nat} {q : Program} {loose : List Str}
    {XP : (Str → Option Value) → Heap → Prop} {YP : World → Heap → Prop} {d : DefRec} {K : Params → PySem.W.Frag}
    {sp : PySem.W.Frag → Sp} {x : Str}
    (hn : l.most = some n) (hn2 : n ≤ sizeLine) (hdf : d.params.defaults = []) (hr : Room k callerA)
    (hY : ∀ (w : World) (h : Heap), YP w h → (K w.params).In h)
    (F : ∀ (w : World) (mg : Str → Option Value) (fa : Addr) (h : Heap), (K w.params).In h →
      h.Ns mainGlobals mg → mg d.name = some (.ref fa) →
      ∃ fd : FuncData, (∀ (s : Shared) (u : Value), BindsTo s fd ⟨[u], []⟩ [(x, u)]) ∧
        ∀ base : Heap, (K w.params).In base → base.Ns mainGlobals mg →
          FnG l.prog w (K w.params) mg base k fa fd [x] (sp (K w.params)))
    (hsp : ∀ (K : PySem.W.Frag) (H : Hp) (a : Addr) (ns : List Int), ns.length ≤ n → Only H →
      SqL K H a (ns.map V.int) → sp K [.ref a] H (fun v _ => v = .bl true) E0) :
    PySem.W.WalkO q loose XP YP l.row.toRowW d [] (fun f vs => PySem.call f vs) := by
  refine Att.attach_call hn hdf ?_
  intro w s₀ s₁ mg mb fa o pm cd doc a vs ns G Y ho hd hcd hmg hobj hints hlen hg
  have inK := hY w _ Y
  obtain ⟨fd, bind, hF⟩ := F w mg fa _ inK G.T.g hmg
  exact law_callG inK G.T.g G.T.b G.T.builtins G.T.nolimit hg hobj hints (Nat.le_trans hlen hn2) hr hF bind
    (fun H hO hS => hsp (K w.params) H a ns hlen hO hS)
end L2.Gd
end

section
set_option Elab.async false
set_option linter.all false
set_option maxRecDepth 100000
set_option maxHeartbeats 2000000
namespace L2.Gd
open PySem PySem.Spec PyProof.Rows

/-- a list or a tuple of plain data: what is told of it fits -/
def Showy (d : PyData) : Prop := d.showable = true ∧ d.hasDict = false ∧ d.depth ≤ 20 ∧ d.shown.length ≤ sizeLine
section
variable {X : Cx} {pins : List (Addr × Obj)} {σ : St} {H : Hp} {s : Shared}
theorem reprObj_D {A : Around} (I : Inv X pins σ H s) (hg : A.guards = some []) (hu : A.units + 64 < cLine) {a : Addr} {d : PyData}
    (hd : Dp X.K H (.ref a) d) (hs : Showy d) {Q : Value → Shared → Prop} {E : Value → Shared → Prop}
    (h : ∀ s' u, Inv X pins σ H s' → Q (.str d.shown u) s') :
    wpAny (model X.prog X.w) A (pyReprObj (.ref a)) Q E s := by
  obtain ⟨as, r⟩ := Dp.reads I d _ _ hd rfl
  obtain ⟨h1, h2, h3, h4⟩ := hs
  refine pyReprObj_of_reads r h1 (PyData.noDict_hsm h2) hg (by omega) (fun _ _ q => q) ?_ h4
  intro h' u tk k
  exact h _ u (I.kept k)
end
section
variable {X : Cx}
/-- repr(x), x a list or a tuple of plain data -/
theorem call_reprD (hg : X.A.guards = some []) (hu : X.A.units + 64 < cLine) :
    CallR X (.builtin "repr") (fun xs H Q => ∃ a d, xs = [.ref a] ∧ Dp X.K H (.ref a) d ∧ Showy d ∧ Q (.str d.shown) H) := by
  rintro pins s σ H xs us Q I r ⟨a, d, rfl, hd, ⟨h1, h2, h3, h4⟩, q⟩
  cases r with
  | cons r1 r2 =>
    cases r2
    obtain rfl := r1
    obtain ⟨as, rd⟩ := Dp.reads I d _ _ hd rfl
    refine repr_of_reads' rd h1 (PyData.noDict_hsm h2) hg (by omega) (fun _ _ q => q) ?_ h4
    intro h' u tk k
    exact ⟨.str d.shown, H, I.kept k, ⟨_, rfl⟩, q⟩
/-- {x!r} of such -/
theorem pe_fmtRD {e : Expr} {te : TE} {pos : Pos} (hg : X.A.guards = some []) (hu : X.A.units + 64 < cLine) (he : PE X e te) :
    PE X (.FormattedValue e 114 none pos) (fun σ H Q => te σ H fun x H1 => ∃ a d, x = .ref a ∧ Dp X.K H1 (.ref a) d ∧ Showy d ∧ Q (.str d.shown) H1) := by
  constructor
  intro pins s σ H Q I h
  refine wpAny_FormattedValue_repr (thn (he.run pins s σ H _ I h) ?_)
  rintro v s1 ⟨x, H1, I1, r1, a, d, rfl, hd, hs, q⟩
  obtain rfl := r1
  refine reprObj_D I1 hg hu hd hs ?_
  intro s' u I'
  exact wpAny_formatField_str ⟨.str d.shown, H1, I', ⟨u, rfl⟩, q⟩ ⟨.str d.shown, H1, I'.tok _, ⟨_, rfl⟩, q⟩ hs.2.2.2
end
end L2.Gd
end

section
set_option Elab.async false
set_option linter.all false
set_option maxRecDepth 100000
set_option maxHeartbeats 2000000
namespace L2.Gd
open PySem PySem.Spec PyProof.Rows

/-! ### a def's run, whatever it hands back (NotImplemented, too) -/
def RawEnd (R : Result → Shared → Prop) (fl : Flow) (s' : Shared) : Prop := match fl with
  | .ret u => R (.ok (.ret u)) s'
  | .next => R (.ok (.ret .none)) s'
  | _ => False
section
variable {P : Program} {w : World} {K : PySem.W.Frag} {mg : Str → Option Value} {base : Heap}
  {k : Nat} {f : Addr} {fd : FuncData} {ps N : List Str}

theorem raw_call {x qual : Str} {st : Stmt} (F : Fun K x qual st f fd) (S : FnScope N ps (defScope st))
    {A : Around} {outer : List Env} {s : Shared} {H : Hp} {args : Args} {us : List Value} {vs : List V}
    {R : Result → Shared → Prop} (hr : Room (k + 1) A) (e0 : Env0 P w K mg base A outer s H)
    (bind : BindsTo s fd args (ps.zip us)) (rv : Vals vs us) (hl : vs.length = ps.length)
    (body : ∀ (cdv : Value) (s1 : Shared),
      Inv (cxOf CX0 P w K mg base N qual (defScope st) f cdv A outer s H E0).nox [] (start N vs) H s1 →
      wpAny (model P w) (A.deeper (envOfC qual (defScope st) s.heap.objs.size f cdv))
        (execs (defBody st) (envOfC qual (defScope st) s.heap.objs.size f cdv)) (RawEnd R) (fun _ _ => False) s1) :
    codeAny (model P w) A (.call (.ref f) args) R s := by
  obtain ⟨oc, od, kV, doc, pm, an, cdv, ct, osl, rfl, there, code⟩ := F.ex
  have inK : K.In s.heap := e0.mod.kin.keeps (fun b o q => (e0.bs b o q).1)
  have nolim : s.heap.NoLimit := e0.mod.nolimit.keeps (fun b o q => (e0.bs b o q).1)
  have kinds : ∀ y ∈ ps.zip us, (defScope st).names.lookup y.1 = some .local ∨
      ((defScope st).names.lookup y.1 = some .cell ∧
        ((cellsFrom (s.heap.objs.size + 1) (defScope st).names []).lookup y.1).isSome = true) := by
    rintro ⟨n, v⟩ hy
    cases S.par n (List.of_mem_zip hy).1 with
    | inl q => exact .inl q
    | inr q => exact .inr ⟨q, PySem.W.cellsFrom_some _ _ _ (.inl q)⟩
  refine codeAny_call_function hr.depth (inK _ _ there) rfl S.co S.gen rfl
    (PySem.W.codeRec_of inK code) (bind _ _ _ _ ?_)
  refine wpAny_newFunctionEnv_cells S.kind kinds ?_
  intro env he s1 ic
  subst he
  refine ⟨nolim.keeps ic.toInCall.keep, codeAny_func ?_⟩
  have I := inv_start (CX := CX0) (P := P) (w := w) (mg := mg) (base := base) (E := E0) S hr.hd e0 hl rv ic
  refine wpAny_mono (body cdv s1 (I.wish _)) (fun fl s' z => ?_) (fun e s' z => z.elim)
  cases fl with
  | ret u => exact z
  | next => exact z
  | brk => exact z.elim
  | cont => exact z.elim
end

/-! ### == of an own class that answers NotImplemented -/
/-- the state behind it: nothing that was tracked has changed -/
def After (X : Cx) (pins : List (Addr × Obj)) (σ : St) (H : Hp) (s' : Shared) : Prop := ∃ H', Inv X pins σ H' s' ∧ Same H H'
/-- the own __eq__ at f, of the class at C, declines what is of another kind -/
def Declines (X : Cx) (C f : Addr) (D : V → Hp → Prop) : Prop :=
  ∀ (pins : List (Addr × Obj)) (s : Shared) (σ : St) (H : Hp) (x : Addr) (y : V) (v : Value) (dx : Addr) (fs : List (Str × V)),
    Inv X pins σ H s → H x = some (.ins C dx fs) → RelV y v → D y H →
    wpAny (model X.prog X.w) X.A (call (.ref f) [.ref x, v]) (fun r s' => r = .notImplemented ∧ After X pins σ H s') (fun _ _ => False) s

section
variable {X : Cx} {C f : Addr}
theorem wpAny_noE {M : Model} {A : Around} {α : Type} {t : Sem α} {Q : α → Shared → Prop} {E : Value → Shared → Prop} {s : Shared}
    (h : wpAny M A t Q (fun _ _ => False) s) : wpAny M A t Q E s := wpAny_mono h (fun _ _ z => z) (fun _ _ z => z.elim)

/-- the value on the right: its type, and what its own == says of an instance -/
structure OtherKind (X : Cx) (C : Addr) (y : V) (tb : Value) (D : V → Hp → Prop) : Prop where
  ne : (tb == .ref C) = false
  sub : PySem.W.subIn X.K tb (.ref C) = some false
  ty : ∀ (pins : List (Addr × Obj)) (s : Shared) (σ : St) (H : Hp) (v : Value), Inv X pins σ H s → RelV y v → D y H →
    PySem.W.Looks (model X.prog X.w) s.heap (typeOf v) tb
  dec : ∀ (A : Around) (pins : List (Addr × Obj)) (s : Shared) (σ : St) (H : Hp) (x : Addr) (v : Value) (dx : Addr) (fs : List (Str × V)) (Q : Option Value → Shared → Prop) (E : Value → Shared → Prop),
    A.units + 8 < cLine → Inv X pins σ H s → RelV y v → D y H → H x = some (.ins C dx fs) → (∀ s', Inv X pins σ H s' → Q none s') →
    wpAny (model X.prog X.w) A (tryCompare v "__eq__" (.ref x)) Q E s
  mono : ∀ (H H' : Hp), Same H H' → D y H → D y H'
  notSame : ∀ (pins : List (Addr × Obj)) (s : Shared) (σ : St) (H : Hp) (x : Addr) (v : Value) (dx : Addr) (fs : List (Str × V)) (A : Around) (Q : Bool → Shared → Prop) (E : Value → Shared → Prop),
    Inv X pins σ H s → RelV y v → D y H → H x = some (.ins C dx fs) → Q false s → wpAny (model X.prog X.w) A (isSame (.ref x) v) Q E s

/-- x == y, x an instance of the class at C, y of another kind: False -/
theorem op_eqNI (hu : X.A.units + 64 < cLine) {DD : V → Hp → Prop} (hs : PySem.W.findIn X.K (.ref C) "__eq__" = some (some (.ref f)))
    (hf : PySem.W.isFn X.K (.ref f) = true) (dc : Declines X C f DD) :
    OpR X (compareOp .Eq) (fun x y H Q => ∃ (a dx : Addr) (fs : List (Str × V)) (tb : Value) (D : V → Hp → Prop),
      x = .ref a ∧ H a = some (.ins C dx fs) ∧ OtherKind X C y tb D ∧ D y H ∧ DD y H ∧ ∀ H', Same H H' → Q (.bl false) H') := by
  rintro pins s σ H x y u v Q I rx ry ⟨a, dx, fs, tb, D, rfl, ha, O, hD, hDD, q⟩
  obtain rfl := rx
  obtain ⟨mA, J, _⟩ := ins_get I.hok ha
  obtain ⟨od, J, _⟩ := J.look
  show wpAny _ _ (richCompare .Eq (.ref a) v) _ _ _
  unfold richCompare
  simp only [oneThing_ref]
  refine wpAny_holding (wpAny_bind (wpAny_cRoomFor (by omega) ?_))
  refine wpAny_bind (J.type.here (wpAny_bind ((O.ty pins s σ H v I ry hD).here ?_)))
  have ne : (Value.ref C != tb) = true := by
    have := O.ne
    rw [bne_comm, bne, this]
    rfl
  rw [if_pos ne]
  refine wpAny_bind ((PySem.W.looks_subIn I.kIn O.sub).here ?_)
  simp only [Bool.false_eq_true, if_false]
  have one : wpAny (model X.prog X.w) X.A (tryCompare (.ref a) (cmpInfo CmpOp.Eq).2.fst v)
      (fun r s' => r = none ∧ After X pins σ H s') X.xe s := by
    unfold tryCompare
    refine wpAny_bind (PySem.W.ifBound_K I.kIn J hs hf (wpAny_mono (wpAny_noE (dc pins s σ H a y v dx fs I ha ry hDD)) ?_ (fun _ _ z => z)))
    rintro r s' ⟨rfl, h⟩
    exact wpAny_pure ⟨rfl, h⟩
  refine wpAny_bind (thn one ?_)
  rintro r s1 ⟨rfl, H1, I1, sm⟩
  show wpAny _ _ (tryCompare v (cmpInfo CmpOp.Eq).2.snd (Value.ref a) >>= _) _ _ _
  refine wpAny_bind (O.dec X.A pins s1 σ H1 a v dx fs _ _ (by omega) I1 ry (O.mono _ _ sm hD) (sm _ _ ha) ?_)
  intro s2 I2
  show wpAny _ _ (rule "compare.eq-identity" >>= _) _ _ _
  refine wpAny_bind (wpAny_rule (wpAny_bind (O.notSame pins s2 σ H1 a v dx fs X.A _ _ I2 ry (O.mono _ _ sm hD) (sm _ _ ha) ?_)))
  exact wpAny_pure ⟨.bl false, H1, I2, rfl, q H1 sm⟩
end
end L2.Gd
end

section
set_option Elab.async false
set_option linter.all false
set_option maxRecDepth 100000
set_option maxHeartbeats 2000000
/-! What built-in values say of an instance of an own class: their own == declines. -/
namespace PySem.SeqAt
open AutoSeq1 (wpAny_loadPart')
open MeetsSeq
def NoSub (C : Addr) (T : String) (h : Heap) : Prop := ∀ M : Model, PySem.W.Looks M h (isSubtype (.ref C) (.type T)) false
theorem list_eq_ni (l x C dx : Addr) (items : Array Value) (n : Nat) (dd : Option Addr) (sl : Array (Option Value)) :
    Meets (Builtin.«list.__eq__» ⟨[.ref l, .ref x], []⟩) (fun _ R s =>
      s.heap.get? l = some { cls := .type "list", dict := dd, data := .seq items n, slots := sl } ∧
      s.heap.get? x = some (PySem.W.instObj C dx) ∧ NoSub C "list" s.heap ∧ R (.ok (.ret .notImplemented)) s) :=
  .of_wp fun prog w A R s h => by
    obtain ⟨hp, g, d, tk, os⟩ := s
    obtain ⟨hl, hx, ns, h⟩ := h
    wp_walk using wpAny_loadPart' hl
    refine (ns _).here ?_
    wp_walk
    exact ⟨_, rfl, h⟩
theorem tuple_eq_ni (l x C dx : Addr) (items : Array Value) (n : Nat) (dd : Option Addr) (sl : Array (Option Value)) :
    Meets (Builtin.«tuple.__eq__» ⟨[.ref l, .ref x], []⟩) (fun _ R s =>
      s.heap.get? l = some { cls := .type "tuple", dict := dd, data := .seq items n, slots := sl } ∧
      s.heap.get? x = some (PySem.W.instObj C dx) ∧ NoSub C "tuple" s.heap ∧ R (.ok (.ret .notImplemented)) s) :=
  .of_wp fun prog w A R s h => by
    obtain ⟨hp, g, d, tk, os⟩ := s
    obtain ⟨hl, hx, ns, h⟩ := h
    wp_walk using wpAny_loadPart' hl
    refine (ns _).here ?_
    wp_walk
    exact ⟨_, rfl, h⟩
theorem dict_eq_ni (l x C dx : Addr) (o : Obj) :
    Meets (Builtin.«dict.__eq__» ⟨[.ref l, .ref x], []⟩) (fun _ R s => s.heap.get? l = some o ∧ o.cls = .type "dict" ∧
      s.heap.get? x = some (PySem.W.instObj C dx) ∧ NoSub C "dict" s.heap ∧ R (.ok (.ret .notImplemented)) s) :=
  .of_wp fun prog w A R s h => by
    obtain ⟨hp, g, d, tk, os⟩ := s
    obtain ⟨hl, hc, hx, ns, h⟩ := h
    wp_walk using wpAny_loadPart' hl
    refine (ns _).here ?_
    wp_walk
    exact ⟨_, rfl, h⟩
theorem int_eq_ni (b : Int) (u : Tok) (x C dx : Addr) :
    Meets (Builtin.«int.__eq__» ⟨[.int b u, .ref x], []⟩) (fun _ R s => s.heap.get? x = some (PySem.W.instObj C dx) ∧ R (.ok (.ret .notImplemented)) s) :=
  .of_wp fun prog w A R s h => by
    obtain ⟨hp, g, d, tk, os⟩ := s
    obtain ⟨hx, h⟩ := h
    wp_walk using wpAny_loadPart' hx, wpAny_load hx
    exact ⟨_, rfl, h⟩
theorem str_eq_ni (b : Str) (u : Tok) (x C dx : Addr) :
    Meets (Builtin.«str.__eq__» ⟨[.str b u, .ref x], []⟩) (fun _ R s => s.heap.get? x = some (PySem.W.instObj C dx) ∧ R (.ok (.ret .notImplemented)) s) :=
  .of_wp fun prog w A R s h => by
    obtain ⟨hp, g, d, tk, os⟩ := s
    obtain ⟨hx, h⟩ := h
    wp_walk using wpAny_loadPart' hx, wpAny_load hx
    exact ⟨_, rfl, h⟩
end PySem.SeqAt

namespace L2.Gd
open PySem PySem.Spec PyProof.Rows PySem.SeqAt
section
variable {X : Cx} {C : Addr}
/-- the class at C is of no built-in kind -/
structure NoKin (K : PySem.W.Frag) (C : Addr) : Prop where
  none : PySem.W.subIn K (.type "NoneType") (.ref C) = some false
  int : PySem.W.subIn K (.type "int") (.ref C) = some false
  str : PySem.W.subIn K (.type "str") (.ref C) = some false
  lst : PySem.W.subIn K (.type "list") (.ref C) = some false
  tup : PySem.W.subIn K (.type "tuple") (.ref C) = some false
  dct : PySem.W.subIn K (.type "dict") (.ref C) = some false
  lst' : PySem.W.subIn K (.ref C) (.type "list") = some false
  tup' : PySem.W.subIn K (.ref C) (.type "tuple") = some false
  dct' : PySem.W.subIn K (.ref C) (.type "dict") = some false
theorem noSub_of {pins : List (Addr × Obj)} {σ : St} {H : Hp} {s : Shared} {T : String} (I : Inv X pins σ H s)
    (h : PySem.W.subIn X.K (.ref C) (.type T) = some false) : NoSub C T s.heap := fun _ => PySem.W.looks_subIn I.kIn h

theorem kind_none (nk : NoKin X.K C) : OtherKind X C .non (.type "NoneType") (fun _ _ => True) where
  ne := rfl
  sub := nk.none
  ty := by
    intro pins s σ H v I rv _
    obtain rfl := rv
    exact .now
  dec := by
    intro A pins s σ H x v dx fs Q E hu I rv _ hx k
    obtain rfl := rv
    exact wpAny_tryCompare_declines (T := "NoneType") rfl F.slot_NoneType_eq
      (call_gives F.slot_NoneType_eq rfl F.entry_NoneType_eq (F.args_NoneType_eq_2 _ _) (NoneType___eq___none_ref_0 x) ⟨rfl, k _ I⟩)
  mono := fun _ _ _ h => h
  notSame := by
    intro pins s σ H x v dx fs A Q E I rv _ hx q
    obtain rfl := rv
    exact wpAny_of_eq (rfl : isSame (.ref x) .none = pure false) q
theorem kind_int (i : Int) (nk : NoKin X.K C) : OtherKind X C (.int i) (.type "int") (fun _ _ => True) where
  ne := rfl
  sub := nk.int
  ty := by
    intro pins s σ H v I rv _
    obtain ⟨t, rfl⟩ := rv
    exact .now
  dec := by
    intro A pins s σ H x v dx fs Q E hu I rv _ hx k
    obtain ⟨t, rfl⟩ := rv
    obtain ⟨mA, J, _⟩ := ins_get I.hok hx
    exact wpAny_tryCompare_declines (T := "int") (typeIs_int _ _ _) F.slot_int_eq
      (call_meets F.slot_int_eq (typeIs_int _ _ _) F.entry_int_eq (F.args_int_eq_2 _ _) (int_eq_ni i t x C dx) ⟨J.1, rfl, k _ I⟩)
  mono := fun _ _ _ h => h
  notSame := by
    intro pins s σ H x v dx fs A Q E I rv _ hx q
    obtain ⟨t, rfl⟩ := rv
    exact wpAny_of_eq (rfl : isSame (.ref x) (.int i t) = pure false) q
theorem kind_str (z : Str) (nk : NoKin X.K C) : OtherKind X C (.str z) (.type "str") (fun _ _ => True) where
  ne := rfl
  sub := nk.str
  ty := by
    intro pins s σ H v I rv _
    obtain ⟨t, rfl⟩ := rv
    exact .now
  dec := by
    intro A pins s σ H x v dx fs Q E hu I rv _ hx k
    obtain ⟨t, rfl⟩ := rv
    obtain ⟨mA, J, _⟩ := ins_get I.hok hx
    exact wpAny_tryCompare_declines (T := "str") (typeIs_str _ _ _) F.slot_str_eq
      (call_meets F.slot_str_eq (typeIs_str _ _ _) F.entry_str_eq (F.args_str_eq_2 _ _) (str_eq_ni z t x C dx) ⟨J.1, rfl, k _ I⟩)
  mono := fun _ _ _ h => h
  notSame := by
    intro pins s σ H x v dx fs A Q E I rv _ hx q
    obtain ⟨t, rfl⟩ := rv
    exact wpAny_of_eq (rfl : isSame (.ref x) (.str z t) = pure false) q
theorem kind_list (l : Addr) (nk : NoKin X.K C) : OtherKind X C (.ref l) (.type "list") (fun _ H => ∃ xs, H l = some (.lst xs)) where
  ne := rfl
  sub := nk.lst
  ty := by
    intro pins s σ H v I rv ⟨xs, hl⟩
    obtain rfl := rv
    obtain ⟨_, its, n, _, e⟩ := (show ObjOk X.prog X.w H s.heap l (.lst xs) from I.hok l _ hl)
    exact (PySem.W.Looks.ld (part := none) e).andThen .now
  dec := by
    intro A pins s σ H x v dx fs Q E hu I rv ⟨xs, hl⟩ hx k
    obtain rfl := rv
    obtain ⟨_, its, n, _, e⟩ := (show ObjOk X.prog X.w H s.heap l (.lst xs) from I.hok l _ hl)
    obtain ⟨mA, J, _⟩ := ins_get I.hok hx
    exact wpAny_tryCompare_declines (T := "list") ⟨_, e, rfl⟩ F.slot_list_eq
      (call_meets F.slot_list_eq ⟨_, e, rfl⟩ F.entry_list_eq (F.args_list_eq_2 _ _) (list_eq_ni l x C dx _ _ _ _) ⟨e, J.1, noSub_of I nk.lst', rfl, k _ I⟩)
  mono := fun _ _ sm ⟨xs, h⟩ => ⟨xs, sm _ _ h⟩
  notSame := by
    intro pins s σ H x v dx fs A Q E I rv ⟨xs, hl⟩ hx q
    obtain rfl := rv
    obtain ⟨_, its, n, _, e⟩ := (show ObjOk X.prog X.w H s.heap l (.lst xs) from I.hok l _ hl)
    obtain ⟨mA, J, _⟩ := ins_get I.hok hx
    exact wpAny_isSame_ref_other' (ne_of hx hl (by intro z; cases z)) J.1 e (show Value.type "list" ≠ Value.type "tuple" by decide) q
theorem same_left {M : Model} {A : Around} {E : Value → Shared → Prop} {s : Shared} {x y : Addr} {ox oy : Obj} {R : Bool → Shared → Prop} (ne : x ≠ y)
    (hx : s.heap.get? x = some ox) (hy : s.heap.get? y = some oy) (hnt : ox.cls ≠ .type "tuple") (h : R false s) :
    wpAny M A (isSame (.ref x) (.ref y)) R E s := by
  show wpAny M A (if (x == y) = true then pure true else _) R E s
  rw [if_neg (fun z => ne (beq_iff_eq.mp z))]
  refine wpAny_bind (wpAny_load hx (wpAny_bind (wpAny_load hy ?_)))
  split
  · rename_i _ h1 _ _ _
    exact absurd h1 hnt
  · exact wpAny_pure h
theorem kind_tup (l : Addr) (nk : NoKin X.K C) : OtherKind X C (.ref l) (.type "tuple") (fun _ H => ∃ xs, H l = some (.tup xs)) where
  ne := rfl
  sub := nk.tup
  ty := by
    intro pins s σ H v I rv ⟨xs, hl⟩
    obtain rfl := rv
    obtain ⟨_, its, _, o, e, c, n, hd⟩ := (show ObjOk X.prog X.w H s.heap l (.tup xs) from I.hok l _ hl)
    obtain ⟨cls, dd, data, sl⟩ := o
    simp only at c hd
    subst c hd
    exact (PySem.W.Looks.ld (part := none) e).andThen .now
  dec := by
    intro A pins s σ H x v dx fs Q E hu I rv ⟨xs, hl⟩ hx k
    obtain rfl := rv
    obtain ⟨_, its, _, o, e, c, n, hd⟩ := (show ObjOk X.prog X.w H s.heap l (.tup xs) from I.hok l _ hl)
    obtain ⟨cls, dd, data, sl⟩ := o
    simp only at c hd
    subst c hd
    obtain ⟨mA, J, _⟩ := ins_get I.hok hx
    exact wpAny_tryCompare_declines (T := "tuple") ⟨_, e, rfl⟩ F.slot_tuple_eq
      (call_meets F.slot_tuple_eq ⟨_, e, rfl⟩ F.entry_tuple_eq (F.args_tuple_eq_2 _ _) (tuple_eq_ni l x C dx _ _ _ _) ⟨e, J.1, noSub_of I nk.tup', rfl, k _ I⟩)
  mono := fun _ _ sm ⟨xs, h⟩ => ⟨xs, sm _ _ h⟩
  notSame := by
    intro pins s σ H x v dx fs A Q E I rv ⟨xs, hl⟩ hx q
    obtain rfl := rv
    obtain ⟨_, its, _, o, e, c, n, hd⟩ := (show ObjOk X.prog X.w H s.heap l (.tup xs) from I.hok l _ hl)
    obtain ⟨mA, J, _⟩ := ins_get I.hok hx
    exact same_left (ne_of hx hl (by intro z; cases z)) J.1 e (by intro z; cases z) q
theorem kind_dict (l : Addr) (nk : NoKin X.K C) : OtherKind X C (.ref l) (.type "dict") (fun _ H => ∃ kvs, H l = some (.dK kvs)) where
  ne := rfl
  sub := nk.dct
  ty := by
    intro pins s σ H v I rv ⟨kvs, hl⟩
    obtain rfl := rv
    obtain ⟨_, _, vs, _, o, es, ep, e, c, _⟩ := (show ObjOk X.prog X.w H s.heap l (.dK kvs) from I.hok l _ hl)
    have c1 : o.cls = .type "dict" := c.1
    obtain ⟨cls, dd, data, sl⟩ := o
    simp only at c1
    subst c1
    exact (PySem.W.Looks.ld (part := none) e).andThen .now
  dec := by
    intro A pins s σ H x v dx fs Q E hu I rv ⟨kvs, hl⟩ hx k
    obtain rfl := rv
    obtain ⟨_, _, vs, _, o, es, ep, e, c, _⟩ := (show ObjOk X.prog X.w H s.heap l (.dK kvs) from I.hok l _ hl)
    obtain ⟨mA, J, _⟩ := ins_get I.hok hx
    exact wpAny_tryCompare_declines (T := "dict") ⟨_, e, c.1⟩ F.slot_dict_eq
      (call_meets F.slot_dict_eq ⟨_, e, c.1⟩ F.entry_dict_eq (F.args_dict_eq_2 _ _) (dict_eq_ni l x C dx o) ⟨e, c.1, J.1, noSub_of I nk.dct', rfl, k _ I⟩)
  mono := fun _ _ sm ⟨xs, h⟩ => ⟨xs, sm _ _ h⟩
  notSame := by
    intro pins s σ H x v dx fs A Q E I rv ⟨kvs, hl⟩ hx q
    obtain rfl := rv
    obtain ⟨_, _, vs, _, o, es, ep, e, c, _⟩ := (show ObjOk X.prog X.w H s.heap l (.dK kvs) from I.hok l _ hl)
    obtain ⟨mA, J, _⟩ := ins_get I.hok hx
    exact same_left (ne_of hx hl (by intro z; cases z)) J.1 e (by intro z; cases z) q
end
end L2.Gd
end

section
set_option Elab.async false
set_option linter.all false
set_option maxRecDepth 100000
set_option maxHeartbeats 2000000
/-! == and != of two instances of an own class that has an __eq__ alone. -/
namespace L2.Gd
open PySem PySem.Spec PyProof.Rows
section
variable {X : Cx} {C f N : Addr} {n : Nat} {fd : FuncData} {ps : List Str} {sp : Sp}

/-- the callee runs, somewhere below the body -/
theorem run_at (F : FnOk X.prog X.w X.K X.mg X.base CX0 n f fd ps sp) (hb : Binds X.K fd ps []) {A : Around} (sb : Sub X n A)
    {pins : List (Addr × Obj)} {σ : St} {H : Hp} {s : Shared} {Q : VK} {us : List Value} {vs : List V}
    (I : Inv X pins σ H s) (r : Vals vs us) (h : sp vs H Q E0) {E : Value → Shared → Prop} :
    wpAny (model X.prog X.w) A (call (.ref f) us) (EP X pins σ Q) E s := by
  have e := I.env0
  have e0 : Env0 X.prog X.w X.K X.mg X.base A X.stack s H := ⟨sb.fr.trans e.frames, e.mod, e.bs, e.bsz, e.funs, e.frf, e.hok, e.bare⟩
  have hl : (us ++ []).length = ps.length := by
    rw [List.append_nil, ← r.length]
    exact F.len _ _ _ _ h
  have hb2 := hb s us I.kIn hl
  rw [List.append_nil] at hb2
  refine wpAny_call (codeAny_mono (F.run A X.stack s H ⟨us, []⟩ us vs Q E0 sb.room e0 hb2 r h) ?_)
  intro res s' hq
  cases res with
  | error er => exact (show False from hq).elim
  | ok fl =>
    cases fl with
    | ret u => exact I.after hq
    | next => exact hq.elim
    | brk => exact hq.elim
    | cont => exact hq.elim

theorem binds2 (hb : Binds X.K fd ps []) : Binds X.K fd ps [] := hb

/-- x == y, two instances of the class at C -/
theorem op_eqOwn (hr : Room n X.A) (F : FnOk X.prog X.w X.K X.mg X.base CX0 n f fd ps sp) (hb : Binds X.K fd ps [])
    (hs : PySem.W.findIn X.K (.ref C) "__eq__" = some (some (.ref f))) (hf : PySem.W.isFn X.K (.ref f) = true) :
    OpR X (compareOp .Eq) (fun x y H Q => ∃ (a b dx dy : Addr) (fs gs : List (Str × V)), x = .ref a ∧ y = .ref b ∧
      H a = some (.ins C dx fs) ∧ H b = some (.ins C dy gs) ∧ sp [.ref a, .ref b] H (fun v H' => (∃ k, v = .bl k) ∧ Q v H') E0) := by
  rintro pins s σ H x y u v Q I rx ry ⟨a, b, dx, dy, fs, gs, rfl, rfl, ha, hb', h⟩
  obtain rfl := rx
  obtain rfl := ry
  obtain ⟨mA, J, _⟩ := ins_get I.hok ha
  obtain ⟨mB, J', _⟩ := ins_get I.hok hb'
  obtain ⟨od, J, _⟩ := J.look
  obtain ⟨od', J', _⟩ := J'.look
  obtain ⟨m, fr⟩ := I.fr
  show wpAny _ _ (richCompare .Eq (.ref a) (.ref b)) _ _ _
  refine PySem.W.cmp_K (op := .Eq) (tb := .ref C) hr.units0 fr I.ok.mod.kin J J'.type (by simp [PySem.W.notFirst]) hs hf ?_
  refine thn (run_at (us := [.ref a, .ref b]) (vs := [.ref a, .ref b]) F hb ⟨hr, rfl⟩ I (.cons rfl (.cons rfl .nil)) h) ?_
  rintro r s' ⟨z, H', I', rz, ⟨k, rfl⟩, q⟩
  obtain rfl := rz
  exact ⟨.bl k, H', I', rfl, q⟩

/-- what the text's class must have for != by its own == -/
structure NeC (K : PySem.W.Frag) (C f N : Addr) : Prop where
  cls : ∃ nm q bs sn sub ab col dd k0 k1 k2 k3 k5 newId, K.lookup C = some (excClassObj nm q C N bs [.type "object"] true sn sub ab col dd k0 k1 k2 k3 k5 newId)
  ok : PySem.W.nsOkIn K N = true
  eq : PySem.W.nsIn K N "__eq__" = some (some (.ref f))
  ne : PySem.W.nsIn K N "__ne__" = some none
  fn : ∃ o, K.lookup f = some o ∧ o.cls = .type "function"

theorem ns_some {K : PySem.W.Frag} {h : Heap} {N : Addr} {m : Str → Option Value} {x : Str} {v : Value} (k : K.In h) (G : h.Ns N m)
    (e : PySem.W.nsIn K N x = some (some v)) : m x = some v := by
  obtain ⟨o, es, ep, ho, hd, _, hf⟩ := G
  unfold PySem.W.nsIn at e
  split at e
  · rename_i c d es' n' sl q
    cases ho.symm.trans (k _ _ q)
    cases hd
    split at e
    · rename_i en he
      cases e
      rw [← hf]
      unfold nsFind findBy
      rw [← Array.find?_toList, he]
      rfl
    · split at e
      · cases e
      · cases e
  · cases e
theorem NeC.heap {K : PySem.W.Frag} {h : Heap} (c : NeC K C f N) (k : K.In h) {x : Addr} {o : Obj} (hx : h.get? x = some o) (hc : o.cls = .ref C) :
    h.OwnEqNoNe x C f "object" [.type "object"] := by
  obtain ⟨nm, q, bs, sn, sub, ab, col, dd, k0, k1, k2, k3, k5, newId, hC⟩ := c.cls
  obtain ⟨of, hf, ft⟩ := c.fn
  have ns := Heap.Ns.of_isNs (PySem.W.isNs_of_in k c.ok)
  exact ⟨o, of, nm, q, N, bs, true, sn, sub, ab, col, dd, k0, k1, k2, k3, k5, newId, _, _, hx, hc, k _ _ hC, ns,
    ns_some k ns c.eq, k _ _ hf, ft, PySem.F.cmp_object.mro, PySem.F.cmp_object.eq.lookup, PySem.W.nsMap_none_of_in k c.ok c.ne⟩

/-- x != y -/
theorem op_neOwn (hr : Room (n + 1) X.A) (F : FnOk X.prog X.w X.K X.mg X.base CX0 n f fd ps sp) (hb : Binds X.K fd ps []) (c : NeC X.K C f N) :
    OpR X (compareOp .NotEq) (fun x y H Q => ∃ (a b dx dy : Addr) (fs gs : List (Str × V)), x = .ref a ∧ y = .ref b ∧
      H a = some (.ins C dx fs) ∧ H b = some (.ins C dy gs) ∧
      sp [.ref a, .ref b] H (fun v H' => ∃ k, v = .bl k ∧ Q (.bl (!k)) H') E0) := by
  rintro pins s σ H x y u v Q I rx ry ⟨a, b, dx, dy, fs, gs, rfl, rfl, ha, hb', h⟩
  obtain rfl := rx
  obtain rfl := ry
  obtain ⟨mA, J, _⟩ := ins_get I.hok ha
  obtain ⟨mB, J', _⟩ := ins_get I.hok hb'
  show wpAny _ _ (richCompare .NotEq (.ref a) (.ref b)) _ _ _
  obtain ⟨hp, g, d, t, os⟩ := s
  refine richCompare_ne_ownEq PySem.F.cmp_object (c.heap I.kIn J.1 rfl) J'.1 rfl (by have := hr.units; omega) ?_
  refine thn (run_at (us := [.ref a, .ref b]) (vs := [.ref a, .ref b]) F hb (A := X.A.in1) ⟨hr.in1, rfl⟩ I (.cons rfl (.cons rfl .nil)) h) ?_
  rintro r s' ⟨z, H', I', rz, k, rfl, q⟩
  obtain rfl := rz
  exact ⟨k, rfl, .bl (!k), H', I', rfl, q⟩
end
end L2.Gd
end

section
set_option Elab.async false
set_option linter.all false
set_option maxRecDepth 100000
set_option maxHeartbeats 2000000
namespace L2.Gd
open PySem PySem.Spec PyProof.Rows
section
variable {X : Cx} {k : Nat} {f C : Addr} {fd : FuncData} {ps ks : List Str} {sp : Sp} {x m : Str} {p pos apos : Pos}
  {o : Expr} {kws : List Keyword} {ta tk : TE} {tks : TA} {g : List Value → List Value → List Value} {gV : List V → List V → List V}
/-- a call with keywords alone of a def: it binds by KBn -/
theorem run_kw {pins : List (Addr × Obj)} {σ : St} {H : Hp} {s : Shared} {Q : VK} {us ws : List Value} {vs zs : List V} {n : Nat}
    (F : FnOk X.prog X.w X.K X.mg X.base CX0 k f fd ps sp) (hr : Room k X.A) (hb : KBn X.K fd ps n ks g gV)
    (I : Inv X pins σ H s) (r : Vals vs us) (rz : Vals zs ws) (l1 : vs.length = n) (l2 : zs.length = ks.length)
    (h : sp (gV vs zs) H Q E0) : wpAny (model X.prog X.w) X.A (call (.ref f) us (ks.zip ws)) (EP X pins σ Q) X.xe s := by
  have n1 : us.length = n := r.length.symm.trans l1
  have n2 : ws.length = ks.length := rz.length.symm.trans l2
  refine wpAny_call (codeAny_mono (F.run X.A X.stack s H ⟨us, ks.zip ws⟩ (g us ws) (gV vs zs) Q E0 hr I.env0
    (hb.to s us ws I.kIn n1 n2) (hb.rel r rz) h) ?_)
  intro res s' hq
  cases res with
  | error er => exact (show False from hq).elim
  | ok fl =>
    cases fl with
    | ret u => exact I.after hq
    | next => exact hq.elim
    | brk => exact hq.elim
    | cont => exact hq.elim
/-- o.m(k = v, ..), o an instance of the class at C -/
def tMethK (C : Addr) (m : Str) (n : Nat) (sp : Sp) (gV : List V → List V → List V) (ta : TE) (tk : TA) : TE := fun σ H Q =>
  ta σ H fun x H1 => ∃ a dx fs, x = .ref a ∧ H1 a = some (.ins C dx fs) ∧ fs.lookup m = none ∧
    tk σ H1 fun zs H2 => zs.length = n ∧ sp (gV [x] zs) H2 Q E0
theorem pe_methK0 {pl : Sem Bool} (he : PE X o ta) (c : Cls X.K C) (hm : Meth X.K C m f)
    (F : FnOk X.prog X.w X.K X.mg X.base CX0 k f fd ps sp) (hr : Room k X.A) (hb : KBn X.K fd ps 1 ks g gV) (hkw : PK X kws tks)
    (hall : (backToKw pos (keywordEach kws X.env)).all (·.1.isSome) = true := by rfl)
    (hks : (backToKw pos (keywordEach kws X.env)).filterMap (·.1) = ks := by rfl)
    (hpl : ((backTo pos (starEach [] X.env)).any (·.1) || (backToKw pos (keywordEach kws X.env)).any (·.1.isNone)) = false := by rfl)
    (ht : eval (.Call (.Attribute o m apos) [] kws pos) X.env = (do
      let ov ← eval o X.env
      standAt apos.atName
      let (f, first) ← holding [ov] (getMethod ov m pl)
      callWith pos f first (backTo pos (starEach [] X.env))
        (backToKw pos (keywordEach kws X.env))) := by rfl) :
    PE X (.Call (.Attribute o m apos) [] kws pos) (tMethK C m ks.length sp gV ta tks) := by
  constructor
  intro pins s σ H Q I h
  refine PySem.W.methodCall_KW (pl := pl) (thn (he.run pins s σ H _ I h) ?_) ht
  rintro u s1 ⟨x, H1, I1, rx, a, dx, fs, rfl, ea, l, q⟩
  obtain rfl := rx
  refine getmeth_ok I1 ea c hm l ?_
  refine PySem.W.callWith_KW0 (first := [.ref a]) (h₀ := X.base) I.ok.mod.kin hm.kp hall ?_ hpl
  refine thn (hkw.run pos pins s1 σ H1 _ I1 q) ?_
  rintro ws s2 ⟨zs, H2, I2, rz, l2, q2⟩
  refine ⟨I2.kIn, ?_⟩
  rw [hks]
  have r1 : Vals [V.ref a] [Value.ref a] := .cons rfl .nil
  exact run_kw (us := [Value.ref a]) (vs := [V.ref a]) F hr hb I2 r1 rz rfl l2 q2
end
end L2.Gd
end

section
set_option Elab.async false
set_option linter.all false
set_option maxRecDepth 100000
set_option maxHeartbeats 2000000
namespace L2.K14
open PySem PySem.Spec PyProof.Rows
def top (i : Nat) : Stmt := PySem.Challenge.pw_lonetill_k14_whole_sums_and_differences.main.body.getD i (.Pass ⟨0, 0, 0, 0⟩)
abbrev sIsInt : Stmt := top 3
abbrev sIsCount : Stmt := top 4
abbrev sIsList : Stmt := top 5
abbrev cLine (i : Nat) : Stmt := inClass (top 91) i

/-- built-in names that the module leaves alone -/
structure Nm (mg : Str → Option Value) : Prop where
  isi : mg "isinstance" = none
  int : mg "int" = none
  bool : mg "bool" = none
  list : mg "list" = none
  tuple : mg "tuple" = none
  str : mg "str" = none
  len : mg "len" = none
  all : mg "all" = none
  any : mg "any" = none
  enumerate : mg "enumerate" = none
  range : mg "range" = none
  sorted : mg "sorted" = none
  abs : mg "abs" = none
  max : mg "max" = none
  min : mg "min" = none
  repr : mg "repr" = none
  divmod : mg "divmod" = none
  ni : mg "NotImplemented" = none

section
variable {P : Program} {w : World} {K : PySem.W.Frag} {mg : Str → Option Value} {base : Heap}

/-- what isinstance(x, T) asks, T a built-in type -/
theorem isi_mk {H : Hp} {v : V} {t T : String} {b : Bool} {Q : VK} (h : TyX K H v (.type t)) (e : kitB t T = some b) (q : Q (.bl b) H) :
    rIsi K [v, .ty T] H Q := ⟨_, _, _, _, b, rfl, .ty _, h, kit_ty e, q⟩
def tIsi (K : PySem.W.Frag) (te : TE) (T : String) : TE := fun σ H Q => te σ H fun v H1 => rIsi K [v, .ty T] H1 Q
theorem blT {p : Prop} [Decidable p] {Q : VK} {H : Hp} (h : p) (k : Q (.bl true) H) : Q (.bl (decide p)) H := by
  rw [decide_eq_true h]
  exact k
theorem blF {p : Prop} [Decidable p] {Q : VK} {H : Hp} (h : ¬ p) (k : Q (.bl false) H) : Q (.bl (decide p)) H := by
  rw [decide_eq_false h]
  exact k
theorem blNT {p : Prop} [Decidable p] {Q : VK} {H : Hp} (h : ¬ p) (k : Q (.bl true) H) : Q (.bl (!decide p)) H := by
  rw [decide_eq_false h]
  exact k
theorem blNF {p : Prop} [Decidable p] {Q : VK} {H : Hp} (h : p) (k : Q (.bl false) H) : Q (.bl (!decide p)) H := by
  rw [decide_eq_true h]
  exact k
section
variable {X : Cx} {e : Expr} {te : TE} {p q pos : Pos}
theorem pe_isInt (n : Nm X.mg) (he : PE X e te) (g1 : Gl X "isinstance" := by rfl) (g2 : Gl X "int" := by rfl)
    (s1 : starEach [e, .Name "int" q] X.env = (false, eval e X.env) :: starEach [.Name "int" q] X.env := by rfl)
    (s2 : starEach [.Name "int" q] X.env = (false, eval (.Name "int" q) X.env) :: starEach [] X.env := by rfl)
    (hpl : (backTo pos (starEach [.Name "int" q] X.env)).any (·.1) = false := by rfl) :
    PE X (.Call (.Name "isinstance" p) [e, .Name "int" q] [] pos) (tIsi X.K te "int") :=
  pe_callB call_isi g1 n.isi (by decide +kernel) (pa_cons he (pa_cons (pe_bltn (v := .ty "int") g2 n.int (by decide +kernel) rfl) pa_nil s2) s1) (he := s1) (hpl := hpl)
theorem pe_isBool (n : Nm X.mg) (he : PE X e te) (g1 : Gl X "isinstance" := by rfl) (g2 : Gl X "bool" := by rfl)
    (s1 : starEach [e, .Name "bool" q] X.env = (false, eval e X.env) :: starEach [.Name "bool" q] X.env := by rfl)
    (s2 : starEach [.Name "bool" q] X.env = (false, eval (.Name "bool" q) X.env) :: starEach [] X.env := by rfl)
    (hpl : (backTo pos (starEach [.Name "bool" q] X.env)).any (·.1) = false := by rfl) :
    PE X (.Call (.Name "isinstance" p) [e, .Name "bool" q] [] pos) (tIsi X.K te "bool") :=
  pe_callB call_isi g1 n.isi (by decide +kernel) (pa_cons he (pa_cons (pe_bltn (v := .ty "bool") g2 n.bool (by decide +kernel) rfl) pa_nil s2) s1) (he := s1) (hpl := hpl)
theorem pe_isTuple (n : Nm X.mg) (he : PE X e te) (g1 : Gl X "isinstance" := by rfl) (g2 : Gl X "tuple" := by rfl)
    (s1 : starEach [e, .Name "tuple" q] X.env = (false, eval e X.env) :: starEach [.Name "tuple" q] X.env := by rfl)
    (s2 : starEach [.Name "tuple" q] X.env = (false, eval (.Name "tuple" q) X.env) :: starEach [] X.env := by rfl)
    (hpl : (backTo pos (starEach [.Name "tuple" q] X.env)).any (·.1) = false := by rfl) :
    PE X (.Call (.Name "isinstance" p) [e, .Name "tuple" q] [] pos) (tIsi X.K te "tuple") :=
  pe_callB call_isi g1 n.isi (by decide +kernel) (pa_cons he (pa_cons (pe_bltn (v := .ty "tuple") g2 n.tuple (by decide +kernel) rfl) pa_nil s2) s1) (he := s1) (hpl := hpl)
theorem pe_isStr (n : Nm X.mg) (he : PE X e te) (g1 : Gl X "isinstance" := by rfl) (g2 : Gl X "str" := by rfl)
    (s1 : starEach [e, .Name "str" q] X.env = (false, eval e X.env) :: starEach [.Name "str" q] X.env := by rfl)
    (s2 : starEach [.Name "str" q] X.env = (false, eval (.Name "str" q) X.env) :: starEach [] X.env := by rfl)
    (hpl : (backTo pos (starEach [.Name "str" q] X.env)).any (·.1) = false := by rfl) :
    PE X (.Call (.Name "isinstance" p) [e, .Name "str" q] [] pos) (tIsi X.K te "str") :=
  pe_callB call_isi g1 n.isi (by decide +kernel) (pa_cons he (pa_cons (pe_bltn (v := .ty "str") g2 n.str (by decide +kernel) rfl) pa_nil s2) s1) (he := s1) (hpl := hpl)
end

theorem yes_ite {σ : L2.St} {H : Hp} {A B : Hp → Prop} (h : A H) : tYes σ H (fun b H3 => if b = true then A H3 else B H3) := by
  show if true = true then A H else B H
  exact iteT h
def spIsInt : Sp := fun vs H Q _ => ∃ i, vs = [.int i] ∧ Q (.bl true) H
theorem scI : FnScope ["value"] ["value"] (defScope sIsInt) := ⟨rfl, rfl, rfl, by decide +kernel, rfl, by decide +kernel, by decide +kernel⟩
theorem ok_isInt {f : Addr} {fd : FuncData} (F : Fun K "is_integer" "is_integer" sIsInt f fd) (n : Nm mg) : FnOk P w K mg base CX0 1 f fd ["value"] spIsInt := by
  refine F.ok scI (fun vs H Q E h => ?_) (fun cdv A outer s H vs Q E hr h => ?_)
  · obtain ⟨i, rfl, _⟩ := h
    rfl
  · obtain ⟨i, rfl, k⟩ := h
    refine ⟨_, pss_one (ps_ret (pe_and (pe_isInt n (pv 0)) (pe_one (pe_not (pe_isBool n (pv 0)))))), ?_⟩
    refine ⟨_, rfl, isi_mk (t := "int") (b := true) (.base (.int _)) (by decide +kernel) ⟨true, rfl, iteT ?_⟩⟩
    exact ⟨_, rfl, isi_mk (t := "int") (b := false) (.base (.int _)) (by decide +kernel) ⟨false, rfl, k⟩⟩

/-- a def called by its name: what a caller needs of it -/
structure Fn (P : Program) (w : World) (K : PySem.W.Frag) (mg : Str → Option Value) (base : Heap) (k : Nat) (x : Str) (ps : List Str) (sp : Sp) : Prop where
  ex : ∃ f fd, mg x = some (.ref f) ∧ PySem.W.keepIn K (.ref f) = true ∧ Binds K fd ps [] ∧ FnOk P w K mg base CX0 k f fd ps sp
theorem pe_fn {X : Cx} {k : Nat} {x : Str} {ps : List Str} {sp : Sp} {e : Expr} {es : List Expr} {t : TA} {p pos : Pos}
    (F : Fn X.prog X.w X.K X.mg X.base k x ps sp) (hr : Room k X.A) (ha : PA X (e :: es) t) (gl : Gl X x := by rfl) (hdb : (x == ("__debug__" : Str)) = false := by decide)
    (he : starEach (e :: es) X.env = (false, eval e X.env) :: starEach es X.env := by rfl)
    (hpl : (backTo pos (starEach es X.env)).any (·.1) = false := by rfl) :
    PE X (.Call (.Name x p) (e :: es) [] pos) (tCall sp [] E0 t) := by
  obtain ⟨f, fd, m, kp, b, G⟩ := F.ex
  exact pe_call G hr gl m kp b .nil pass0 ha hdb he hpl

def spIsCount : Sp := fun vs H Q _ => ∃ i, vs = [.int i] ∧ 0 ≤ i ∧ Q (.bl true) H
theorem scC : FnScope ["value"] ["value"] (defScope sIsCount) := ⟨rfl, rfl, rfl, by decide +kernel, rfl, by decide +kernel, by decide +kernel⟩
theorem ok_isCount {f : Addr} {fd : FuncData} (F : Fun K "is_count" "is_count" sIsCount f fd) (G : Fn P w K mg base 1 "is_integer" ["value"] spIsInt) : FnOk P w K mg base CX0 2 f fd ["value"] spIsCount := by
  refine F.ok scC (fun vs H Q E h => ?_) (fun cdv A outer s H vs Q E hr h => ?_)
  · obtain ⟨i, rfl, _⟩ := h
    rfl
  · obtain ⟨i, rfl, h0, k⟩ := h
    refine ⟨_, pss_one (ps_ret (pe_and (pe_fn G hr (pa_cons (pv 0) pa_nil)) (pe_one (pe_cmpR op_ge (pv 0) pe_int (nomark _))))), ?_⟩
    refine ⟨_, rfl, _, rfl, true, rfl, iteT ?_⟩
    refine ⟨_, rfl, _, _, rfl, rfl, ?_⟩
    exact blT (Q := Q) h0 k

theorem same_upd {H : Hp} {p : Addr} {o : HO} (h : H p = none) : Same H (upd H p o) := fun a u e => by
  rw [upd_ne (ne_of_none e h)]
  exact e
/-- a list or a tuple of these -/
def Seq (K : PySem.W.Frag) (H : Hp) (a : Addr) (xs : List V) : Prop := H a = some (.lst xs) ∨ H a = some (.tup xs)
def spIsList (K : PySem.W.Frag) : Sp := fun vs H Q _ => ∃ a xs, vs = [.ref a] ∧ Seq K H a xs ∧ ∀ H', Same H H' → Q (.bl true) H'
theorem scL : FnScope ["value"] ["value"] (defScope sIsList) := ⟨rfl, rfl, rfl, by decide +kernel, rfl, by decide +kernel, by decide +kernel⟩
theorem ok_isList {f : Addr} {fd : FuncData} (F : Fun K "is_list" "is_list" sIsList f fd) (n : Nm mg) : FnOk P w K mg base CX0 1 f fd ["value"] (spIsList K) := by
  refine F.ok scL (fun vs H Q E h => ?_) (fun cdv A outer s H vs Q E hr h => ?_)
  · obtain ⟨i, _, rfl, _⟩ := h
    rfl
  · obtain ⟨a, xs, rfl, hs, k⟩ := h
    refine ⟨_, pss_one (ps_ret (pe_callB call_isiT (by rfl) n.isi (by decide +kernel) (pa_cons (pv 0) (pa_cons (pe_tup (pa_cons (pe_bltn (v := .ty "list") (by rfl) n.list (by decide +kernel) rfl) (pa_cons (pe_bltn (v := .ty "tuple") (by rfl) n.tuple (by decide +kernel) rfl) pa_nil))) pa_nil)))), ?_⟩
    refine ⟨_, rfl, (by show 2 ≤ sizeLine; decide), fun p hp => ?_⟩
    have cs : Paired ClsV [V.ty "list", V.ty "tuple"] [Value.type "list", Value.type "tuple"] := .cons (.ty _) (.cons (.ty _) .nil)
    rcases hs with hs | hs
    · refine ⟨_, p, _, _, _, true, rfl, upd_same, cs, .base (.lst (by rw [upd_ne (ne_of_none hs hp)]; exact hs)), ?_, k _ (same_upd hp)⟩
      exact kitAny_cons (kit_ty (b := "list") (r := true) (by decide +kernel)) (fun z => nomatch z) (fun _ => rfl)
    · refine ⟨_, p, _, _, _, true, rfl, upd_same, cs, .base (.tup (by rw [upd_ne (ne_of_none hs hp)]; exact hs)), ?_, k _ (same_upd hp)⟩
      exact kitAny_cons (kit_ty (b := "list") (r := false) (by decide +kernel)) (fun _ => kitAny_cons (kit_ty (b := "tuple") (r := true) (by decide +kernel)) (fun z => nomatch z) (fun _ => rfl)) (fun z => nomatch z)
end
end L2.K14
end

section
set_option Elab.async false
set_option linter.all false
set_option maxRecDepth 100000
set_option maxHeartbeats 2000000
/-! x op y of two instances of an own class that has the operator's method; C.m() of a classmethod; cls(..) by a local name. -/
namespace L2.Gd
open PySem PySem.Spec PyProof.Rows
section
variable {X : Cx} {C f : Addr} {n : Nat} {fd : FuncData} {ps : List Str} {sp : Sp}
/-- x op y, two instances of the class at C, the method gives an object -/
theorem op_binOwn {op : Operator} (hr : Room n X.A) (F : FnOk X.prog X.w X.K X.mg X.base CX0 n f fd ps sp) (hb : Binds X.K fd ps []) (hc : PySem.W.selfFirst X.K C = true)
    (hs : PySem.W.findIn X.K (.ref C) (PySem.dunder op.info.2) = some (some (.ref f))) (hf : PySem.W.isFn X.K (.ref f) = true) :
    OpR X (binaryOp op) (fun x y H Q => ∃ (a b dx dy : Addr) (fs gs : List (Str × V)), x = .ref a ∧ y = .ref b ∧
      H a = some (.ins C dx fs) ∧ H b = some (.ins C dy gs) ∧ sp [.ref a, .ref b] H (fun v H' => (∃ k, v = .ref k) ∧ Q v H') E0) := by
  rintro pins s σ H x y u v Q I rx ry ⟨a, b, dx, dy, fs, gs, rfl, rfl, ha, hb', h⟩
  obtain rfl := rx
  obtain rfl := ry
  obtain ⟨mA, J, _⟩ := ins_get I.hok ha
  obtain ⟨mB, J', _⟩ := ins_get I.hok hb'
  obtain ⟨od, J, _⟩ := J.look
  obtain ⟨od', J', _⟩ := J'.look
  obtain ⟨m, fr⟩ := I.fr
  refine PySem.W.binop_K fr I.ok.mod.kin J J'.type hc hs hf ?_
  refine thn (run_at (us := [.ref a, .ref b]) (vs := [.ref a, .ref b]) F hb ⟨hr, rfl⟩ I (.cons rfl (.cons rfl .nil)) h) ?_
  rintro r s' ⟨z, H', I', rz, ⟨k, rfl⟩, q⟩
  obtain rfl := rz
  exact ⟨.ref k, H', I', rfl, q⟩
end
section
variable {X : Cx} {CX : CXT} {k i : Nat} {C p g f : Addr} {fd : FuncData} {ps : List Str} {dvs : List V} {ds : List Value} {mc : Value} {sp : Sp} {E : XK} {o e : Expr} {es : List Expr} {x m : Str} {pos apos npos : Pos} {ta : TE} {t : TA} {pl : Sem Bool}
/-- C.m(), m a classmethod -/
theorem pe_cmeth0 (he : PE X o ta) (r : ClX.CRead X.K C mc) (c : ClX.CMet X.K C mc m p g) (F : FnR X.prog X.w X.K X.mg X.base CX k g sp) (hr : Room k X.A) (hx : Passes CX X E)
    (ht : eval (.Call (.Attribute o m apos) [] [] pos) X.env = (do
      let ov ← eval o X.env
      standAt apos.atName
      let (f, first) ← holding [ov] (getMethod ov m pl)
      callWith pos f first (backTo pos (starEach [] X.env)) (backToKw pos (keywordEach [] X.env))) := by rfl) :
    PE X (.Call (.Attribute o m apos) [] [] pos) (ClX.tCMeth C sp E ta tNil) := by
  refine ⟨fun pins s σ H Q I h => ?_⟩
  refine PySem.W.methodCall_KW (pl := pl) (thn (he.run pins s σ H _ I h) fun u s1 ⟨x, H1, I1, rx, ex, q⟩ => ?_) ht
  subst ex
  obtain rfl : u = Value.ref C := rx
  refine ClX.getmethcm_ok I1 r c fun s2 I2 => ?_
  refine PySem.W.callWith_M0 (K := X.K) (g := g) (self := .ref C) ⟨ClX.pin_at I2, I2.kIn⟩ c.fi ?_
  exact ClX.run_cm (us := []) (vs := []) F hr hx I2 .nil q
/-- cls(..), cls a local name that holds the class at C -/
def tMakeL (i : Nat) (C : Addr) (sp : Sp) (dvs : List V) (E : XK) (t : TA) : TE := fun σ H Q => σ[i]? = some (some (.ref C)) ∧ tMake C sp dvs E t σ H Q
theorem pe_makeL (M : Mk X.K C f) (F : FnOk X.prog X.w X.K X.mg X.base CX k f fd ps sp) (hr : Room (k + 1) X.A) (hN : X.N[i]? = some x) (hv : Vis X.env.scope x) (hb : Binds X.K fd ps ds) (hd : Vals dvs ds) (hx : Passes CX X E)
    (ha : PA X (e :: es) t) (hdb : (x == ("__debug__" : Str)) = false := by decide) (hcd : (x == ("__classdict__" : Str)) = false := by decide)
    (he : starEach (e :: es) X.env = (false, eval e X.env) :: starEach es X.env := by rfl) (hpl : (backTo pos (starEach es X.env)).any (·.1) = false := by rfl) :
    PE X (.Call (.Name x npos) (e :: es) [] pos) (tMakeL i C sp dvs E t) := by
  refine ⟨fun pins s σ H Q I h => ?_⟩
  obtain ⟨hs, h⟩ := h
  refine wpAny_Call_Name_kw (thn ((pe_var (pos := npos) hN hv hdb hcd).run pins s σ H (fun v H1 => v = .ref C ∧ H1 = H) I ⟨.ref C, hs, rfl, rfl⟩) fun u s1 ⟨v, H1, I1, r1, q1⟩ => ?_)
  obtain ⟨rfl, rfl⟩ := q1
  cases r1
  refine PySem.W.callWith_K (h₀ := X.base) I.ok.mod.kin M.kp (thn (ha.run pos pins s1 σ _ _ I1 h) fun us s2 ⟨vs, H2, I2, r, q⟩ => ⟨I2.kIn, ?_⟩) he hpl
  exact run_make M F hr hb hd hx I2 r q
end
end L2.Gd
end

section
set_option Elab.async false
set_option linter.all false
set_option maxRecDepth 100000
set_option maxHeartbeats 4000000
namespace L2.K14
open PySem PySem.Spec PyProof.Rows L2.Gd
/-- what is known of the class -/
structure ClsT (K : PySem.W.Frag) (mg : Str → Option Value) (C : Addr) : Prop where
  isc : C8.InsC K C
  nR : NoAttr K C "_rows"
  mgC : mg "Line" = some (.ref C)
abbrev sLaw : Stmt := top 112
def spLaw (K : PySem.W.Frag) : Sp := fun vs H Q _ => ∃ (a : Addr) (ns : List Int), vs = [.ref a] ∧ SqL K H a (ns.map V.int) ∧ ns.length ≤ 63 ∧ ∀ H', Q (.bl true) H'
end L2.K14
end

section
set_option Elab.async false
set_option linter.all false
set_option maxRecDepth 100000
set_option maxHeartbeats 4000000
namespace L2.K14
open PySem PySem.Spec PyProof.Rows L2.Gd
section
variable {K : PySem.W.Frag} {mg : Str → Option Value} {h : Heap} {C f p g N : Addr} {x qual : Str} {st : Stmt} {oc kV doc pm cdv ct : Value} {od an : Option Addr} {osl : Array (Option Value)}
/-- a def of the top -/
def MFact (K : PySem.W.Frag) (mg : Str → Option Value) (x : Str) (st : Stmt) : Prop := ∃ f fd, mg x = some (.ref f) ∧ Fun K x x st f fd
theorem mfact (X : K.In h) (G : h.Ns mainGlobals mg) (a : PySem.W.nsIn K mainGlobals x = some (some (.ref f)))
    (l : K.lookup f = some ⟨oc, od, .func (PySem.W.fnOf x x (defArgs st) (defBody st) (defScope st) .none kV doc pm an cdv ct), osl⟩) (c : PySem.W.codeIn K cdv x = true) (k : PySem.W.keepIn K (.ref f) = true) : MFact K mg x st :=
  ⟨f, _, PySem.W.mg_of X G a, fun_mk l c k⟩
/-- a method -/
def CFact (K : PySem.W.Frag) (C : Addr) (x qual : Str) (st : Stmt) : Prop := ∃ f fd, Meth K C x f ∧ Fun K x qual st f fd
theorem cfact (a : PySem.W.findIn K (.ref C) x = some (some (.ref f))) (i : PySem.W.isFn K (.ref f) = true)
    (l : K.lookup f = some ⟨oc, od, .func (PySem.W.fnOf x qual (defArgs st) (defBody st) (defScope st) .none kV doc pm an cdv ct), osl⟩) (c : PySem.W.codeIn K cdv qual = true) (k : PySem.W.keepIn K (.ref f) = true) : CFact K C x qual st :=
  ⟨f, _, ⟨a, i, k⟩, fun_mk l c k⟩
/-- a property -/
def PFact (K : PySem.W.Frag) (C : Addr) (x qual : Str) (st : Stmt) : Prop := ∃ p g fd, PropOf K C x p g ∧ Fun K x qual st g fd
theorem pfact {rest : List Value} (a : PySem.W.findIn K (.ref C) x = some (some (.ref p))) (b : PySem.W.specialIn K (.ref p) "__get__" = some (some (.builtin "property.__get__"))) (t : PySem.W.takesIn K (.ref p) = some true)
    (r : PySem.W.recIn K p "property" = some (.ref g :: rest))
    (l : K.lookup g = some ⟨oc, od, .func (PySem.W.fnOf x qual (defArgs st) (defBody st) (defScope st) .none kV doc pm an cdv ct), osl⟩) (c : PySem.W.codeIn K cdv qual = true) (k : PySem.W.keepIn K (.ref g) = true) : PFact K C x qual st :=
  ⟨p, g, _, ⟨a, b, t, ⟨rest, r⟩⟩, fun_mk l c k⟩
theorem kbn_of {f : Addr} {fd : FuncData} {ps ks : List Str} {n : Nat} {g : List Value → List Value → List Value} {gV : List V → List V → List V} (F : Fun K x qual st f fd)
    (h : ∀ (kV doc pm : Value) (an : Option Addr) (cdv ct : Value) (us ws : List Value), us.length = n → ws.length = ks.length →
      bindArgs (PySem.W.fnOf x qual (defArgs st) (defBody st) (defScope st) .none kV doc pm an cdv ct) ⟨us, ks.zip ws⟩ = pure (ps.zip (g us ws)))
    (r : ∀ {vs : List V} {us : List Value} {zs : List V} {ws : List Value}, Vals vs us → Vals zs ws → Vals (gV vs zs) (g us ws)) : KBn K fd ps n ks g gV := by
  obtain ⟨oc, od, kV, doc, pm, an, cdv, ct, osl, rfl, lk, hcd⟩ := F.ex
  exact ⟨fun s us ws _ l1 l2 => .of_eq (h kV doc pm an cdv ct us ws l1 l2), r⟩
/-- a def with defaults -/
def DFact (K : PySem.W.Frag) (mg : Str → Option Value) (x : Str) (st : Stmt) (dvs : List V) : Prop := ∃ f fd, mg x = some (.ref f) ∧ FunD K x x (defArgs st) (defBody st) (defScope st) dvs [] f fd
theorem dfact_b {T : Addr} {tc : Value} {td : Option Addr} {b : Bool} {tn : Nat} {tsl : Array (Option Value)} (X : K.In h) (G : h.Ns mainGlobals mg) (a : PySem.W.nsIn K mainGlobals x = some (some (.ref f)))
    (l : K.lookup f = some ⟨oc, od, .func (PySem.W.fnOf x x (defArgs st) (defBody st) (defScope st) (.ref T) kV doc pm an cdv ct), osl⟩) (c : PySem.W.codeIn K cdv x = true) (k : PySem.W.keepIn K (.ref f) = true)
    (t : K.lookup T = some ⟨tc, td, .seq #[.bool b] tn, tsl⟩) : DFact K mg x st [.bl b] :=
  ⟨f, _, PySem.W.mg_of X G a, ⟨⟨oc, od, .ref T, kV, doc, pm, an, cdv, ct, osl, rfl, l, c, .inr ⟨List.cons_ne_nil _ _, T, _, [.bool b], tn, rfl, t, rfl, .cons rfl .nil⟩, .inl rfl⟩, k⟩⟩
theorem fun_ne {y r : Str} {st2 : Stmt} {g : Addr} {fd fd2 : FuncData} (F : Fun K x qual st f fd) (G : Fun K y r st2 g fd2) (n : x ≠ y) : f ≠ g := by
  rintro rfl
  obtain ⟨_, _, _, _, _, _, _, _, _, rfl, l, _⟩ := F.ex
  obtain ⟨_, _, _, _, _, _, _, _, _, rfl, l2, _⟩ := G.ex
  have e := Option.some.inj (l.symm.trans l2)
  injection e with _ _ e2 _
  injection e2 with e3
  exact n (congrArg FuncData.name e3)
theorem vals_rev : ∀ {vs : List V} {us : List Value}, Vals vs us → Vals vs.reverse us.reverse
  | _, _, .nil => .nil
  | _, _, .cons a t => by
    rw [List.reverse_cons, List.reverse_cons]
    exact (vals_rev t).append (.cons a .nil)
theorem nsok {es : Array DictEntry} {en : Nat} {nc : Value} {nd : Option Addr} {nsl : Array (Option Value)} (l : K.lookup N = some ⟨nc, nd, .dict es en, nsl⟩) (e : (es.all fun e => match e.key with | .str _ _ => true | _ => false) = true) : PySem.W.nsOkIn K N = true := by
  unfold PySem.W.nsOkIn
  rw [l]
  exact e
/-- the maker with its default -/
def IFact (K : PySem.W.Frag) (C : Addr) : Prop := ∃ dT, (∃ f fd, Meth K C "__init__" f ∧ FunD K "__init__" "Line.__init__" (defArgs (cLine 0)) (defBody (cLine 0)) (defScope (cLine 0)) [.ref dT] [] f fd) ∧ ∀ H, SqT K H dT []
theorem inifact {T dT : Addr} {tc : Value} {td ed : Option Addr} {tn en : Nat} {tsl esl : Array (Option Value)} (a : PySem.W.findIn K (.ref C) "__init__" = some (some (.ref f))) (i : PySem.W.isFn K (.ref f) = true)
    (l : K.lookup f = some ⟨oc, od, .func (PySem.W.fnOf "__init__" "Line.__init__" (defArgs (cLine 0)) (defBody (cLine 0)) (defScope (cLine 0)) (.ref T) kV doc pm an cdv ct), osl⟩) (c : PySem.W.codeIn K cdv "Line.__init__" = true) (k : PySem.W.keepIn K (.ref f) = true)
    (t : K.lookup T = some ⟨tc, td, .seq #[.ref dT] tn, tsl⟩) (e : K.lookup dT = some ⟨.type "tuple", ed, .seq #[] en, esl⟩) : IFact K C :=
  ⟨dT, ⟨f, _, ⟨a, i, k⟩, ⟨⟨oc, od, .ref T, kV, doc, pm, an, cdv, ct, osl, rfl, l, c, .inr ⟨List.cons_ne_nil _ _, T, _, [.ref dT], tn, rfl, t, rfl, .cons rfl .nil⟩, .inl rfl⟩, k⟩⟩, fun H => .inr ⟨_, #[], en, e, rfl, rfl, Nat.zero_le _, .nil⟩⟩
/-- its == -/
def EFact (K : PySem.W.Frag) (C : Addr) : Prop := ∃ f fd N, Meth K C "__eq__" f ∧ Fun K "__eq__" "Line.__eq__" (cLine 10) f fd ∧ NeC K C f N
theorem eqfact {nm q : Str} {bs : List Value} {sn : List Str} {sub : List Value} {ab : Bool} {col : Option Bool} {dd : Option Addr} {k0 k1 k2 k3 k5 : Option Value} {newId : String} {es : Array DictEntry} {en : Nat} {nc : Value} {nd : Option Addr} {nsl : Array (Option Value)}
    (a : PySem.W.findIn K (.ref C) "__eq__" = some (some (.ref f))) (i : PySem.W.isFn K (.ref f) = true)
    (l : K.lookup f = some ⟨oc, od, .func (PySem.W.fnOf "__eq__" "Line.__eq__" (defArgs (cLine 10)) (defBody (cLine 10)) (defScope (cLine 10)) .none kV doc pm an cdv ct), osl⟩) (c : PySem.W.codeIn K cdv "Line.__eq__" = true) (k : PySem.W.keepIn K (.ref f) = true)
    (cls : K.lookup C = some (excClassObj nm q C N bs [.type "object"] true sn sub ab col dd k0 k1 k2 k3 k5 newId)) (nl : K.lookup N = some ⟨nc, nd, .dict es en, nsl⟩)
    (ok : (es.all fun e => match e.key with | .str _ _ => true | _ => false) = true) (e1 : PySem.W.nsIn K N "__eq__" = some (some (.ref f))) (e2 : PySem.W.nsIn K N "__ne__" = some none) (hoc : oc = .type "function") : EFact K C :=
  ⟨f, _, N, ⟨a, i, k⟩, fun_mk l c k, ⟨⟨nm, q, bs, sn, sub, ab, col, dd, k0, k1, k2, k3, k5, newId, cls⟩, nsok nl ok, e1, e2, ⟨_, l, hoc⟩⟩⟩
end
/-- all that the top has left -/
structure Facts (K : PySem.W.Frag) (mg : Str → Option Value) (C : Addr) : Prop where
  n : Nm mg
  hset : mg "set" = none
  hsum : mg "sum" = none
  pd : ∃ t, mg "PERIOD" = some (.int 2520 t)
  stt : ∃ t, mg "STRETCHES" = some (.int 400 t)
  gre : ∃ t, mg "GREATEST" = some (.int 6350400 t)
  mro : ∃ t, mg "MOST_ROWS" = some (.int 4000 t)
  mpa : ∃ t, mg "MOST_PASSED" = some (.int 200 t)
  TC : ClsT K mg C
  mkC : PySem.W.makesIn K C = true
  kpC : PySem.W.keepIn K (.ref C) = true
  ii : MFact K mg "is_integer" (top 3)
  ic : MFact K mg "is_count" (top 4)
  il : MFact K mg "is_list" (top 5)
  cn : MFact K mg "check_number" (top 15)
  fu : MFact K mg "full" (top 17)
  tu : MFact K mg "turned" (top 18)
  spr : MFact K mg "spread" (top 19)
  wi : MFact K mg "window" (top 20)
  ons : MFact K mg "ones" (top 21)
  mo1 : MFact K mg "many_ones" (top 22)
  mo : MFact K mg "mask_of" (top 23)
  bk : MFact K mg "backwards" (top 24)
  mir : MFact K mg "mirrored_rests" (top 25)
  fo : MFact K mg "folded" (top 26)
  so : MFact K mg "sums_of" (top 27)
  rep : MFact K mg "repeats" (top 28)
  pri : MFact K mg "primes_of" (top 29)
  red : MFact K mg "reduced" (top 30)
  nx : MFact K mg "next_in" (top 31)
  ls : MFact K mg "last_in" (top 32)
  len : MFact K mg "length_of" (top 38)
  rb : MFact K mg "row_of_bits" (top 39)
  bo : MFact K mg "bits_of" (top 40)
  tm : MFact K mg "trimmed" (top 41)
  lg : MFact K mg "is_long" (top 42)
  lu : MFact K mg "last_unlike" (top 43)
  fst : MFact K mg "first_unlike" (top 44)
  dd : MFact K mg "drawn_down" (top 45)
  du : MFact K mg "drawn_up" (top 46)
  mt : MFact K mg "met" (top 47)
  dw : MFact K mg "drawn" (top 48)
  fi : MFact K mg "fit_together" (top 49)
  pk : MFact K mg "packed" (top 50)
  td : MFact K mg "tidy" (top 51)
  mks : MFact K mg "marks_of" (top 52)
  rf : MFact K mg "rests_from" (top 53)
  sps : MFact K mg "spans" (top 54)
  jb : MFact K mg "joined_bits" (top 55)
  jr : MFact K mg "joined_row" (top 56)
  cm : MFact K mg "combined" (top 57)
  un : MFact K mg "united" (top 58)
  cu : MFact K mg "cut" (top 59)
  lm : MFact K mg "limited" (top 60)
  ra : MFact K mg "row_at" (top 62)
  ba : MFact K mg "begins_above" (top 63)
  hnu : MFact K mg "has_number" (top 64)
  nu : MFact K mg "next_unlike" (top 65)
  pu : MFact K mg "previous_unlike" (top 66)
  sm : MFact K mg "are_same" (top 67)
  en : MFact K mg "is_end" (top 69)
  rs : MFact K mg "are_rests" (top 70)
  sts : MFact K mg "is_stretch" (top 71)
  rl : MFact K mg "row_list" (top 72)
  ro : MFact K mg "rows_of" (top 73)
  mrw : MFact K mg "mirrored_row" (top 76)
  mrs : MFact K mg "mirrored_rows" (top 77)
  stg : MFact K mg "steps_together" (top 78)
  los : MFact K mg "lowest_sums" (top 79)
  lwz : MFact K mg "low_zone" (top 80)
  hiz : MFact K mg "high_zone" (top 81)
  mid : MFact K mg "middle_row" (top 82)
  rby : MFact K mg "rests_by" (top 83)
  ish : MFact K mg "is_shorter" (top 84)
  rsu : MFact K mg "row_sums" (top 85)
  srs : MFact K mg "sums_of_rows" (top 86)
  cs : MFact K mg "check_stretches" (top 90)
  cl : MFact K mg "check_line" (top 92)
  lr : MFact K mg "line_of_rows" (top 93)
  pot : MFact K mg "_law_pot" (top 95)
  dr : MFact K mg "_law_draw" (top 96)
  lst : MFact K mg "_law_stretch" (top 98)
  lto : MFact K mg "_law_told" (top 99)
  lin : MFact K mg "_law_in" (top 100)
  lro : MFact K mg "_law_row" (top 101)
  lat : MFact K mg "_law_at" (top 102)
  lsm : MFact K mg "_law_is_sum" (top 103)
  ltn : MFact K mg "_law_turned" (top 104)
  llk : MFact K mg "_law_looked" (top 105)
  lss : MFact K mg "_law_is_sums" (top 106)
  lpr : MFact K mg "_law_pair_right" (top 107)
  ler : MFact K mg "_law_ends_right" (top 108)
  llr : MFact K mg "_law_long_right" (top 109)
  lls : MFact K mg "_law_long_sums" (top 110)
  lri : MFact K mg "_law_right" (top 111)
  m_rows : CFact K C "rows" "Line.rows" (cLine 5)
  m_has : CFact K C "has" "Line.has" (cLine 6)
  m_mir : CFact K C "mirrored" "Line.mirrored" (cLine 13)
  m_sums : CFact K C "sums" "Line.sums" (cLine 15)
  m_dif : CFact K C "differences" "Line.differences" (cLine 16)
  m_le : CFact K C "least" "Line.least" (cLine 17)
  m_gr : CFact K C "greatest" "Line.greatest" (cLine 18)
  m_tl : CFact K C "tail" "Line.tail" (cLine 23)
  p_em : PFact K C "is_empty" "Line.is_empty" (cLine 4)
  lc : mg "lcm" = some (.builtin "math.lcm")
  sf : PySem.W.selfFirst K C = true
  h_init : IFact K C
  h_eq : EFact K C
  gcd : mg "gcd" = some (.builtin "math.gcd")
section
variable {K : PySem.W.Frag} {mg : Str → Option Value} {h : Heap} {C f N : Addr} {oc kV doc pm cdv ct : Value} {od an : Option Addr} {osl : Array (Option Value)}
  {nm q : Str} {bs : List Value} {sn : List Str} {sub : List Value} {ab : Bool} {col : Option Bool} {dd : Option Addr} {k0 k1 k2 k3 k5 : Option Value} {newId : String}
  {nc : Value} {nd : Option Addr} {es : Array DictEntry} {en : Nat} {nsl : Array (Option Value)}
theorem kit_ref {T : String} {b : Bool} (c1 : PySem.W.isClsIn K C = true) (c2 : PySem.W.typeIn K (.ref C) = some (.type "type")) (s : PySem.W.subIn K (.type T) (.ref C) = some b) : PySem.W.kitOne K (.type T) (.ref C) = some b := by
  unfold PySem.W.kitOne
  rw [if_neg (show ¬ (Value.type T == Value.ref C) = true from fun z => nomatch z)]
  unfold PySem.W.kitCls
  have c1' : (PySem.W.clsIn K C).isSome = true := c1
  show (if ((PySem.W.clsIn K C).isSome && PySem.W.typeIn K (.ref C) == some (.type "type")) = true then PySem.W.subIn K (.type T) (.ref C) else none) = some b
  rw [c1', c2, if_pos (by rfl)]
  exact s
theorem kit_self : PySem.W.kitOne K (.ref C) (.ref C) = some true := by
  unfold PySem.W.kitOne
  rw [if_pos (show (Value.ref C == Value.ref C) = true by simp)]
theorem ifact {x : Str} {n : Int} {t : Tok} (X : K.In h) (G : h.Ns mainGlobals mg) (a : PySem.W.nsIn K mainGlobals x = some (some (.int n t))) : ∃ t, mg x = some (.int n t) := ⟨t, PySem.W.mg_of X G a⟩
theorem clsL_of (mC : mg "Line" = some (.ref C)) (pg : PySem.W.plainGet K C Str.empty = true) (hd : PySem.W.hasDictIn K C = true) (po : PySem.W.plainOver K C = true) (sa : PySem.W.findIn K (.ref C) "__setattr__" = some (some (.builtin "object.__setattr__")))
    (ha : PySem.W.findIn K (.ref C) "__class__" = some (some (.builtin "object.__class__"))) (hn : PySem.W.specialIn K (.builtin "object.__class__") "__get__" = some (some (.builtin "getset_descriptor.__get__"))) (ht : PySem.W.takesIn K (.builtin "object.__class__") = some true)
    (hm : PySem.W.mroIn K C (.type "object") = some true) (nR : PySem.W.findIn K (.ref C) "_rows" = some none) : ClsT K mg C :=
  ⟨⟨⟨pg, hd, po, sa⟩, ha, hn, ht, hm, kit_self⟩, nR, mC⟩
end
/-- what the law's reading gives -/
abbrev LawAll : Prop := ∀ {P : Program} {w : World} {K : PySem.W.Frag} {mg : Str → Option Value} {C : Addr}, Facts K mg C → MFact K mg "law" sLaw → ∀ {fa : Addr}, mg "law" = some (.ref fa) → ∃ fd : FuncData, (∀ (s : Shared) (v : Value), BindsTo s fd ⟨[v], []⟩ [("_law_script", v)]) ∧ ∀ base : Heap, K.In base → base.Ns mainGlobals mg → FnG P w K mg base 18 fa fd ["_law_script"] (spLaw K)
end L2.K14
end

section
set_option Elab.async false
set_option linter.all false
open PySem PySem.W PyProof.Rows L2.K14
open Lean in
local macro_rules
  | `(tactic| kernel_rfl%$s) => do
    match s.getHeadInfo with
    | .none => Macro.throwUnsupported
    | _ =>
      let k : TSyntax `tactic := ⟨Syntax.node .none ``tacticKernel_rfl #[Syntax.atom .none "kernel_rfl"]⟩
      `(tactic| first | (with_reducible refine L2.Hs14.split3 ?h1 ?h2 ?h3; (case h1 => (with_reducible refine L2.Hs14.looksG _ ?hp; (case hp => ($k:tactic)))); (case h2 => (with_reducible refine L2.Hs14.seenG _ ?hp ?hq ?hl ?hm ?hx; (case hp => ($k:tactic)); (case hq => ($k:tactic)); (case hl => ($k:tactic)); (case hm => ($k:tactic)); (case hx => ($k:tactic)))); (case h3 => ($k:tactic))) | ($k:tactic))
set_option maxRecDepth 100000 in
set_option maxHeartbeats 0 in
theorem front (la : L2.K14.LawAll) : PySem.Challenge.rw_lonetill_k14_whole_sums_and_differences.Holds := by
  w_on; o_law; k_headL; (case hw => w_witness2)
  k_fill
  refine L2.Gd.walk_ofG (l := PySem.Challenge.rw_lonetill_k14_whole_sums_and_differences) (n := 63) (k := 18) (x := "_law_script") (sp := L2.K14.spLaw) rfl (by decide) rfl ⟨rfl, by decide, by decide⟩ (fun w h Y => PySem.W.kIn_of Y) ?F ?hsp
  case hsp =>
    intro K H a ns hl _ hS
    exact ⟨a, ns, rfl, hS, hl, fun _ => rfl⟩
  case F =>
   as_aux_lemma =>
    intro w mg fa h KX G hmg
    refine' (fun {C : Addr} (aC : PySem.W.nsIn _ mainGlobals "Line" = some (some (.ref C))) (z : (mg "Line" = some (.ref C)) → Facts _ mg C ∧ MFact _ mg "law" sLaw) => la (z (PySem.W.mg_of KX G aC)).1 (z (PySem.W.mg_of KX G aC)).2 hmg) ?aC ?z
    (case aC => k_is)
    case z =>
      intro mC
      refine' ⟨⟨?n, ?hset, ?hsum, ?pd, ?stt, ?gre, ?mro, ?mpa, ?TC, ?mkC, ?kpC, ?ii, ?ic, ?il, ?cn, ?fu, ?tu, ?spr, ?wi, ?ons, ?mo1, ?mo, ?bk, ?mir, ?fo, ?so, ?rep, ?pri, ?red, ?nx, ?ls, ?len, ?rb, ?bo, ?tm, ?lg, ?lu, ?fst, ?dd, ?du, ?mt, ?dw, ?fi, ?pk, ?td, ?mks, ?rf, ?sps, ?jb, ?jr, ?cm, ?un, ?cu, ?lm, ?ra, ?ba, ?hnu, ?nu, ?pu, ?sm, ?en, ?rs, ?sts, ?rl, ?ro, ?mrw, ?mrs, ?stg, ?los, ?lwz, ?hiz, ?mid, ?rby, ?ish, ?rsu, ?srs, ?cs, ?cl, ?lr, ?pot, ?dr, ?lst, ?lto, ?lin, ?lro, ?lat, ?lsm, ?ltn, ?llk, ?lss, ?lpr, ?ler, ?llr, ?lls, ?lri, ?m_rows, ?m_has, ?m_mir, ?m_sums, ?m_dif, ?m_le, ?m_gr, ?m_tl, ?p_em, ?lc, ?sf, ?h_init, ?h_eq, ?gcd⟩, ?law⟩
      case n =>
        refine' ⟨PySem.W.mg_none_of KX G ?b0, PySem.W.mg_none_of KX G ?b1, PySem.W.mg_none_of KX G ?b2, PySem.W.mg_none_of KX G ?b3, PySem.W.mg_none_of KX G ?b4, PySem.W.mg_none_of KX G ?b5, PySem.W.mg_none_of KX G ?b6, PySem.W.mg_none_of KX G ?b7, PySem.W.mg_none_of KX G ?b8, PySem.W.mg_none_of KX G ?b9, PySem.W.mg_none_of KX G ?b10, PySem.W.mg_none_of KX G ?b11, PySem.W.mg_none_of KX G ?b12, PySem.W.mg_none_of KX G ?b13, PySem.W.mg_none_of KX G ?b14, PySem.W.mg_none_of KX G ?b15, PySem.W.mg_none_of KX G ?b16, PySem.W.mg_none_of KX G ?b17⟩
        (case b0 => k_is); (case b1 => k_is); (case b2 => k_is); (case b3 => k_is); (case b4 => k_is); (case b5 => k_is); (case b6 => k_is); (case b7 => k_is); (case b8 => k_is); (case b9 => k_is); (case b10 => k_is); (case b11 => k_is); (case b12 => k_is); (case b13 => k_is); (case b14 => k_is); (case b15 => k_is); (case b16 => k_is); (case b17 => k_is)
      case hset =>
        refine' PySem.W.mg_none_of KX G ?a
        case a => k_is
      case hsum =>
        refine' PySem.W.mg_none_of KX G ?a
        case a => k_is
      case pd =>
        refine' ifact KX G ?a
        case a => k_is
      case stt =>
        refine' ifact KX G ?a
        case a => k_is
      case gre =>
        refine' ifact KX G ?a
        case a => k_is
      case mro =>
        refine' ifact KX G ?a
        case a => k_is
      case mpa =>
        refine' ifact KX G ?a
        case a => k_is
      case TC =>
        refine' clsL_of mC ?pg ?hd ?po ?sa ?ha ?hn ?ht ?hm ?nR
        (case pg => k_is); (case hd => k_is); (case po => k_is); (case sa => k_is); (case ha => k_is); (case hn => k_is); (case ht => k_is); (case hm => k_is); (case nR => k_is)
      case mkC => k_is
      case kpC => k_is
      case ii =>
        refine' mfact KX G ?a ?l ?c ?k
        (case a => k_is); (case l => k_is); (case c => k_is); (case k => k_is)
      case ic =>
        refine' mfact KX G ?a ?l ?c ?k
        (case a => k_is); (case l => k_is); (case c => k_is); (case k => k_is)
      case il =>
        refine' mfact KX G ?a ?l ?c ?k
        (case a => k_is); (case l => k_is); (case c => k_is); (case k => k_is)
      case cn =>
        refine' mfact KX G ?a ?l ?c ?k
        (case a => k_is); (case l => k_is); (case c => k_is); (case k => k_is)
      case fu =>
        refine' mfact KX G ?a ?l ?c ?k
        (case a => k_is); (case l => k_is); (case c => k_is); (case k => k_is)
      case tu =>
        refine' mfact KX G ?a ?l ?c ?k
        (case a => k_is); (case l => k_is); (case c => k_is); (case k => k_is)
      case spr =>
        refine' mfact KX G ?a ?l ?c ?k
        (case a => k_is); (case l => k_is); (case c => k_is); (case k => k_is)
      case wi =>
        refine' mfact KX G ?a ?l ?c ?k
        (case a => k_is); (case l => k_is); (case c => k_is); (case k => k_is)
      case ons =>
        refine' mfact KX G ?a ?l ?c ?k
        (case a => k_is); (case l => k_is); (case c => k_is); (case k => k_is)
      case mo1 =>
        refine' mfact KX G ?a ?l ?c ?k
        (case a => k_is); (case l => k_is); (case c => k_is); (case k => k_is)
      case mo =>
        refine' mfact KX G ?a ?l ?c ?k
        (case a => k_is); (case l => k_is); (case c => k_is); (case k => k_is)
      case bk =>
        refine' mfact KX G ?a ?l ?c ?k
        (case a => k_is); (case l => k_is); (case c => k_is); (case k => k_is)
      case mir =>
        refine' mfact KX G ?a ?l ?c ?k
        (case a => k_is); (case l => k_is); (case c => k_is); (case k => k_is)
      case fo =>
        refine' mfact KX G ?a ?l ?c ?k
        (case a => k_is); (case l => k_is); (case c => k_is); (case k => k_is)
      case so =>
        refine' mfact KX G ?a ?l ?c ?k
        (case a => k_is); (case l => k_is); (case c => k_is); (case k => k_is)
      case rep =>
        refine' mfact KX G ?a ?l ?c ?k
        (case a => k_is); (case l => k_is); (case c => k_is); (case k => k_is)
      case pri =>
        refine' mfact KX G ?a ?l ?c ?k
        (case a => k_is); (case l => k_is); (case c => k_is); (case k => k_is)
      case red =>
        refine' mfact KX G ?a ?l ?c ?k
        (case a => k_is); (case l => k_is); (case c => k_is); (case k => k_is)
      case nx =>
        refine' mfact KX G ?a ?l ?c ?k
        (case a => k_is); (case l => k_is); (case c => k_is); (case k => k_is)
      case ls =>
        refine' mfact KX G ?a ?l ?c ?k
        (case a => k_is); (case l => k_is); (case c => k_is); (case k => k_is)
      case len =>
        refine' mfact KX G ?a ?l ?c ?k
        (case a => k_is); (case l => k_is); (case c => k_is); (case k => k_is)
      case rb =>
        refine' mfact KX G ?a ?l ?c ?k
        (case a => k_is); (case l => k_is); (case c => k_is); (case k => k_is)
      case bo =>
        refine' mfact KX G ?a ?l ?c ?k
        (case a => k_is); (case l => k_is); (case c => k_is); (case k => k_is)
      case tm =>
        refine' mfact KX G ?a ?l ?c ?k
        (case a => k_is); (case l => k_is); (case c => k_is); (case k => k_is)
      case lg =>
        refine' mfact KX G ?a ?l ?c ?k
        (case a => k_is); (case l => k_is); (case c => k_is); (case k => k_is)
      case lu =>
        refine' mfact KX G ?a ?l ?c ?k
        (case a => k_is); (case l => k_is); (case c => k_is); (case k => k_is)
      case fst =>
        refine' mfact KX G ?a ?l ?c ?k
        (case a => k_is); (case l => k_is); (case c => k_is); (case k => k_is)
      case dd =>
        refine' mfact KX G ?a ?l ?c ?k
        (case a => k_is); (case l => k_is); (case c => k_is); (case k => k_is)
      case du =>
        refine' mfact KX G ?a ?l ?c ?k
        (case a => k_is); (case l => k_is); (case c => k_is); (case k => k_is)
      case mt =>
        refine' mfact KX G ?a ?l ?c ?k
        (case a => k_is); (case l => k_is); (case c => k_is); (case k => k_is)
      case dw =>
        refine' mfact KX G ?a ?l ?c ?k
        (case a => k_is); (case l => k_is); (case c => k_is); (case k => k_is)
      case fi =>
        refine' mfact KX G ?a ?l ?c ?k
        (case a => k_is); (case l => k_is); (case c => k_is); (case k => k_is)
      case pk =>
        refine' mfact KX G ?a ?l ?c ?k
        (case a => k_is); (case l => k_is); (case c => k_is); (case k => k_is)
      case td =>
        refine' mfact KX G ?a ?l ?c ?k
        (case a => k_is); (case l => k_is); (case c => k_is); (case k => k_is)
      case mks =>
        refine' mfact KX G ?a ?l ?c ?k
        (case a => k_is); (case l => k_is); (case c => k_is); (case k => k_is)
      case rf =>
        refine' mfact KX G ?a ?l ?c ?k
        (case a => k_is); (case l => k_is); (case c => k_is); (case k => k_is)
      case sps =>
        refine' mfact KX G ?a ?l ?c ?k
        (case a => k_is); (case l => k_is); (case c => k_is); (case k => k_is)
      case jb =>
        refine' mfact KX G ?a ?l ?c ?k
        (case a => k_is); (case l => k_is); (case c => k_is); (case k => k_is)
      case jr =>
        refine' mfact KX G ?a ?l ?c ?k
        (case a => k_is); (case l => k_is); (case c => k_is); (case k => k_is)
      case cm =>
        refine' mfact KX G ?a ?l ?c ?k
        (case a => k_is); (case l => k_is); (case c => k_is); (case k => k_is)
      case un =>
        refine' mfact KX G ?a ?l ?c ?k
        (case a => k_is); (case l => k_is); (case c => k_is); (case k => k_is)
      case cu =>
        refine' mfact KX G ?a ?l ?c ?k
        (case a => k_is); (case l => k_is); (case c => k_is); (case k => k_is)
      case lm =>
        refine' mfact KX G ?a ?l ?c ?k
        (case a => k_is); (case l => k_is); (case c => k_is); (case k => k_is)
      case ra =>
        refine' mfact KX G ?a ?l ?c ?k
        (case a => k_is); (case l => k_is); (case c => k_is); (case k => k_is)
      case ba =>
        refine' mfact KX G ?a ?l ?c ?k
        (case a => k_is); (case l => k_is); (case c => k_is); (case k => k_is)
      case hnu =>
        refine' mfact KX G ?a ?l ?c ?k
        (case a => k_is); (case l => k_is); (case c => k_is); (case k => k_is)
      case nu =>
        refine' mfact KX G ?a ?l ?c ?k
        (case a => k_is); (case l => k_is); (case c => k_is); (case k => k_is)
      case pu =>
        refine' mfact KX G ?a ?l ?c ?k
        (case a => k_is); (case l => k_is); (case c => k_is); (case k => k_is)
      case sm =>
        refine' mfact KX G ?a ?l ?c ?k
        (case a => k_is); (case l => k_is); (case c => k_is); (case k => k_is)
      case en =>
        refine' mfact KX G ?a ?l ?c ?k
        (case a => k_is); (case l => k_is); (case c => k_is); (case k => k_is)
      case rs =>
        refine' mfact KX G ?a ?l ?c ?k
        (case a => k_is); (case l => k_is); (case c => k_is); (case k => k_is)
      case sts =>
        refine' mfact KX G ?a ?l ?c ?k
        (case a => k_is); (case l => k_is); (case c => k_is); (case k => k_is)
      case rl =>
        refine' mfact KX G ?a ?l ?c ?k
        (case a => k_is); (case l => k_is); (case c => k_is); (case k => k_is)
      case ro =>
        refine' mfact KX G ?a ?l ?c ?k
        (case a => k_is); (case l => k_is); (case c => k_is); (case k => k_is)
      case mrw =>
        refine' mfact KX G ?a ?l ?c ?k
        (case a => k_is); (case l => k_is); (case c => k_is); (case k => k_is)
      case mrs =>
        refine' mfact KX G ?a ?l ?c ?k
        (case a => k_is); (case l => k_is); (case c => k_is); (case k => k_is)
      case stg =>
        refine' mfact KX G ?a ?l ?c ?k
        (case a => k_is); (case l => k_is); (case c => k_is); (case k => k_is)
      case los =>
        refine' mfact KX G ?a ?l ?c ?k
        (case a => k_is); (case l => k_is); (case c => k_is); (case k => k_is)
      case lwz =>
        refine' mfact KX G ?a ?l ?c ?k
        (case a => k_is); (case l => k_is); (case c => k_is); (case k => k_is)
      case hiz =>
        refine' mfact KX G ?a ?l ?c ?k
        (case a => k_is); (case l => k_is); (case c => k_is); (case k => k_is)
      case mid =>
        refine' mfact KX G ?a ?l ?c ?k
        (case a => k_is); (case l => k_is); (case c => k_is); (case k => k_is)
      case rby =>
        refine' mfact KX G ?a ?l ?c ?k
        (case a => k_is); (case l => k_is); (case c => k_is); (case k => k_is)
      case ish =>
        refine' mfact KX G ?a ?l ?c ?k
        (case a => k_is); (case l => k_is); (case c => k_is); (case k => k_is)
      case rsu =>
        refine' mfact KX G ?a ?l ?c ?k
        (case a => k_is); (case l => k_is); (case c => k_is); (case k => k_is)
      case srs =>
        refine' mfact KX G ?a ?l ?c ?k
        (case a => k_is); (case l => k_is); (case c => k_is); (case k => k_is)
      case cs =>
        refine' mfact KX G ?a ?l ?c ?k
        (case a => k_is); (case l => k_is); (case c => k_is); (case k => k_is)
      case cl =>
        refine' mfact KX G ?a ?l ?c ?k
        (case a => k_is); (case l => k_is); (case c => k_is); (case k => k_is)
      case lr =>
        refine' mfact KX G ?a ?l ?c ?k
        (case a => k_is); (case l => k_is); (case c => k_is); (case k => k_is)
      case pot =>
        refine' mfact KX G ?a ?l ?c ?k
        (case a => k_is); (case l => k_is); (case c => k_is); (case k => k_is)
      case dr =>
        refine' mfact KX G ?a ?l ?c ?k
        (case a => k_is); (case l => k_is); (case c => k_is); (case k => k_is)
      case lst =>
        refine' mfact KX G ?a ?l ?c ?k
        (case a => k_is); (case l => k_is); (case c => k_is); (case k => k_is)
      case lto =>
        refine' mfact KX G ?a ?l ?c ?k
        (case a => k_is); (case l => k_is); (case c => k_is); (case k => k_is)
      case lin =>
        refine' mfact KX G ?a ?l ?c ?k
        (case a => k_is); (case l => k_is); (case c => k_is); (case k => k_is)
      case lro =>
        refine' mfact KX G ?a ?l ?c ?k
        (case a => k_is); (case l => k_is); (case c => k_is); (case k => k_is)
      case lat =>
        refine' mfact KX G ?a ?l ?c ?k
        (case a => k_is); (case l => k_is); (case c => k_is); (case k => k_is)
      case lsm =>
        refine' mfact KX G ?a ?l ?c ?k
        (case a => k_is); (case l => k_is); (case c => k_is); (case k => k_is)
      case ltn =>
        refine' mfact KX G ?a ?l ?c ?k
        (case a => k_is); (case l => k_is); (case c => k_is); (case k => k_is)
      case llk =>
        refine' mfact KX G ?a ?l ?c ?k
        (case a => k_is); (case l => k_is); (case c => k_is); (case k => k_is)
      case lss =>
        refine' mfact KX G ?a ?l ?c ?k
        (case a => k_is); (case l => k_is); (case c => k_is); (case k => k_is)
      case lpr =>
        refine' mfact KX G ?a ?l ?c ?k
        (case a => k_is); (case l => k_is); (case c => k_is); (case k => k_is)
      case ler =>
        refine' mfact KX G ?a ?l ?c ?k
        (case a => k_is); (case l => k_is); (case c => k_is); (case k => k_is)
      case llr =>
        refine' mfact KX G ?a ?l ?c ?k
        (case a => k_is); (case l => k_is); (case c => k_is); (case k => k_is)
      case lls =>
        refine' mfact KX G ?a ?l ?c ?k
        (case a => k_is); (case l => k_is); (case c => k_is); (case k => k_is)
      case lri =>
        refine' mfact KX G ?a ?l ?c ?k
        (case a => k_is); (case l => k_is); (case c => k_is); (case k => k_is)
      case m_rows =>
        refine' cfact ?a ?i ?l ?c ?k
        (case a => k_is); (case i => k_is); (case l => k_is); (case c => k_is); (case k => k_is)
      case m_has =>
        refine' cfact ?a ?i ?l ?c ?k
        (case a => k_is); (case i => k_is); (case l => k_is); (case c => k_is); (case k => k_is)
      case m_mir =>
        refine' cfact ?a ?i ?l ?c ?k
        (case a => k_is); (case i => k_is); (case l => k_is); (case c => k_is); (case k => k_is)
      case m_sums =>
        refine' cfact ?a ?i ?l ?c ?k
        (case a => k_is); (case i => k_is); (case l => k_is); (case c => k_is); (case k => k_is)
      case m_dif =>
        refine' cfact ?a ?i ?l ?c ?k
        (case a => k_is); (case i => k_is); (case l => k_is); (case c => k_is); (case k => k_is)
      case m_le =>
        refine' cfact ?a ?i ?l ?c ?k
        (case a => k_is); (case i => k_is); (case l => k_is); (case c => k_is); (case k => k_is)
      case m_gr =>
        refine' cfact ?a ?i ?l ?c ?k
        (case a => k_is); (case i => k_is); (case l => k_is); (case c => k_is); (case k => k_is)
      case m_tl =>
        refine' cfact ?a ?i ?l ?c ?k
        (case a => k_is); (case i => k_is); (case l => k_is); (case c => k_is); (case k => k_is)
      case p_em =>
        refine' pfact ?a ?b ?t ?r ?l ?c ?k
        (case a => k_is); (case b => k_is); (case t => k_is); (case r => k_is); (case l => k_is); (case c => k_is); (case k => k_is)
      case lc =>
        refine' PySem.W.mg_of KX G ?a
        case a => k_is
      case sf =>
        first | k_is | kernel_rfl
      case h_init =>
        refine' inifact ?a ?i ?l ?c ?k ?t ?e
        (case a => first | k_is | kernel_rfl); (case i => first | k_is | kernel_rfl); (case l => first | k_is | kernel_rfl); (case c => first | k_is | kernel_rfl); (case k => first | k_is | kernel_rfl); (case t => first | k_is | kernel_rfl); (case e => first | k_is | kernel_rfl)
      case h_eq =>
        refine' eqfact ?a ?i ?l ?c ?k ?cls ?nl ?ok ?e1 ?e2 ?hoc
        (case a => k_is); (case i => k_is); (case l => k_is); (case c => k_is); (case k => k_is); (case cls => k_is); (case nl => k_is); (case e1 => k_is); (case e2 => k_is)
        (case ok => first | kernel_rfl | (simp; done)); (case hoc => rfl)
      case gcd =>
        refine' PySem.W.mg_of KX G ?a
        case a => k_is
      case law =>
        refine' mfact KX G ?a ?l ?c ?k
        (case a => k_is); (case l => k_is); (case c => k_is); (case k => k_is)
end

section
set_option Elab.async false
set_option linter.all false
set_option maxHeartbeats 400000
/-! bits and patterns: what the masks of lines tell -/
namespace L2.Ln
/-- the sign of the number n in the pattern b of period p -/
def pat (p b : Nat) (n : Int) : Bool := b.testBit (n % (p : Int)).toNat
theorem pat_add {p b : Nat} (n k : Int) : pat p b (n + k * p) = pat p b n := by
  unfold pat
  rw [Int.add_mul_emod_self_right]
theorem pat_one {p b : Nat} (n : Int) : pat p b (n + p) = pat p b n := by
  have := pat_add (p := p) (b := b) n 1
  rwa [Int.one_mul] at this
theorem pat_sub {p b : Nat} (n : Int) : pat p b (n - p) = pat p b n := by
  have := pat_add (p := p) (b := b) n (-1)
  rwa [show n + (-1) * (p : Int) = n - p by omega] at this
theorem pat_nat {p b i : Nat} (h : i < p) : pat p b (i : Int) = b.testBit i := by
  unfold pat
  rw [Int.emod_eq_of_lt (by omega) (by omega), Int.toNat_natCast]
theorem mod_lt' {p : Nat} (hp : 0 < p) (n : Int) : (n % (p : Int)).toNat < p := by
  have h1 := Int.emod_lt_of_pos n (show (0 : Int) < p by omega)
  have h2 := Int.emod_nonneg n (show (p : Int) ≠ 0 by omega)
  omega
/-- two patterns of the same period that are alike from 0 to p -/
theorem pat_ext {p b q c : Nat} (hp : 0 < p) (h : ∀ i : Nat, i < p → pat p b i = pat q c i) (hq : ∀ n, pat q c (n + p) = pat q c n) (n : Int) : pat p b n = pat q c n := by
  have hc : ∀ (k : Nat) (m : Int), pat q c (m + k * p) = pat q c m := by
    intro k
    induction k with
    | zero => intro m; simp
    | succ k ih =>
      intro m
      rw [show m + ((k + 1 : Nat) : Int) * p = (m + k * p) + p by rw [Int.natCast_add, Int.add_mul]; simp; omega, hq, ih]
  have e := Int.emod_add_mul_ediv n p
  have h0 := mod_lt' hp n
  have h2 := Int.emod_nonneg n (show (p : Int) ≠ 0 by omega)
  have e1 : ((n % (p : Int)).toNat : Int) = n % p := Int.toNat_of_nonneg h2
  have k1 := h _ h0
  rw [e1] at k1
  have l1 : pat p b n = pat p b (n % p) := by unfold pat; rw [Int.emod_emod]
  rw [l1, k1]
  generalize n % (p : Int) = r at *
  generalize n / (p : Int) = d at *
  subst e
  rcases Int.le_total 0 d with hd | hd
  · obtain ⟨k, rfl⟩ : ∃ k : Nat, d = k := ⟨d.toNat, by omega⟩
    rw [Int.mul_comm, hc]
  · obtain ⟨k, rfl⟩ : ∃ k : Nat, d = -(k : Int) := ⟨(-d).toNat, by omega⟩
    have := hc k (r + p * -(k : Int))
    rw [show r + (p : Int) * -(k : Int) + k * p = r by rw [Int.mul_neg, Int.mul_comm (k : Int)]; omega] at this
    exact this
theorem bit_lt {b i : Nat} (h : b.testBit i = true) {p : Nat} (hb : b < 2 ^ p) : i < p := by
  apply Classical.byContradiction
  intro hn
  have := Nat.testBit_lt_two_pow (Nat.lt_of_lt_of_le hb (Nat.pow_le_pow_right (by decide) (Nat.le_of_not_lt hn)))
  rw [this] at h
  exact nomatch h
theorem bit_ge {b p i : Nat} (hb : b < 2 ^ p) (h : p ≤ i) : b.testBit i = false := Nat.testBit_lt_two_pow (Nat.lt_of_lt_of_le hb (Nat.pow_le_pow_right (by decide) h))
theorem lt_of_bits {b p : Nat} (h : ∀ i, p ≤ i → b.testBit i = false) : b < 2 ^ p := Nat.lt_pow_two_of_testBit b h
theorem full_bit (m i : Nat) : (2 ^ m - 1).testBit i = decide (i < m) := Nat.testBit_two_pow_sub_one m i
theorem full_lt (m : Nat) : 2 ^ m - 1 < 2 ^ m := Nat.sub_lt (Nat.two_pow_pos m) (by decide)
theorem and_full {b m : Nat} : b &&& (2 ^ m - 1) < 2 ^ m := lt_of_bits fun i h => by
  rw [Nat.testBit_and, full_bit, decide_eq_false (by omega), Bool.and_false]
theorem and_full_bit {b m i : Nat} (h : i < m) : (b &&& (2 ^ m - 1)).testBit i = b.testBit i := by
  rw [Nat.testBit_and, full_bit, decide_eq_true h, Bool.and_true]
/-! turned -/
def turnN (b p : Nat) (by_ : Int) : Nat := ((b <<< (by_ % (p : Int)).toNat) ||| (b >>> (p - (by_ % (p : Int)).toNat))) &&& (2 ^ p - 1)
theorem turn_lt (b p : Nat) (k : Int) : turnN b p k < 2 ^ p := and_full
theorem turn_bit {b p : Nat} (hp : 0 < p) (hb : b < 2 ^ p) (k : Int) {i : Nat} (hi : i < p) : (turnN b p k).testBit i = pat p b (i - k) := by
  have hf := mod_lt' hp k
  have h2 := Int.emod_nonneg k (show (p : Int) ≠ 0 by omega)
  have e := Int.emod_add_mul_ediv k p
  have ef : ((k % (p : Int)).toNat : Int) = k % p := Int.toNat_of_nonneg h2
  unfold turnN
  rw [and_full_bit hi, Nat.testBit_or, Nat.testBit_shiftLeft, Nat.testBit_shiftRight]
  generalize hF : (k % (p : Int)).toNat = far at hf ef ⊢
  have ek : (i : Int) - k = ((i : Int) - far) + (-(k / p)) * p := by
    rw [Int.neg_mul, Int.mul_comm]
    omega
  rw [ek, pat_add]
  by_cases c : far ≤ i
  · rw [decide_eq_true (show i ≥ far from c), Bool.true_and]
    have e1 : b.testBit (p - far + i) = false := bit_ge hb (by omega)
    rw [e1, Bool.or_false]
    rw [show ((i : Int) - far) = ((i - far : Nat) : Int) by omega, pat_nat (by omega)]
  · rw [decide_eq_false (show ¬ i ≥ far from c), Bool.false_and, Bool.false_or]
    have := pat_one (p := p) (b := b) ((i : Int) - far)
    rw [← this, show ((i : Int) - far + p) = ((p - far + i : Nat) : Int) by omega, pat_nat (by omega)]
theorem turn_pat {b p : Nat} (hp : 0 < p) (hb : b < 2 ^ p) (k n : Int) : pat p (turnN b p k) n = pat p b (n - k) := by
  have h2 := Int.emod_nonneg n (show (p : Int) ≠ 0 by omega)
  have e := Int.emod_add_mul_ediv n p
  have ef : ((n % (p : Int)).toNat : Int) = n % p := Int.toNat_of_nonneg h2
  unfold pat
  rw [turn_bit hp hb k (mod_lt' hp n)]
  show pat p b _ = pat p b (n - k)
  rw [ef]
  have : n - k = (n % p - k) + (n / p) * p := by
    rw [Int.mul_comm]
    omega
  rw [this, pat_add]
/-! spread -/
structure SpI (b p have_ bits : Nat) : Prop where
  d : p ∣ have_
  l : bits < 2 ^ have_
  h : ∀ i, i < have_ → bits.testBit i = b.testBit (i % p)
theorem spI_0 {b p : Nat} (hb : b < 2 ^ p) : SpI b p p b := ⟨Nat.dvd_refl p, hb, fun i h => by rw [Nat.mod_eq_of_lt h]⟩
theorem spI_S {b p v bits : Nat} (s : SpI b p v bits) : SpI b p (v + v) (bits ||| (bits <<< v)) := by
  refine ⟨Nat.dvd_add s.d s.d, lt_of_bits fun i h => ?_, fun i h => ?_⟩
  · rw [Nat.testBit_or, Nat.testBit_shiftLeft, bit_ge s.l (by omega), bit_ge s.l (by omega), Bool.and_false, Bool.or_false]
  · rw [Nat.testBit_or, Nat.testBit_shiftLeft]
    by_cases c : i < v
    · rw [s.h i c, decide_eq_false (by omega), Bool.false_and, Bool.or_false]
    · rw [bit_ge s.l (by omega), decide_eq_true (by omega), Bool.true_and, Bool.false_or, s.h (i - v) (by omega)]
      congr 1
      obtain ⟨k, rfl⟩ := s.d
      rw [Nat.sub_mul_mod (by omega)]
/-- the signs of m numbers from low on -/
structure WinAt (p b : Nat) (low : Int) (m w : Nat) : Prop where
  l : w < 2 ^ m
  h : ∀ i : Nat, i < m → w.testBit i = pat p b (low + i)
theorem win_of {b p m v bits : Nat} {low : Int} (hp : 0 < p) (hb : b < 2 ^ p) (s : SpI (turnN b p (0 - low)) p v bits) (hv : m ≤ v) : WinAt p b low m (bits &&& (2 ^ m - 1)) :=
  ⟨and_full, fun i h => by
    rw [and_full_bit h, s.h i (by omega), turn_bit hp hb _ (Nat.mod_lt _ hp)]
    have e := Nat.mod_add_div i p
    have : low + (i : Int) = (((i % p : Nat) : Int) - (0 - low)) + ((i / p : Nat) : Int) * p := by
      have e2 : ((i : Nat) : Int) = ((i % p + p * (i / p) : Nat) : Int) := by rw [e]
      rw [e2, Int.natCast_add, Int.natCast_mul, Int.mul_comm (p : Int)]
      omega
    rw [this, pat_add]⟩
theorem win_pat {p b m w : Nat} {low : Int} (h : WinAt p b low m w) {n : Int} (h1 : low ≤ n) (h2 : n < low + m) : pat m w (n - low) = pat p b n := by
  obtain ⟨i, e⟩ : ∃ i : Nat, n = low + i := ⟨(n - low).toNat, by omega⟩
  subst e
  rw [show low + (i : Int) - low = i by omega, pat_nat (by omega), h.h i (by omega)]
/-- two patterns that are alike at p + q numbers are alike -/
theorem alike {p b q c : Nat} (hp : 0 < p) (hq : 0 < q) (a : Int) (h : ∀ i : Nat, i < p + q → pat p b (a + i) = pat q c (a + i)) (n : Int) : pat p b n = pat q c n := by
  -- b has the period q, too
  have sh : ∀ m : Int, pat p b (m + q) = pat p b m := by
    intro m
    obtain ⟨i, k, hi, e⟩ : ∃ (i : Nat) (k : Int), i < p ∧ m = a + i + k * p := by
      refine ⟨((m - a) % (p : Int)).toNat, (m - a) / p, mod_lt' hp _, ?_⟩
      have h2 := Int.emod_nonneg (m - a) (show (p : Int) ≠ 0 by omega)
      have e := Int.emod_add_mul_ediv (m - a) p
      rw [Int.toNat_of_nonneg h2, Int.mul_comm ((m - a) / p)]
      omega
    subst e
    rw [show a + (i : Int) + k * p + q = (a + i + q) + k * p by omega, pat_add, pat_add]
    have e1 := h (i + q) (by omega)
    have e2 := h i (by omega)
    rw [show a + ((i + q : Nat) : Int) = a + i + q by omega] at e1
    rw [e1, pat_one, e2]
  obtain ⟨i, k, hi, e⟩ : ∃ (i : Nat) (k : Int), i < q ∧ n = a + i + k * q := by
    refine ⟨((n - a) % (q : Int)).toNat, (n - a) / q, mod_lt' hq _, ?_⟩
    have h2 := Int.emod_nonneg (n - a) (show (q : Int) ≠ 0 by omega)
    have e := Int.emod_add_mul_ediv (n - a) q
    rw [Int.toNat_of_nonneg h2, Int.mul_comm ((n - a) / q)]
    omega
  have shk : ∀ (k : Nat) (m : Int), pat p b (m + k * q) = pat p b m := by
    intro k
    induction k with
    | zero => intro m; simp
    | succ k ih =>
      intro m
      rw [show m + ((k + 1 : Nat) : Int) * q = (m + k * q) + q by rw [Int.natCast_add, Int.add_mul]; simp; omega, sh, ih]
  subst e
  rw [pat_add]
  have e2 := h i (by omega)
  rw [← e2]
  rcases Int.le_total 0 k with hk | hk
  · obtain ⟨j, rfl⟩ : ∃ j : Nat, k = j := ⟨k.toNat, by omega⟩
    exact shk j _
  · obtain ⟨j, rfl⟩ : ∃ j : Nat, k = -(j : Int) := ⟨(-k).toNat, by omega⟩
    have := shk j (a + i + -(j : Int) * q)
    rw [show a + (i : Int) + -(j : Int) * q + j * q = a + i by rw [Int.neg_mul]; omega] at this
    exact this.symm
end L2.Ln
end

section
set_option Elab.async false
set_option linter.all false
set_option maxHeartbeats 400000
namespace L2.Ln
/-! the lowest sign, the highest sign -/
theorem and_even (m n : Nat) : (2 * m) &&& (2 * n + 1) = 2 * (m &&& n) := by
  apply Nat.eq_of_testBit_eq
  intro i
  rw [Nat.testBit_and]
  cases i with
  | zero => simp [Nat.testBit_zero]
  | succ i =>
    rw [Nat.testBit_succ, Nat.testBit_succ, Nat.testBit_succ, show 2 * m / 2 = m by omega, show (2 * n + 1) / 2 = n by omega, show 2 * (m &&& n) / 2 = m &&& n by omega, Nat.testBit_and]
theorem and_odd (m : Nat) : (2 * m + 1) &&& (2 * m) = 2 * m := by
  apply Nat.eq_of_testBit_eq
  intro i
  rw [Nat.testBit_and]
  cases i with
  | zero => simp [Nat.testBit_zero]
  | succ i => rw [Nat.testBit_succ, Nat.testBit_succ, show (2 * m + 1) / 2 = m by omega, show 2 * m / 2 = m by omega, Bool.and_self]
theorem low_ex : ∀ (a : Nat), a ≠ 0 → ∃ k, a - (a &&& (a - 1)) = 2 ^ k ∧ a.testBit k = true ∧ ∀ i, i < k → a.testBit i = false := by
  intro a
  induction a using Nat.strongRecOn with
  | ind a ih =>
    intro h
    by_cases c : a % 2 = 1
    · obtain ⟨m, rfl⟩ : ∃ m, a = 2 * m + 1 := ⟨a / 2, by omega⟩
      refine ⟨0, ?_, ?_, fun i hi => absurd hi (Nat.not_lt_zero i)⟩
      · rw [show 2 * m + 1 - 1 = 2 * m by omega, and_odd]
        omega
      · rw [Nat.testBit_zero]
        exact decide_eq_true (by omega)
    · obtain ⟨m, rfl⟩ : ∃ m, a = 2 * m := ⟨a / 2, by omega⟩
      obtain ⟨k, h1, h2, h3⟩ := ih m (by omega) (by omega)
      refine ⟨k + 1, ?_, ?_, ?_⟩
      · rw [show 2 * m - 1 = 2 * (m - 1) + 1 by omega, and_even, Nat.pow_succ, ← h1]
        have : m &&& (m - 1) ≤ m := Nat.and_le_left
        omega
      · rw [Nat.testBit_succ, show 2 * m / 2 = m by omega]
        exact h2
      · intro i hi
        cases i with
        | zero =>
          rw [Nat.testBit_zero]
          exact decide_eq_false (by omega)
        | succ i =>
          rw [Nat.testBit_succ, show 2 * m / 2 = m by omega]
          exact h3 i (by omega)
/-- how many signs a number has -/
def lenN (a : Nat) : Nat := if a = 0 then 0 else a.log2 + 1
theorem len_pow (k : Nat) : lenN (2 ^ k) = k + 1 := by
  unfold lenN
  rw [if_neg (Nat.pos_iff_ne_zero.mp (Nat.two_pow_pos k)), Nat.log2_two_pow]
theorem len_top {a : Nat} (h : a ≠ 0) : ∃ k, lenN a = k + 1 ∧ a.testBit k = true ∧ ∀ i, k < i → a.testBit i = false := by
  refine ⟨a.log2, if_neg h, ?_, fun i hi => ?_⟩
  · exact Nat.testBit_of_two_pow_le_and_two_pow_add_one_gt (Nat.log2_self_le h) Nat.lt_log2_self
  · exact Nat.testBit_lt_two_pow (Nat.lt_of_lt_of_le Nat.lt_log2_self (Nat.pow_le_pow_right (by decide) hi))
theorem len_lt {a p : Nat} (h : a < 2 ^ p) : lenN a ≤ p := by
  by_cases z : a = 0
  · rw [z]
    exact Nat.zero_le _
  · obtain ⟨k, e, hk, _⟩ := len_top z
    rw [e]
    exact bit_lt hk h
/-! the next number, the last number -/
theorem bits_ex {a : Nat} (h : a ≠ 0) : ∃ i, a.testBit i = true := by
  obtain ⟨k, _, hk, _⟩ := len_top h
  exact ⟨k, hk⟩
theorem turn_ne {p b : Nat} (hp : 0 < p) (hb : b < 2 ^ p) (h : b ≠ 0) (k : Int) : turnN b p k ≠ 0 := by
  intro z
  obtain ⟨i, hi⟩ := bits_ex h
  have lt := bit_lt hi hb
  have e := turn_pat hp hb k (i + k)
  rw [z] at e
  rw [show ((i : Int) + k - k) = i by omega, pat_nat lt, hi] at e
  unfold pat at e
  rw [Nat.zero_testBit] at e
  exact nomatch e
/-- the signs of b that stand -/
structure NextAt (p b : Nat) (n r : Int) : Prop where
  ge : n ≤ r
  lt : r < n + p
  on : pat p b r = true
  off : ∀ m, n ≤ m → m < r → pat p b m = false
theorem next_of {p b : Nat} (hp : 0 < p) (hb : b < 2 ^ p) (h : b ≠ 0) (n : Int) {k : Nat} (e : turnN b p (0 - n) - (turnN b p (0 - n) &&& (turnN b p (0 - n) - 1)) = 2 ^ k) : NextAt p b n (n + k) := by
  have z := turn_ne hp hb h (0 - n)
  obtain ⟨j, h1, h2, h3⟩ := low_ex _ z
  rw [h1] at e
  obtain rfl : j = k := by
    have e := congrArg Nat.log2 e
    rwa [Nat.log2_two_pow, Nat.log2_two_pow] at e
  have lt := bit_lt h2 (turn_lt b p (0 - n))
  refine ⟨by omega, by omega, ?_, fun m hm1 hm2 => ?_⟩
  · rw [turn_bit hp hb _ lt] at h2
    rwa [show ((j : Int) - (0 - n)) = n + j by omega] at h2
  · obtain ⟨i, rfl⟩ : ∃ i : Nat, m = n + i := ⟨(m - n).toNat, by omega⟩
    have := h3 i (by omega)
    rw [turn_bit hp hb _ (by omega)] at this
    rwa [show ((i : Int) - (0 - n)) = n + i by omega] at this
structure LastAt (p b : Nat) (n r : Int) : Prop where
  le : r ≤ n
  gt : n - p < r
  on : pat p b r = true
  off : ∀ m, r < m → m ≤ n → pat p b m = false
theorem last_of {p b : Nat} (hp : 0 < p) (hb : b < 2 ^ p) (h : b ≠ 0) (n : Int) : LastAt p b n (n - p + lenN (turnN b p (0 - n - 1))) := by
  have z := turn_ne hp hb h (0 - n - 1)
  obtain ⟨k, e, h2, h3⟩ := len_top z
  rw [e]
  have lt := bit_lt h2 (turn_lt b p (0 - n - 1))
  refine ⟨by omega, by omega, ?_, fun m hm1 hm2 => ?_⟩
  · rw [turn_bit hp hb _ lt] at h2
    rw [← pat_one, show n - (p : Int) + ((k + 1 : Nat) : Int) + p = (k : Int) - (0 - n - 1) by omega]
    exact h2
  · obtain ⟨i, rfl⟩ : ∃ i : Nat, m = n - p + ((i + 1 : Nat) : Int) := ⟨(m - (n - p)).toNat - 1, by omega⟩
    have := h3 i (by omega)
    rw [turn_bit hp hb _ (by omega)] at this
    rw [← pat_one, show n - (p : Int) + ((i + 1 : Nat) : Int) + p = (i : Int) - (0 - n - 1) by omega]
    exact this
/-! repeated, reduced -/
theorem xor_zero {a b m : Nat} : ((a ^^^ b) &&& (2 ^ m - 1)) = 0 ↔ ∀ i, i < m → a.testBit i = b.testBit i := by
  constructor
  · intro h i hi
    have e : ((a ^^^ b) &&& (2 ^ m - 1)).testBit i = false := by rw [h, Nat.zero_testBit]
    rw [and_full_bit hi, Nat.testBit_xor] at e
    cases ha : a.testBit i <;> cases hb : b.testBit i <;> rw [ha, hb] at e <;> first | rfl | exact nomatch e
  · intro h
    apply Nat.eq_of_testBit_eq
    intro i
    rw [Nat.zero_testBit]
    by_cases c : i < m
    · rw [and_full_bit c, Nat.testBit_xor, h i c, Bool.xor_self]
    · exact bit_ge and_full (Nat.le_of_not_lt c)
/-- b has the smaller period s -/
theorem repeat_pat {p b s : Nat} (hs : 0 < s) (hb : b < 2 ^ p) (d : s ∣ p) (h : ∀ i, i < p - s → b.testBit i = (b >>> s).testBit i) (n : Int) : pat s (b &&& (2 ^ s - 1)) n = pat p b n := by
  obtain ⟨k, rfl⟩ := d
  have st : ∀ (j i : Nat), i < s → i + j * s < s * k → b.testBit (i + j * s) = b.testBit i := by
    intro j
    induction j with
    | zero => intro i _ _; simp
    | succ j ih =>
      intro i hi hj
      rw [Nat.succ_mul] at hj ⊢
      have e := h (i + j * s) (by omega)
      rw [Nat.testBit_shiftRight, show s + (i + j * s) = i + (j * s + s) by omega] at e
      rw [← e]
      exact ih i hi (by omega)
  by_cases k0 : k = 0
  · subst k0
    have : b = 0 := by
      rw [Nat.mul_zero, Nat.pow_zero] at hb
      omega
    subst this
    unfold pat
    rw [Nat.zero_and, Nat.zero_testBit, Nat.zero_testBit]
  have pk : 0 < s * k := Nat.mul_pos hs (by omega)
  refine (pat_ext pk (fun i hi => ?_) (fun m => ?_) n).symm
  · rw [pat_nat hi]
    unfold pat
    have e1 : ((i : Int) % (s : Int)).toNat = i % s := by
      rw [← Int.natCast_emod, Int.toNat_natCast]
    rw [e1, and_full_bit (Nat.mod_lt _ hs)]
    have e2 := Nat.mod_add_div i s
    have := st (i / s) (i % s) (Nat.mod_lt _ hs) (by rw [Nat.mul_comm]; omega)
    rw [Nat.mul_comm (i / s), e2] at this
    exact this
  · have := pat_add (p := s) (b := b &&& (2 ^ s - 1)) m k
    rw [← this]
    congr 1
    rw [Int.natCast_mul, Int.mul_comm]
theorem full_pat {p : Nat} (hp : 0 < p) (n : Int) : pat p (2 ^ p - 1) n = true := by
  unfold pat
  rw [full_bit]
  exact decide_eq_true (mod_lt' hp n)
/-- a pattern in fewer signs -/
structure RedAt (p b p' b' : Nat) : Prop where
  d : p' ∣ p
  pos : 0 < p'
  l : b' < 2 ^ p'
  h : ∀ n, pat p' b' n = pat p b n
theorem red_0 {p b : Nat} (hp : 0 < p) (hb : b < 2 ^ p) : RedAt p b p b := ⟨Nat.dvd_refl p, hp, hb, fun _ => rfl⟩
theorem red_full {p b : Nat} (hp : 0 < p) (hb : b = 2 ^ p - 1) : RedAt p b 1 1 := ⟨Nat.one_dvd p, by decide, by decide, fun n => by
  rw [hb, full_pat hp]
  exact full_pat (p := 1) (by decide) n⟩
theorem red_S {p b q c r : Nat} (h : RedAt p b q c) (hr : 2 ≤ r) (d : r ∣ q) (hh : ∀ i, i < q - q / r → c.testBit i = (c >>> (q / r)).testBit i) : RedAt p b (q / r) (c &&& (2 ^ (q / r) - 1)) := by
  have hs : 0 < q / r := Nat.div_pos (Nat.le_of_dvd h.pos d) (by omega)
  refine ⟨Nat.dvd_trans (Nat.div_dvd_of_dvd d) h.d, hs, and_full, fun n => ?_⟩
  rw [repeat_pat hs h.l (Nat.div_dvd_of_dvd d) hh, h.h]
end L2.Ln
end

section
set_option Elab.async false
set_option linter.all false
set_option maxHeartbeats 400000
namespace L2.Ln
/-! periods -/
def Per (p b : Nat) (m : Int) : Prop := ∀ n, pat p b (n + m) = pat p b n
theorem per_p (p b : Nat) : Per p b p := pat_one
theorem per_add {p b : Nat} {m k : Int} (h : Per p b m) (h' : Per p b k) : Per p b (m + k) := fun n => by
  rw [← Int.add_assoc, h', h]
theorem per_neg {p b : Nat} {m : Int} (h : Per p b m) : Per p b (-m) := fun n => by
  have := h (n + -m)
  rwa [show n + -m + m = n by omega, eq_comm] at this
theorem per_nat {p b : Nat} {m : Int} (h : Per p b m) : ∀ k : Nat, Per p b (k * m)
  | 0 => fun n => by simp
  | k + 1 => by
    have e : ((k + 1 : Nat) : Int) * m = k * m + m := by
      rw [Int.natCast_add, Int.add_mul]
      simp
    rw [e]
    exact per_add (per_nat h k) h
theorem per_dvd {p b m k : Nat} (h : Per p b m) (d : m ∣ k) : Per p b k := by
  obtain ⟨c, rfl⟩ := d
  have := per_nat h c
  rwa [show ((m * c : Nat) : Int) = c * m by rw [Int.natCast_mul, Int.mul_comm]]
theorem per_gcd {p b : Nat} (m k : Nat) (h : Per p b m) (h' : Per p b k) : Per p b (Nat.gcd m k) := by
  induction m, k using Nat.gcd.induction with
  | H0 n =>
    rw [Nat.gcd_zero_left]
    exact h'
  | H1 m n hm ih =>
    rw [Nat.gcd_rec]
    refine ih ?_ h
    have e : ((n % m : Nat) : Int) = n + -(((n / m : Nat) : Int) * m) := by
      have := Nat.mod_add_div n m
      have e2 : (n : Int) = ((n % m + m * (n / m) : Nat) : Int) := by rw [this]
      rw [Int.natCast_add, Int.natCast_mul, Int.mul_comm] at e2
      omega
    rw [e]
    exact per_add h' (per_neg (per_nat h _))
theorem per_ext {p b q c : Nat} (h : ∀ n, pat p b n = pat q c n) {m : Int} (k : Per q c m) : Per p b m := fun n => by rw [h, h]; exact k n
/-! the primes of a number -/
structure PrI (N : Nat) (out : List Nat) (pr cur : Nat) : Prop where
  c0 : 0 < cur
  cd : cur ∣ N
  p2 : 2 ≤ pr
  sm : ∀ r, 2 ≤ r → r < pr → ¬ r ∣ cur
  o2 : ∀ r ∈ out, 2 ≤ r
  cov : ∀ d, 2 ≤ d → d ∣ N → (∃ r ∈ out, r ∣ d) ∨ d ∣ cur
/-- one of them is being taken out -/
structure PrJ (N : Nat) (out : List Nat) (pr cur : Nat) : Prop where
  i : PrI N out pr cur
  m : pr ∈ out ∨ ¬ pr ∣ cur
theorem prI_0 {N : Nat} (h : 0 < N) : PrI N [] 2 N := ⟨h, Nat.dvd_refl N, Nat.le_refl 2, fun r h1 h2 => by omega, (fun r h => nomatch h), fun d _ h => .inr h⟩
theorem prJ_A {N : Nat} {out : List Nat} {pr cur : Nat} (h : PrI N out pr cur) : PrJ N (out ++ [pr]) pr cur :=
  ⟨⟨h.c0, h.cd, h.p2, h.sm, fun r hr => by
    rcases List.mem_append.mp hr with hr | hr
    · exact h.o2 r hr
    · rw [List.mem_singleton.mp hr]
      exact h.p2, fun d d2 dn => (h.cov d d2 dn).imp (fun ⟨r, hr, e⟩ => ⟨r, List.mem_append.mpr (.inl hr), e⟩) id⟩, .inl (by simp)⟩
theorem prJ_B {N : Nat} {out : List Nat} {pr cur : Nat} (h : PrI N out pr cur) (n : ¬ pr ∣ cur) : PrJ N out pr cur := ⟨h, .inr n⟩
theorem prJ_S {N : Nat} {out : List Nat} {pr cur : Nat} (h : PrJ N out pr cur) (d : pr ∣ cur) : PrJ N out pr (cur / pr) := by
  have hm : pr ∈ out := h.m.resolve_right fun n => n d
  have i := h.i
  have p0 : 0 < pr := by have := i.p2; omega
  obtain ⟨c, rfl⟩ := d
  rw [Nat.mul_div_cancel_left c p0]
  have dc : c ∣ pr * c := Nat.dvd_mul_left c pr
  refine ⟨⟨Nat.pos_of_mul_pos_left i.c0 |> fun _ => Nat.pos_of_ne_zero (fun z => by
    have := i.c0
    rw [z] at this
    simp at this), Nat.dvd_trans dc i.cd, i.p2, fun r h1 h2 h3 => i.sm r h1 h2 (Nat.dvd_trans h3 dc), i.o2, fun e e2 en => ?_⟩, .inl hm⟩
  rcases i.cov e e2 en with k | k
  · exact .inl k
  · by_cases q : pr ∣ e
    · exact .inl ⟨pr, hm, q⟩
    · refine .inr ?_
      have cop : Nat.gcd e pr = 1 := by
        have g1 : Nat.gcd e pr ∣ pr := Nat.gcd_dvd_right e pr
        have g2 : Nat.gcd e pr ≤ pr := Nat.le_of_dvd p0 g1
        have g0 : 0 < Nat.gcd e pr := Nat.gcd_pos_of_pos_right e p0
        apply Classical.byContradiction
        intro ne
        by_cases gp : Nat.gcd e pr = pr
        · exact q (gp ▸ Nat.gcd_dvd_left e pr)
        · exact i.sm (Nat.gcd e pr) (by omega) (by omega) (Nat.dvd_trans g1 (Nat.dvd_mul_right pr c))
      exact Nat.Coprime.dvd_of_dvd_mul_left cop k
theorem prJ_end {N : Nat} {out : List Nat} {pr cur : Nat} (h : PrJ N out pr cur) (n : ¬ pr ∣ cur) : PrI N out (pr + 1) cur :=
  ⟨h.i.c0, h.i.cd, by have := h.i.p2; omega, fun r h1 h2 h3 => by
    by_cases e : r = pr
    · rw [e] at h3
      exact n h3
    · exact h.i.sm r h1 (by omega) h3, h.i.o2, h.i.cov⟩
/-- what divides N is divided by one of them -/
structure Cov (N : Nat) (out : List Nat) : Prop where
  o2 : ∀ r ∈ out, 2 ≤ r
  c : ∀ d, 2 ≤ d → d ∣ N → ∃ r ∈ out, r ∣ d
theorem cov_1 {N : Nat} {out : List Nat} {pr cur : Nat} (h : PrI N out pr cur) (l : cur < pr * pr) (c1 : 1 < cur) : Cov N (out ++ [cur]) := by
  refine ⟨fun r hr => ?_, fun d d2 dn => ?_⟩
  · rcases List.mem_append.mp hr with hr | hr
    · exact h.o2 r hr
    · rw [List.mem_singleton.mp hr]
      exact c1
  · rcases h.cov d d2 dn with ⟨r, hr, e⟩ | k
    · exact ⟨r, List.mem_append.mpr (.inl hr), e⟩
    · refine ⟨cur, by simp, ?_⟩
      obtain ⟨c, e⟩ := k
      have dp : pr ≤ d := by
        apply Classical.byContradiction
        intro z
        exact h.sm d d2 (by omega) ⟨c, e⟩
      have c01 : c < 2 := by
        apply Classical.byContradiction
        intro z
        have cp : pr ≤ c := by
          apply Classical.byContradiction
          intro y
          exact h.sm c (by omega) (by omega) ⟨d, by rw [Nat.mul_comm]; exact e⟩
        have := Nat.mul_le_mul dp cp
        omega
      have : c ≠ 0 := fun z => by
        rw [z] at e
        omega
      have : c = 1 := by omega
      rw [e, this, Nat.mul_one]
      exact Nat.dvd_refl d
theorem cov_0 {N : Nat} {out : List Nat} {pr cur : Nat} (h : PrI N out pr cur) (c1 : ¬ 1 < cur) : Cov N out :=
  ⟨h.o2, fun d d2 dn => (h.cov d d2 dn).resolve_right fun k => by
    have := Nat.le_of_dvd h.c0 k
    omega⟩
/-! the smallest period -/
structure MinAt (p b p' b' : Nat) : Prop where
  r : RedAt p b p' b'
  m : ∀ k : Nat, 0 < k → Per p b k → p' ∣ k
/-- the periods r are out -/
structure RdI (p b q c : Nat) (done : List Nat) : Prop where
  r : RedAt p b q c
  o : ∀ x ∈ done, ¬ (x ∣ q ∧ Per p b ((q / x : Nat) : Int))
theorem rep_iff {p b q c r : Nat} (h : RedAt p b q c) (hr : 2 ≤ r) (d : r ∣ q) : (∀ i, i < q - q / r → c.testBit i = (c >>> (q / r)).testBit i) ↔ Per p b ((q / r : Nat) : Int) := by
  have hs : 0 < q / r := Nat.div_pos (Nat.le_of_dvd h.pos d) (by omega)
  constructor
  · intro k n
    have e := repeat_pat hs h.l (Nat.div_dvd_of_dvd d) k
    rw [← h.h, ← h.h, ← e, ← e, pat_one]
  · intro k i hi
    rw [Nat.testBit_shiftRight]
    have e := k i
    rw [← h.h, ← h.h, show ((i : Int) + ((q / r : Nat) : Int)) = ((q / r + i : Nat) : Int) by omega, pat_nat (by omega), pat_nat (by omega)] at e
    exact e.symm
theorem rdI_S {p b q c r : Nat} {done : List Nat} (h : RdI p b q c done) (hr : 2 ≤ r) (d : r ∣ q) (k : Per p b ((q / r : Nat) : Int)) : RdI p b (q / r) (c &&& (2 ^ (q / r) - 1)) done := by
  have hh := (rep_iff h.r hr d).mpr k
  refine ⟨red_S h.r hr d hh, fun x hx ⟨x1, x2⟩ => h.o x hx ?_⟩
  have dq : q / r ∣ q := Nat.div_dvd_of_dvd d
  have x0 : 0 < x := Nat.pos_of_ne_zero fun z => by
    rw [z] at x1
    have := Nat.eq_zero_of_zero_dvd x1
    have hs : 0 < q / r := Nat.div_pos (Nat.le_of_dvd h.r.pos d) (by omega)
    omega
  refine ⟨Nat.dvd_trans x1 dq, per_dvd x2 ?_⟩
  obtain ⟨y, e⟩ := x1
  obtain ⟨z, e2⟩ := dq
  rw [e, Nat.mul_div_cancel_left y x0]
  rw [e2, e, Nat.mul_assoc, Nat.mul_div_cancel_left _ x0]
  exact Nat.dvd_mul_right y z
theorem rdI_end {p b q c r : Nat} {done : List Nat} (h : RdI p b q c done) (k : ¬ (r ∣ q ∧ Per p b ((q / r : Nat) : Int))) : RdI p b q c (done ++ [r]) :=
  ⟨h.r, fun x hx => by
    rcases List.mem_append.mp hx with hx | hx
    · exact h.o x hx
    · rw [List.mem_singleton.mp hx]
      exact k⟩
theorem min_of {p b q c : Nat} {ps : List Nat} (h : RdI p b q c ps) (cv : Cov p ps) : MinAt p b q c := by
  refine ⟨h.r, fun k k0 pk => ?_⟩
  have pq : Per p b q := fun n => by
    rw [← h.r.h, ← h.r.h, pat_one]
  have pg := per_gcd k q pk pq
  have gq : Nat.gcd k q ∣ q := Nat.gcd_dvd_right k q
  have gk : Nat.gcd k q ∣ k := Nat.gcd_dvd_left k q
  have g0 : 0 < Nat.gcd k q := Nat.gcd_pos_of_pos_left q k0
  by_cases e : Nat.gcd k q = q
  · rw [← e]
    exact gk
  · exfalso
    obtain ⟨y, hy⟩ := gq
    generalize Nat.gcd k q = g at *
    have q0 := h.r.pos
    have y2 : 2 ≤ y := by
      apply Classical.byContradiction
      intro z
      have : y = 0 ∨ y = 1 := by omega
      rcases this with rfl | rfl
      · omega
      · omega
    obtain ⟨r, hr, x, hx⟩ := cv.c y y2 (Nat.dvd_trans ⟨g, by rw [Nat.mul_comm]; exact hy⟩ h.r.d)
    have r2 := cv.o2 r hr
    refine h.o r hr ⟨⟨g * x, by rw [hy, hx, Nat.mul_left_comm]⟩, per_dvd pg ⟨x, ?_⟩⟩
    rw [hy, hx, Nat.mul_left_comm, Nat.mul_div_cancel_left _ (by omega)]
theorem min_full {p b : Nat} (hp : 0 < p) (hb : b = 2 ^ p - 1) : MinAt p b 1 1 := ⟨red_full hp hb, fun k _ _ => Nat.one_dvd k⟩
end L2.Ln
end

section
set_option Elab.async false
set_option linter.all false
set_option maxHeartbeats 400000
namespace L2.Ln
/-! rows -/
structure Rw where
  lo : Option Int
  hi : Option Int
  p : Nat
  b : Nat
def Ge (o : Option Int) (n : Int) : Prop := ∀ l, o = some l → l ≤ n
def Le (o : Option Int) (n : Int) : Prop := ∀ h, o = some h → n ≤ h
def Rw.In (r : Rw) (n : Int) : Prop := Ge r.lo n ∧ Le r.hi n ∧ pat r.p r.b n = true
theorem ge_none (n : Int) : Ge none n := fun _ e => nomatch e
theorem le_none (n : Int) : Le none n := fun _ e => nomatch e
theorem ge_some {l n : Int} : Ge (some l) n ↔ l ≤ n := ⟨fun h => h l rfl, fun h _ e => by cases e; exact h⟩
theorem le_some {h n : Int} : Le (some h) n ↔ n ≤ h := ⟨fun k => k h rfl, fun k _ e => by cases e; exact k⟩
structure Rw.Ok (r : Rw) : Prop where
  p0 : 0 < r.p
  bl : r.b < 2 ^ r.p
  le : ∀ l h, r.lo = some l → r.hi = some h → l ≤ h
/-- a neat row -/
structure Nt (r : Rw) : Prop where
  ok : r.Ok
  lom : ∀ l, r.lo = some l → r.In l
  him : ∀ h, r.hi = some h → r.In h
  ex : r.b ≠ 0
  mn : ∀ k : Nat, 0 < k → Per r.p r.b k → r.p ∣ k
  fin : ∀ l h, r.lo = some l → r.hi = some h → (r.p : Int) ≤ h - l + 1
/-- what trimmed makes of a row -/
def TrimR (r : Rw) : Option Rw → Prop
  | none => ∀ n, ¬ r.In n
  | some s => Nt s ∧ (∀ n, s.In n ↔ r.In n) ∧ (r.lo = none → s.lo = none) ∧ (r.hi = none → s.hi = none) ∧ (∀ l, r.lo = some l → ∃ l', s.lo = some l' ∧ l ≤ l' ∧ l' < l + r.p) ∧ (∀ h, r.hi = some h → ∃ h', s.hi = some h' ∧ h' ≤ h ∧ h - r.p < h') ∧ (s.p ∣ r.p ∨ ∃ l h, s.lo = some l ∧ s.hi = some h ∧ h - l + 1 < r.p)
theorem pat_zero (p : Nat) (n : Int) : pat p 0 n = false := Nat.zero_testBit _
theorem trim_0 {r : Rw} (h : r.b = 0) : TrimR r none := fun n ⟨_, _, k⟩ => by
  rw [h, pat_zero] at k
  exact nomatch k
/-- the ends drawn in -/
structure Ends (r : Rw) (lo hi : Option Int) : Prop where
  l : ∀ l, r.lo = some l → ∃ l', lo = some l' ∧ NextAt r.p r.b l l'
  h : ∀ h, r.hi = some h → ∃ h', hi = some h' ∧ LastAt r.p r.b h h'
  ln : r.lo = none → lo = none
  hn : r.hi = none → hi = none
theorem ends_in {r : Rw} {lo hi : Option Int} (e : Ends r lo hi) (n : Int) : (Ge lo n ∧ Le hi n ∧ pat r.p r.b n = true) ↔ r.In n := by
  constructor
  · rintro ⟨h1, h2, h3⟩
    refine ⟨fun l hl => ?_, fun h hh => ?_, h3⟩
    · obtain ⟨l', rfl, k⟩ := e.l l hl
      have := ge_some.mp h1
      have := k.ge
      omega
    · obtain ⟨h', rfl, k⟩ := e.h h hh
      have := le_some.mp h2
      have := k.le
      omega
  · rintro ⟨h1, h2, h3⟩
    refine ⟨fun l hl => ?_, fun h hh => ?_, h3⟩
    · cases hr : r.lo with
      | none =>
        rw [e.ln hr] at hl
        exact nomatch hl
      | some l0 =>
        obtain ⟨l', rfl, k⟩ := e.l l0 hr
        cases hl
        have g := ge_some.mp (hr ▸ h1)
        apply Classical.byContradiction
        intro z
        have := k.off n g (by omega)
        rw [h3] at this
        exact nomatch this
    · cases hr : r.hi with
      | none =>
        rw [e.hn hr] at hh
        exact nomatch hh
      | some h0 =>
        obtain ⟨h', rfl, k⟩ := e.h h0 hr
        cases hh
        have g := le_some.mp (hr ▸ h2)
        apply Classical.byContradiction
        intro z
        have := k.off n (by omega) g
        rw [h3] at this
        exact nomatch this
/-- nothing between the ends -/
theorem trim_1 {r : Rw} {l h : Int} (e : Ends r (some l) (some h)) (c : h - l + 1 < 1) : TrimR r none := fun n k => by
  obtain ⟨h1, h2, _⟩ := (ends_in e n).mpr k
  have := ge_some.mp h1
  have := le_some.mp h2
  omega
/-- the pattern p1, b1 serves between the ends -/
structure Srv (r : Rw) (lo hi : Option Int) (p1 b1 : Nat) : Prop where
  p0 : 0 < p1
  bl : b1 < 2 ^ p1
  s : ∀ n, Ge lo n → Le hi n → pat p1 b1 n = pat r.p r.b n
  f : ∀ l h, lo = some l → hi = some h → (p1 : Int) ≤ h - l + 1
  i : p1 = r.p ∨ ∃ l h, lo = some l ∧ hi = some h ∧ h - l + 1 < r.p
theorem trim_2 {r : Rw} {lo hi : Option Int} {p1 b1 p2 b2 : Nat} (e : Ends r lo hi) (ne : r.b ≠ 0) (ok : r.Ok) (le : ∀ l h, lo = some l → hi = some h → l ≤ h) (s : Srv r lo hi p1 b1) (m : MinAt p1 b1 p2 b2) : TrimR r (some ⟨lo, hi, p2, b2⟩) := by
  have hin : ∀ n, (⟨lo, hi, p2, b2⟩ : Rw).In n ↔ r.In n := fun n => by
    rw [← ends_in e n]
    constructor
    · rintro ⟨h1, h2, h3⟩
      have h3 : pat p2 b2 n = true := h3
      refine ⟨h1, h2, ?_⟩
      rw [← s.s n h1 h2, ← m.r.h]
      exact h3
    · rintro ⟨h1, h2, h3⟩
      refine ⟨h1, h2, ?_⟩
      show pat p2 b2 n = true
      rw [m.r.h, s.s n h1 h2]
      exact h3
  have dl : p2 ≤ p1 := Nat.le_of_dvd s.p0 m.r.d
  have lm : ∀ l, lo = some l → r.In l := fun l hl => by
    rw [← ends_in e l]
    cases hr : r.lo with
    | none =>
      rw [e.ln hr] at hl
      exact nomatch hl
    | some l0 =>
      obtain ⟨l', e1, k⟩ := e.l l0 hr
      rw [hl] at e1
      cases e1
      exact ⟨fun x hx => by rw [hl] at hx; cases hx; exact Int.le_refl _, fun x hx => le l x hl hx, k.on⟩
  have hm : ∀ h, hi = some h → r.In h := fun h hh => by
    rw [← ends_in e h]
    cases hr : r.hi with
    | none =>
      rw [e.hn hr] at hh
      exact nomatch hh
    | some h0 =>
      obtain ⟨h', e1, k⟩ := e.h h0 hr
      rw [hh] at e1
      cases e1
      exact ⟨fun x hx => le x h hx hh, fun x hx => by rw [hh] at hx; cases hx; exact Int.le_refl _, k.on⟩
  refine ⟨⟨⟨m.r.pos, m.r.l, le⟩, fun l hl => (hin l).mpr (lm l hl), fun h hh => (hin h).mpr (hm h hh), ?_, ?_, ?_⟩, hin, e.ln, e.hn, ?_, ?_, ?_⟩
  · intro z
    have z : b2 = 0 := z
    -- some number is in r
    obtain ⟨i, hi0⟩ := bits_ex ne
    have ip := bit_lt hi0 ok.bl
    have none_in : ∀ n, ¬ r.In n := fun n k => by
      have := ((hin n).mpr k).2.2
      have this : pat p2 b2 n = true := this
      rw [z, pat_zero] at this
      exact nomatch this
    cases hl : lo with
    | some l => exact none_in l (lm l hl)
    | none =>
      cases hh : hi with
      | some h => exact none_in h (hm h hh)
      | none =>
        refine none_in i ((ends_in e i).mp ⟨hl ▸ ge_none _, hh ▸ le_none _, ?_⟩)
        rw [pat_nat ip]
        exact hi0
  · intro k k0 pk
    exact m.m k k0 (per_ext (fun n => (m.r.h n).symm) pk)
  · intro l h hl hh
    have := s.f l h hl hh
    show (p2 : Int) ≤ h - l + 1
    omega
  · intro l hl
    obtain ⟨l', e1, k⟩ := e.l l hl
    exact ⟨l', e1, k.ge, k.lt⟩
  · intro h hh
    obtain ⟨h', e1, k⟩ := e.h h hh
    exact ⟨h', e1, k.le, k.gt⟩
  · rcases s.i with e1 | k
    · refine .inl ?_
      show p2 ∣ r.p
      rw [← e1]
      exact m.r.d
    · exact .inr k
/-- as many signs as numbers -/
theorem srv_win {r : Rw} {l h : Int} {m w : Nat} (hm : (m : Int) = h - l + 1) (m0 : 0 < m) (mp : m < r.p) (W : WinAt r.p r.b l m w) : Srv r (some l) (some h) m (turnN w m l) :=
  ⟨m0, turn_lt w m l, fun n h1 h2 => by
    have := ge_some.mp h1
    have := le_some.mp h2
    rw [turn_pat m0 W.l, win_pat W (by omega) (by omega)],
  fun l' h' e1 e2 => by cases e1; cases e2; omega, .inr ⟨l, h, rfl, rfl, by omega⟩⟩
theorem srv_same {r : Rw} {lo hi : Option Int} (ok : r.Ok) (f : ∀ l h, lo = some l → hi = some h → (r.p : Int) ≤ h - l + 1) : Srv r lo hi r.p r.b := ⟨ok.p0, ok.bl, fun _ _ _ => rfl, f, .inl rfl⟩
/-! lists of rows -/
def InL (rs : List Rw) (n : Int) : Prop := ∃ r ∈ rs, r.In n
def Bef (r s : Rw) : Prop := ∃ h l, r.hi = some h ∧ s.lo = some l ∧ h < l
structure NtL (rs : List Rw) : Prop where
  nt : ∀ r ∈ rs, Nt r
  so : rs.Pairwise Bef
theorem ntl_nil : NtL [] := ⟨(fun _ h => nomatch h), .nil⟩
theorem inL_app {a b : List Rw} {n : Int} : InL (a ++ b) n ↔ (InL a n ∨ InL b n) := by
  unfold InL
  simp only [List.mem_append]
  constructor
  · rintro ⟨r, h | h, k⟩
    · exact .inl ⟨r, h, k⟩
    · exact .inr ⟨r, h, k⟩
  · rintro (⟨r, h, k⟩ | ⟨r, h, k⟩)
    · exact ⟨r, .inl h, k⟩
    · exact ⟨r, .inr h, k⟩
theorem inL_one {r : Rw} {n : Int} : InL [r] n ↔ r.In n := by
  unfold InL
  simp
theorem inL_cons {r : Rw} {rs : List Rw} {n : Int} : InL (r :: rs) n ↔ (r.In n ∨ InL rs n) := by
  unfold InL
  simp
/-! ends near some numbers, the centres -/
structure Zn where
  cs : List Int
  w : Int
def Zn.near (Z : Zn) (c e : Int) : Prop := c - Z.w ≤ e ∧ e ≤ c + Z.w
def Zn.Has (Z : Zn) (e : Int) : Prop := ∃ c ∈ Z.cs, Z.near c e
def Zn.up (Z : Zn) (k : Int) : Zn := ⟨Z.cs, Z.w + k⟩
/-- the centres are far from one another -/
structure Zn.Ok (Z : Zn) (L : Nat) : Prop where
  wb : 2 * Z.w + 1 ≤ 2520
  L0 : 0 < L
  Lb : L ≤ 2520
  far : ∀ c ∈ Z.cs, ∀ d ∈ Z.cs, c = d ∨ c + 20000 ≤ d ∨ d + 20000 ≤ c
  cl : Z.cs.length ≤ 6
theorem Zn.Ok.one {Z : Zn} {L : Nat} (k : Z.Ok L) {c d e f : Int} (hc : c ∈ Z.cs) (hd : d ∈ Z.cs) (ne : Z.near c e) (nf : Z.near d f) (h1 : e ≤ f + 10000) (h2 : f ≤ e + 10000) : c = d := by
  have wb := k.wb
  obtain ⟨a1, a2⟩ := ne
  obtain ⟨b1, b2⟩ := nf
  rcases k.far c hc d hd with h | h | h
  · exact h
  · omega
  · omega
theorem Zn.Ok.down {Z : Zn} {L : Nat} {k : Int} (h : (Z.up k).Ok L) (k0 : 0 ≤ k) : Z.Ok L := ⟨by have := h.wb; have e : (Z.up k).w = Z.w + k := rfl; omega, h.L0, h.Lb, h.far, h.cl⟩
/-- both ends near one centre -/
def Cl (Z : Zn) (c : Int) (r : Rw) : Prop := ∃ l h, r.lo = some l ∧ r.hi = some h ∧ Z.near c l ∧ Z.near c h
/-- all ends near the centres; a period divides L, or both ends are near one of them -/
structure Lm (Z : Zn) (L : Nat) (r : Rw) : Prop where
  l : ∀ l, r.lo = some l → Z.Has l
  h : ∀ h, r.hi = some h → Z.Has h
  pd : r.p ∣ L ∨ ∃ c ∈ Z.cs, Cl Z c r
theorem lm_p {Z : Zn} {L : Nat} {r : Rw} (k : Z.Ok L) (n : Nt r) (m : Lm Z L r) : r.p ≤ 2520 := by
  rcases m.pd with d | ⟨c, _, l, h, e1, e2, ⟨a1, a2⟩, b1, b2⟩
  · exact Nat.le_trans (Nat.le_of_dvd k.L0 d) k.Lb
  · have := n.fin l h e1 e2
    have := k.wb
    omega
/-- what is not long has both ends near one centre -/
theorem lm_short {Z : Zn} {L : Nat} {r : Rw} (k : Z.Ok L) (m : Lm Z L r) {l h : Int} (e1 : r.lo = some l) (e2 : r.hi = some h) (le : l ≤ h) (s : h - l ≤ 10000) : ∃ c ∈ Z.cs, Cl Z c r := by
  obtain ⟨c, hc, n1⟩ := m.l l e1
  obtain ⟨d, hd, n2⟩ := m.h h e2
  obtain rfl := k.one hc hd n1 n2 (by omega) (by omega)
  exact ⟨c, hc, l, h, e1, e2, n1, n2⟩
/-- more centres, further ends -/
structure Zn.Sub (Z Z' : Zn) : Prop where
  c : ∀ c ∈ Z.cs, c ∈ Z'.cs
  w : Z.w ≤ Z'.w
  l : Z.cs.length ≤ Z'.cs.length
theorem Zn.near_sub {Z Z' : Zn} (s : Z.Sub Z') {c e : Int} (h : Z.near c e) : Z'.near c e := ⟨by have := s.w; have := h.1; omega, by have := s.w; have := h.2; omega⟩
theorem Zn.has_sub {Z Z' : Zn} (s : Z.Sub Z') {e : Int} (h : Z.Has e) : Z'.Has e := let ⟨c, hc, n⟩ := h; ⟨c, s.c c hc, Zn.near_sub s n⟩
theorem Lm.sub {Z Z' : Zn} (s : Z.Sub Z') {L : Nat} {r : Rw} (h : Lm Z L r) : Lm Z' L r :=
  ⟨fun l e => Zn.has_sub s (h.l l e), fun l e => Zn.has_sub s (h.h l e), h.pd.imp id fun ⟨c, hc, l, x, e1, e2, n1, n2⟩ => ⟨c, s.c c hc, l, x, e1, e2, Zn.near_sub s n1, Zn.near_sub s n2⟩⟩
theorem Zn.Ok.le {cs : List Int} {W W' : Int} {L : Nat} (h : (Zn.mk cs W').Ok L) (le : W ≤ W') : (Zn.mk cs W).Ok L := ⟨by have := h.wb; show 2 * W + 1 ≤ 2520; have e : (Zn.mk cs W').w = W' := rfl; omega, h.L0, h.Lb, h.far, h.cl⟩
/-- two rows drawn together -/
structure Within (one two : Rw) (out : List Rw) : Prop where
  nt : NtL out
  i : ∀ n, InL out n ↔ (one.In n ∨ two.In n)
  ln : ∀ r ∈ out, r.lo = none → one.lo = none
  hn : ∀ r ∈ out, r.hi = none → two.hi = none
  lm : ∀ (Z : Zn) (L : Nat), Z.Ok L → Lm Z L one → Lm Z L two → ∀ r ∈ out, Lm Z L r
  len : out.length = 1 ∨ out.length = 2
end L2.Ln
end

section
set_option Elab.async false
set_option linter.all false
set_option maxHeartbeats 400000
namespace L2.Ln
/-! where two patterns are not alike -/
section
variable {p b q c m w1 w2 : Nat} {low : Int}
theorem unl_bit (W1 : WinAt p b low m w1) (W2 : WinAt q c low m w2) {i : Nat} (h : i < m) : (w1 ^^^ w2).testBit i = (pat p b (low + i) != pat q c (low + i)) := by
  rw [Nat.testBit_xor, W1.h i h, W2.h i h]
theorem unl_lt (W1 : WinAt p b low m w1) (W2 : WinAt q c low m w2) : w1 ^^^ w2 < 2 ^ m := Nat.xor_lt_two_pow W1.l W2.l
theorem unl_0 (W1 : WinAt p b low m w1) (W2 : WinAt q c low m w2) (h : w1 ^^^ w2 = 0) {n : Int} (h1 : low ≤ n) (h2 : n < low + m) : pat p b n = pat q c n := by
  obtain ⟨i, rfl⟩ : ∃ i : Nat, n = low + i := ⟨(n - low).toNat, by omega⟩
  have e := unl_bit W1 W2 (i := i) (by omega)
  rw [h, Nat.zero_testBit] at e
  cases ha : pat p b (low + i) <;> cases hb : pat q c (low + i) <;> rw [ha, hb] at e <;> first | rfl | exact nomatch e
theorem unl_top (W1 : WinAt p b low m w1) (W2 : WinAt q c low m w2) (h : w1 ^^^ w2 ≠ 0) : ∃ k : Nat, lenN (w1 ^^^ w2) = k + 1 ∧ k < m ∧ pat p b (low + k) ≠ pat q c (low + k) ∧ ∀ n, low + k < n → n < low + m → pat p b n = pat q c n := by
  obtain ⟨k, e, hk, off⟩ := len_top h
  have lt := bit_lt hk (unl_lt W1 W2)
  refine ⟨k, e, lt, ?_, fun n h1 h2 => ?_⟩
  · rw [unl_bit W1 W2 lt] at hk
    intro z
    rw [z] at hk
    cases hx : pat q c (low + k) <;> rw [hx] at hk <;> exact nomatch hk
  · obtain ⟨i, rfl⟩ : ∃ i : Nat, n = low + i := ⟨(n - low).toNat, by omega⟩
    have e := off i (by omega)
    rw [unl_bit W1 W2 (by omega)] at e
    cases ha : pat p b (low + i) <;> cases hb : pat q c (low + i) <;> rw [ha, hb] at e <;> first | rfl | exact nomatch e
theorem unl_low (W1 : WinAt p b low m w1) (W2 : WinAt q c low m w2) {r : Int} (h : NextAt m (w1 ^^^ w2) 0 r) : 0 ≤ r ∧ r < m ∧ pat p b (r + low) ≠ pat q c (r + low) ∧ ∀ n, low ≤ n → n < r + low → pat p b n = pat q c n := by
  have g := h.ge
  have l := h.lt
  obtain ⟨k, rfl⟩ : ∃ k : Nat, r = k := ⟨r.toNat, by omega⟩
  refine ⟨g, by omega, ?_, fun n h1 h2 => ?_⟩
  · have on := h.on
    rw [pat_nat (by omega), unl_bit W1 W2 (by omega)] at on
    intro z
    rw [show low + (k : Int) = k + low by omega, z] at on
    cases hx : pat q c (k + low) <;> rw [hx] at on <;> exact nomatch on
  · obtain ⟨i, rfl⟩ : ∃ i : Nat, n = low + i := ⟨(n - low).toNat, by omega⟩
    have e := h.off i (by omega) (by omega)
    rw [pat_nat (by omega), unl_bit W1 W2 (by omega)] at e
    cases ha : pat p b (low + i) <;> cases hb : pat q c (low + i) <;> rw [ha, hb] at e <;> first | rfl | exact nomatch e
end
theorem nt_pos {r : Rw} (h : Nt r) : 0 < r.p := h.ok.p0
/-! two rows, one before the other -/
section
variable {one two : Rw}
theorem dd_same (h1 : Nt one) (h2 : Nt two) (b : Bef one two) : Within one two [one, two] := by
  obtain ⟨hh, ll, e1, e2, lt⟩ := b
  refine ⟨⟨fun r hr => ?_, ?_⟩, fun n => ?_, fun r hr e => ?_, fun r hr e => ?_, fun Z L k b1 b2 r hr => ?_, .inr rfl⟩
  · simp only [List.mem_cons, List.not_mem_nil, or_false] at hr
    rcases hr with rfl | rfl
    · exact h1
    · exact h2
  · refine .cons (fun s hs => ?_) (.cons (fun s hs => nomatch hs) .nil)
    rw [List.mem_singleton.mp hs]
    exact ⟨hh, ll, e1, e2, lt⟩
  · rw [inL_cons, inL_one]
  · simp only [List.mem_cons, List.not_mem_nil, or_false] at hr
    rcases hr with rfl | rfl
    · exact e
    · rw [e2] at e
      exact nomatch e
  · simp only [List.mem_cons, List.not_mem_nil, or_false] at hr
    rcases hr with rfl | rfl
    · rw [e1] at e
      exact nomatch e
    · exact e
  · simp only [List.mem_cons, List.not_mem_nil, or_false] at hr
    rcases hr with rfl | rfl
    · exact b1
    · exact b2
/-- a row that takes the pattern of a short one behind it -/
theorem down_pd (h1 : Nt one) (h2 : Nt two) {h l : Int} (eh : one.hi = some h) (el : two.lo = some l) (lt : h < l) (gap : ∀ n, h < n → n < l → pat two.p two.b n = false)
    (al : ∀ n, Ge one.lo n → n ≤ h → pat one.p one.b n = pat two.p two.b n) (inf : one.lo = none → ∀ n, pat one.p one.b n = pat two.p two.b n) {Z : Zn} {L : Nat} (k : Z.Ok L) (m1 : Lm Z L one) (m2 : Lm Z L two) :
    two.p ∣ L ∨ ∃ c ∈ Z.cs, ∃ lo hi, one.lo = some lo ∧ two.hi = some hi ∧ Z.near c lo ∧ Z.near c hi := by
  have wb := k.wb
  rcases m2.pd with d | ⟨c, hc, l2, x2, e3, e4, n3, n4⟩
  · exact .inl d
  · rw [el] at e3
    cases e3
    have q0 := h2.ok.p0
    have pl := h2.fin l x2 el e4
    have n3' := n3
    have n4' := n4
    obtain ⟨n31, n32⟩ := n3
    obtain ⟨n41, n42⟩ := n4
    have near : l - two.p ≤ h := by
      apply Classical.byContradiction
      intro z
      have g := gap (l - two.p) (by omega) (by omega)
      have e : pat two.p two.b (l - two.p + two.p) = pat two.p two.b (l - two.p) := per_p _ _ _
      rw [show l - (two.p : Int) + two.p = l by omega, (h2.lom l el).2.2, g] at e
      exact nomatch e
    obtain ⟨d, hd, nh⟩ := m1.h h eh
    obtain rfl := k.one hc hd n3' nh (by omega) (by omega)
    have pone : (∀ n, pat one.p one.b n = pat two.p two.b n) → one.p ∣ L → two.p ∣ L := fun e dv => Nat.dvd_trans (h2.mn one.p h1.ok.p0 (per_ext (fun n => (e n).symm) (per_p _ _))) dv
    cases e1 : one.lo with
    | none =>
      rcases m1.pd with dv | ⟨d, _, lo, _, e5, _⟩
      · exact .inl (pone (inf e1) dv)
      · rw [e1] at e5
        exact nomatch e5
    | some lo =>
      obtain ⟨d, hd, n5⟩ := m1.l lo e1
      have loh := h1.ok.le lo h e1 eh
      by_cases sh : h - lo ≤ 10000
      · obtain rfl := k.one hc hd nh n5 (by omega) (by omega)
        exact .inr ⟨c, hc, lo, x2, rfl, e4, n5, n4'⟩
      · refine .inl ?_
        rcases m1.pd with dv | ⟨d2, _, a1, a2, e5, e6, ⟨n6, n7⟩, n8, n9⟩
        · have p1 := Nat.le_trans (Nat.le_of_dvd k.L0 dv) k.Lb
          refine pone (alike h1.ok.p0 q0 lo fun i hi => al _ (fun y hy => ?_) (by omega)) dv
          rw [e1] at hy
          cases hy
          omega
        · rw [e1] at e5
          rw [eh] at e6
          cases e5
          cases e6
          omega
/-- the lower one takes the pattern of the upper one -/
theorem dd_merge (h1 : Nt one) (h2 : Nt two) {h l : Int} (eh : one.hi = some h) (el : two.lo = some l) (lt : h < l) (gap : ∀ n, h < n → n < l → pat two.p two.b n = false)
    (al : ∀ n, Ge one.lo n → n ≤ h → pat one.p one.b n = pat two.p two.b n) (inf : one.lo = none → ∀ n, pat one.p one.b n = pat two.p two.b n) : Within one two [⟨one.lo, two.hi, two.p, two.b⟩] := by
  have hin : ∀ n, (⟨one.lo, two.hi, two.p, two.b⟩ : Rw).In n ↔ (one.In n ∨ two.In n) := fun n => by
    constructor
    · rintro ⟨k1, k2, k3⟩
      have k3 : pat two.p two.b n = true := k3
      by_cases c : n ≤ h
      · refine .inl ⟨k1, fun x hx => by rw [eh] at hx; cases hx; exact c, ?_⟩
        rw [al n k1 c]
        exact k3
      · refine .inr ⟨fun x hx => ?_, k2, k3⟩
        rw [el] at hx
        cases hx
        apply Classical.byContradiction
        intro z
        have := gap n (by omega) (by omega)
        rw [k3] at this
        exact nomatch this
    · rintro (⟨k1, k2, k3⟩ | ⟨k1, k2, k3⟩)
      · have nh : n ≤ h := le_some.mp (eh ▸ k2)
        refine ⟨k1, fun x hx => ?_, ?_⟩
        · have := (h2.him x hx).1 l el
          omega
        · show pat two.p two.b n = true
          rw [← al n k1 nh]
          exact k3
      · have nl : l ≤ n := ge_some.mp (el ▸ k1)
        refine ⟨fun x hx => ?_, k2, k3⟩
        have := (h1.lom x hx).2.1 h eh
        omega
  refine ⟨⟨fun r hr => ?_, .cons (fun s hs => nomatch hs) .nil⟩, fun n => by rw [inL_one]; exact hin n, fun r hr e => ?_, fun r hr e => ?_, fun Z L k b1 b2 r hr => ?_, .inl rfl⟩
  · rw [List.mem_singleton.mp hr]
    refine ⟨⟨h2.ok.p0, h2.ok.bl, fun x y hx hy => ?_⟩, fun x hx => (hin x).mpr (.inl (h1.lom x hx)), fun x hx => (hin x).mpr (.inr (h2.him x hx)), h2.ex, h2.mn, fun x y hx hy => ?_⟩
    · have a1 := (h1.lom x hx).2.1 h eh
      have a2 := (h2.him y hy).1 l el
      omega
    · have a1 := (h1.lom x hx).2.1 h eh
      have := h2.fin l y el hy
      show (two.p : Int) ≤ y - x + 1
      omega
  · rw [List.mem_singleton.mp hr] at e
    exact e
  · rw [List.mem_singleton.mp hr] at e
    exact e
  · rw [List.mem_singleton.mp hr]
    exact ⟨b1.l, b2.h, down_pd h1 h2 eh el lt gap al inf k b1 b2⟩
/-- the upper one reaches down -/
theorem dd_cut (h1 : Nt one) (h2 : Nt two) {h l lo last l3 : Int} (eh : one.hi = some h) (el : two.lo = some l) (lt : h < l) (gap : ∀ n, h < n → n < l → pat two.p two.b n = false) (elo : one.lo = some lo) (sho : h - lo + 1 ≤ 5040) (lng : ∀ y, two.hi = some y → 5040 < y - l + 1)
    (c1 : lo ≤ last) (c2 : last ≤ h) (al : ∀ n, last < n → n ≤ h → pat one.p one.b n = pat two.p two.b n) {o : Option Rw} (tr : TrimR ⟨one.lo, some last, one.p, one.b⟩ o) (nx : NextAt two.p two.b (last + 1) l3) :
    Within one two (o.toList ++ [⟨some l3, two.hi, two.p, two.b⟩]) := by
  have l3l : l3 ≤ l := by
    apply Classical.byContradiction
    intro z
    have := nx.off l (by omega) (by omega)
    rw [(h2.lom l el).2.2] at this
    exact nomatch this
  have g3 := nx.ge
  have upI : ∀ n, (⟨some l3, two.hi, two.p, two.b⟩ : Rw).In n ↔ ((last < n ∧ one.In n) ∨ two.In n) := fun n => by
    constructor
    · rintro ⟨k1, k2, k3⟩
      have k1 : l3 ≤ n := ge_some.mp k1
      have k3 : pat two.p two.b n = true := k3
      by_cases c : n ≤ h
      · refine .inl ⟨by omega, fun x hx => by rw [elo] at hx; cases hx; omega, fun x hx => by rw [eh] at hx; cases hx; exact c, ?_⟩
        rw [al n (by omega) c]
        exact k3
      · refine .inr ⟨fun x hx => ?_, k2, k3⟩
        rw [el] at hx
        cases hx
        apply Classical.byContradiction
        intro z
        have := gap n (by omega) (by omega)
        rw [k3] at this
        exact nomatch this
    · rintro (⟨k0, k1, k2, k3⟩ | ⟨k1, k2, k3⟩)
      · have nh : n ≤ h := le_some.mp (eh ▸ k2)
        have k4 : pat two.p two.b n = true := by
          rw [← al n k0 nh]
          exact k3
        refine ⟨ge_some.mpr ?_, fun x hx => ?_, k4⟩
        · apply Classical.byContradiction
          intro z
          have := nx.off n (by omega) (by omega)
          rw [k4] at this
          exact nomatch this
        · have := (h2.him x hx).1 l el
          omega
      · have nl : l ≤ n := ge_some.mp (el ▸ k1)
        exact ⟨ge_some.mpr (by omega), k2, k3⟩
  have loI : ∀ n, (⟨one.lo, some last, one.p, one.b⟩ : Rw).In n ↔ (n ≤ last ∧ one.In n) := fun n => by
    constructor
    · rintro ⟨k1, k2, k3⟩
      have k2 : n ≤ last := le_some.mp k2
      exact ⟨k2, k1, fun x hx => by rw [eh] at hx; cases hx; omega, k3⟩
    · rintro ⟨k0, k1, k2, k3⟩
      exact ⟨k1, le_some.mpr k0, k3⟩
  have upN : Nt ⟨some l3, two.hi, two.p, two.b⟩ := by
    refine ⟨⟨h2.ok.p0, h2.ok.bl, fun x y hx hy => ?_⟩, fun x hx => ?_, fun x hx => (upI x).mpr (.inr (h2.him x hx)), h2.ex, h2.mn, fun x y hx hy => ?_⟩
    · cases hx
      have := (h2.him y hy).1 l el
      omega
    · cases hx
      exact ⟨ge_some.mpr (Int.le_refl _), fun y hy => by have := (h2.him y hy).1 l el; omega, nx.on⟩
    · cases hx
      have := h2.fin l y el hy
      show (two.p : Int) ≤ y - l3 + 1
      omega
  have lohh := h1.ok.le lo h elo eh
  have lmU : ∀ (Z : Zn) (L : Nat), Z.Ok L → Lm Z L one → Lm Z L two → Lm Z L ⟨some l3, two.hi, two.p, two.b⟩ := fun Z L k b1 b2 => by
    obtain ⟨c, hc, x1, x2, e1, e2, ⟨n1, n2⟩, n3, n4⟩ := lm_short k b1 elo eh lohh (by omega)
    rw [elo] at e1
    rw [eh] at e2
    cases e1
    cases e2
    refine ⟨fun x hx => ?_, b2.h, ?_⟩
    · cases hx
      by_cases z : l3 ≤ h
      · exact ⟨c, hc, by omega, by omega⟩
      · have e : l3 = l := by
          apply Classical.byContradiction
          intro y
          have := gap l3 (by omega) (by omega)
          rw [nx.on] at this
          exact nomatch this
        rw [e]
        exact b2.l l el
    · rcases b2.pd with d | ⟨c2, _, y1, y2, e1, e2, ⟨m1, m2⟩, m3, m4⟩
      · exact .inl d
      · exfalso
        have a := lng y2 e2
        rw [el] at e1
        cases e1
        have := k.wb
        omega
  cases o with
  | none =>
    refine ⟨⟨fun r hr => ?_, .cons (fun s hs => nomatch hs) .nil⟩, fun n => ?_, fun r hr e => ?_, fun r hr e => ?_, fun Z L k b1 b2 r hr => ?_, .inl rfl⟩
    · rw [List.mem_singleton.mp hr]
      exact upN
    · show InL [⟨some l3, two.hi, two.p, two.b⟩] n ↔ _
      rw [inL_one, upI n]
      constructor
      · rintro (⟨_, k⟩ | k)
        · exact .inl k
        · exact .inr k
      · rintro (k | k)
        · refine .inl ⟨?_, k⟩
          apply Classical.byContradiction
          intro z
          exact tr n ((loI n).mpr ⟨by omega, k⟩)
        · exact .inr k
    · rw [List.mem_singleton.mp hr] at e
      exact nomatch e
    · rw [List.mem_singleton.mp hr] at e
      exact e
    · rw [List.mem_singleton.mp hr]
      exact lmU Z L k b1 b2
  | some s =>
    obtain ⟨sn, si, _, _, sl, sh, _⟩ := tr
    obtain ⟨l', e1, g1, _⟩ := sl lo elo
    obtain ⟨h', e2, g2, _⟩ := sh last rfl
    refine ⟨⟨fun r hr => ?_, .cons (fun x hx => ?_) (.cons (fun s hs => nomatch hs) .nil)⟩, fun n => ?_, fun r hr e => ?_, fun r hr e => ?_, fun Z L k b1 b2 r hr => ?_, .inr rfl⟩
    · simp only [Option.toList, List.singleton_append, List.mem_cons, List.not_mem_nil, or_false] at hr
      rcases hr with rfl | rfl
      · exact sn
      · exact upN
    · rw [List.mem_singleton.mp hx]
      exact ⟨h', l3, e2, rfl, by omega⟩
    · show InL [s, ⟨some l3, two.hi, two.p, two.b⟩] n ↔ _
      rw [inL_cons, inL_one, upI n, si n, loI n]
      constructor
      · rintro (⟨_, k⟩ | ⟨_, k⟩ | k)
        · exact .inl k
        · exact .inl k
        · exact .inr k
      · rintro (k | k)
        · by_cases c : n ≤ last
          · exact .inl ⟨c, k⟩
          · exact .inr (.inl ⟨by omega, k⟩)
        · exact .inr (.inr k)
    · simp only [Option.toList, List.singleton_append, List.mem_cons, List.not_mem_nil, or_false] at hr
      rcases hr with rfl | rfl
      · rw [e1] at e
        exact nomatch e
      · exact nomatch e
    · simp only [Option.toList, List.singleton_append, List.mem_cons, List.not_mem_nil, or_false] at hr
      rcases hr with rfl | rfl
      · rw [e2] at e
        exact nomatch e
      · exact e
    · simp only [Option.toList, List.singleton_append, List.mem_cons, List.not_mem_nil, or_false] at hr
      rcases hr with rfl | rfl
      · obtain ⟨c, hc, x1, x2, f1, f2, ⟨n1, n2⟩, n3, n4⟩ := lm_short k b1 elo eh lohh (by omega)
        rw [elo] at f1
        rw [eh] at f2
        cases f1
        cases f2
        have a3 := sn.ok.le l' h' e1 e2
        have nl : Z.near c l' := ⟨by omega, by omega⟩
        have nh : Z.near c h' := ⟨by omega, by omega⟩
        refine ⟨fun x hx => ?_, fun x hx => ?_, .inr ⟨c, hc, l', h', e1, e2, nl, nh⟩⟩
        · rw [e1] at hx
          cases hx
          exact ⟨c, hc, nl⟩
        · rw [e2] at hx
          cases hx
          exact ⟨c, hc, nh⟩
      · exact lmU Z L k b1 b2
end
end L2.Ln
end

section
set_option Elab.async false
set_option linter.all false
set_option maxHeartbeats 400000
namespace L2.Ln
section
variable {one two : Rw}
/-- a row that takes the pattern of a short one before it -/
theorem up_pd (h1 : Nt one) (h2 : Nt two) {h l : Int} (eh : one.hi = some h) (el : two.lo = some l) (lt : h < l) (gap : ∀ n, h < n → n < l → pat one.p one.b n = false)
    (al : ∀ n, l ≤ n → Le two.hi n → pat two.p two.b n = pat one.p one.b n) (inf : two.hi = none → ∀ n, pat two.p two.b n = pat one.p one.b n) {Z : Zn} {L : Nat} (k : Z.Ok L) (m1 : Lm Z L one) (m2 : Lm Z L two) :
    one.p ∣ L ∨ ∃ c ∈ Z.cs, ∃ lo hi, one.lo = some lo ∧ two.hi = some hi ∧ Z.near c lo ∧ Z.near c hi := by
  have wb := k.wb
  rcases m1.pd with d | ⟨c, hc, x2, h2', e3, e4, n3, n4⟩
  · exact .inl d
  · rw [eh] at e4
    cases e4
    have q0 := h1.ok.p0
    have pl := h1.fin x2 h e3 eh
    have n3' := n3
    have n4' := n4
    obtain ⟨n31, n32⟩ := n3
    obtain ⟨n41, n42⟩ := n4
    have near : l ≤ h + one.p := by
      apply Classical.byContradiction
      intro z
      have g := gap (h + one.p) (by omega) (by omega)
      have e : pat one.p one.b (h + one.p) = pat one.p one.b h := per_p _ _ _
      rw [(h1.him h eh).2.2, g] at e
      exact nomatch e
    obtain ⟨d, hd, nl⟩ := m2.l l el
    obtain rfl := k.one hc hd n4' nl (by omega) (by omega)
    have pone : (∀ n, pat two.p two.b n = pat one.p one.b n) → two.p ∣ L → one.p ∣ L := fun e dv => Nat.dvd_trans (h1.mn two.p h2.ok.p0 (per_ext (fun n => (e n).symm) (per_p _ _))) dv
    cases e1 : two.hi with
    | none =>
      rcases m2.pd with dv | ⟨d, _, _, hi, _, e5, _⟩
      · exact .inl (pone (inf e1) dv)
      · rw [e1] at e5
        exact nomatch e5
    | some hi =>
      obtain ⟨d, hd, n5⟩ := m2.h hi e1
      have loh := h2.ok.le l hi el e1
      by_cases sh : hi - l ≤ 10000
      · obtain rfl := k.one hc hd nl n5 (by omega) (by omega)
        exact .inr ⟨c, hc, x2, hi, e3, rfl, n3', n5⟩
      · refine .inl ?_
        rcases m2.pd with dv | ⟨d2, _, a1, a2, e5, e6, ⟨n6, n7⟩, n8, n9⟩
        · have p1 := Nat.le_trans (Nat.le_of_dvd k.L0 dv) k.Lb
          refine pone (alike h2.ok.p0 q0 l fun i hi' => al _ (by omega) (fun y hy => ?_)) dv
          rw [e1] at hy
          cases hy
          omega
        · rw [el] at e5
          rw [e1] at e6
          cases e5
          cases e6
          omega
/-- the upper one takes the pattern of the lower one -/
theorem du_merge (h1 : Nt one) (h2 : Nt two) {h l : Int} (eh : one.hi = some h) (el : two.lo = some l) (lt : h < l) (gap : ∀ n, h < n → n < l → pat one.p one.b n = false)
    (al : ∀ n, l ≤ n → Le two.hi n → pat two.p two.b n = pat one.p one.b n) (inf : two.hi = none → ∀ n, pat two.p two.b n = pat one.p one.b n) : Within one two [⟨one.lo, two.hi, one.p, one.b⟩] := by
  have hin : ∀ n, (⟨one.lo, two.hi, one.p, one.b⟩ : Rw).In n ↔ (one.In n ∨ two.In n) := fun n => by
    constructor
    · rintro ⟨k1, k2, k3⟩
      have k3 : pat one.p one.b n = true := k3
      by_cases c : l ≤ n
      · refine .inr ⟨fun x hx => by rw [el] at hx; cases hx; exact c, k2, ?_⟩
        rw [al n c k2]
        exact k3
      · refine .inl ⟨k1, fun x hx => ?_, k3⟩
        rw [eh] at hx
        cases hx
        apply Classical.byContradiction
        intro z
        have := gap n (by omega) (by omega)
        rw [k3] at this
        exact nomatch this
    · rintro (⟨k1, k2, k3⟩ | ⟨k1, k2, k3⟩)
      · have nh : n ≤ h := le_some.mp (eh ▸ k2)
        refine ⟨k1, fun x hx => ?_, k3⟩
        have := (h2.him x hx).1 l el
        omega
      · have nl : l ≤ n := ge_some.mp (el ▸ k1)
        refine ⟨fun x hx => ?_, k2, ?_⟩
        · have := (h1.lom x hx).2.1 h eh
          omega
        · show pat one.p one.b n = true
          rw [← al n nl k2]
          exact k3
  refine ⟨⟨fun r hr => ?_, .cons (fun s hs => nomatch hs) .nil⟩, fun n => by rw [inL_one]; exact hin n, fun r hr e => ?_, fun r hr e => ?_, fun Z L k b1 b2 r hr => ?_, .inl rfl⟩
  · rw [List.mem_singleton.mp hr]
    refine ⟨⟨h1.ok.p0, h1.ok.bl, fun x y hx hy => ?_⟩, fun x hx => (hin x).mpr (.inl (h1.lom x hx)), fun x hx => (hin x).mpr (.inr (h2.him x hx)), h1.ex, h1.mn, fun x y hx hy => ?_⟩
    · have a1 := (h1.lom x hx).2.1 h eh
      have a2 := (h2.him y hy).1 l el
      omega
    · have a2 := (h2.him y hy).1 l el
      have := h1.fin x h hx eh
      show (one.p : Int) ≤ y - x + 1
      omega
  · rw [List.mem_singleton.mp hr] at e
    exact e
  · rw [List.mem_singleton.mp hr] at e
    exact e
  · rw [List.mem_singleton.mp hr]
    exact ⟨b1.l, b2.h, up_pd h1 h2 eh el lt gap al inf k b1 b2⟩
/-- the lower one reaches up -/
theorem du_cut (h1 : Nt one) (h2 : Nt two) {h l hi first h3 : Int} (eh : one.hi = some h) (el : two.lo = some l) (lt : h < l) (gap : ∀ n, h < n → n < l → pat one.p one.b n = false) (ehi : two.hi = some hi) (sho : hi - l + 1 ≤ 5040) (lng : ∀ y, one.lo = some y → 5040 < h - y + 1)
    (c1 : l ≤ first) (c2 : first ≤ hi) (al : ∀ n, l ≤ n → n < first → pat two.p two.b n = pat one.p one.b n) {o : Option Rw} (tr : TrimR ⟨some first, two.hi, two.p, two.b⟩ o) (nx : LastAt one.p one.b (first - 1) h3) :
    Within one two ([⟨one.lo, some h3, one.p, one.b⟩] ++ o.toList) := by
  have h3h : h ≤ h3 := by
    apply Classical.byContradiction
    intro z
    have := nx.off h (by omega) (by omega)
    rw [(h1.him h eh).2.2] at this
    exact nomatch this
  have g3 := nx.le
  have loI : ∀ n, (⟨one.lo, some h3, one.p, one.b⟩ : Rw).In n ↔ (one.In n ∨ (n < first ∧ two.In n)) := fun n => by
    constructor
    · rintro ⟨k1, k2, k3⟩
      have k2 : n ≤ h3 := le_some.mp k2
      have k3 : pat one.p one.b n = true := k3
      by_cases c : l ≤ n
      · refine .inr ⟨by omega, fun x hx => by rw [el] at hx; cases hx; exact c, fun x hx => by rw [ehi] at hx; cases hx; omega, ?_⟩
        rw [al n c (by omega)]
        exact k3
      · refine .inl ⟨k1, fun x hx => ?_, k3⟩
        rw [eh] at hx
        cases hx
        apply Classical.byContradiction
        intro z
        have := gap n (by omega) (by omega)
        rw [k3] at this
        exact nomatch this
    · rintro (⟨k1, k2, k3⟩ | ⟨k0, k1, k2, k3⟩)
      · have nh : n ≤ h := le_some.mp (eh ▸ k2)
        exact ⟨k1, le_some.mpr (by omega), k3⟩
      · have nl : l ≤ n := ge_some.mp (el ▸ k1)
        have k4 : pat one.p one.b n = true := by
          rw [← al n nl k0]
          exact k3
        refine ⟨fun x hx => ?_, le_some.mpr ?_, k4⟩
        · have := (h1.lom x hx).2.1 h eh
          omega
        · apply Classical.byContradiction
          intro z
          have := nx.off n (by omega) (by omega)
          rw [k4] at this
          exact nomatch this
  have upI : ∀ n, (⟨some first, two.hi, two.p, two.b⟩ : Rw).In n ↔ (first ≤ n ∧ two.In n) := fun n => by
    constructor
    · rintro ⟨k1, k2, k3⟩
      have k1 : first ≤ n := ge_some.mp k1
      exact ⟨k1, fun x hx => by rw [el] at hx; cases hx; omega, k2, k3⟩
    · rintro ⟨k0, k1, k2, k3⟩
      exact ⟨ge_some.mpr k0, k2, k3⟩
  have loN : Nt ⟨one.lo, some h3, one.p, one.b⟩ := by
    refine ⟨⟨h1.ok.p0, h1.ok.bl, fun x y hx hy => ?_⟩, fun x hx => (loI x).mpr (.inl (h1.lom x hx)), fun x hx => ?_, h1.ex, h1.mn, fun x y hx hy => ?_⟩
    · cases hy
      have := (h1.lom x hx).2.1 h eh
      omega
    · cases hx
      exact ⟨fun y hy => by have := (h1.lom y hy).2.1 h eh; omega, le_some.mpr (Int.le_refl _), nx.on⟩
    · cases hy
      have := h1.fin x h hx eh
      show (one.p : Int) ≤ h3 - x + 1
      omega
  have lohh := h2.ok.le l hi el ehi
  have lmU : ∀ (Z : Zn) (L : Nat), Z.Ok L → Lm Z L one → Lm Z L two → Lm Z L ⟨one.lo, some h3, one.p, one.b⟩ := fun Z L k b1 b2 => by
    obtain ⟨c, hc, x1, x2, e1, e2, ⟨n1, n2⟩, n3, n4⟩ := lm_short k b2 el ehi lohh (by omega)
    rw [el] at e1
    rw [ehi] at e2
    cases e1
    cases e2
    refine ⟨b1.l, fun x hx => ?_, ?_⟩
    · cases hx
      by_cases z : l ≤ h3
      · exact ⟨c, hc, by omega, by omega⟩
      · have e : h3 = h := by
          apply Classical.byContradiction
          intro y
          have := gap h3 (by omega) (by omega)
          rw [nx.on] at this
          exact nomatch this
        rw [e]
        exact b1.h h eh
    · rcases b1.pd with d | ⟨c2, _, y1, y2, e1, e2, ⟨m1, m2⟩, m3, m4⟩
      · exact .inl d
      · exfalso
        have a := lng y1 e1
        rw [eh] at e2
        cases e2
        have := k.wb
        omega
  cases o with
  | none =>
    refine ⟨⟨fun r hr => ?_, .cons (fun s hs => nomatch hs) .nil⟩, fun n => ?_, fun r hr e => ?_, fun r hr e => ?_, fun Z L k b1 b2 r hr => ?_, .inl rfl⟩
    · rw [List.mem_singleton.mp hr]
      exact loN
    · show InL [⟨one.lo, some h3, one.p, one.b⟩] n ↔ _
      rw [inL_one, loI n]
      constructor
      · rintro (k | ⟨_, k⟩)
        · exact .inl k
        · exact .inr k
      · rintro (k | k)
        · exact .inl k
        · refine .inr ⟨?_, k⟩
          apply Classical.byContradiction
          intro z
          exact tr n ((upI n).mpr ⟨by omega, k⟩)
    · rw [List.mem_singleton.mp hr] at e
      exact e
    · rw [List.mem_singleton.mp hr] at e
      exact nomatch e
    · rw [List.mem_singleton.mp hr]
      exact lmU Z L k b1 b2
  | some s =>
    obtain ⟨sn, si, _, _, sl, sh, _⟩ := tr
    obtain ⟨l', e1, g1, _⟩ := sl first rfl
    obtain ⟨h', e2, g2, _⟩ := sh hi ehi
    refine ⟨⟨fun r hr => ?_, .cons (fun x hx => ?_) (.cons (fun s hs => nomatch hs) .nil)⟩, fun n => ?_, fun r hr e => ?_, fun r hr e => ?_, fun Z L k b1 b2 r hr => ?_, .inr rfl⟩
    · simp only [Option.toList, List.singleton_append, List.mem_cons, List.not_mem_nil, or_false] at hr
      rcases hr with rfl | rfl
      · exact loN
      · exact sn
    · rw [List.mem_singleton.mp hx]
      exact ⟨h3, l', rfl, e1, by omega⟩
    · show InL [⟨one.lo, some h3, one.p, one.b⟩, s] n ↔ _
      rw [inL_cons, inL_one, loI n, si n, upI n]
      constructor
      · rintro ((k | ⟨_, k⟩) | ⟨_, k⟩)
        · exact .inl k
        · exact .inr k
        · exact .inr k
      · rintro (k | k)
        · exact .inl (.inl k)
        · by_cases c : n < first
          · exact .inl (.inr ⟨c, k⟩)
          · exact .inr ⟨by omega, k⟩
    · simp only [Option.toList, List.singleton_append, List.mem_cons, List.not_mem_nil, or_false] at hr
      rcases hr with rfl | rfl
      · exact e
      · rw [e1] at e
        exact nomatch e
    · simp only [Option.toList, List.singleton_append, List.mem_cons, List.not_mem_nil, or_false] at hr
      rcases hr with rfl | rfl
      · exact nomatch e
      · rw [e2] at e
        exact nomatch e
    · simp only [Option.toList, List.singleton_append, List.mem_cons, List.not_mem_nil, or_false] at hr
      rcases hr with rfl | rfl
      · exact lmU Z L k b1 b2
      · obtain ⟨c, hc, x1, x2, f1, f2, ⟨n1, n2⟩, n3, n4⟩ := lm_short k b2 el ehi lohh (by omega)
        rw [el] at f1
        rw [ehi] at f2
        cases f1
        cases f2
        have a3 := sn.ok.le l' h' e1 e2
        have nl : Z.near c l' := ⟨by omega, by omega⟩
        have nh : Z.near c h' := ⟨by omega, by omega⟩
        refine ⟨fun x hx => ?_, fun x hx => ?_, .inr ⟨c, hc, l', h', e1, e2, nl, nh⟩⟩
        · rw [e1] at hx
          cases hx
          exact ⟨c, hc, nl⟩
        · rw [e2] at hx
          cases hx
          exact ⟨c, hc, nh⟩
/-- drawn down, then up -/
theorem within_trans {r0 r1 : Rw} {out : List Rw} (w : Within one two [r0, r1]) (w' : Within r0 r1 out) : Within one two out := by
  have m0 : r0 ∈ [r0, r1] := by simp
  have m1 : r1 ∈ [r0, r1] := by simp
  refine ⟨w'.nt, fun n => ?_, fun r hr e => w.ln _ m0 (w'.ln r hr e), fun r hr e => w.hn _ m1 (w'.hn r hr e), fun Z L k b1 b2 r hr => w'.lm Z L k (w.lm Z L k b1 b2 _ m0) (w.lm Z L k b1 b2 _ m1) r hr, w'.len⟩
  rw [w'.i n, ← w.i n, inL_cons, inL_one]
end
theorem bef_ends {r s : Rw} (h : Bef r s) : r.hi ≠ none ∧ s.lo ≠ none := by
  obtain ⟨h, l, e1, e2, _⟩ := h
  exact ⟨(by rw [e1]; simp), (by rw [e2]; simp)⟩
/-- a row before both, before what is drawn of them; a row behind both, too -/
theorem within_bef {one two : Rw} {out : List Rw} (w : Within one two out) (n1 : Nt one) {r : Rw} (h : Bef r one) (b : Bef one two) : ∀ s ∈ out, Bef r s := fun s hs => by
  obtain ⟨h0, l0, e1, e2, lt⟩ := h
  cases hl : s.lo with
  | none =>
    have := w.ln s hs hl
    rw [e2] at this
    exact nomatch this
  | some l =>
    refine ⟨h0, l, e1, hl, ?_⟩
    have im := (w.nt.nt s hs).lom l hl
    rcases (w.i l).mp ⟨s, hs, im⟩ with k | k
    · have := k.1 l0 e2
      omega
    · obtain ⟨h1, l1, e3, e4, lt1⟩ := b
      have a := k.1 l1 e4
      have c := (n1.ok.le l0 h1 e2 e3)
      omega
theorem within_beh {one two : Rw} {out : List Rw} (w : Within one two out) (n2 : Nt two) {r : Rw} (h : Bef two r) (b : Bef one two) : ∀ s ∈ out, Bef s r := fun s hs => by
  obtain ⟨h0, l0, e1, e2, lt⟩ := h
  cases hl : s.hi with
  | none =>
    have := w.hn s hs hl
    rw [e1] at this
    exact nomatch this
  | some l =>
    refine ⟨l, l0, hl, e2, ?_⟩
    have im := (w.nt.nt s hs).him l hl
    rcases (w.i l).mp ⟨s, hs, im⟩ with k | k
    · obtain ⟨h1, l1, e3, e4, lt1⟩ := b
      have a := k.2.1 h1 e3
      have c := (n2.ok.le l1 h0 e4 e1)
      omega
    · have := k.2.1 h0 e1
      omega
end L2.Ln
end

section
set_option Elab.async false
set_option linter.all false
set_option maxHeartbeats 400000
namespace L2.Ln
/-! two rows packed into one -/
theorem in_fin {r : Rw} {l h : Int} (el : r.lo = some l) (eh : r.hi = some h) (n : Int) : r.In n ↔ (l ≤ n ∧ n ≤ h ∧ pat r.p r.b n = true) := by
  unfold Rw.In
  rw [el, eh, ge_some, le_some]
section
variable {one two : Rw}
theorem pack_bits {l0 h0 l1 h1 : Int} (e1 : one.lo = some l0) (e2 : one.hi = some h0) (e3 : two.lo = some l1) (e4 : two.hi = some h1) (lt : h0 < l1) (le0 : l0 ≤ h0) (le1 : l1 ≤ h1) {m m0 m1 w0 w1 k : Nat}
    (hm : (m : Int) = h1 - l0 + 1) (hm0 : (m0 : Int) = h0 - l0 + 1) (hm1 : (m1 : Int) = h1 - l1 + 1) (hk : (k : Int) = l1 - l0) (W0 : WinAt one.p one.b l0 m0 w0) (W1 : WinAt two.p two.b l1 m1 w1) :
    (w0 ||| (w1 <<< k)) < 2 ^ m ∧ ∀ n, (⟨some l0, some (l0 + m - 1), m, turnN (w0 ||| (w1 <<< k)) m l0⟩ : Rw).In n ↔ (one.In n ∨ two.In n) := by
  have bl : (w0 ||| (w1 <<< k)) < 2 ^ m := lt_of_bits fun i h => by
    rw [Nat.testBit_or, Nat.testBit_shiftLeft, bit_ge W0.l (by omega), bit_ge W1.l (by omega), Bool.and_false, Bool.or_false]
  refine ⟨bl, fun n => ?_⟩
  rw [in_fin e1 e2, in_fin e3 e4]
  have m0' : 0 < m := by omega
  show (Ge (some l0) n ∧ Le (some (l0 + m - 1)) n ∧ pat m (turnN (w0 ||| (w1 <<< k)) m l0) n = true) ↔ _
  rw [ge_some, le_some, turn_pat m0' bl]
  by_cases c : l0 ≤ n ∧ n ≤ h1
  · obtain ⟨i, rfl⟩ : ∃ i : Nat, n = l0 + i := ⟨(n - l0).toNat, by omega⟩
    have im : i < m := by omega
    rw [show l0 + (i : Int) - l0 = i by omega, pat_nat im, Nat.testBit_or, Nat.testBit_shiftLeft]
    have b0 : w0.testBit i = true ↔ (l0 ≤ l0 + (i : Int) ∧ l0 + (i : Int) ≤ h0 ∧ pat one.p one.b (l0 + i) = true) := by
      by_cases d : i < m0
      · rw [W0.h i d]
        exact ⟨fun z => ⟨by omega, by omega, z⟩, fun z => z.2.2⟩
      · rw [bit_ge W0.l (by omega)]
        exact ⟨(fun z => nomatch z), fun z => by omega⟩
    have b1 : (decide (i ≥ k) && w1.testBit (i - k)) = true ↔ (l1 ≤ l0 + (i : Int) ∧ l0 + (i : Int) ≤ h1 ∧ pat two.p two.b (l0 + i) = true) := by
      by_cases d : k ≤ i
      · rw [decide_eq_true (show i ≥ k from d), Bool.true_and]
        have e := W1.h (i - k) (by omega)
        rw [e, show l1 + ((i - k : Nat) : Int) = l0 + i by omega]
        exact ⟨fun z => ⟨by omega, by omega, z⟩, fun z => z.2.2⟩
      · rw [decide_eq_false (show ¬ i ≥ k from d), Bool.false_and]
        exact ⟨(fun z => nomatch z), fun z => by omega⟩
    rw [Bool.or_eq_true, b0, b1]
    exact ⟨fun z => z.2.2, fun z => ⟨by omega, by omega, z⟩⟩
  · constructor
    · rintro ⟨a, b, _⟩
      omega
    · rintro (⟨a, b, _⟩ | ⟨a, b, _⟩) <;> omega
theorem pack_within (h1 : Nt one) (h2 : Nt two) (bf : Bef one two) {l0 hh1 : Int} (e1 : one.lo = some l0) (e4 : two.hi = some hh1) (fit : hh1 - l0 + 1 ≤ 2520) {u : Rw} (ul : u.lo = some l0) (uh : u.hi = some hh1) (ui : ∀ n, u.In n ↔ (one.In n ∨ two.In n)) {o : Option Rw} (tr : TrimR u o) : ∃ s, o = some s ∧ Within one two [s] := by
  cases o with
  | none => exact absurd ((ui l0).mpr (.inl (h1.lom l0 e1))) (tr l0)
  | some s =>
    refine ⟨s, rfl, ?_⟩
    obtain ⟨sn, si, _, _, sl, sh, _⟩ := tr
    obtain ⟨l', f1, g1, _⟩ := sl l0 ul
    obtain ⟨h', f2, g2, _⟩ := sh hh1 uh
    refine ⟨⟨fun r hr => ?_, .cons (fun s hs => nomatch hs) .nil⟩, fun n => by rw [inL_one, si n, ui n], fun r hr e => ?_, fun r hr e => ?_, fun Z L k b1 b2 r hr => ?_, .inl rfl⟩
    · rw [List.mem_singleton.mp hr]
      exact sn
    · rw [List.mem_singleton.mp hr, f1] at e
      exact nomatch e
    · rw [List.mem_singleton.mp hr, f2] at e
      exact nomatch e
    · rw [List.mem_singleton.mp hr]
      have a3 := sn.ok.le l' h' f1 f2
      obtain ⟨c, hc, n1⟩ := b1.l l0 e1
      obtain ⟨d, hd, n2⟩ := b2.h hh1 e4
      obtain rfl := k.one hc hd n1 n2 (by omega) (by omega)
      obtain ⟨n11, n12⟩ := n1
      obtain ⟨n21, n22⟩ := n2
      have nl : Z.near c l' := ⟨by omega, by omega⟩
      have nh : Z.near c h' := ⟨by omega, by omega⟩
      refine ⟨fun x hx => ?_, fun x hx => ?_, .inr ⟨c, hc, l', h', f1, f2, nl, nh⟩⟩
      · rw [f1] at hx
        cases hx
        exact ⟨c, hc, nl⟩
      · rw [f2] at hx
        cases hx
        exact ⟨c, hc, nh⟩
end
/-! a list of rows in all -/
structure Ln_ (Z : Zn) (L : Nat) (rs : List Rw) : Prop where
  nt : NtL rs
  lm : ∀ r ∈ rs, Lm Z L r
theorem pw_app {α : Type} {R : α → α → Prop} {a b : List α} : (a ++ b).Pairwise R ↔ a.Pairwise R ∧ b.Pairwise R ∧ ∀ x ∈ a, ∀ y ∈ b, R x y := List.pairwise_append
/-- the last two of a list made one, or two -/
theorem ln_within {Z : Zn} {L : Nat} (k : Z.Ok L) {a c out : List Rw} {one two : Rw} (h : Ln_ Z L (a ++ [one, two] ++ c)) (w : Within one two out) : Ln_ Z L (a ++ out ++ c) ∧ ∀ n, InL (a ++ out ++ c) n ↔ InL (a ++ [one, two] ++ c) n := by
  have so := h.nt.so
  rw [pw_app, pw_app] at so
  obtain ⟨⟨sa, s2, sa2⟩, sc, sac⟩ := so
  have m1 : one ∈ a ++ [one, two] ++ c := by simp
  have m2 : two ∈ a ++ [one, two] ++ c := by simp
  have bf : Bef one two := by
    cases s2 with
    | cons k _ => exact k two (by simp)
  have n1 := h.nt.nt one m1
  have n2 := h.nt.nt two m2
  refine ⟨⟨⟨fun r hr => ?_, ?_⟩, fun r hr => ?_⟩, fun n => ?_⟩
  · rcases List.mem_append.mp hr with hr | hr
    · rcases List.mem_append.mp hr with hr | hr
      · exact h.nt.nt r (by simp [hr])
      · exact w.nt.nt r hr
    · exact h.nt.nt r (by simp [hr])
  · rw [pw_app, pw_app]
    refine ⟨⟨sa, w.nt.so, fun x hx => ?_⟩, sc, fun x hx y hy => ?_⟩
    · exact within_bef w n1 (sa2 x hx one (by simp)) bf
    · rcases List.mem_append.mp hx with hx | hx
      · exact sac x (List.mem_append.mpr (.inl hx)) y hy
      · exact within_beh w n2 (sac two (by simp) y hy) bf x hx
  · rcases List.mem_append.mp hr with hr | hr
    · rcases List.mem_append.mp hr with hr | hr
      · exact h.lm r (by simp [hr])
      · exact w.lm Z L k (h.lm one m1) (h.lm two m2) r hr
    · exact h.lm r (by simp [hr])
  · rw [inL_app, inL_app, inL_app, inL_app, w.i n, inL_cons, inL_one]
/-- so near that they are packed -/
def Fit (r s : Rw) : Prop := ∃ l h, r.lo = some l ∧ s.hi = some h ∧ h - l + 1 ≤ 2520
theorem unfit_snoc {out : List Rw} {last now : Rw} (so : (out ++ [last] ++ [now]).Pairwise Bef) (nt : ∀ r ∈ out ++ [last] ++ [now], Nt r) (u : (out ++ [last]).Pairwise fun r s => ¬ Fit r s) (nf : ¬ Fit last now) : (out ++ [last] ++ [now]).Pairwise fun r s => ¬ Fit r s := by
  rw [pw_app]
  refine ⟨u, .cons (fun s hs => nomatch hs) .nil, fun x hx y hy => ?_⟩
  rw [List.mem_singleton.mp hy]
  rcases List.mem_append.mp hx with hx | hx
  · rintro ⟨l, h, e1, e2, le⟩
    refine nf ?_
    rw [pw_app, pw_app] at so
    obtain ⟨h0, l0, f1, f2, lt⟩ := so.1.2.2 x hx last (by simp)
    have := (nt x (by simp [hx])).ok.le l h0 e1 f1
    exact ⟨l0, h, f2, e2, by omega⟩
  · rw [List.mem_singleton.mp hx]
    exact nf
/-- a lower end near c -/
def lowC (Z : Zn) (c : Int) (r : Rw) : Bool := match r.lo with
  | some l => decide (c - Z.w ≤ l) && decide (l ≤ c + Z.w)
  | none => false
theorem lowC_iff {Z : Zn} {c : Int} {r : Rw} : lowC Z c r = true ↔ ∃ l, r.lo = some l ∧ Z.near c l := by
  unfold lowC
  cases e : r.lo with
  | none => exact ⟨(fun z => nomatch z), fun ⟨l, z, _⟩ => nomatch z⟩
  | some l =>
    show (decide (c - Z.w ≤ l) && decide (l ≤ c + Z.w)) = true ↔ _
    rw [Bool.and_eq_true, decide_eq_true_iff, decide_eq_true_iff]
    exact ⟨fun z => ⟨l, rfl, z⟩, fun ⟨x, ex, z⟩ => by cases ex; exact z⟩
theorem two_at {Z : Zn} {c : Int} (wb : 2 * Z.w + 1 ≤ 2520) {t : List Rw} (so : t.Pairwise Bef) (u : t.Pairwise fun r s => ¬ Fit r s) (h : ∀ r ∈ t, lowC Z c r = true) : t.length ≤ 2 := by
  match t, so, u, h with
  | [], _, _, _ => exact Nat.zero_le _
  | [_], _, _, _ => show 1 ≤ 2; decide
  | [_, _], _, _, _ => exact Nat.le_refl _
  | r1 :: r2 :: r3 :: r, so, u, h =>
    exfalso
    obtain ⟨l1, e1, a1, a2⟩ := lowC_iff.mp (h r1 (by simp))
    obtain ⟨l3, e3, b1, b2⟩ := lowC_iff.mp (h r3 (by simp))
    obtain ⟨h2, l, f1, f2, lt⟩ := (List.pairwise_cons.mp (List.pairwise_cons.mp so).2).1 r3 (by simp)
    rw [e3] at f2
    cases f2
    exact (List.pairwise_cons.mp u).1 r2 (by simp) ⟨l1, h2, e1, f1, by omega⟩
theorem few_low {Z : Zn} (wb : 2 * Z.w + 1 ≤ 2520) : ∀ (cs : List Int) (t : List Rw), t.Pairwise Bef → (t.Pairwise fun r s => ¬ Fit r s) → (∀ r ∈ t, ∃ c ∈ cs, lowC Z c r = true) → t.length ≤ 2 * cs.length
  | [], [], _, _, _ => Nat.zero_le _
  | [], r :: t, _, _, h => by
    obtain ⟨c, hc, _⟩ := h r (by simp)
    exact nomatch hc
  | c :: cs, t, so, u, h => by
    have e : t.length = (t.filter (lowC Z c)).length + (t.filter (fun r => !lowC Z c r)).length := by
      clear so u h
      induction t with
      | nil => rfl
      | cons r t ih =>
        rw [List.filter_cons, List.filter_cons]
        cases lowC Z c r with
        | true => show t.length + 1 = ((t.filter (lowC Z c)).length + 1) + (t.filter (fun r => !lowC Z c r)).length; omega
        | false => show t.length + 1 = (t.filter (lowC Z c)).length + ((t.filter (fun r => !lowC Z c r)).length + 1); omega
    have a := two_at wb (so.filter (lowC Z c)) (u.filter (lowC Z c)) fun r hr => (List.mem_filter.mp hr).2
    have b := few_low wb cs _ (so.filter (fun r => !lowC Z c r)) (u.filter (fun r => !lowC Z c r)) fun r hr => by
      obtain ⟨h1, h2⟩ := List.mem_filter.mp hr
      obtain ⟨d, hd, z⟩ := h r h1
      rcases List.mem_cons.mp hd with rfl | hd
      · rw [z] at h2
        exact nomatch h2
      · exact ⟨d, hd, z⟩
    show t.length ≤ 2 * (cs.length + 1)
    omega
theorem few_rows {Z : Zn} {L : Nat} (k : Z.Ok L) {rs : List Rw} (h : Ln_ Z L rs) (u : rs.Pairwise fun r s => ¬ Fit r s) : rs.length ≤ 2 * Z.cs.length + 1 := by
  match rs, h, u with
  | [], _, _ => exact Nat.zero_le _
  | r :: t, h, u =>
    have so := List.pairwise_cons.mp h.nt.so
    have := few_low k.wb Z.cs t so.2 (List.pairwise_cons.mp u).2 fun s hs => by
      obtain ⟨_, l, _, e2, _⟩ := so.1 s hs
      obtain ⟨c, hc, n⟩ := (h.lm s (by simp [hs])).l l e2
      exact ⟨c, hc, lowC_iff.mpr ⟨l, e2, n⟩⟩
    show t.length + 1 ≤ _
    omega
end L2.Ln
end

section
set_option Elab.async false
set_option linter.all false
set_option maxHeartbeats 400000
namespace L2.Ln
/-! trimmed, one after the other -/
theorem trim_lm {r s : Rw} {Z : Zn} {L : Nat} (k : (Z.up L).Ok L) (t : TrimR r (some s)) (h : Lm Z L r) : Lm (Z.up L) L s := by
  obtain ⟨sn, _, ln, hn, sl, sh, sd⟩ := t
  have wb := k.wb
  have ew : (Z.up L).w = Z.w + L := rfl
  have L0 := k.L0
  rcases h.pd with dv | ⟨c, hc, l0, h0, e1, e2, ⟨a1, a2⟩, a3, a4⟩
  · have rp := Nat.le_of_dvd L0 dv
    have hl : ∀ l, s.lo = some l → (Z.up L).Has l := fun l e => by
      cases hr : r.lo with
      | none => rw [ln hr] at e; exact nomatch e
      | some l0 =>
        obtain ⟨l', e', a, b⟩ := sl l0 hr
        rw [e] at e'
        cases e'
        obtain ⟨c, hc, n1, n2⟩ := h.l l0 hr
        exact ⟨c, hc, by omega, by omega⟩
    have hh : ∀ l, s.hi = some l → (Z.up L).Has l := fun l e => by
      cases hr : r.hi with
      | none => rw [hn hr] at e; exact nomatch e
      | some l0 =>
        obtain ⟨l', e', a, b⟩ := sh l0 hr
        rw [e] at e'
        cases e'
        obtain ⟨c, hc, n1, n2⟩ := h.h l0 hr
        exact ⟨c, hc, by omega, by omega⟩
    refine ⟨hl, hh, ?_⟩
    rcases sd with d | ⟨l, x, f1, f2, lt⟩
    · exact .inl (Nat.dvd_trans d dv)
    · have lx := sn.ok.le l x f1 f2
      have Lb := k.Lb
      obtain ⟨c, hc, n1⟩ := hl l f1
      obtain ⟨d, hd, n2⟩ := hh x f2
      obtain rfl := k.one hc hd n1 n2 (by omega) (by omega)
      exact .inr ⟨c, hc, l, x, f1, f2, n1, n2⟩
  · obtain ⟨l', f1, g1, _⟩ := sl l0 e1
    obtain ⟨h', f2, g2, _⟩ := sh h0 e2
    have lx := sn.ok.le l' h' f1 f2
    have nl : (Z.up L).near c l' := ⟨by omega, by omega⟩
    have nh : (Z.up L).near c h' := ⟨by omega, by omega⟩
    refine ⟨fun x hx => ?_, fun x hx => ?_, .inr ⟨c, hc, l', h', f1, f2, nl, nh⟩⟩
    · rw [f1] at hx
      cases hx
      exact ⟨c, hc, nl⟩
    · rw [f2] at hx
      cases hx
      exact ⟨c, hc, nh⟩
structure Pre (Z : Zn) (L : Nat) (js out : List Rw) : Prop where
  nt : NtL out
  i : ∀ n, InL out n ↔ InL js n
  hi : ∀ s ∈ out, ∃ r ∈ js, ∀ x, r.hi = some x → ∃ h', s.hi = some h' ∧ h' ≤ x
  lm : ∀ s ∈ out, Lm (Z.up L) L s
theorem pre_nil (Z : Zn) (L : Nat) : Pre Z L [] [] := ⟨ntl_nil, fun n => Iff.rfl, (fun s h => nomatch h), (fun s h => nomatch h)⟩
theorem trim_snoc {Z : Zn} {L : Nat} (k : (Z.up L).Ok L) {js out : List Rw} {r : Rw} {o : Option Rw} (p : Pre Z L js out) (so : ∀ x ∈ js, Bef x r) (lm : Lm Z L r) (t : TrimR r o) : Pre Z L (js ++ [r]) (out ++ o.toList) := by
  cases o with
  | none =>
    refine ⟨?_, fun n => ?_, fun s hs => ?_, fun s hs => ?_⟩
    · show NtL (out ++ [])
      rw [List.append_nil]
      exact p.nt
    · show InL (out ++ []) n ↔ _
      rw [List.append_nil, inL_app, inL_one, p.i n]
      exact ⟨.inl, fun z => z.resolve_right (t n)⟩
    · have hs : s ∈ out ++ [] := hs
      rw [List.append_nil] at hs
      obtain ⟨x, hx, k'⟩ := p.hi s hs
      exact ⟨x, List.mem_append.mpr (.inl hx), k'⟩
    · have hs : s ∈ out ++ [] := hs
      rw [List.append_nil] at hs
      exact p.lm s hs
  | some s =>
    have tt := t
    obtain ⟨sn, si, ln, hn, sl, sh, _⟩ := t
    refine ⟨⟨fun x hx => ?_, ?_⟩, fun n => ?_, fun x hx => ?_, fun x hx => ?_⟩
    · rcases List.mem_append.mp hx with hx | hx
      · exact p.nt.nt x hx
      · rw [List.mem_singleton.mp hx]
        exact sn
    · rw [pw_app]
      refine ⟨p.nt.so, .cons (fun s hs => nomatch hs) .nil, fun x hx y hy => ?_⟩
      rw [List.mem_singleton.mp hy]
      obtain ⟨z, hz, k⟩ := p.hi x hx
      obtain ⟨h, l, e1, e2, lt⟩ := so z hz
      obtain ⟨h', e3, le⟩ := k h e1
      obtain ⟨l', e4, ge, _⟩ := sl l e2
      exact ⟨h', l', e3, e4, by omega⟩
    · show InL (out ++ [s]) n ↔ _
      rw [inL_app, inL_app, inL_one, inL_one, p.i n, si n]
    · rcases List.mem_append.mp hx with hx | hx
      · obtain ⟨z, hz, k⟩ := p.hi x hx
        exact ⟨z, List.mem_append.mpr (.inl hz), k⟩
      · rw [List.mem_singleton.mp hx]
        refine ⟨r, by simp, fun y hy => ?_⟩
        obtain ⟨h', e, le, _⟩ := sh y hy
        exact ⟨h', e, le⟩
    · rcases List.mem_append.mp hx with hx | hx
      · exact p.lm x hx
      · rw [List.mem_singleton.mp hx]
        exact trim_lm k tt lm
/-! spans -/
def InSp (lo hi : Option Int) (n : Int) : Prop := Ge lo n ∧ Le hi n
/-- no mark within, but at its beginning -/
def SpanOk (ms : List Int) (lo hi : Option Int) : Prop := ∀ m ∈ ms, InSp lo hi m → lo = some m
structure Marks (ms : List Int) (rs : List Rw) : Prop where
  l : ∀ r ∈ rs, ∀ l, r.lo = some l → l ∈ ms
  h : ∀ r ∈ rs, ∀ h, r.hi = some h → h + 1 ∈ ms
/-- what a span finds in a list of rows -/
structure RestAt (L P : Nat) (rs : List Rw) (lo hi : Option Int) (p b : Nat) : Prop where
  p0 : 0 < p
  bl : b < 2 ^ p
  i : ∀ n, InSp lo hi n → (InL rs n ↔ pat p b n = true)
  pd : p ∣ L ∨ ∃ l h, lo = some l ∧ hi = some h ∧ h ≤ l + 2520
  pP : p ≤ P
/-- the rows before at end before the span -/
def AtOk (rs : List Rw) (at_ : Nat) (lo : Option Int) : Prop := ∀ r ∈ rs.take at_, ∃ h l, r.hi = some h ∧ lo = some l ∧ h < l
theorem bef_drop {rs : List Rw} (so : rs.Pairwise Bef) {i : Nat} {r : Rw} (e : rs[i]? = some r) : rs = rs.take i ++ r :: rs.drop (i + 1) ∧ ∀ s ∈ rs.drop (i + 1), Bef r s := by
  have hi : i < rs.length := by
    apply Classical.byContradiction
    intro z
    rw [List.getElem?_eq_none (by omega)] at e
    exact nomatch e
  have er : rs[i] = r := by
    rw [List.getElem?_eq_getElem hi] at e
    exact Option.some.inj e
  have d : rs.drop i = r :: rs.drop (i + 1) := by
    rw [List.drop_eq_getElem_cons hi, er]
  have t : rs = rs.take i ++ r :: rs.drop (i + 1) := by
    rw [← d, List.take_append_drop]
  refine ⟨t, fun s hs => ?_⟩
  rw [t, pw_app] at so
  exact (List.pairwise_cons.mp so.2.1).1 s hs
theorem rest_begun {Z : Zn} {L P : Nat} (kk : Z.Ok L) {ms : List Int} {rs : List Rw} (h : Ln_ Z L rs) (mk : Marks ms rs) {lo hi : Option Int} (sp : SpanOk ms lo hi) {at_ : Nat} {r : Rw} (er : rs[at_]? = some r) (ao : AtOk rs at_ lo)
    (st : ∀ h0 l, r.hi = some h0 → lo = some l → l ≤ h0) (bg : ∀ l, r.lo = some l → ∃ l1, lo = some l1 ∧ l ≤ l1) (pP : r.p ≤ P) : RestAt L P rs lo hi r.p r.b := by
  obtain ⟨t, aft⟩ := bef_drop h.nt.so er
  have rm : r ∈ rs := List.mem_of_getElem? er
  have nr := h.nt.nt r rm
  have geR : ∀ n, InSp lo hi n → Ge r.lo n := fun n k x hx => by
    obtain ⟨l1, e, le⟩ := bg x hx
    have := k.1 l1 e
    omega
  have leR : ∀ n, InSp lo hi n → Le r.hi n := fun n k x hx => by
    apply Classical.byContradiction
    intro z
    have hm := mk.h r rm x hx
    have e := sp (x + 1) hm ⟨fun y hy => by
      have := st x y hx hy
      omega, fun y hy => by
      have := k.2 y hy
      omega⟩
    have := st x (x + 1) hx e
    omega
  refine ⟨nr.ok.p0, nr.ok.bl, fun n k => ?_, ?_, pP⟩
  · constructor
    · rintro ⟨s, hs, im⟩
      rw [t] at hs
      rcases List.mem_append.mp hs with hs | hs
      · obtain ⟨h0, l, e1, e2, lt⟩ := ao s hs
        have a := im.2.1 h0 e1
        have b := k.1 l e2
        omega
      · rcases List.mem_cons.mp hs with rfl | hs
        · exact im.2.2
        · obtain ⟨h0, l, e1, e2, lt⟩ := aft s hs
          have a := im.1 l e2
          have b := leR n k h0 e1
          omega
    · intro q
      exact ⟨r, rm, geR n k, leR n k, q⟩
  · rcases (h.lm r rm).pd with d | ⟨c, _, l0, h0, e1, e2, ⟨a1, a2⟩, a3, a4⟩
    · exact .inl d
    · have wb := kk.wb
      obtain ⟨l1, f1, le1⟩ := bg l0 e1
      have lh := st h0 l1 e2 f1
      cases f2 : hi with
      | none =>
        exfalso
        have := leR (h0 + 1) ⟨fun y hy => by rw [f1] at hy; cases hy; omega, f2 ▸ le_none _⟩ h0 e2
        omega
      | some y =>
        refine .inr ⟨l1, y, f1, rfl, ?_⟩
        apply Classical.byContradiction
        intro z
        have := leR y ⟨fun x hx => by rw [f1] at hx; cases hx; omega, fun x hx => by rw [f2] at hx; cases hx; omega⟩ h0 e2
        omega
theorem rest_none {L P : Nat} {ms : List Int} {rs : List Rw} (h : NtL rs) (mk : Marks ms rs) {lo hi : Option Int} (sp : SpanOk ms lo hi) {at_ : Nat} (ao : AtOk rs at_ lo)
    (nb : rs.length ≤ at_ ∨ ∃ r l, rs[at_]? = some r ∧ r.lo = some l ∧ ∀ l1, lo = some l1 → l1 < l) (P0 : 1 ≤ P) : RestAt L P rs lo hi 1 0 := by
  refine ⟨by decide, by decide, fun n k => ?_, .inl (Nat.one_dvd L), P0⟩
  rw [pat_zero]
  refine ⟨fun ⟨s, hs, im⟩ => ?_, fun z => nomatch z⟩
  exfalso
  have before : ∀ s ∈ rs.take at_, ¬ s.In n := fun s hs im => by
    obtain ⟨h0, l, e1, e2, lt⟩ := ao s hs
    have a := im.2.1 h0 e1
    have b := k.1 l e2
    omega
  rcases nb with nb | ⟨r, l, er, el, nb⟩
  · rw [List.take_of_length_le nb] at before
    exact before s hs im
  · obtain ⟨t, aft⟩ := bef_drop h.so er
    have rm : r ∈ rs := List.mem_of_getElem? er
    have nl : n < l := by
      apply Classical.byContradiction
      intro z
      have e := sp l (mk.l r rm l el) ⟨fun y hy => by
        have := nb y hy
        omega, fun y hy => by
        have := k.2 y hy
        omega⟩
      have := nb l e
      omega
    rw [t] at hs
    rcases List.mem_append.mp hs with hs | hs
    · exact before s hs im
    · rcases List.mem_cons.mp hs with rfl | hs
      · have := im.1 l el
        omega
      · obtain ⟨h0, l0, e1, e2, lt⟩ := aft s hs
        have a := im.1 l0 e2
        have := (h.nt r rm).ok.le l h0 el e1
        omega
end L2.Ln
end

section
set_option Elab.async false
set_option linter.all false
set_option maxHeartbeats 400000
namespace L2.Ln
/-! the spans between marks -/
def lowAt (ms : List Int) : Nat → Option Int
  | 0 => none
  | k + 1 => ms[k]?
def highAt (ms : List Int) (k : Nat) : Option Int := (ms[k]?).map (· - 1)
def Asc (ms : List Int) : Prop := ms.Pairwise (· < ·)
theorem asc_lt {ms : List Int} (h : Asc ms) {i j : Nat} {a b : Int} (ha : ms[i]? = some a) (hb : ms[j]? = some b) (l : i < j) : a < b := by
  have hj : j < ms.length := by
    apply Classical.byContradiction
    intro z
    rw [List.getElem?_eq_none (by omega)] at hb
    exact nomatch hb
  rw [List.getElem?_eq_getElem (by omega)] at ha hb
  have := List.pairwise_iff_getElem.mp h i j (by omega) hj l
  rw [Option.some.inj ha, Option.some.inj hb] at this
  exact this
theorem span_ok {ms : List Int} (h : Asc ms) {k : Nat} (hk : k ≤ ms.length) : SpanOk ms (lowAt ms k) (highAt ms k) := by
  intro m hm hin
  obtain ⟨j, hj⟩ := List.getElem?_of_mem hm
  -- j is below k
  have jk : j < k := by
    apply Classical.byContradiction
    intro z
    by_cases e : k < ms.length
    · have ek : ms[k]? = some ms[k] := List.getElem?_eq_getElem e
      have a := hin.2 (ms[k] - 1) (by unfold highAt; rw [ek]; rfl)
      by_cases q : j = k
      · subst q
        rw [hj] at ek
        have := Option.some.inj ek
        omega
      · have := asc_lt h ek hj (by omega)
        omega
    · rw [List.getElem?_eq_none (by omega)] at hj
      exact nomatch hj
  cases k with
  | zero => omega
  | succ k =>
    have e : k < ms.length := by omega
    have ek : ms[k]? = some ms[k] := List.getElem?_eq_getElem e
    have a := hin.1 ms[k] (show ms[k]? = _ from ek)
    by_cases q : j = k
    · subst q
      exact hj
    · have := asc_lt h hj ek (by omega)
      omega
theorem span_cover : ∀ (ms : List Int) (n : Int), ∃ k, k ≤ ms.length ∧ InSp (lowAt ms k) (highAt ms k) n
  | [], n => ⟨0, Nat.le_refl _, ge_none n, le_none n⟩
  | m :: ms, n => by
    by_cases c : n < m
    · refine ⟨0, Nat.zero_le _, ge_none n, fun h e => ?_⟩
      have e : some (m - 1) = some h := e
      have := Option.some.inj e
      omega
    · obtain ⟨k, hk, h1, h2⟩ := span_cover ms n
      refine ⟨k + 1, Nat.succ_le_succ hk, ?_, h2⟩
      cases k with
      | zero =>
        intro l e
        have e : some m = some l := e
        have := Option.some.inj e
        omega
      | succ k => exact h1
theorem span_le {ms : List Int} (h : Asc ms) {k : Nat} {a b : Int} (ha : lowAt ms k = some a) (hb : highAt ms k = some b) : a ≤ b := by
  cases k with
  | zero => exact nomatch ha
  | succ k =>
    have ha : ms[k]? = some a := ha
    unfold highAt at hb
    obtain ⟨c, hc, e⟩ := Option.map_eq_some_iff.mp hb
    have := asc_lt h ha hc (by omega)
    omega
theorem span_so {ms : List Int} (h : Asc ms) {j k : Nat} (jk : j < k) (hk : k ≤ ms.length) : ∃ a b, highAt ms j = some a ∧ lowAt ms k = some b ∧ a < b := by
  cases k with
  | zero => omega
  | succ k =>
    have e1 : ms[j]? = some ms[j] := List.getElem?_eq_getElem (by omega)
    have e2 : ms[k]? = some ms[k] := List.getElem?_eq_getElem (by omega)
    refine ⟨ms[j] - 1, ms[k], by unfold highAt; rw [e1]; rfl, e2, ?_⟩
    by_cases q : j = k
    · subst q
      omega
    · have := asc_lt h e1 e2 (by omega)
      omega
/-! two patterns joined -/
/-- the signs of w are op of those of w1, w2 -/
structure Made (op : Bool → Bool → Bool) (m w1 w2 w : Nat) : Prop where
  l : w < 2 ^ m
  h : ∀ i, i < m → w.testBit i = op (w1.testBit i) (w2.testBit i)
theorem made_or {m w1 w2 : Nat} (h1 : w1 < 2 ^ m) (h2 : w2 < 2 ^ m) : Made (fun a b => a || b) m w1 w2 (w1 ||| w2) := ⟨Nat.or_lt_two_pow h1 h2, fun i _ => Nat.testBit_or ..⟩
theorem made_and {m w1 w2 : Nat} (h1 : w1 < 2 ^ m) : Made (fun a b => a && b) m w1 w2 (w1 &&& w2) := ⟨Nat.lt_of_le_of_lt Nat.and_le_left h1, fun i _ => Nat.testBit_and ..⟩
theorem made_less {m w1 w2 : Nat} (h1 : w1 < 2 ^ m) : Made (fun a b => a && !b) m w1 w2 (w1 ^^^ (w1 &&& w2)) := ⟨Nat.xor_lt_two_pow h1 (Nat.lt_of_le_of_lt Nat.and_le_left h1), fun i _ => by
  rw [Nat.testBit_xor, Nat.testBit_and]
  cases w1.testBit i <;> cases w2.testBit i <;> rfl⟩
section
variable {op : Bool → Bool → Bool} {p b q c s w1 w2 w : Nat} {f : Int}
/-- as far as both periods -/
theorem join_all (p0 : 0 < p) (q0 : 0 < q) (dp : p ∣ s) (dq : q ∣ s) (s0 : 0 < s) (W1 : WinAt p b f s w1) (W2 : WinAt q c f s w2) (M : Made op s w1 w2 w) (n : Int) : pat s (turnN w s f) n = op (pat p b n) (pat q c n) := by
  rw [turn_pat s0 M.l]
  have h2 := Int.emod_nonneg (n - f) (show (s : Int) ≠ 0 by omega)
  have e := Int.emod_add_mul_ediv (n - f) s
  have lt := mod_lt' s0 (n - f)
  have ef : (((n - f) % (s : Int)).toNat : Int) = (n - f) % s := Int.toNat_of_nonneg h2
  unfold pat
  rw [M.h _ lt, W1.h _ lt, W2.h _ lt, ef]
  obtain ⟨x, hx⟩ := dp
  obtain ⟨y, hy⟩ := dq
  have en : n = (f + (n - f) % s) + ((n - f) / s) * s := by
    rw [Int.mul_comm ((n - f) / (s : Int))]
    omega
  generalize (n - f) % (s : Int) = r at *
  generalize (n - f) / (s : Int) = d at *
  have e1 : pat p b n = pat p b (f + r) := by
    rw [en, hx, show f + r + d * ((p * x : Nat) : Int) = f + r + (d * x) * p by rw [Int.natCast_mul, Int.mul_comm (p : Int), Int.mul_assoc], pat_add]
  have e2 : pat q c n = pat q c (f + r) := by
    rw [en, hy, show f + r + d * ((q * y : Nat) : Int) = f + r + (d * y) * q by rw [Int.natCast_mul, Int.mul_comm (q : Int), Int.mul_assoc], pat_add]
  show op (pat p b (f + r)) (pat q c (f + r)) = op (pat p b n) (pat q c n)
  rw [e1, e2]
/-- as far as the span -/
theorem join_span (s0 : 0 < s) (W1 : WinAt p b f s w1) (W2 : WinAt q c f s w2) (M : Made op s w1 w2 w) {n : Int} (h1 : f ≤ n) (h2 : n < f + s) : pat s (turnN w s f) n = op (pat p b n) (pat q c n) := by
  rw [turn_pat s0 M.l]
  obtain ⟨i, rfl⟩ : ∃ i : Nat, n = f + i := ⟨(n - f).toNat, by omega⟩
  rw [show f + (i : Int) - f = i by omega, pat_nat (by omega), M.h i (by omega), W1.h i (by omega), W2.h i (by omega)]
end
/-! whether a number is told -/
def geB : Option Int → Int → Bool
  | none, _ => true
  | some l, n => decide (l ≤ n)
def leB : Option Int → Int → Bool
  | none, _ => true
  | some h, n => decide (n ≤ h)
def Rw.inB (r : Rw) (n : Int) : Bool := geB r.lo n && leB r.hi n && pat r.p r.b n
def inLB (rs : List Rw) (n : Int) : Bool := rs.any fun r => r.inB n
theorem geB_iff {o : Option Int} {n : Int} : geB o n = true ↔ Ge o n := by
  cases o with
  | none => exact ⟨fun _ => ge_none n, fun _ => rfl⟩
  | some l => rw [ge_some]; exact decide_eq_true_iff
theorem leB_iff {o : Option Int} {n : Int} : leB o n = true ↔ Le o n := by
  cases o with
  | none => exact ⟨fun _ => le_none n, fun _ => rfl⟩
  | some l => rw [le_some]; exact decide_eq_true_iff
theorem inB_iff {r : Rw} {n : Int} : r.inB n = true ↔ r.In n := by
  unfold Rw.inB Rw.In
  rw [Bool.and_eq_true, Bool.and_eq_true, geB_iff, leB_iff, and_assoc]
theorem inLB_iff {rs : List Rw} {n : Int} : inLB rs n = true ↔ InL rs n := by
  unfold inLB InL
  rw [List.any_eq_true]
  constructor
  · rintro ⟨r, hr, k⟩
    exact ⟨r, hr, inB_iff.mp k⟩
  · rintro ⟨r, hr, k⟩
    exact ⟨r, hr, inB_iff.mpr k⟩
theorem inLB_eq {rs : List Rw} {n : Int} {b : Bool} (h : InL rs n ↔ b = true) : inLB rs n = b := by
  rw [Bool.eq_iff_iff, inLB_iff, h]
theorem rest_eq {L P : Nat} {rs : List Rw} {lo hi : Option Int} {p b : Nat} (h : RestAt L P rs lo hi p b) {n : Int} (k : InSp lo hi n) : inLB rs n = pat p b n := inLB_eq (h.i n k)
/-- the rows of all spans, joined: what they tell together -/
structure Joined (op : Bool → Bool → Bool) (L : Nat) (ms : List Int) (one two : List Rw) (k : Nat) (r : Rw) : Prop where
  ok : r.Ok
  lo : r.lo = lowAt ms k
  hi : r.hi = highAt ms k
  i : ∀ n, InSp (lowAt ms k) (highAt ms k) n → pat r.p r.b n = op (inLB one n) (inLB two n)
  pd : r.p ∣ L ∨ ∃ l h, r.lo = some l ∧ r.hi = some h ∧ h ≤ l + 2520
/-- all of them -/
structure JoinedL (op : Bool → Bool → Bool) (L : Nat) (ms : List Int) (one two : List Rw) (js : List Rw) : Prop where
  len : js.length = ms.length + 1
  at_ : ∀ k r, js[k]? = some r → Joined op L ms one two k r
theorem joined_so {op : Bool → Bool → Bool} {L : Nat} {ms : List Int} {one two js : List Rw} (asc : Asc ms) (h : JoinedL op L ms one two js) : js.Pairwise Bef := by
  rw [List.pairwise_iff_getElem]
  intro i j hi hj ij
  have a := h.at_ i js[i] (List.getElem?_eq_getElem hi)
  have b := h.at_ j js[j] (List.getElem?_eq_getElem hj)
  obtain ⟨x, y, e1, e2, lt⟩ := span_so asc ij (by have := h.len; omega)
  exact ⟨x, y, by rw [a.hi, e1], by rw [b.lo, e2], lt⟩
theorem joined_in {op : Bool → Bool → Bool} {L : Nat} {ms : List Int} {one two js : List Rw} (asc : Asc ms) (h : JoinedL op L ms one two js) (n : Int) : InL js n ↔ op (inLB one n) (inLB two n) = true := by
  constructor
  · rintro ⟨r, hr, im⟩
    obtain ⟨k, hk⟩ := List.getElem?_of_mem hr
    have j := h.at_ k r hk
    rw [← j.i n ⟨j.lo ▸ im.1, j.hi ▸ im.2.1⟩]
    exact im.2.2
  · intro e
    obtain ⟨k, hk, sp⟩ := span_cover ms n
    have lt : k < js.length := by have := h.len; omega
    have j := h.at_ k js[k] (List.getElem?_eq_getElem lt)
    refine ⟨js[k], List.getElem_mem lt, by rw [j.lo]; exact sp.1, by rw [j.hi]; exact sp.2, ?_⟩
    rw [j.i n sp, e]
theorem joined_lm {Z : Zn} {op : Bool → Bool → Bool} {L : Nat} (kk : (Z.up 1).Ok L) {ms : List Int} {one two js : List Rw} (asc : Asc ms) (h : JoinedL op L ms one two js) (hm : ∀ m ∈ ms, ∃ c ∈ Z.cs, c - Z.w ≤ m ∧ m ≤ c + Z.w + 1) : ∀ r ∈ js, Lm (Z.up 1) L r := by
  intro r hr
  obtain ⟨k, hk⟩ := List.getElem?_of_mem hr
  have j := h.at_ k r hk
  have ew : (Z.up 1).w = Z.w + 1 := rfl
  have hl : ∀ l, r.lo = some l → (Z.up 1).Has l := fun l e => by
    rw [j.lo] at e
    cases k with
    | zero => exact nomatch e
    | succ k =>
      obtain ⟨c, hc, a, b⟩ := hm l (List.mem_of_getElem? (show ms[k]? = some l from e))
      exact ⟨c, hc, by omega, by omega⟩
  have hh : ∀ x, r.hi = some x → (Z.up 1).Has x := fun x e => by
    rw [j.hi] at e
    unfold highAt at e
    obtain ⟨m, hm', e⟩ := Option.map_eq_some_iff.mp e
    obtain ⟨c, hc, a, b⟩ := hm m (List.mem_of_getElem? hm')
    exact ⟨c, hc, by omega, by omega⟩
  refine ⟨hl, hh, ?_⟩
  rcases j.pd with d | ⟨l, x, e1, e2, le⟩
  · exact .inl d
  · have lx := j.ok.le l x e1 e2
    obtain ⟨c, hc, n1⟩ := hl l e1
    obtain ⟨d, hd, n2⟩ := hh x e2
    obtain rfl := kk.one hc hd n1 n2 (by omega) (by omega)
    exact .inr ⟨c, hc, l, x, e1, e2, n1, n2⟩
end L2.Ln
end

section
set_option Elab.async false
set_option linter.all false
set_option maxRecDepth 100000
set_option maxHeartbeats 1000000
/-! steps of a reading, put behind one another -/
namespace L2.Gd
open PySem PySem.Spec PyProof.Rows
theorem seqV {Good : L2.St → Hp → Prop} {t u : TS} {D : Ends} {σ : L2.St} {H : Hp} (h : ∀ nx : L2.St → Hp → Prop, (∀ σ2 H2, Good σ2 H2 → nx σ2 H2) → t { D with nx := nx } σ H)
    (hk : ∀ σ2 H2, Good σ2 H2 → u D σ2 H2) : tSeq t u D σ H := h (u D) hk
theorem via {Good : V → Hp → Prop} {t : TE} {σ : L2.St} {H : Hp} {Q : VK} (h : ∀ Q' : VK, (∀ v H2, Good v H2 → Q' v H2) → t σ H Q') (hk : ∀ v H2, Good v H2 → Q v H2) : t σ H Q := h Q hk
theorem gn {i : Nat} {v : V} {σ : L2.St} {H : Hp} {Q : L2.St → Hp → Prop} (h : Q (σ.set i (some v)) H) : gName i v σ H Q := h
theorem loop_of {J : It} {n : Nat} {g : TG} {tb : TS} {D : Ends} {σ : L2.St} {H : Hp} (Pv : Nat → L2.St → Hp → Prop) (h0 : Pv 0 σ H)
    (hd : ∀ σ H, Pv n σ H → J.stop n H ∧ D.nx σ H)
    (hs : ∀ i σ H, i < n → Pv i σ H → J.go i H ∧ ∀ x H', J.yld i H x H' → g x σ H' fun σ2 H2 => tb { D with nx := Pv (i + 1), ct := Pv (i + 1), bk := D.nx } σ2 H2) :
    ∃ W : Nat → Nat → L2.St → Hp → Prop, (∃ m, W 0 m σ H) ∧ ∀ i m σ H, W i m σ H → (J.stop i H ∧ D.nx σ H) ∨
      (J.go i H ∧ ∃ N : L2.St → Hp → Prop, (∀ σ' H', N σ' H' → ∃ m', m' < m ∧ W (i + 1) m' σ' H') ∧
        ∀ x H', J.yld i H x H' → g x σ H' fun σ2 H2 => tb { D with nx := N, ct := N, bk := D.nx } σ2 H2) := by
  refine ⟨fun i m σ H => m = n - i ∧ i ≤ n ∧ Pv i σ H, ⟨n, by simp, Nat.zero_le _, h0⟩, ?_⟩
  rintro i m σ H ⟨rfl, hi, hp⟩
  by_cases e : i < n
  · obtain ⟨go, k⟩ := hs i σ H e hp
    exact .inr ⟨go, Pv (i + 1), fun σ' H' q => ⟨n - (i + 1), by omega, rfl, e, q⟩, k⟩
  · obtain rfl : i = n := by omega
    exact .inl (hd σ H hp)
end L2.Gd
end

section
set_option Elab.async false
set_option linter.all false
set_option maxRecDepth 100000
set_option maxHeartbeats 1000000
namespace L2.K14
open PySem PySem.Spec PyProof.Rows L2.Gd L2.Ln
/-! ### ints as masks -/
theorem bit0 (m : Nat) {i : Nat} (h : i < 2) : (2 * m + i).testBit 0 = decide (i = 1) := by
  rw [Nat.testBit_zero]
  congr 1
  rw [Nat.mul_add_mod, Nat.mod_eq_of_lt h]
theorem bitS (m : Nat) {i : Nat} (h : i < 2) (k : Nat) : (2 * m + i).testBit (k + 1) = m.testBit k := by
  rw [Nat.testBit_succ]
  congr 1
  omega
theorem or_nat (a b : Nat) : Builtin.bitOr (a : Int) (b : Int) = ((a ||| b : Nat) : Int) := by
  rw [Bits.bitOr_pp (Int.natCast_nonneg a) (Int.natCast_nonneg b), Int.toNat_natCast, Int.toNat_natCast]
theorem and_nat (a b : Nat) : Builtin.bitAnd (a : Int) (b : Int) = ((a &&& b : Nat) : Int) := by
  rw [PyProof.Rows.bitAnd_pp (Int.natCast_nonneg a) (Int.natCast_nonneg b), Int.toNat_natCast, Int.toNat_natCast]
theorem xor_sum : ∀ a b : Nat, (a ||| b) = (a ^^^ b) + (a &&& b) := by
  intro a
  induction a using Nat.strongRecOn with
  | ind a ih =>
    intro b
    by_cases z : a = 0
    · subst z
      simp
    obtain ⟨m, i, hi, rfl⟩ : ∃ m i, i < 2 ∧ a = 2 * m + i := ⟨a / 2, a % 2, by omega, by omega⟩
    obtain ⟨n, j, hj, rfl⟩ : ∃ n j, j < 2 ∧ b = 2 * n + j := ⟨b / 2, b % 2, by omega, by omega⟩
    have h := ih m (by omega) n
    have o : (2 * m + i) ||| (2 * n + j) = 2 * (m ||| n) + (i ||| j) := by
      have ij : i ||| j < 2 := by
        rcases (show i = 0 ∨ i = 1 by omega) with rfl | rfl <;> rcases (show j = 0 ∨ j = 1 by omega) with rfl | rfl <;> decide
      apply Nat.eq_of_testBit_eq
      intro k
      rw [Nat.testBit_or]
      cases k with
      | zero =>
        rw [bit0 m hi, bit0 n hj, bit0 _ ij]
        rcases (show i = 0 ∨ i = 1 by omega) with rfl | rfl <;> rcases (show j = 0 ∨ j = 1 by omega) with rfl | rfl <;> decide
      | succ k => rw [bitS m hi, bitS n hj, bitS _ ij, Nat.testBit_or]
    have x : (2 * m + i) ^^^ (2 * n + j) = 2 * (m ^^^ n) + (i ^^^ j) := by
      have ij : i ^^^ j < 2 := by
        rcases (show i = 0 ∨ i = 1 by omega) with rfl | rfl <;> rcases (show j = 0 ∨ j = 1 by omega) with rfl | rfl <;> decide
      apply Nat.eq_of_testBit_eq
      intro k
      rw [Nat.testBit_xor]
      cases k with
      | zero =>
        rw [bit0 m hi, bit0 n hj, bit0 _ ij]
        rcases (show i = 0 ∨ i = 1 by omega) with rfl | rfl <;> rcases (show j = 0 ∨ j = 1 by omega) with rfl | rfl <;> decide
      | succ k => rw [bitS m hi, bitS n hj, bitS _ ij, Nat.testBit_xor]
    have d : (2 * m + i) &&& (2 * n + j) = 2 * (m &&& n) + (i &&& j) := by
      have ij : i &&& j < 2 := by
        rcases (show i = 0 ∨ i = 1 by omega) with rfl | rfl <;> rcases (show j = 0 ∨ j = 1 by omega) with rfl | rfl <;> decide
      apply Nat.eq_of_testBit_eq
      intro k
      rw [Nat.testBit_and]
      cases k with
      | zero =>
        rw [bit0 m hi, bit0 n hj, bit0 _ ij]
        rcases (show i = 0 ∨ i = 1 by omega) with rfl | rfl <;> rcases (show j = 0 ∨ j = 1 by omega) with rfl | rfl <;> decide
      | succ k => rw [bitS m hi, bitS n hj, bitS _ ij, Nat.testBit_and]
    have e : (i ||| j) = (i ^^^ j) + (i &&& j) := by
      rcases (show i = 0 ∨ i = 1 by omega) with rfl | rfl <;> rcases (show j = 0 ∨ j = 1 by omega) with rfl | rfl <;> decide
    rw [o, x, d, h, e]
    omega
theorem xor_nat (a b : Nat) : Builtin.bitXor (a : Int) (b : Int) = ((a ^^^ b : Nat) : Int) := by
  show Builtin.bitOr (a : Int) b - Builtin.bitAnd (a : Int) b = _
  rw [or_nat, and_nat, xor_sum]
  omega
theorem shl_nat (a k : Nat) : (a : Int) * 2 ^ ((k : Int)).toNat = ((a <<< k : Nat) : Int) := by
  rw [Int.toNat_natCast, Nat.shiftLeft_eq, Int.natCast_mul]
  simp
theorem shr_nat (a k : Nat) : (a : Int) / 2 ^ ((k : Int)).toNat = ((a >>> k : Nat) : Int) := by
  rw [Int.toNat_natCast, Nat.shiftRight_eq_div_pow]
  simp
theorem one_shl (k : Nat) : (1 : Int) * 2 ^ ((k : Int)).toNat - 1 = ((2 ^ k - 1 : Nat) : Int) := by
  have := Nat.two_pow_pos k
  rw [Int.toNat_natCast, Int.one_mul]
  have e : ((2 ^ k : Nat) : Int) = (2 : Int) ^ k := by simp
  omega
theorem cshl {a k n : Nat} (h : a < 2 ^ n) (hk : n + k ≤ 134217728) : CShl (a : Int) (k : Int) := shl_ok (by rw [Int.natAbs_natCast]; exact h) hk
section
variable {P : Program} {w : World} {K : PySem.W.Frag} {mg : Str → Option Value} {base : Heap}
/-! ### full, turned, spread, window -/
def spFull : Sp := fun vs H Q _ => ∃ m : Nat, vs = [.int m] ∧ m ≤ 1000000 ∧ Q (.int ((2 ^ m - 1 : Nat) : Int)) H
theorem scFull : FnScope ["many"] ["many"] (defScope (top 17)) := ⟨rfl, rfl, rfl, by decide +kernel, rfl, by decide +kernel, by decide +kernel⟩
theorem ok_full {f : Addr} {fd : FuncData} (F : Fun K "full" "full" (top 17) f fd) : FnOk P w K mg base CX0 1 f fd ["many"] spFull := by
  refine F.ok scFull (fun vs H Q E h => ?_) (fun cdv A outer s H vs Q E hr h => ?_)
  · obtain ⟨m, rfl, _⟩ := h
    rfl
  · obtain ⟨m, rfl, hm, q⟩ := h
    refine ⟨_, pss_one (ps_ret (pe_op op_sub (pe_op op_shlW pe_int (pv 0)) pe_int)), ?_⟩
    rw [← one_shl] at q
    exact ⟨_, rfl, 1, m, rfl, rfl, cshl (a := 1) (n := 1) (by decide) (by omega), _, _, rfl, rfl, q⟩
def spTu : Sp := fun vs H Q _ => ∃ (b p : Nat) (k : Int), vs = [.int b, .int p, .int k] ∧ 0 < p ∧ p ≤ 1000000 ∧ b < 2 ^ p ∧ Q (.int (turnN b p k : Nat)) H
theorem scTu : FnScope ["bits", "step", "by", "far"] ["bits", "step", "by"] (defScope (top 18)) := ⟨rfl, rfl, rfl, by decide +kernel, rfl, by decide +kernel, by decide +kernel⟩
theorem ok_tu {f : Addr} {fd : FuncData} (F : Fun K "turned" "turned" (top 18) f fd) (FU : Fn P w K mg base 1 "full" ["many"] spFull) : FnOk P w K mg base CX0 2 f fd ["bits", "step", "by"] spTu := by
  refine F.ok scTu (fun vs H Q E h => ?_) (fun cdv A outer s H vs Q E hr h => ?_)
  · obtain ⟨b, p, k, rfl, _⟩ := h
    rfl
  · obtain ⟨b, p, k, rfl, p0, pm, hb, q⟩ := h
    have N := scTu.nd
    refine ⟨_, pss_cons (ps_set (i := 3) N rfl (.inl rfl) (pe_op op_mod (pv 2) (pv 1)))
      (pss_one (ps_ret (pe_op op_and (pe_op op_or (pe_op op_shlW (pv 0) (pv 3)) (pe_op op_shr (pv 0) (pe_op op_sub (pv 1) (pv 3)))) (pe_fn FU hr (pa_cons (pv 1) pa_nil))))), ?_⟩
    have hf := mod_lt' p0 k
    have h2 := Int.emod_nonneg k (show (p : Int) ≠ 0 by omega)
    have ef : k % (p : Int) = (((k % (p : Int)).toNat : Nat) : Int) := (Int.toNat_of_nonneg h2).symm
    refine seqV (Good := fun σ2 H2 => H = H2 ∧ σ2 = [some (.int b), some (.int p), some (.int k), some (.int (((k % (p : Int)).toNat : Nat) : Int))]) ?_ ?_
    · intro nx hnx
      rw [← ef] at hnx
      exact ⟨_, rfl, _, rfl, _, _, rfl, rfl, by omega, hnx _ _ ⟨rfl, rfl⟩⟩
    rintro _ _ ⟨rfl, rfl⟩
    have e : turnN b p k = ((b <<< (k % (p : Int)).toNat) ||| (b >>> (p - (k % (p : Int)).toNat))) &&& (2 ^ p - 1) := rfl
    generalize (k % (p : Int)).toNat = far at hf ef e
    rw [e, ← and_nat, ← or_nat, ← shl_nat, ← shr_nat, show ((p - far : Nat) : Int) = (p : Int) - far by omega] at q
    exact ⟨_, rfl, _, rfl, _, _, rfl, rfl, cshl hb (by omega), _, rfl, _, rfl, _, rfl, _, _, rfl, rfl, _, _, rfl, rfl, by omega, _, _, rfl, rfl, _, rfl, p, rfl, pm, _, _, rfl, rfl, q⟩
def spSp : Sp := fun vs H Q _ => ∃ (b p m : Nat), vs = [.int b, .int p, .int m] ∧ 0 < p ∧ p ≤ 100000 ∧ m ≤ 100000 ∧ b < 2 ^ p ∧ ∀ v bits, SpI b p v bits → m ≤ v → Q (.int ((bits &&& (2 ^ m - 1) : Nat) : Int)) H
theorem scSp : FnScope ["bits", "step", "many", "have"] ["bits", "step", "many"] (defScope (top 19)) := ⟨rfl, rfl, rfl, by decide +kernel, rfl, by decide +kernel, by decide +kernel⟩
theorem ok_sp {f : Addr} {fd : FuncData} (F : Fun K "spread" "spread" (top 19) f fd) (FU : Fn P w K mg base 1 "full" ["many"] spFull) : FnOk P w K mg base CX0 2 f fd ["bits", "step", "many"] spSp := by
  refine F.ok scSp (fun vs H Q E h => ?_) (fun cdv A outer s H vs Q E hr h => ?_)
  · obtain ⟨b, p, m, rfl, _⟩ := h
    rfl
  · obtain ⟨b, p, m, rfl, p0, pm, mm, hb, q⟩ := h
    have N := scSp.nd
    refine ⟨_, pss_cons (ps_set (i := 3) N rfl (.inl rfl) (pv 1))
      (pss_cons (ps_while PassesOwn.never (pt_cmpR op_lt (pv 3) (pv 2) (nomark _))
        (pss_cons (ps_set (i := 0) N rfl (.inl rfl) (pe_op op_or (pv 0) (pe_op op_shlW (pv 0) (pv 3))))
        (pss_one (ps_set (i := 3) N rfl (.inl rfl) (pe_op op_add (pv 3) (pv 3))))))
      (pss_one (ps_ret (pe_op op_and (pv 0) (pe_fn FU hr (pa_cons (pv 2) pa_nil)))))), ?_⟩
    refine ⟨_, rfl, ?_⟩
    refine ⟨fun k σ H2 => ∃ v bits : Nat, k = 100000 - v ∧ 0 < v ∧ v ≤ 200000 ∧ SpI b p v bits ∧ H = H2 ∧ σ = [some (.int bits), some (.int p), some (.int m), some (.int v)], ⟨_, p, b, rfl, p0, by omega, spI_0 hb, rfl, rfl⟩, ?_⟩
    rintro k σ H2 ⟨v, bits, rfl, v0, vm, sp, rfl, rfl⟩
    refine ⟨_, rfl, _, rfl, _, _, rfl, rfl, decide ((v : Int) < m), rfl, ?_⟩
    by_cases c : v < m
    · rw [decide_eq_true (by omega)]
      refine iteT ⟨fun σ3 H3 => ∃ v' bits' : Nat, v' = v + v ∧ SpI b p v' bits' ∧ H = H3 ∧ σ3 = [some (.int bits'), some (.int p), some (.int m), some (.int v')], fun σ3 H3 ⟨v', bits', e1, e2, e3, e4⟩ => ⟨100000 - v', by omega, v', bits', rfl, by omega, by omega, e2, e3, e4⟩, ?_⟩
      refine seqV (Good := fun σ2 H2 => H = H2 ∧ σ2 = [some (.int ((bits ||| (bits <<< v) : Nat) : Int)), some (.int p), some (.int m), some (.int v)]) ?_ ?_
      · intro nx hnx
        rw [← or_nat, ← shl_nat] at hnx
        exact ⟨_, rfl, _, rfl, _, rfl, _, _, rfl, rfl, cshl sp.l (by omega), _, _, rfl, rfl, hnx _ _ ⟨rfl, rfl⟩⟩
      rintro _ _ ⟨rfl, rfl⟩
      refine ⟨_, rfl, _, rfl, _, _, rfl, rfl, v + v, _, rfl, spI_S sp, rfl, ?_⟩
      rw [show ((v + v : Nat) : Int) = (v : Int) + v by omega]
      rfl
    · rw [decide_eq_false (by omega)]
      have q := q v bits sp (by omega)
      rw [← and_nat] at q
      exact iteF ⟨_, rfl, _, rfl, m, rfl, by omega, _, _, rfl, rfl, q⟩
def spWi : Sp := fun vs H Q _ => ∃ (p b m : Nat) (low : Int), vs = [.int p, .int b, .int low, .int m] ∧ 0 < p ∧ p ≤ 100000 ∧ m ≤ 100000 ∧ b < 2 ^ p ∧ ∀ w : Nat, WinAt p b low m w → Q (.int w) H
theorem scWi : FnScope ["step", "bits", "low", "many"] ["step", "bits", "low", "many"] (defScope (top 20)) := ⟨rfl, rfl, rfl, by decide +kernel, rfl, by decide +kernel, by decide +kernel⟩
theorem ok_wi {f : Addr} {fd : FuncData} (F : Fun K "window" "window" (top 20) f fd) (TU : Fn P w K mg base 2 "turned" ["bits", "step", "by"] spTu) (SP : Fn P w K mg base 2 "spread" ["bits", "step", "many"] spSp) : FnOk P w K mg base CX0 3 f fd ["step", "bits", "low", "many"] spWi := by
  refine F.ok scWi (fun vs H Q E h => ?_) (fun cdv A outer s H vs Q E hr h => ?_)
  · obtain ⟨p, b, m, low, rfl, _⟩ := h
    rfl
  · obtain ⟨p, b, m, low, rfl, p0, pm, mm, hb, q⟩ := h
    refine ⟨_, pss_one (ps_ret (pe_fn SP hr (pa_cons (pe_fn TU hr (pa_cons (pv 1) (pa_cons (pv 0) (pa_cons (pe_op op_sub pe_int (pv 2)) pa_nil)))) (pa_cons (pv 0) (pa_cons (pv 3) pa_nil))))), ?_⟩
    refine ⟨_, rfl, _, rfl, _, rfl, _, _, rfl, rfl, b, p, 0 - low, rfl, p0, by omega, hb, ?_⟩
    exact ⟨_, rfl, _, rfl, turnN b p (0 - low), p, m, rfl, p0, pm, mm, turn_lt _ _ _, fun v bits sp hv => q _ (win_of p0 hb sp hv)⟩
end
end L2.K14
end

section
set_option Elab.async false
set_option linter.all false
set_option maxRecDepth 100000
set_option maxHeartbeats 1000000
namespace L2.K14
open PySem PySem.Spec PyProof.Rows L2.Gd L2.Ln
theorem len_nat (a : Nat) : (Builtin.Int.intBits (a : Int) : Nat) = lenN a := by
  unfold Builtin.Int.intBits lenN
  by_cases z : a = 0
  · subst z
    rfl
  · rw [if_neg z, if_neg (by simpa using z), Int.natAbs_natCast]
theorem and_neg {a : Nat} (h : a ≠ 0) : Builtin.bitAnd (a : Int) (0 - (a : Int)) = ((a - (a &&& (a - 1)) : Nat) : Int) := by
  unfold Builtin.bitAnd
  rw [decide_eq_true (show (0 : Int) ≤ a by omega), decide_eq_false (show ¬ (0 : Int) ≤ 0 - a by omega)]
  show (a : Int) - (((a : Int).toNat &&& (Builtin.bitNot (0 - (a : Int))).toNat : Nat) : Int) = _
  have e : (Builtin.bitNot (0 - (a : Int))).toNat = a - 1 := by
    show (-(0 - (a : Int)) - 1).toNat = a - 1
    omega
  rw [e, Int.toNat_natCast]
  have : a &&& (a - 1) ≤ a := Nat.and_le_left
  omega
def iN (l : List Nat) : List V := l.map fun i : Nat => V.int (i : Int)
section
variable {P : Program} {w : World} {K : PySem.W.Frag} {mg : Str → Option Value} {base : Heap}
def spRe : Sp := fun vs H Q _ => ∃ b p s : Nat, vs = [.int b, .int p, .int s] ∧ s ≤ p ∧ p ≤ 1000000 ∧ Q (.bl (decide (((b ^^^ (b >>> s)) &&& (2 ^ (p - s) - 1)) = 0))) H
theorem scRe : FnScope ["bits", "step", "small"] ["bits", "step", "small"] (defScope (top 28)) := ⟨rfl, rfl, rfl, by decide +kernel, rfl, by decide +kernel, by decide +kernel⟩
theorem ok_re {f : Addr} {fd : FuncData} (F : Fun K "repeats" "repeats" (top 28) f fd) (FU : Fn P w K mg base 1 "full" ["many"] spFull) : FnOk P w K mg base CX0 2 f fd ["bits", "step", "small"] spRe := by
  refine F.ok scRe (fun vs H Q E h => ?_) (fun cdv A outer s H vs Q E hr h => ?_)
  · obtain ⟨b, p, s, rfl, _⟩ := h
    rfl
  · obtain ⟨b, p, s, rfl, sp, pm, q⟩ := h
    refine ⟨_, pss_one (ps_ret (pe_cmpR op_eq (pe_op op_and (pe_op op_xor (pv 0) (pe_op op_shr (pv 0) (pv 2))) (pe_fn FU hr (pa_cons (pe_op op_sub (pv 1) (pv 2)) pa_nil))) pe_int (nomark _))), ?_⟩
    have e : decide (V.int (Builtin.bitAnd (Builtin.bitXor (b : Int) ((b : Int) / 2 ^ ((s : Int)).toNat)) ((2 ^ (p - s) - 1 : Nat) : Int)) = V.int 0) = decide (((b ^^^ (b >>> s)) &&& (2 ^ (p - s) - 1)) = 0) := by
      rw [shr_nat, xor_nat, and_nat]
      simp only [V.int.injEq]
      congr 1
      rw [eq_iff_iff]
      omega
    rw [← e] at q
    exact ⟨_, rfl, _, rfl, _, rfl, _, _, rfl, rfl, by omega, _, _, rfl, rfl, _, rfl, _, rfl, _, _, rfl, rfl, p - s, (by show [V.int ((p : Int) - s)] = [V.int ((p - s : Nat) : Int)]; rw [show ((p : Int) - s) = ((p - s : Nat) : Int) by omega]), by omega, _, _, rfl, rfl, rfl, q⟩
def spPr : Sp := fun vs H Q _ => ∃ N : Nat, vs = [.int N] ∧ 0 < N ∧ N ≤ 100000 ∧ ∀ l out H', H l = none → Same H H' → H' l = some (.lst (iN out)) → Cov N out → Q (.ref l) H'
theorem scPr : FnScope ["number", "out", "prime"] ["number"] (defScope (top 29)) := ⟨rfl, rfl, rfl, by decide +kernel, rfl, by decide +kernel, by decide +kernel⟩
theorem same_at {H H2 : Hp} {l : Addr} {o : HO} (nl : H l = none) (s : Same H H2) : Same H (upd H2 l o) := fun b u e => by
  rw [upd_ne (ne_of_none e nl)]
  exact s _ _ e
theorem mod0 {a b : Nat} (hb : 0 < b) : decide (V.int ((a : Int) % (b : Int)) = V.int 0) = decide (b ∣ a) := by
  simp only [V.int.injEq]
  congr 1
  rw [eq_iff_iff, ← Int.natCast_emod]
  constructor
  · intro h
    exact Nat.dvd_of_mod_eq_zero (by omega)
  · intro h
    have := Nat.mod_eq_zero_of_dvd h
    omega
theorem ok_pr {f : Addr} {fd : FuncData} (F : Fun K "primes_of" "primes_of" (top 29) f fd) : FnOk P w K mg base CX0 1 f fd ["number"] spPr := by
  refine F.ok scPr (fun vs H Q E h => ?_) (fun cdv A outer s H vs Q E hr h => ?_)
  · obtain ⟨N, rfl, _⟩ := h
    rfl
  · obtain ⟨N, rfl, N0, Nm, q⟩ := h
    have nd := scPr.nd
    refine ⟨_, pss_cons (ps_set (i := 1) nd rfl (.inl rfl) (pe_lst pa_nil)) (pss_cons (ps_set (i := 2) nd rfl (.inl rfl) pe_int)
      (pss_cons (ps_while PassesOwn.never (pt_cmpR op_le (pe_op op_mul (pv 2) (pv 2)) (pv 0) (nomark _))
        (pss_cons (ps_if (pt_cmpR op_eq (pe_op op_mod (pv 0) (pv 2)) pe_int (nomark _)) (pss_one (ps_expr (pe_bm PySem.F.plainAttrs_list PySem.F.slot_list_append PySem.F.type_list_append mt_append (pv 1) (pa_cons (pv 2) pa_nil)))) pss_nil)
        (pss_cons (ps_while PassesOwn.never (pt_cmpR op_eq (pe_op op_mod (pv 0) (pv 2)) pe_int (nomark _)) (pss_one (ps_set (i := 0) nd rfl (.inl rfl) (pe_op op_fdiv (pv 0) (pv 2)))))
        (pss_one (ps_set (i := 2) nd rfl (.inl rfl) (pe_op op_add (pv 2) pe_int))))))
      (pss_one (ps_ret (pe_ifExp (pt_cmpR op_gt (pv 0) pe_int (nomark _)) (pe_op op_cat (pv 1) (pe_lst (pa_cons (pv 0) pa_nil))) (pv 1)))))), ?_⟩
    have sl := sizeLine_eq
    refine seqV (Good := fun σ2 H2 => ∃ l, H l = none ∧ Same H H2 ∧ H2 l = some (.lst []) ∧ σ2 = [some (.int N), some (.ref l), none]) (fun nx hnx => ⟨(by show 0 ≤ sizeLine; decide), fun l hl => hnx _ _ ⟨l, hl, same_upd hl, upd_same, rfl⟩⟩) ?_
    rintro _ H1 ⟨l, nl, s1, hl1, rfl⟩
    refine seqV (Good := fun σ2 H2 => H1 = H2 ∧ σ2 = [some (.int N), some (.ref l), some (.int 2)]) (fun nx hnx => hnx _ _ ⟨rfl, rfl⟩) ?_
    rintro _ _ ⟨rfl, rfl⟩
    -- all primes
    refine seqV (Good := fun σ2 H2 => ∃ (out : List Nat) (pr cur : Nat), cur < pr * pr ∧ PrI N out pr cur ∧ out.length ≤ pr ∧ pr ≤ N + 2 ∧ Same H H2 ∧ H2 l = some (.lst (iN out)) ∧ σ2 = [some (.int cur), some (.ref l), some (.int pr)]) ?_ ?_
    · intro nx hnx
      refine ⟨fun k σ H2 => ∃ (out : List Nat) (pr cur : Nat), k = N + 2 - pr ∧ PrI N out pr cur ∧ out.length ≤ pr ∧ pr ≤ N + 2 ∧ Same H H2 ∧ H2 l = some (.lst (iN out)) ∧ σ = [some (.int cur), some (.ref l), some (.int pr)], ⟨_, [], 2, N, rfl, prI_0 N0, Nat.zero_le _, by omega, s1, hl1, rfl⟩, ?_⟩
      rintro k σ H2 ⟨out, pr, cur, rfl, I, ol, pN, s2, hl2, rfl⟩
      have p2 := I.p2
      have cN : cur ≤ N := Nat.le_of_dvd N0 I.cd
      refine ⟨_, rfl, _, rfl, _, _, rfl, rfl, .inl ⟨by omega, by omega⟩, _, rfl, _, _, rfl, rfl, decide ((pr : Int) * pr ≤ cur), rfl, ?_⟩
      by_cases c : pr * pr ≤ cur
      · have c' : (pr : Int) * pr ≤ cur := by
          rw [← Int.natCast_mul]
          exact Int.ofNat_le.mpr c
        have prl : pr ≤ cur := Nat.le_trans (Nat.le_mul_of_pos_left pr (by omega)) c
        rw [decide_eq_true c']
        refine iteT ⟨fun σ3 H3 => ∃ (out' : List Nat) (cur' : Nat), PrI N out' (pr + 1) cur' ∧ out'.length ≤ pr + 1 ∧ Same H H3 ∧ H3 l = some (.lst (iN out')) ∧ σ3 = [some (.int cur'), some (.ref l), some (.int ((pr + 1 : Nat) : Int))], fun σ3 H3 ⟨out', cur', e1, e2, e3, e4, e5⟩ => ⟨N + 2 - (pr + 1), by omega, out', pr + 1, cur', rfl, e1, e2, by omega, e3, e4, e5⟩, ?_⟩
        -- one more
        refine seqV (Good := fun σ4 H4 => ∃ out' : List Nat, PrJ N out' pr cur ∧ out'.length ≤ pr + 1 ∧ Same H H4 ∧ H4 l = some (.lst (iN out')) ∧ σ4 = [some (.int cur), some (.ref l), some (.int pr)]) ?_ ?_
        · intro nx2 hnx2
          refine ⟨_, rfl, _, rfl, _, _, rfl, rfl, by omega, rfl, decide (pr ∣ cur), congrArg V.bl (mod0 (by omega)), ?_⟩
          by_cases d : pr ∣ cur
          · rw [decide_eq_true d]
            have xl : (iN out).length = out.length := List.length_map _
            refine iteT ⟨_, rfl, .inl ⟨rfl, _, .inl (.inl hl2)⟩, _, rfl, l, _, _, rfl, rfl, hl2, by rw [xl, sl]; omega, ?_⟩
            exact hnx2 _ _ ⟨out ++ [pr], prJ_A I, by rw [List.length_append]; show out.length + 1 ≤ pr + 1; omega, same_at nl s2, by rw [upd_same]; unfold iN; rw [List.map_append]; rfl, rfl⟩
          · rw [decide_eq_false d]
            exact iteF (hnx2 _ _ ⟨out, prJ_B I d, by omega, s2, hl2, rfl⟩)
        rintro _ H4 ⟨out', J, ol', s4, hl4, rfl⟩
        -- taken out
        refine seqV (Good := fun σ5 H5 => ∃ cur' : Nat, PrJ N out' pr cur' ∧ ¬ pr ∣ cur' ∧ H4 = H5 ∧ σ5 = [some (.int cur'), some (.ref l), some (.int pr)]) ?_ ?_
        · intro nx2 hnx2
          refine ⟨fun k σ H5 => ∃ cur' : Nat, k = cur' ∧ PrJ N out' pr cur' ∧ H4 = H5 ∧ σ = [some (.int cur'), some (.ref l), some (.int pr)], ⟨_, cur, rfl, J, rfl, rfl⟩, ?_⟩
          rintro k σ H5 ⟨cur', rfl, J', rfl, rfl⟩
          have c0 := J'.i.c0
          refine ⟨_, rfl, _, rfl, _, _, rfl, rfl, by omega, rfl, decide (pr ∣ k), congrArg V.bl (mod0 (by omega)), ?_⟩
          by_cases d : pr ∣ k
          · rw [decide_eq_true d]
            refine iteT ⟨fun σ6 H6 => H4 = H6 ∧ σ6 = [some (.int ((k / pr : Nat) : Int)), some (.ref l), some (.int pr)], fun σ6 H6 ⟨e1, e2⟩ => ⟨k / pr, Nat.div_lt_self c0 (by omega), k / pr, rfl, prJ_S J' d, e1, e2⟩, ?_⟩
            refine ⟨_, rfl, _, rfl, _, _, rfl, rfl, ⟨by omega, by omega⟩, rfl, ?_⟩
            rw [Int.natCast_ediv]
            rfl
          · rw [decide_eq_false d]
            exact iteF (hnx2 _ _ ⟨k, J', d, rfl, rfl⟩)
        rintro _ _ ⟨cur', J', nd', rfl, rfl⟩
        refine ⟨_, rfl, _, _, rfl, rfl, out', cur', prJ_end J' nd', ol', s4, hl4, ?_⟩
        rw [show ((pr + 1 : Nat) : Int) = (pr : Int) + 1 by omega]
        rfl
      · have c' : ¬ (pr : Int) * pr ≤ cur := by
          rw [← Int.natCast_mul]
          exact fun z => c (Int.ofNat_le.mp z)
        rw [decide_eq_false c']
        exact iteF (hnx _ _ ⟨out, pr, cur, by omega, I, ol, pN, s2, hl2, rfl⟩)
    rintro _ H2 ⟨out, pr, cur, lt, I, ol, pN, s2, hl2, rfl⟩
    have xl : (iN out).length = out.length := List.length_map _
    refine ⟨_, rfl, _, _, rfl, rfl, decide ((cur : Int) > 1), rfl, ?_⟩
    by_cases c : 1 < cur
    · rw [decide_eq_true (by omega)]
      refine iteT ⟨_, rfl, _, rfl, (by show 1 ≤ sizeLine; decide), fun o ho => ?_⟩
      have s3 := same_upd (o := .lst [V.int cur]) ho
      refine ⟨l, o, _, _, rfl, rfl, s3 _ _ hl2, upd_same, by rw [xl, sl]; show out.length + 1 ≤ _; omega, fun o2 ho2 => ?_⟩
      refine q o2 (out ++ [cur]) _ ?_ (s2.trans (s3.trans (same_upd ho2))) (by rw [upd_same]; unfold iN; rw [List.map_append]; rfl) (cov_1 I lt c)
      cases e : H o2 with
      | none => rfl
      | some u =>
        rw [s3 _ _ (s2 _ _ e)] at ho2
        exact nomatch ho2
    · rw [decide_eq_false (by omega)]
      exact iteF ⟨_, rfl, q l out H2 nl s2 hl2 (cov_0 I c)⟩
end
end L2.K14
end

section
set_option Elab.async false
set_option linter.all false
set_option maxRecDepth 100000
set_option maxHeartbeats 1000000
namespace L2.K14
open PySem PySem.Spec PyProof.Rows L2.Gd L2.Ln
def oI : Option Int → V
  | none => .non
  | some i => .int i
def Rvs (r : Rw) : List V := [oI r.lo, oI r.hi, .int r.p, .int r.b]
/-- a row as a tuple -/
def RowV (H : Hp) (v : V) (r : Rw) : Prop := ∃ t, v = .ref t ∧ H t = some (.tup (Rvs r))
theorem RowV.same {H H' : Hp} {v : V} {r : Rw} (s : Same H H') (h : RowV H v r) : RowV H' v r := let ⟨t, e, q⟩ := h; ⟨t, e, s _ _ q⟩
def RowsV (H : Hp) (vs : List V) (rs : List Rw) : Prop := Paired (RowV H) vs rs
theorem RowsV.same {H H' : Hp} {vs : List V} {rs : List Rw} (s : Same H H') (h : RowsV H vs rs) : RowsV H' vs rs := Paired.mapP h fun _ _ q => RowV.same s q
section
variable {P : Program} {w : World} {K : PySem.W.Frag} {mg : Str → Option Value} {base : Heap}
def spRd : Sp := fun vs H Q _ => ∃ p b : Nat, vs = [.int p, .int b] ∧ 0 < p ∧ p ≤ 100000 ∧ b < 2 ^ p ∧ ∀ (t : Addr) (p' b' : Nat) (H' : Hp), Same H H' → H' t = some (.tup [.int p', .int b']) → MinAt p b p' b' → Q (.ref t) H'
theorem scRd : FnScope ["step", "bits", "prime"] ["step", "bits"] (defScope (top 30)) := ⟨rfl, rfl, rfl, by decide +kernel, rfl, by decide +kernel, by decide +kernel⟩
theorem ok_rd {f : Addr} {fd : FuncData} (F : Fun K "reduced" "reduced" (top 30) f fd) (FU : Fn P w K mg base 1 "full" ["many"] spFull) (PR : Fn P w K mg base 1 "primes_of" ["number"] spPr) (RE : Fn P w K mg base 2 "repeats" ["bits", "step", "small"] spRe) : FnOk P w K mg base CX0 3 f fd ["step", "bits"] spRd := by
  refine F.ok scRd (fun vs H Q E h => ?_) (fun cdv A outer s H vs Q E hr h => ?_)
  · obtain ⟨p, b, rfl, _⟩ := h
    rfl
  · obtain ⟨p, b, rfl, p0, pm, hb, q⟩ := h
    have nd := scRd.nd
    have r1 := hr.mono (k := 2) (j := 1) (by decide)
    refine ⟨_, pss_cons (ps_if (pt_cmpR op_eq (pv 1) (pe_fn FU r1 (pa_cons (pv 0) pa_nil)) (nomark _)) (pss_one (ps_ret (pe_tup (pa_cons pe_int (pa_cons pe_int pa_nil))))) pss_nil)
      (pss_cons (ps_for PassesOwn.never rfl (pi_list (pe_fn PR r1 (pa_cons (pv 0) pa_nil))) (pg_name (i := 2) nd rfl (.inl rfl))
        (pss_one (ps_while PassesOwn.never (pw_and (pt_cmpR op_eq (pe_op op_mod (pv 0) (pv 2)) pe_int (nomark _)) (pw_and1 (pt_val (pe_fn RE hr (pa_cons (pv 1) (pa_cons (pv 0) (pa_cons (pe_op op_fdiv (pv 0) (pv 2)) pa_nil))))))).pt
          (pss_cons (ps_set (i := 0) nd rfl (.inl rfl) (pe_op op_fdiv (pv 0) (pv 2)))
          (pss_one (ps_set (i := 1) nd rfl (.inl rfl) (pe_op op_and (pv 1) (pe_fn FU r1 (pa_cons (pv 0) pa_nil)))))))))
      (pss_one (ps_ret (pe_tup (pa_cons (pv 0) (pa_cons (pv 1) pa_nil)))))), ?_⟩
    refine seqV (Good := fun σ2 H2 => ¬ b = 2 ^ p - 1 ∧ H = H2 ∧ σ2 = [some (.int p), some (.int b), none]) ?_ ?_
    · intro nx hnx
      refine ⟨_, rfl, _, rfl, p, rfl, by omega, rfl, decide (b = 2 ^ p - 1), congrArg V.bl (by simp only [V.int.injEq]; congr 1; rw [eq_iff_iff]; omega), ?_⟩
      by_cases c : b = 2 ^ p - 1
      · rw [decide_eq_true c]
        exact iteT ⟨(by show 2 ≤ sizeLine; decide), fun o ho => q o 1 1 _ (same_upd ho) upd_same (min_full p0 c)⟩
      · rw [decide_eq_false c]
        exact iteF (hnx _ _ ⟨c, rfl, rfl⟩)
    rintro _ _ ⟨nf, rfl, rfl⟩
    refine ⟨_, rfl, p, rfl, p0, pm, fun l out H1 nl s1 hl cv => ⟨l, rfl, ⟨_, .inl (.inl hl)⟩, ?_⟩⟩
    have ol : (iN out).length = out.length := List.length_map _
    refine loop_of (n := (iN out).length) (fun i σ H2 => ∃ (x : Option V) (q' c : Nat), RdI p b q' c (out.take i) ∧ H1 = H2 ∧ σ = [some (.int q'), some (.int c), x]) ⟨none, p, b, ⟨red_0 p0 hb, by simp⟩, rfl, rfl⟩ ?_ ?_
    · rintro σ H2 ⟨x, q', c, I, rfl, rfl⟩
      refine ⟨⟨_, .inl (.inl hl), Nat.le_refl _⟩, ?_⟩
      rw [ol, List.take_length] at I
      exact ⟨_, rfl, _, rfl, (by show 2 ≤ sizeLine; decide), fun o ho => q o q' c _ (s1.trans (same_upd ho)) upd_same (min_of I cv)⟩
    · rintro i σ H2 hi ⟨x, q', c, I, rfl, rfl⟩
      refine ⟨⟨_, _, .inl (.inl hl), List.getElem?_eq_getElem hi⟩, ?_⟩
      rintro v H' ⟨rfl, hy⟩
      have hvi := hy _ (.inl (.inl hl))
      rw [ol] at hi
      have er : out[i]? = some out[i] := List.getElem?_eq_getElem hi
      have ev : v = .int (out[i] : Nat) := by
        unfold iN at hvi
        rw [List.getElem?_map, er] at hvi
        exact (Option.some.inj hvi).symm
      have r2 := cv.o2 _ (List.getElem_mem hi)
      have tk : out.take (i + 1) = out.take i ++ [out[i]] := by rw [List.take_succ, er]; rfl
      rw [tk]
      generalize out[i] = r at *
      subst ev
      refine gn ?_
      refine ⟨fun k σ H5 => ∃ q' c : Nat, k = q' ∧ RdI p b q' c (out.take i) ∧ H' = H5 ∧ σ = [some (.int q'), some (.int c), some (.int r)], ⟨_, q', c, rfl, I, rfl, rfl⟩, ?_⟩
      rintro k σ H5 ⟨q', c, rfl, I, rfl, rfl⟩
      have k0 := I.r.pos
      have kp : k ≤ p := Nat.le_of_dvd p0 I.r.d
      have stop : ¬ (r ∣ k ∧ Per p b ((k / r : Nat) : Int)) → ∃ (x : Option V) (q' c' : Nat), RdI p b q' c' (out.take i ++ [r]) ∧ H' = H' ∧ [some (V.int (k : Int)), some (V.int (c : Int)), some (V.int (r : Int))] = [some (V.int q'), some (V.int c'), x] := fun z => ⟨_, k, c, rdI_end I z, rfl, rfl⟩
      refine ⟨_, rfl, _, rfl, _, _, rfl, rfl, by omega, rfl, decide (r ∣ k), congrArg V.bl (mod0 (by omega)), ?_⟩
      by_cases d : r ∣ k
      · rw [decide_eq_true d]
        have kr : k / r ≤ k := Nat.div_le_self k r
        have rk := Nat.le_of_dvd k0 d
        have e : [V.int c, V.int k, V.int ((k : Int) / r)] = [V.int c, V.int k, V.int ((k / r : Nat) : Int)] := by rw [Int.natCast_ediv]
        refine iteT ⟨_, rfl, _, rfl, _, rfl, _, rfl, _, _, rfl, rfl, ⟨by omega, by omega⟩, c, k, k / r, e, kr, by omega, _, rfl, ?_⟩
        have ri := rep_iff I.r r2 d
        rw [← xor_zero] at ri
        by_cases z : ((c ^^^ (c >>> (k / r))) &&& (2 ^ (k - k / r) - 1)) = 0
        · rw [decide_eq_true z]
          refine iteT ⟨fun σ6 H6 => H' = H6 ∧ σ6 = [some (.int ((k / r : Nat) : Int)), some (.int ((c &&& (2 ^ (k / r) - 1) : Nat) : Int)), some (.int r)], fun σ6 H6 ⟨e1, e2⟩ => ⟨k / r, Nat.div_lt_self k0 (by omega), k / r, _, rfl, rdI_S I r2 d (ri.mp z), e1, e2⟩, ?_⟩
          refine seqV (Good := fun σ7 H7 => H' = H7 ∧ σ7 = [some (.int ((k / r : Nat) : Int)), some (.int c), some (.int r)]) ?_ ?_
          · intro nx hnx
            rw [Int.natCast_ediv] at hnx
            exact ⟨_, rfl, _, rfl, _, _, rfl, rfl, ⟨by omega, by omega⟩, hnx _ _ ⟨rfl, rfl⟩⟩
          rintro _ _ ⟨rfl, rfl⟩
          refine ⟨_, rfl, _, rfl, k / r, rfl, by omega, _, _, rfl, rfl, rfl, ?_⟩
          rw [← and_nat]
          rfl
        · rw [decide_eq_false z]
          exact iteF (stop fun y => z (ri.mpr y.2))
      · rw [decide_eq_false d]
        exact iteF (stop fun y => d y.1)
/-! ### next_in, last_in -/
def spNx : Sp := fun vs H Q _ => ∃ (p b : Nat) (n : Int), vs = [.int p, .int b, .int n] ∧ 0 < p ∧ p ≤ 100000 ∧ b < 2 ^ p ∧ b ≠ 0 ∧ ∀ r, NextAt p b n r → Q (.int r) H
theorem scNx : FnScope ["step", "bits", "number", "ahead"] ["step", "bits", "number"] (defScope (top 31)) := ⟨rfl, rfl, rfl, by decide +kernel, rfl, by decide +kernel, by decide +kernel⟩
theorem ok_nx {f : Addr} {fd : FuncData} (F : Fun K "next_in" "next_in" (top 31) f fd) (TU : Fn P w K mg base 2 "turned" ["bits", "step", "by"] spTu) : FnOk P w K mg base CX0 3 f fd ["step", "bits", "number"] spNx := by
  refine F.ok scNx (fun vs H Q E h => ?_) (fun cdv A outer s H vs Q E hr h => ?_)
  · obtain ⟨p, b, n, rfl, _⟩ := h
    rfl
  · obtain ⟨p, b, n, rfl, p0, pm, hb, ne, q⟩ := h
    have nd := scNx.nd
    refine ⟨_, pss_cons (ps_set (i := 3) nd rfl (.inl rfl) (pe_fn TU hr (pa_cons (pv 1) (pa_cons (pv 0) (pa_cons (pe_op op_sub pe_int (pv 2)) pa_nil)))))
      (pss_one (ps_ret (pe_op op_sub (pe_op op_add (pv 2) (pe_bits (pe_op op_and (pv 3) (pe_op op_sub pe_int (pv 3))))) pe_int))), ?_⟩
    refine seqV (Good := fun σ2 H2 => H = H2 ∧ σ2 = [some (.int p), some (.int b), some (.int n), some (.int (turnN b p (0 - n) : Nat))]) ?_ ?_
    · intro nx hnx
      exact ⟨_, rfl, _, rfl, _, rfl, _, _, rfl, rfl, b, p, 0 - n, rfl, p0, by omega, hb, hnx _ _ ⟨rfl, rfl⟩⟩
    rintro _ _ ⟨rfl, rfl⟩
    have tz := turn_ne p0 hb ne (0 - n)
    obtain ⟨k, e, _⟩ := low_ex _ tz
    have q := q _ (next_of p0 hb ne n e)
    have e2 : n + ((Builtin.Int.intBits (Builtin.bitAnd (turnN b p (0 - n) : Int) (0 - (turnN b p (0 - n) : Int))) : Nat) : Int) - 1 = n + k := by
      rw [and_neg tz, e, len_nat, len_pow]
      omega
    rw [← e2] at q
    exact ⟨_, rfl, _, rfl, _, rfl, _, _, rfl, rfl, _, _, rfl, rfl, _, rfl, _, _, rfl, rfl, _, _, rfl, rfl, q⟩
def spLs : Sp := fun vs H Q _ => ∃ (p b : Nat) (n : Int), vs = [.int p, .int b, .int n] ∧ 0 < p ∧ p ≤ 100000 ∧ b < 2 ^ p ∧ b ≠ 0 ∧ ∀ r, LastAt p b n r → Q (.int r) H
theorem scLs : FnScope ["step", "bits", "number"] ["step", "bits", "number"] (defScope (top 32)) := ⟨rfl, rfl, rfl, by decide +kernel, rfl, by decide +kernel, by decide +kernel⟩
theorem ok_ls {f : Addr} {fd : FuncData} (F : Fun K "last_in" "last_in" (top 32) f fd) (TU : Fn P w K mg base 2 "turned" ["bits", "step", "by"] spTu) : FnOk P w K mg base CX0 3 f fd ["step", "bits", "number"] spLs := by
  refine F.ok scLs (fun vs H Q E h => ?_) (fun cdv A outer s H vs Q E hr h => ?_)
  · obtain ⟨p, b, n, rfl, _⟩ := h
    rfl
  · obtain ⟨p, b, n, rfl, p0, pm, hb, ne, q⟩ := h
    refine ⟨_, pss_one (ps_ret (pe_op op_add (pe_op op_sub (pv 2) (pv 0)) (pe_bits (pe_fn TU hr (pa_cons (pv 1) (pa_cons (pv 0) (pa_cons (pe_op op_sub (pe_op op_sub pe_int (pv 2)) pe_int) pa_nil))))))), ?_⟩
    have q := q _ (last_of p0 hb ne n)
    rw [← len_nat] at q
    exact ⟨_, rfl, _, rfl, _, _, rfl, rfl, _, rfl, _, rfl, _, rfl, _, _, rfl, rfl, _, _, rfl, rfl, b, p, 0 - n - 1, rfl, p0, by omega, hb, _, rfl, _, _, rfl, rfl, q⟩
end
end L2.K14
end

section
set_option Elab.async false
set_option linter.all false
set_option maxRecDepth 100000
set_option maxHeartbeats 1000000
namespace L2.K14
open PySem PySem.Spec PyProof.Rows L2.Gd L2.Ln
def lenO (lo hi : Option Int) : Option Int := match lo with
  | none => none
  | some l => match hi with
    | none => none
    | some h => some (h - l + 1)
theorem oI_isN (o : Option Int) : decide (oI o = V.non) = o.isNone := by
  cases o with
  | none => exact decide_eq_true rfl
  | some i => exact decide_eq_false (by simp [oI])
section
variable {P : Program} {w : World} {K : PySem.W.Frag} {mg : Str → Option Value} {base : Heap}
def spLen : Sp := fun vs H Q _ => ∃ lo hi : Option Int, vs = [oI lo, oI hi] ∧ Q (oI (lenO lo hi)) H
theorem scLen : FnScope ["low", "high"] ["low", "high"] (defScope (top 38)) := ⟨rfl, rfl, rfl, by decide +kernel, rfl, by decide +kernel, by decide +kernel⟩
theorem ok_lenof {f : Addr} {fd : FuncData} (F : Fun K "length_of" "length_of" (top 38) f fd) : FnOk P w K mg base CX0 1 f fd ["low", "high"] spLen := by
  refine F.ok scLen (fun vs H Q E h => ?_) (fun cdv A outer s H vs Q E hr h => ?_)
  · obtain ⟨lo, hi, rfl, _⟩ := h
    rfl
  · obtain ⟨lo, hi, rfl, q⟩ := h
    refine ⟨_, pss_one (ps_ret (pe_ifExp (pw_or (pt_cmp (pc_isN (pv 0))) (pw_or1 (pt_cmp (pc_isN (pv 1))))).pt pe_non (pe_op op_add (pe_op op_sub (pv 1) (pv 0)) pe_int))), ?_⟩
    cases lo with
    | none => exact ⟨_, rfl, true, rfl, iteT q⟩
    | some l =>
      cases hi with
      | none => exact ⟨_, rfl, false, rfl, iteF ⟨_, rfl, true, rfl, iteT q⟩⟩
      | some h => exact ⟨_, rfl, false, rfl, iteF ⟨_, rfl, false, rfl, iteF ⟨_, rfl, _, rfl, _, _, rfl, rfl, _, _, rfl, rfl, q⟩⟩⟩
def spRb : Sp := fun vs H Q _ => ∃ (l : Int) (m u : Nat), vs = [.int l, .int m, .int u] ∧ 0 < m ∧ m ≤ 100000 ∧ u < 2 ^ m ∧ ∀ v H', Same H H' → RowV H' v ⟨some l, some (l + m - 1), m, turnN u m l⟩ → Q v H'
theorem scRb : FnScope ["low", "many", "bits"] ["low", "many", "bits"] (defScope (top 39)) := ⟨rfl, rfl, rfl, by decide +kernel, rfl, by decide +kernel, by decide +kernel⟩
theorem ok_rb {f : Addr} {fd : FuncData} (F : Fun K "row_of_bits" "row_of_bits" (top 39) f fd) (TU : Fn P w K mg base 2 "turned" ["bits", "step", "by"] spTu) : FnOk P w K mg base CX0 3 f fd ["low", "many", "bits"] spRb := by
  refine F.ok scRb (fun vs H Q E h => ?_) (fun cdv A outer s H vs Q E hr h => ?_)
  · obtain ⟨l, m, u, rfl, _⟩ := h
    rfl
  · obtain ⟨l, m, u, rfl, m0, mm, hu, q⟩ := h
    refine ⟨_, pss_one (ps_ret (pe_tup (pa_cons (pv 0) (pa_cons (pe_op op_sub (pe_op op_add (pv 0) (pv 1)) pe_int) (pa_cons (pv 1) (pa_cons (pe_fn TU hr (pa_cons (pv 2) (pa_cons (pv 1) (pa_cons (pv 0) pa_nil)))) pa_nil)))))), ?_⟩
    refine ⟨_, rfl, _, rfl, _, rfl, _, _, rfl, rfl, _, _, rfl, rfl, _, rfl, _, rfl, _, rfl, _, rfl, u, m, l, rfl, m0, by omega, hu, (by show 4 ≤ sizeLine; decide), fun o ho => ?_⟩
    exact q _ _ (same_upd ho) ⟨o, rfl, upd_same⟩
def spBo : Sp := fun vs H Q _ => ∃ (v : V) (r : Rw) (l h : Int) (m : Nat), vs = [v] ∧ RowV H v r ∧ r.lo = some l ∧ r.hi = some h ∧ (m : Int) = h - l + 1 ∧ m ≤ 100000 ∧ 0 < r.p ∧ r.p ≤ 100000 ∧ r.b < 2 ^ r.p ∧ ∀ u : Nat, WinAt r.p r.b l m u → Q (.int u) H
theorem scBo : FnScope ["row", "low", "high", "step", "bits"] ["row"] (defScope (top 40)) := ⟨rfl, rfl, rfl, by decide +kernel, rfl, by decide +kernel, by decide +kernel⟩
theorem ok_bo {f : Addr} {fd : FuncData} (F : Fun K "bits_of" "bits_of" (top 40) f fd) (WI : Fn P w K mg base 3 "window" ["step", "bits", "low", "many"] spWi) : FnOk P w K mg base CX0 4 f fd ["row"] spBo := by
  refine F.ok scBo (fun vs H Q E h => ?_) (fun cdv A outer s H vs Q E hr h => ?_)
  · obtain ⟨v, r, l, h, m, rfl, _⟩ := h
    rfl
  · obtain ⟨v, ⟨lo, hi, p, b⟩, l, h, m, rfl, ⟨t, rfl, ht⟩, e1, e2, em, mm, p0, pm, hb, q⟩ := h
    have e1 : lo = some l := e1
    have e2 : hi = some h := e2
    subst e1 e2
    have nd := scBo.nd
    refine ⟨_, pss_cons (ps_asg (pv 0) (pg_tup rfl (pgs_cons (pg_name (i := 1) nd rfl (.inl rfl)) (pgs_cons (pg_name (i := 2) nd rfl (.inl rfl)) (pgs_cons (pg_name (i := 3) nd rfl (.inl rfl)) (pgs_cons (pg_name (i := 4) nd rfl (.inl rfl)) pgs_nil))))))
      (pss_one (ps_ret (pe_fn WI hr (pa_cons (pv 3) (pa_cons (pv 4) (pa_cons (pv 1) (pa_cons (pe_op op_add (pe_op op_sub (pv 2) (pv 1)) pe_int) pa_nil))))))), ?_⟩
    refine ⟨_, rfl, t, _, rfl, .inl (.inl ht), rfl, _, _, rfl, _, _, rfl, _, _, rfl, _, _, rfl, rfl, ?_⟩
    refine ⟨_, rfl, _, rfl, _, rfl, _, rfl, _, rfl, _, _, rfl, rfl, _, _, rfl, rfl, p, b, m, l, ?_, p0, pm, mm, hb, fun u W => q u W⟩
    show [V.int p, V.int b, V.int l, V.int (h - l + 1)] = [V.int p, V.int b, V.int l, V.int m]
    rw [em]
/-! ### trimmed -/
abbrev NTm : List Str := ["row", "low", "high", "step", "bits", "many"]
def spTm : Sp := fun vs H Q _ => ∃ (v : V) (r : Rw), vs = [v] ∧ RowV H v r ∧ r.Ok ∧ r.p ≤ 100000 ∧ ∀ (l : Addr) (us : List V) (o : Option Rw) (H' : Hp), H l = none → Same H H' → H' l = some (.lst us) → RowsV H' us o.toList → TrimR r o → Q (.ref l) H'
theorem scTm : FnScope NTm ["row"] (defScope (top 41)) := ⟨rfl, rfl, rfl, by decide +kernel, rfl, by decide +kernel, by decide +kernel⟩
theorem Same.free {H H' : Hp} {l : Addr} (s : Same H H') (n : H' l = none) : H l = none := by
  cases e : H l with
  | none => rfl
  | some o =>
    rw [s _ _ e] at n
    exact nomatch n
theorem ok_tm {f : Addr} {fd : FuncData} (F : Fun K "trimmed" "trimmed" (top 41) f fd) (LE : Fn P w K mg base 1 "length_of" ["low", "high"] spLen) (RB : Fn P w K mg base 3 "row_of_bits" ["low", "many", "bits"] spRb) (WI : Fn P w K mg base 3 "window" ["step", "bits", "low", "many"] spWi)
    (RD : Fn P w K mg base 3 "reduced" ["step", "bits"] spRd) (NX : Fn P w K mg base 3 "next_in" ["step", "bits", "number"] spNx) (LS : Fn P w K mg base 3 "last_in" ["step", "bits", "number"] spLs) : FnOk P w K mg base CX0 4 f fd ["row"] spTm := by
  refine F.ok scTm (fun vs H Q E h => ?_) (fun cdv A outer s H vs Q E hr h => ?_)
  · obtain ⟨v, r, rfl, _⟩ := h
    rfl
  · obtain ⟨v, r, rfl, ⟨t, rfl, ht⟩, ok, pm, q⟩ := h
    have nd := scTm.nd
    have r1 := hr.mono (k := 3) (j := 1) (by decide)
    have p0 := ok.p0
    refine ⟨_, pss_cons (ps_asg (pv 0) (pg_tup rfl (pgs_cons (pg_name (i := 1) nd rfl (.inl rfl)) (pgs_cons (pg_name (i := 2) nd rfl (.inl rfl)) (pgs_cons (pg_name (i := 3) nd rfl (.inl rfl)) (pgs_cons (pg_name (i := 4) nd rfl (.inl rfl)) pgs_nil))))))
      (pss_cons (ps_if (pt_cmpR op_eq (pv 4) pe_int (nomark _)) (pss_one (ps_ret (pe_lst pa_nil))) pss_nil)
      (pss_cons (ps_if (pt_cmp (pc_notN (pv 1))) (pss_one (ps_set (i := 1) nd rfl (.inl rfl) (pe_fn NX hr (pa_cons (pv 3) (pa_cons (pv 4) (pa_cons (pv 1) pa_nil)))))) pss_nil)
      (pss_cons (ps_if (pt_cmp (pc_notN (pv 2))) (pss_one (ps_set (i := 2) nd rfl (.inl rfl) (pe_fn LS hr (pa_cons (pv 3) (pa_cons (pv 4) (pa_cons (pv 2) pa_nil)))))) pss_nil)
      (pss_cons (ps_set (i := 5) nd rfl (.inl rfl) (pe_fn LE r1 (pa_cons (pv 1) (pa_cons (pv 2) pa_nil))))
      (pss_cons (ps_if (pw_and (pt_cmp (pc_notN (pv 5))) (pw_and1 (pt_cmpR op_lt (pv 5) pe_int (nomark _)))).pt (pss_one (ps_ret (pe_lst pa_nil))) pss_nil)
      (pss_cons (ps_if (pw_and (pt_cmp (pc_notN (pv 5))) (pw_and1 (pt_cmpR op_lt (pv 5) (pv 3) (nomark _)))).pt
        (pss_cons (ps_set (i := 0) nd rfl (.inl rfl) (pe_fn RB hr (pa_cons (pv 1) (pa_cons (pv 5) (pa_cons (pe_fn WI hr (pa_cons (pv 3) (pa_cons (pv 4) (pa_cons (pv 1) (pa_cons (pv 5) pa_nil))))) pa_nil)))))
        (pss_one (ps_par (i := 3) (j := 4) rfl nd rfl rfl (by decide) rfl rfl (pa_cons (pe_ix ix_tup (pv 0) pe_int (fun _ _ => rfl)) (pa_cons (pe_ix ix_tup (pv 0) pe_int (fun _ _ => rfl)) pa_nil)) (by rfl)))) pss_nil)
      (pss_cons (ps_asg (pe_fn RD hr (pa_cons (pv 3) (pa_cons (pv 4) pa_nil))) (pg_tup rfl (pgs_cons (pg_name (i := 3) nd rfl (.inl rfl)) (pgs_cons (pg_name (i := 4) nd rfl (.inl rfl)) pgs_nil))))
      (pss_one (ps_ret (pe_lst (pa_cons (pe_tup (pa_cons (pv 1) (pa_cons (pv 2) (pa_cons (pv 3) (pa_cons (pv 4) pa_nil))))) pa_nil))))))))))), ?_⟩
    refine seqV (Good := fun σ2 H2 => H = H2 ∧ σ2 = [some (.ref t), some (oI r.lo), some (oI r.hi), some (.int r.p), some (.int r.b), none]) (fun nx hnx => ⟨_, rfl, t, _, rfl, .inl (.inl ht), rfl, _, _, rfl, _, _, rfl, _, _, rfl, _, _, rfl, rfl, hnx _ _ ⟨rfl, rfl⟩⟩) ?_
    rintro _ _ ⟨rfl, rfl⟩
    -- nothing
    refine seqV (Good := fun σ2 H2 => r.b ≠ 0 ∧ H = H2 ∧ σ2 = [some (.ref t), some (oI r.lo), some (oI r.hi), some (.int r.p), some (.int r.b), none]) ?_ ?_
    · intro nx hnx
      refine ⟨_, rfl, rfl, decide (r.b = 0), congrArg V.bl (by simp only [V.int.injEq]; congr 1; rw [eq_iff_iff]; omega), ?_⟩
      by_cases c : r.b = 0
      · rw [decide_eq_true c]
        exact iteT ⟨(by show 0 ≤ sizeLine; decide), fun o ho => q o [] none _ ho (same_upd ho) upd_same .nil (trim_0 c)⟩
      · rw [decide_eq_false c]
        exact iteF (hnx _ _ ⟨c, rfl, rfl⟩)
    rintro _ _ ⟨ne, rfl, rfl⟩
    -- the lower end
    refine seqV (Good := fun σ2 H2 => ∃ lo : Option Int, (∀ l, r.lo = some l → ∃ l', lo = some l' ∧ NextAt r.p r.b l l') ∧ (r.lo = none → lo = none) ∧ H = H2 ∧ σ2 = [some (.ref t), some (oI lo), some (oI r.hi), some (.int r.p), some (.int r.b), none]) ?_ ?_
    · intro nx hnx
      cases hl : r.lo with
      | none => exact ⟨_, rfl, false, rfl, iteF (hnx _ _ ⟨none, (fun l e => absurd (hl.symm.trans e) (by simp)), fun _ => rfl, rfl, rfl⟩)⟩
      | some l =>
        exact ⟨_, rfl, true, rfl, iteT ⟨_, rfl, _, rfl, _, rfl, r.p, r.b, l, rfl, p0, pm, ok.bl, ne, fun l' na => hnx _ _ ⟨some l', fun x e => by rw [hl] at e; cases e; exact ⟨l', rfl, na⟩, (fun e => absurd (hl.symm.trans e) (by simp)), rfl, rfl⟩⟩⟩
    rintro _ _ ⟨lo, lo1, lo2, rfl, rfl⟩
    refine seqV (Good := fun σ2 H2 => ∃ hi : Option Int, (∀ l, r.hi = some l → ∃ l', hi = some l' ∧ LastAt r.p r.b l l') ∧ (r.hi = none → hi = none) ∧ H = H2 ∧ σ2 = [some (.ref t), some (oI lo), some (oI hi), some (.int r.p), some (.int r.b), none]) ?_ ?_
    · intro nx hnx
      cases hl : r.hi with
      | none => exact ⟨_, rfl, false, rfl, iteF (hnx _ _ ⟨none, (fun l e => absurd (hl.symm.trans e) (by simp)), fun _ => rfl, rfl, rfl⟩)⟩
      | some l =>
        exact ⟨_, rfl, true, rfl, iteT ⟨_, rfl, _, rfl, _, rfl, r.p, r.b, l, rfl, p0, pm, ok.bl, ne, fun l' na => hnx _ _ ⟨some l', fun x e => by rw [hl] at e; cases e; exact ⟨l', rfl, na⟩, (fun e => absurd (hl.symm.trans e) (by simp)), rfl, rfl⟩⟩⟩
    rintro _ _ ⟨hi, hi1, hi2, rfl, rfl⟩
    have en : L2.Ln.Ends r lo hi := ⟨lo1, hi1, lo2, hi2⟩
    refine seqV (Good := fun σ2 H2 => H = H2 ∧ σ2 = [some (.ref t), some (oI lo), some (oI hi), some (.int r.p), some (.int r.b), some (oI (lenO lo hi))]) (fun nx hnx => ⟨_, rfl, _, rfl, lo, hi, rfl, hnx _ _ ⟨rfl, rfl⟩⟩) ?_
    rintro _ _ ⟨rfl, rfl⟩
    -- the end
    have fin : ∀ (nx : L2.St → Hp → Prop) (t0 : V) (p1 b1 : Nat) (mv : V) (H2 : Hp), Same H H2 → p1 ≤ 100000 → Srv r lo hi p1 b1 → (∀ l h, lo = some l → hi = some h → l ≤ h) →
        tSeq (tAsg (tCall spRd [] E0 (tCons (tVar 3) (tCons (tVar 4) tNil))) (gTup K 2 (gCons (gName 3) (gCons (gName 4) gNil)))) (tRet (tLst (tCons (tTup (tCons (tVar 1) (tCons (tVar 2) (tCons (tVar 3) (tCons (tVar 4) tNil))))) tNil))) { nx := nx, rt := Q } [some t0, some (oI lo), some (oI hi), some (.int p1), some (.int b1), some mv] H2 := by
      intro nx t0 p1 b1 mv H2 s2 p1m sv le
      refine ⟨_, rfl, _, rfl, p1, b1, rfl, sv.p0, p1m, sv.bl, fun u p2 b2 H3 s3 hu mn => ?_⟩
      refine ⟨u, _, rfl, .inl (.inl hu), rfl, _, _, rfl, _, _, rfl, rfl, ?_⟩
      refine ⟨_, rfl, _, rfl, _, rfl, _, rfl, (by show 4 ≤ sizeLine; decide), fun o ho => ⟨(by show 1 ≤ sizeLine; decide), fun o2 ho2 => ?_⟩⟩
      have so := same_upd (o := .tup [oI lo, oI hi, .int p2, .int b2]) ho
      have so2 := same_upd (o := .lst [.ref o]) ho2
      exact q o2 [.ref o] (some ⟨lo, hi, p2, b2⟩) _ (Same.free (s2.trans (s3.trans so)) ho2) (s2.trans (s3.trans (so.trans so2))) upd_same (.cons ⟨o, rfl, so2 _ _ upd_same⟩ .nil) (trim_2 en ne ok le sv mn)
    cases lo with
    | none =>
      refine seqV (Good := fun σ2 H2 => H = H2 ∧ σ2 = [some (.ref t), some (oI none), some (oI hi), some (.int r.p), some (.int r.b), some .non]) (fun nx hnx => ⟨_, rfl, false, rfl, iteF (hnx _ _ ⟨rfl, rfl⟩)⟩) ?_
      rintro _ _ ⟨rfl, rfl⟩
      refine seqV (Good := fun σ2 H2 => H = H2 ∧ σ2 = [some (.ref t), some (oI none), some (oI hi), some (.int r.p), some (.int r.b), some .non]) (fun nx hnx => ⟨_, rfl, false, rfl, iteF (hnx _ _ ⟨rfl, rfl⟩)⟩) ?_
      rintro _ _ ⟨rfl, rfl⟩
      exact fin _ _ _ _ _ _ (fun _ _ z => z) pm (srv_same ok fun l h e => nomatch e) (fun l h e => nomatch e)
    | some l =>
      cases hi with
      | none =>
        refine seqV (Good := fun σ2 H2 => H = H2 ∧ σ2 = [some (.ref t), some (oI (some l)), some (oI none), some (.int r.p), some (.int r.b), some .non]) (fun nx hnx => ⟨_, rfl, false, rfl, iteF (hnx _ _ ⟨rfl, rfl⟩)⟩) ?_
        rintro _ _ ⟨rfl, rfl⟩
        refine seqV (Good := fun σ2 H2 => H = H2 ∧ σ2 = [some (.ref t), some (oI (some l)), some (oI none), some (.int r.p), some (.int r.b), some .non]) (fun nx hnx => ⟨_, rfl, false, rfl, iteF (hnx _ _ ⟨rfl, rfl⟩)⟩) ?_
        rintro _ _ ⟨rfl, rfl⟩
        exact fin _ _ _ _ _ _ (fun _ _ z => z) pm (srv_same ok fun l h _ e => nomatch e) (fun l h _ e => nomatch e)
      | some h =>
        refine seqV (Good := fun σ2 H2 => ¬ h - l + 1 < 1 ∧ H = H2 ∧ σ2 = [some (.ref t), some (oI (some l)), some (oI (some h)), some (.int r.p), some (.int r.b), some (.int (h - l + 1))]) ?_ ?_
        · intro nx hnx
          refine ⟨_, rfl, true, rfl, iteT ⟨_, rfl, _, _, rfl, rfl, decide (h - l + 1 < 1), rfl, ?_⟩⟩
          by_cases c : h - l + 1 < 1
          · rw [decide_eq_true c]
            exact iteT ⟨(by show 0 ≤ sizeLine; decide), fun o ho => q o [] none _ ho (same_upd ho) upd_same .nil (trim_1 en c)⟩
          · rw [decide_eq_false c]
            exact iteF (hnx _ _ ⟨c, rfl, rfl⟩)
        rintro _ _ ⟨c, rfl, rfl⟩
        have le : ∀ x y, some l = some x → some h = some y → x ≤ y := fun x y e1 e2 => by
          cases e1
          cases e2
          omega
        obtain ⟨m, em⟩ : ∃ m : Nat, (m : Int) = h - l + 1 := ⟨(h - l + 1).toNat, by omega⟩
        refine seqV (Good := fun σ2 H2 => ∃ (t0 : V) (p1 b1 : Nat), Same H H2 ∧ p1 ≤ 100000 ∧ Srv r (some l) (some h) p1 b1 ∧ σ2 = [some t0, some (oI (some l)), some (oI (some h)), some (.int p1), some (.int b1), some (.int (h - l + 1))]) ?_ ?_
        · intro nx hnx
          refine ⟨_, rfl, true, rfl, iteT ⟨_, rfl, _, rfl, _, _, rfl, rfl, decide (h - l + 1 < (r.p : Int)), rfl, ?_⟩⟩
          by_cases d : h - l + 1 < (r.p : Int)
          · rw [decide_eq_true d]
            refine iteT ?_
            have ev : [V.int r.p, V.int r.b, V.int l, V.int (h - l + 1)] = [V.int r.p, V.int r.b, V.int l, V.int m] := by rw [em]
            refine ⟨_, rfl, _, rfl, _, rfl, _, rfl, _, rfl, _, rfl, r.p, r.b, m, l, ev, p0, pm, by omega, ok.bl, fun u W => ?_⟩
            have ev2 : [V.int l, V.int (h - l + 1), V.int u] = [V.int l, V.int m, V.int u] := by rw [em]
            refine ⟨l, m, u, ev2, by omega, by omega, W.l, fun v2 H2 s2 rv => ?_⟩
            obtain ⟨t2, rfl, ht2⟩ := rv
            refine ⟨_, rfl, t2, _, _, _, rfl, rfl, .inl (.inl ht2), rfl, _, rfl, t2, _, _, _, rfl, rfl, .inl (.inl ht2), rfl, _, _, rfl, ?_⟩
            exact hnx _ _ ⟨.ref t2, m, turnN u m l, s2, by omega, srv_win em (by omega) (by omega) W, rfl⟩
          · rw [decide_eq_false d]
            exact iteF (hnx _ _ ⟨.ref t, r.p, r.b, fun _ _ z => z, pm, srv_same ok fun x y e1 e2 => by cases e1; cases e2; omega, rfl⟩)
        rintro _ H2 ⟨t0, p1, b1, s2, p1m, sv, rfl⟩
        exact fin _ _ _ _ _ _ s2 p1m sv le
end
end L2.K14
end

section
set_option Elab.async false
set_option linter.all false
set_option maxRecDepth 100000
set_option maxHeartbeats 1000000
namespace L2.K14
open PySem PySem.Spec PyProof.Rows L2.Gd L2.Ln
/-! ### where they are not alike -/
def LuR (lo : Option Int) (h : Int) (p b q c : Nat) : Option Int → Prop
  | none => (∀ n, Ge lo n → n ≤ h → pat p b n = pat q c n) ∧ (lo = none → ∀ n, pat p b n = pat q c n)
  | some x => Ge lo x ∧ x ≤ h ∧ pat p b x ≠ pat q c x ∧ ∀ n, x < n → n ≤ h → pat p b n = pat q c n
def FuR (l : Int) (hi : Option Int) (p b q c : Nat) : Option Int → Prop
  | none => (∀ n, l ≤ n → Le hi n → pat p b n = pat q c n) ∧ (hi = none → ∀ n, pat p b n = pat q c n)
  | some x => l ≤ x ∧ Le hi x ∧ pat p b x ≠ pat q c x ∧ ∀ n, l ≤ n → n < x → pat p b n = pat q c n
theorem xor_dec (a b : Nat) : decide (V.int (Builtin.bitXor (a : Int) (b : Int)) = V.int 0) = decide (a ^^^ b = 0) := by
  rw [xor_nat]
  simp only [V.int.injEq]
  congr 1
  rw [eq_iff_iff]
  omega
abbrev P6l : List Str := ["low", "high", "step", "bits", "other_step", "other_bits"]
section
variable {P : Program} {w : World} {K : PySem.W.Frag} {mg : Str → Option Value} {base : Heap}
def spLg : Sp := fun vs H Q _ => ∃ (v : V) (r : Rw), vs = [v] ∧ RowV H v r ∧ ∀ b : Bool, (b = false → ∃ l h, r.lo = some l ∧ r.hi = some h ∧ h - l + 1 ≤ 5040) → (b = true → ∀ l h, r.lo = some l → r.hi = some h → 5040 < h - l + 1) → Q (.bl b) H
theorem scLg : FnScope ["row", "many"] ["row"] (defScope (top 42)) := ⟨rfl, rfl, rfl, by decide +kernel, rfl, by decide +kernel, by decide +kernel⟩
theorem ok_lg {f : Addr} {fd : FuncData} {tk : Tok} (F : Fun K "is_long" "is_long" (top 42) f fd) (pd : mg "PERIOD" = some (.int 2520 tk)) (LE : Fn P w K mg base 1 "length_of" ["low", "high"] spLen) : FnOk P w K mg base CX0 2 f fd ["row"] spLg := by
  refine F.ok scLg (fun vs H Q E h => ?_) (fun cdv A outer s H vs Q E hr h => ?_)
  · obtain ⟨v, r, rfl, _⟩ := h
    rfl
  · obtain ⟨v, r, rfl, ⟨t, rfl, ht⟩, q⟩ := h
    have nd := scLg.nd
    refine ⟨_, pss_cons (ps_set (i := 1) nd rfl (.inl rfl) (pe_fn LE hr (pa_cons (pe_ix ix_tup (pv 0) pe_int (fun _ _ => rfl)) (pa_cons (pe_ix ix_tup (pv 0) pe_int (fun _ _ => rfl)) pa_nil))))
      (pss_one (ps_ret (pe_or (pe_cmpR op_isN (pv 1) pe_non (nomark _)) (pe_one (pe_cmpR op_gt (pv 1) (pe_op op_mul pe_int (pe_glob (v := .int 2520) (by rfl) pd ⟨_, rfl⟩)) (nomark _)))))), ?_⟩
    refine ⟨_, rfl, t, _, _, _, rfl, rfl, .inl (.inl ht), rfl, _, rfl, t, _, _, _, rfl, rfl, .inl (.inl ht), rfl, r.lo, r.hi, rfl, ?_⟩
    cases e1 : r.lo with
    | none => exact ⟨_, rfl, rfl, true, rfl, iteT (q true (fun z => nomatch z) fun _ l h e => by rw [e1] at e; exact nomatch e)⟩
    | some l =>
      cases e2 : r.hi with
      | none => exact ⟨_, rfl, rfl, true, rfl, iteT (q true (fun z => nomatch z) fun _ l h _ e => by rw [e2] at e; exact nomatch e)⟩
      | some h => exact ⟨_, rfl, rfl, false, rfl, iteF ⟨_, rfl, _, _, rfl, rfl, .inl ⟨by decide, by decide⟩, _, _, rfl, rfl, q (decide (2 * 2520 < h - l + 1)) (fun z => ⟨l, h, e1, e2, by have := of_decide_eq_false z; omega⟩) fun z a b e3 e4 => by
          rw [e1] at e3
          rw [e2] at e4
          cases e3
          cases e4
          have := of_decide_eq_true z
          omega⟩⟩
def spLu : Sp := fun vs H Q _ => ∃ (lo : Option Int) (h : Int) (p b q' c : Nat), vs = [oI lo, .int h, .int p, .int b, .int q', .int c] ∧ 0 < p ∧ p ≤ 50000 ∧ b < 2 ^ p ∧ 0 < q' ∧ q' ≤ 50000 ∧ c < 2 ^ q' ∧ Ge lo h ∧ ∀ o, LuR lo h p b q' c o → Q (oI o) H
abbrev NLu : List Str := ["low", "high", "step", "bits", "other_step", "other_bits", "many", "first", "unlike"]
theorem scLu : FnScope NLu P6l (defScope (top 43)) := ⟨rfl, rfl, rfl, by decide +kernel, rfl, by decide +kernel, by decide +kernel⟩
theorem ok_lu {f : Addr} {fd : FuncData} (F : Fun K "last_unlike" "last_unlike" (top 43) f fd) (n : Nm mg) (WI : Fn P w K mg base 3 "window" ["step", "bits", "low", "many"] spWi) : FnOk P w K mg base CX0 4 f fd P6l spLu := by
  refine F.ok scLu (fun vs H Q E h => ?_) (fun cdv A outer s H vs Q E hr h => ?_)
  · obtain ⟨lo, h, p, b, q', c, rfl, _⟩ := h
    rfl
  · obtain ⟨lo, h, p, b, q', c, rfl, p0, pm, hb, q0, qm, hc, gl, q⟩ := h
    have nd := scLu.nd
    refine ⟨_, pss_cons (ps_set (i := 6) nd rfl (.inl rfl) (pe_op op_add (pv 2) (pv 4)))
      (pss_cons (ps_if (pt_cmp (pc_notN (pv 0))) (pss_one (ps_set (i := 6) nd rfl (.inl rfl) (pe_callB (call_min2 rfl) (by rfl) n.min (by decide +kernel) (pa_cons (pv 6) (pa_cons (pe_op op_add (pe_op op_sub (pv 1) (pv 0)) pe_int) pa_nil))))) pss_nil)
      (pss_cons (ps_set (i := 7) nd rfl (.inl rfl) (pe_op op_add (pe_op op_sub (pv 1) (pv 6)) pe_int))
      (pss_cons (ps_set (i := 8) nd rfl (.inl rfl) (pe_op op_xor (pe_fn WI hr (pa_cons (pv 2) (pa_cons (pv 3) (pa_cons (pv 7) (pa_cons (pv 6) pa_nil))))) (pe_fn WI hr (pa_cons (pv 4) (pa_cons (pv 5) (pa_cons (pv 7) (pa_cons (pv 6) pa_nil)))))))
      (pss_one (ps_ret (pe_ifExp (pt_cmpR op_eq (pv 8) pe_int (nomark _)) pe_non (pe_op op_sub (pe_op op_add (pv 7) (pe_bits (pv 8))) pe_int))))))), ?_⟩
    refine seqV (Good := fun σ2 H2 => H = H2 ∧ σ2 = [some (oI lo), some (.int h), some (.int p), some (.int b), some (.int q'), some (.int c), some (.int ((p : Int) + q')), none, none]) (fun nx hnx => ⟨_, rfl, _, rfl, _, _, rfl, rfl, hnx _ _ ⟨rfl, rfl⟩⟩) ?_
    rintro _ _ ⟨rfl, rfl⟩
    refine seqV (Good := fun σ2 H2 => ∃ m : Nat, m ≤ p + q' ∧ 0 < m ∧ (∀ l, lo = some l → (m : Int) ≤ h - l + 1) ∧ (m = p + q' ∨ ∃ l, lo = some l ∧ (m : Int) = h - l + 1) ∧ H = H2 ∧ σ2 = [some (oI lo), some (.int h), some (.int p), some (.int b), some (.int q'), some (.int c), some (.int m), none, none]) ?_ ?_
    · intro nx hnx
      cases lo with
      | none => exact ⟨_, rfl, false, rfl, iteF (hnx _ _ ⟨p + q', Nat.le_refl _, by omega, (fun l e => nomatch e), .inl rfl, rfl, by rw [Int.natCast_add]⟩)⟩
      | some l =>
        have lh : l ≤ h := ge_some.mp gl
        refine ⟨_, rfl, true, rfl, iteT ⟨_, rfl, _, rfl, _, rfl, _, _, rfl, rfl, _, _, rfl, rfl, _, _, rfl, ?_⟩⟩
        by_cases cc : h - l + 1 < (p : Int) + q'
        · have e : (if h - l + 1 < (p : Int) + q' then h - l + 1 else (p : Int) + q') = (((h - l + 1).toNat : Nat) : Int) := by
            rw [if_pos cc]
            omega
          refine hnx _ _ ⟨(h - l + 1).toNat, by omega, by omega, fun x e => by cases e; omega, .inr ⟨l, rfl, by omega⟩, rfl, ?_⟩
          rw [← e]
          rfl
        · have e : (if h - l + 1 < (p : Int) + q' then h - l + 1 else (p : Int) + q') = ((p + q' : Nat) : Int) := by
            rw [if_neg cc]
            omega
          refine hnx _ _ ⟨p + q', Nat.le_refl _, by omega, fun x e => by cases e; omega, .inl rfl, rfl, ?_⟩
          rw [← e]
          rfl
    rintro _ _ ⟨m, m1, m0, ml, mc, rfl, rfl⟩
    refine seqV (Good := fun σ2 H2 => H = H2 ∧ σ2 = [some (oI lo), some (.int h), some (.int p), some (.int b), some (.int q'), some (.int c), some (.int m), some (.int (h - m + 1)), none]) (fun nx hnx => ⟨_, rfl, _, rfl, _, _, rfl, rfl, _, _, rfl, rfl, hnx _ _ ⟨rfl, rfl⟩⟩) ?_
    rintro _ _ ⟨rfl, rfl⟩
    refine seqV (Good := fun σ2 H2 => ∃ w1 w2 : Nat, WinAt p b (h - m + 1) m w1 ∧ WinAt q' c (h - m + 1) m w2 ∧ H = H2 ∧ σ2 = [some (oI lo), some (.int h), some (.int p), some (.int b), some (.int q'), some (.int c), some (.int m), some (.int (h - m + 1)), some (.int (Builtin.bitXor (w1 : Int) (w2 : Int)))]) (fun nx hnx => ⟨_, rfl, _, rfl, _, rfl, _, rfl, p, b, m, h - m + 1, rfl, p0, by omega, by omega, hb, fun w1 W1 => ⟨_, rfl, _, rfl, _, rfl, _, rfl, q', c, m, h - m + 1, rfl, q0, by omega, by omega, hc, fun w2 W2 => ⟨_, _, rfl, rfl, hnx _ _ ⟨w1, w2, W1, W2, rfl, rfl⟩⟩⟩⟩) ?_
    rintro _ _ ⟨w1, w2, W1, W2, rfl, rfl⟩
    refine ⟨_, rfl, rfl, decide (w1 ^^^ w2 = 0), congrArg V.bl (xor_dec _ _), ?_⟩
    by_cases z : w1 ^^^ w2 = 0
    · rw [decide_eq_true z]
      refine iteT (q none ?_)
      have al : m = p + q' → ∀ n, pat p b n = pat q' c n := fun e n => alike p0 q0 (h - m + 1) (fun i hi => unl_0 W1 W2 z (by omega) (by omega)) n
      refine ⟨fun n k1 k2 => ?_, fun e => ?_⟩
      · rcases mc with e | ⟨l, el, e⟩
        · exact al e n
        · have := k1 l el
          exact unl_0 W1 W2 z (by omega) (by omega)
      · rcases mc with e' | ⟨l, el, _⟩
        · exact al e'
        · rw [e] at el
          exact nomatch el
    · rw [decide_eq_false z]
      obtain ⟨k, ek, km, dif, off⟩ := unl_top W1 W2 z
      have e : h - (m : Int) + 1 + ((Builtin.Int.intBits (Builtin.bitXor (w1 : Int) (w2 : Int)) : Nat) : Int) - 1 = h - m + 1 + k := by
        rw [xor_nat, len_nat, ek]
        omega
      have q := q (some (h - m + 1 + k)) ⟨fun l el => by have := ml l el; omega, by omega, dif, fun n n1 n2 => off n n1 (by omega)⟩
      rw [← e] at q
      exact iteF ⟨_, rfl, _, rfl, _, rfl, _, _, rfl, rfl, _, _, rfl, rfl, q⟩
def spFu : Sp := fun vs H Q _ => ∃ (l : Int) (hi : Option Int) (p b q' c : Nat), vs = [.int l, oI hi, .int p, .int b, .int q', .int c] ∧ 0 < p ∧ p ≤ 50000 ∧ b < 2 ^ p ∧ 0 < q' ∧ q' ≤ 50000 ∧ c < 2 ^ q' ∧ Le hi l ∧ ∀ o, FuR l hi p b q' c o → Q (oI o) H
abbrev NFu : List Str := ["low", "high", "step", "bits", "other_step", "other_bits", "many", "unlike"]
theorem scFu : FnScope NFu P6l (defScope (top 44)) := ⟨rfl, rfl, rfl, by decide +kernel, rfl, by decide +kernel, by decide +kernel⟩
theorem ok_fu {f : Addr} {fd : FuncData} (F : Fun K "first_unlike" "first_unlike" (top 44) f fd) (n : Nm mg) (WI : Fn P w K mg base 3 "window" ["step", "bits", "low", "many"] spWi) (NX : Fn P w K mg base 3 "next_in" ["step", "bits", "number"] spNx) : FnOk P w K mg base CX0 4 f fd P6l spFu := by
  refine F.ok scFu (fun vs H Q E h => ?_) (fun cdv A outer s H vs Q E hr h => ?_)
  · obtain ⟨lo, h, p, b, q', c, rfl, _⟩ := h
    rfl
  · obtain ⟨l, hi, p, b, q', c, rfl, p0, pm, hb, q0, qm, hc, gl, q⟩ := h
    have nd := scFu.nd
    refine ⟨_, pss_cons (ps_set (i := 6) nd rfl (.inl rfl) (pe_op op_add (pv 2) (pv 4)))
      (pss_cons (ps_if (pt_cmp (pc_notN (pv 1))) (pss_one (ps_set (i := 6) nd rfl (.inl rfl) (pe_callB (call_min2 rfl) (by rfl) n.min (by decide +kernel) (pa_cons (pv 6) (pa_cons (pe_op op_add (pe_op op_sub (pv 1) (pv 0)) pe_int) pa_nil))))) pss_nil)
      (pss_cons (ps_set (i := 7) nd rfl (.inl rfl) (pe_op op_xor (pe_fn WI hr (pa_cons (pv 2) (pa_cons (pv 3) (pa_cons (pv 0) (pa_cons (pv 6) pa_nil))))) (pe_fn WI hr (pa_cons (pv 4) (pa_cons (pv 5) (pa_cons (pv 0) (pa_cons (pv 6) pa_nil)))))))
      (pss_one (ps_ret (pe_ifExp (pt_cmpR op_eq (pv 7) pe_int (nomark _)) pe_non (pe_op op_add (pe_fn NX hr (pa_cons (pv 6) (pa_cons (pv 7) (pa_cons pe_int pa_nil)))) (pv 0))))))), ?_⟩
    refine seqV (Good := fun σ2 H2 => H = H2 ∧ σ2 = [some (.int l), some (oI hi), some (.int p), some (.int b), some (.int q'), some (.int c), some (.int ((p : Int) + q')), none]) (fun nx hnx => ⟨_, rfl, _, rfl, _, _, rfl, rfl, hnx _ _ ⟨rfl, rfl⟩⟩) ?_
    rintro _ _ ⟨rfl, rfl⟩
    refine seqV (Good := fun σ2 H2 => ∃ m : Nat, m ≤ p + q' ∧ 0 < m ∧ (∀ h, hi = some h → (m : Int) ≤ h - l + 1) ∧ (m = p + q' ∨ ∃ h, hi = some h ∧ (m : Int) = h - l + 1) ∧ H = H2 ∧ σ2 = [some (.int l), some (oI hi), some (.int p), some (.int b), some (.int q'), some (.int c), some (.int m), none]) ?_ ?_
    · intro nx hnx
      cases hi with
      | none => exact ⟨_, rfl, false, rfl, iteF (hnx _ _ ⟨p + q', Nat.le_refl _, by omega, (fun l e => nomatch e), .inl rfl, rfl, by rw [Int.natCast_add]⟩)⟩
      | some h =>
        have lh : l ≤ h := le_some.mp gl
        refine ⟨_, rfl, true, rfl, iteT ⟨_, rfl, _, rfl, _, rfl, _, _, rfl, rfl, _, _, rfl, rfl, _, _, rfl, ?_⟩⟩
        by_cases cc : h - l + 1 < (p : Int) + q'
        · have e : (if h - l + 1 < (p : Int) + q' then h - l + 1 else (p : Int) + q') = (((h - l + 1).toNat : Nat) : Int) := by
            rw [if_pos cc]
            omega
          refine hnx _ _ ⟨(h - l + 1).toNat, by omega, by omega, fun x e => by cases e; omega, .inr ⟨h, rfl, by omega⟩, rfl, ?_⟩
          rw [← e]
          rfl
        · have e : (if h - l + 1 < (p : Int) + q' then h - l + 1 else (p : Int) + q') = ((p + q' : Nat) : Int) := by
            rw [if_neg cc]
            omega
          refine hnx _ _ ⟨p + q', Nat.le_refl _, by omega, fun x e => by cases e; omega, .inl rfl, rfl, ?_⟩
          rw [← e]
          rfl
    rintro _ _ ⟨m, m1, m0, ml, mc, rfl, rfl⟩
    refine seqV (Good := fun σ2 H2 => ∃ w1 w2 : Nat, WinAt p b l m w1 ∧ WinAt q' c l m w2 ∧ H = H2 ∧ σ2 = [some (.int l), some (oI hi), some (.int p), some (.int b), some (.int q'), some (.int c), some (.int m), some (.int (Builtin.bitXor (w1 : Int) (w2 : Int)))]) (fun nx hnx => ⟨_, rfl, _, rfl, _, rfl, _, rfl, p, b, m, l, rfl, p0, by omega, by omega, hb, fun w1 W1 => ⟨_, rfl, _, rfl, _, rfl, _, rfl, q', c, m, l, rfl, q0, by omega, by omega, hc, fun w2 W2 => ⟨_, _, rfl, rfl, hnx _ _ ⟨w1, w2, W1, W2, rfl, rfl⟩⟩⟩⟩) ?_
    rintro _ _ ⟨w1, w2, W1, W2, rfl, rfl⟩
    refine ⟨_, rfl, rfl, decide (w1 ^^^ w2 = 0), congrArg V.bl (xor_dec _ _), ?_⟩
    by_cases z : w1 ^^^ w2 = 0
    · rw [decide_eq_true z]
      refine iteT (q none ?_)
      have al : m = p + q' → ∀ n, pat p b n = pat q' c n := fun e n => alike p0 q0 l (fun i hi => unl_0 W1 W2 z (by omega) (by omega)) n
      refine ⟨fun n k1 k2 => ?_, fun e => ?_⟩
      · rcases mc with e | ⟨h, el, e⟩
        · exact al e n
        · have := k2 h el
          exact unl_0 W1 W2 z (by omega) (by omega)
      · rcases mc with e' | ⟨h, el, _⟩
        · exact al e'
        · rw [e] at el
          exact nomatch el
    · rw [decide_eq_false z]
      have ev : [V.int m, V.int (Builtin.bitXor (w1 : Int) (w2 : Int)), V.int 0] = [V.int m, V.int ((w1 ^^^ w2 : Nat) : Int), V.int 0] := by rw [xor_nat]
      refine iteF ⟨_, rfl, _, rfl, m, w1 ^^^ w2, 0, ev, m0, by omega, unl_lt W1 W2, z, fun r na => ?_⟩
      obtain ⟨r0, rm, dif, off⟩ := unl_low W1 W2 na
      refine ⟨_, rfl, _, _, rfl, rfl, q (some (r + l)) ⟨by omega, fun h el => by have := ml h el; omega, dif, off⟩⟩
end
end L2.K14
end

section
set_option Elab.async false
set_option linter.all false
set_option maxRecDepth 100000
set_option maxHeartbeats 1000000
namespace L2.K14
open PySem PySem.Spec PyProof.Rows L2.Gd L2.Ln
/-! ### two rows drawn together -/
/-- two neat rows, one before the other -/
structure TwoAt (H : Hp) (v1 v2 : V) (one two : Rw) : Prop where
  r1 : RowV H v1 one
  r2 : RowV H v2 two
  n1 : Nt one
  n2 : Nt two
  b : Bef one two
  p1 : one.p ≤ 50000
  p2 : two.p ≤ 50000
theorem TwoAt.same {H H' : Hp} {v1 v2 : V} {one two : Rw} (s : Same H H') (h : TwoAt H v1 v2 one two) : TwoAt H' v1 v2 one two := ⟨h.r1.same s, h.r2.same s, h.n1, h.n2, h.b, h.p1, h.p2⟩
def spDd : Sp := fun vs H Q _ => ∃ (v1 v2 : V) (one two : Rw), vs = [v1, v2] ∧ TwoAt H v1 v2 one two ∧ ∀ (l : Addr) (us : List V) (out : List Rw) (H' : Hp), H l = none → Same H H' → H' l = some (.lst us) → RowsV H' us out → Within one two out → Q (.ref l) H'
abbrev P2r : List Str := ["one", "two"]
theorem scDd : FnScope ["one", "two", "low", "high", "step", "bits", "last"] P2r (defScope (top 45)) := ⟨rfl, rfl, rfl, by decide +kernel, rfl, by decide +kernel, by decide +kernel⟩
theorem scDu : FnScope ["one", "two", "low", "high", "step", "bits", "first"] P2r (defScope (top 46)) := ⟨rfl, rfl, rfl, by decide +kernel, rfl, by decide +kernel, by decide +kernel⟩
theorem dec_ne (a b : Int) : V.bl (!decide (V.int a = V.int b)) = V.bl (!decide (a = b)) := by simp only [V.int.injEq]
section
variable {P : Program} {w : World} {K : PySem.W.Frag} {mg : Str → Option Value} {base : Heap}
structure DrK (P : Program) (w : World) (K : PySem.W.Frag) (mg : Str → Option Value) (base : Heap) : Prop where
  nx : Fn P w K mg base 3 "next_in" ["step", "bits", "number"] spNx
  ls : Fn P w K mg base 3 "last_in" ["step", "bits", "number"] spLs
  lu : Fn P w K mg base 4 "last_unlike" P6l spLu
  fu : Fn P w K mg base 4 "first_unlike" P6l spFu
  lg : Fn P w K mg base 2 "is_long" ["row"] spLg
  tm : Fn P w K mg base 4 "trimmed" ["row"] spTm
theorem ok_dd {f : Addr} {fd : FuncData} (F : Fun K "drawn_down" "drawn_down" (top 45) f fd) (k : DrK P w K mg base) : FnOk P w K mg base CX0 5 f fd P2r spDd := by
  refine F.ok scDd (fun vs H Q E h => ?_) (fun cdv A outer s H vs Q E hr h => ?_)
  · obtain ⟨v1, v2, one, two, rfl, _⟩ := h
    rfl
  · obtain ⟨v1, v2, one, two, rfl, g, q⟩ := h
    obtain ⟨t1, rfl, h1⟩ := g.r1
    obtain ⟨t2, rfl, h2⟩ := g.r2
    obtain ⟨h, l, eh, el, lt⟩ := g.b
    have nd := scDd.nd
    have r2 := hr.mono (k := 4) (j := 2) (by decide)
    have r3 := hr.mono (k := 4) (j := 3) (by decide)
    have ok1 := g.n1.ok
    have ok2 := g.n2.ok
    refine ⟨_, pss_cons (ps_asg (pv 0) (pg_tup rfl (pgs_cons (pg_name (i := 2) nd rfl (.inl rfl)) (pgs_cons (pg_name (i := 3) nd rfl (.inl rfl)) (pgs_cons (pg_name (i := 4) nd rfl (.inl rfl)) (pgs_cons (pg_name (i := 5) nd rfl (.inl rfl)) pgs_nil))))))
      (pss_cons (ps_if (pt_cmpR op_ne (pe_fn k.nx r3 (pa_cons (pe_ix ix_tup (pv 1) pe_int (fun _ _ => rfl)) (pa_cons (pe_ix ix_tup (pv 1) pe_int (fun _ _ => rfl)) (pa_cons (pe_op op_add (pv 3) pe_int) pa_nil)))) (pe_ix ix_tup (pv 1) pe_int (fun _ _ => rfl)) (nomark _)) (pss_one (ps_ret (pe_lst (pa_cons (pv 0) (pa_cons (pv 1) pa_nil))))) pss_nil)
      (pss_cons (ps_set (i := 6) nd rfl (.inl rfl) (pe_fn k.lu hr (pa_cons (pv 2) (pa_cons (pv 3) (pa_cons (pv 4) (pa_cons (pv 5) (pa_cons (pe_ix ix_tup (pv 1) pe_int (fun _ _ => rfl)) (pa_cons (pe_ix ix_tup (pv 1) pe_int (fun _ _ => rfl)) pa_nil))))))))
      (pss_cons (ps_if (pt_cmp (pc_isN (pv 6))) (pss_one (ps_ret (pe_lst (pa_cons (pe_tup (pa_cons (pv 2) (pa_cons (pe_ix ix_tup (pv 1) pe_int (fun _ _ => rfl)) (pa_cons (pe_ix ix_tup (pv 1) pe_int (fun _ _ => rfl)) (pa_cons (pe_ix ix_tup (pv 1) pe_int (fun _ _ => rfl)) pa_nil))))) pa_nil)))) pss_nil)
      (pss_cons (ps_if (pw_or (pt_val (pe_fn k.lg r2 (pa_cons (pv 0) pa_nil))) (pw_or1 (pt_not (pt_val (pe_fn k.lg r2 (pa_cons (pv 1) pa_nil)))))).pt (pss_one (ps_ret (pe_lst (pa_cons (pv 0) (pa_cons (pv 1) pa_nil))))) pss_nil)
      (pss_one (ps_ret (pe_op op_cat (pe_fn k.tm hr (pa_cons (pe_tup (pa_cons (pv 2) (pa_cons (pv 6) (pa_cons (pv 4) (pa_cons (pv 5) pa_nil))))) pa_nil))
        (pe_lst (pa_cons (pe_tup (pa_cons (pe_fn k.nx r3 (pa_cons (pe_ix ix_tup (pv 1) pe_int (fun _ _ => rfl)) (pa_cons (pe_ix ix_tup (pv 1) pe_int (fun _ _ => rfl)) (pa_cons (pe_op op_add (pv 6) pe_int) pa_nil))))
          (pa_cons (pe_ix ix_tup (pv 1) pe_int (fun _ _ => rfl)) (pa_cons (pe_ix ix_tup (pv 1) pe_int (fun _ _ => rfl)) (pa_cons (pe_ix ix_tup (pv 1) pe_int (fun _ _ => rfl)) pa_nil))))) pa_nil))))))))), ?_⟩
    have both : ∀ (H2 : Hp) (o : Addr), Same H H2 → H2 o = none → Within one two [one, two] → Q (.ref o) (upd H2 o (.lst [.ref t1, .ref t2])) := fun H2 o s2 ho wi =>
      have s3 := same_upd (o := .lst [.ref t1, .ref t2]) ho
      q o _ [one, two] _ (Same.free s2 ho) (s2.trans s3) upd_same (.cons ⟨t1, rfl, s3 _ _ (s2 _ _ h1)⟩ (.cons ⟨t2, rfl, s3 _ _ (s2 _ _ h2)⟩ .nil)) wi
    have e1 : (Rvs one)[1]? = some (V.int h) := by show some (oI one.hi) = _; rw [eh]; rfl
    have e2 : (Rvs two)[0]? = some (V.int l) := by show some (oI two.lo) = _; rw [el]; rfl
    refine seqV (Good := fun σ2 H2 => H = H2 ∧ σ2 = [some (.ref t1), some (.ref t2), some (oI one.lo), some (.int h), some (.int one.p), some (.int one.b), none]) ?_ ?_
    · intro nx hnx
      have eo : oI one.hi = .int h := by rw [eh]; rfl
      refine ⟨_, rfl, t1, _, rfl, .inl (.inl h1), rfl, _, _, rfl, _, _, rfl, _, _, rfl, _, _, rfl, rfl, ?_⟩
      show nx [some (.ref t1), some (.ref t2), some (oI one.lo), some (oI one.hi), some (.int one.p), some (.int one.b), none] H
      rw [eo]
      exact hnx _ _ ⟨rfl, rfl⟩
    rintro _ _ ⟨rfl, rfl⟩
    -- a gap
    refine seqV (Good := fun σ2 H2 => (∀ n, h < n → n < l → pat two.p two.b n = false) ∧ H = H2 ∧ σ2 = [some (.ref t1), some (.ref t2), some (oI one.lo), some (.int h), some (.int one.p), some (.int one.b), none]) ?_ ?_
    · intro nx hnx
      refine ⟨_, rfl, t2, _, _, _, rfl, rfl, .inl (.inl h2), rfl, _, rfl, t2, _, _, _, rfl, rfl, .inl (.inl h2), rfl, _, rfl, _, _, rfl, rfl, two.p, two.b, h + 1, rfl, ok2.p0, by have := g.p2; omega, ok2.bl, g.n2.ex, fun r na => ?_⟩
      refine ⟨_, rfl, t2, _, _, _, rfl, rfl, .inl (.inl h2), e2, rfl, !decide (r = l), dec_ne r l, ?_⟩
      by_cases c : r = l
      · rw [decide_eq_true c]
        exact iteF (hnx _ _ ⟨fun n n1 n2 => na.off n (by omega) (by omega), rfl, rfl⟩)
      · rw [decide_eq_false c]
        exact iteT ⟨_, rfl, _, rfl, (by show 2 ≤ sizeLine; decide), fun o ho => both H o (fun _ _ z => z) ho (dd_same g.n1 g.n2 g.b)⟩
    rintro _ _ ⟨gap, rfl, rfl⟩
    -- the last unlike
    refine seqV (Good := fun σ2 H2 => ∃ o, LuR one.lo h one.p one.b two.p two.b o ∧ H = H2 ∧ σ2 = [some (.ref t1), some (.ref t2), some (oI one.lo), some (.int h), some (.int one.p), some (.int one.b), some (oI o)]) ?_ ?_
    · intro nx hnx
      exact ⟨_, rfl, _, rfl, _, rfl, _, rfl, _, rfl, t2, _, _, _, rfl, rfl, .inl (.inl h2), rfl, _, rfl, t2, _, _, _, rfl, rfl, .inl (.inl h2), rfl, one.lo, h, one.p, one.b, two.p, two.b, rfl, ok1.p0, g.p1, ok1.bl, ok2.p0, g.p2, ok2.bl, fun x hx => ok1.le x h hx eh, fun o lr => hnx _ _ ⟨o, lr, rfl, rfl⟩⟩
    rintro _ _ ⟨o, lr, rfl, rfl⟩
    cases o with
    | none =>
      obtain ⟨al, inf⟩ := lr
      refine ⟨_, rfl, true, rfl, iteT ⟨_, rfl, _, rfl, t2, _, _, _, rfl, rfl, .inl (.inl h2), rfl, _, rfl, t2, _, _, _, rfl, rfl, .inl (.inl h2), rfl, _, rfl, t2, _, _, _, rfl, rfl, .inl (.inl h2), rfl, (by show 4 ≤ sizeLine; decide), fun o1 ho1 => ⟨(by show 1 ≤ sizeLine; decide), fun o2 ho2 => ?_⟩⟩⟩
      have s1 := same_upd (o := .tup [oI one.lo, oI two.hi, .int two.p, .int two.b]) ho1
      have s2 := same_upd (o := .lst [.ref o1]) ho2
      exact q o2 [.ref o1] [⟨one.lo, two.hi, two.p, two.b⟩] _ (Same.free s1 ho2) (s1.trans s2) upd_same (.cons ⟨o1, rfl, s2 _ _ upd_same⟩ .nil) (dd_merge g.n1 g.n2 eh el lt gap al inf)
    | some last =>
      obtain ⟨gl, lh, _, al⟩ := lr
      refine seqV (Good := fun σ2 H2 => H = H2 ∧ σ2 = [some (.ref t1), some (.ref t2), some (oI one.lo), some (.int h), some (.int one.p), some (.int one.b), some (.int last)]) (fun nx hnx => ⟨_, rfl, false, rfl, iteF (hnx _ _ ⟨rfl, rfl⟩)⟩) ?_
      rintro _ _ ⟨rfl, rfl⟩
      refine seqV (Good := fun σ2 H2 => (∃ lo, one.lo = some lo ∧ h - lo + 1 ≤ 5040) ∧ (∀ y, two.hi = some y → 5040 < y - l + 1) ∧ H = H2 ∧ σ2 = [some (.ref t1), some (.ref t2), some (oI one.lo), some (.int h), some (.int one.p), some (.int one.b), some (.int last)]) ?_ ?_
      · intro nx hnx
        refine ⟨_, rfl, _, one, rfl, ⟨t1, rfl, h1⟩, fun b1 hb1 _ => ⟨b1, rfl, ?_⟩⟩
        cases b1 with
        | true => exact iteT ⟨_, rfl, _, rfl, (by show 2 ≤ sizeLine; decide), fun o ho => both H o (fun _ _ z => z) ho (dd_same g.n1 g.n2 g.b)⟩
        | false =>
          refine iteF ⟨_, rfl, _, two, rfl, ⟨t2, rfl, h2⟩, fun b2 _ hb2 => ⟨b2, rfl, ?_⟩⟩
          cases b2 with
          | true => 
            obtain ⟨lo, x, e1, e2, le⟩ := hb1 rfl
            rw [eh] at e2
            cases e2
            exact iteF (hnx _ _ ⟨⟨lo, e1, le⟩, fun y ey => hb2 rfl l y el ey, rfl, rfl⟩)
          | false => exact iteT ⟨_, rfl, _, rfl, (by show 2 ≤ sizeLine; decide), fun o ho => both H o (fun _ _ z => z) ho (dd_same g.n1 g.n2 g.b)⟩
      rintro _ _ ⟨⟨lo, elo, sho⟩, lng, rfl, rfl⟩
      have lol : lo ≤ last := gl lo elo
      refine ⟨_, rfl, _, rfl, _, rfl, _, rfl, (by show 4 ≤ sizeLine; decide), fun o1 ho1 => ?_⟩
      have s1 := same_upd (o := .tup [oI one.lo, .int last, .int one.p, .int one.b]) ho1
      refine ⟨_, ⟨one.lo, some last, one.p, one.b⟩, rfl, ⟨o1, rfl, upd_same⟩, ⟨ok1.p0, ok1.bl, fun x y e1 e2 => ?_⟩, by have := g.p1; show one.p ≤ 100000; omega, fun l2 us o H2 n2 s2 hl2 rv tr => ?_⟩
      · have e1 : one.lo = some x := e1
        cases e2
        exact gl x e1
      have s02 := s1.trans s2
      have h22 := s02 _ _ h2
      refine ⟨_, rfl, t2, _, _, _, rfl, rfl, .inl (.inl h22), rfl, _, rfl, t2, _, _, _, rfl, rfl, .inl (.inl h22), rfl, _, rfl, _, _, rfl, rfl, two.p, two.b, last + 1, rfl, ok2.p0, by have := g.p2; omega, ok2.bl, g.n2.ex, fun l3 na => ?_⟩
      refine ⟨_, rfl, t2, _, _, _, rfl, rfl, .inl (.inl h22), rfl, _, rfl, t2, _, _, _, rfl, rfl, .inl (.inl h22), rfl, _, rfl, t2, _, _, _, rfl, rfl, .inl (.inl h22), rfl, (by show 4 ≤ sizeLine; decide), fun o3 ho3 => ⟨(by show 1 ≤ sizeLine; decide), fun o4 ho4 => ?_⟩⟩
      have s3 := same_upd (o := .tup [.int l3, oI two.hi, .int two.p, .int two.b]) ho3
      have s4 := same_upd (o := .lst [.ref o3]) ho4
      have s24 := s3.trans s4
      have ul : us.length ≤ 1 := by
        have := Paired.length rv
        rw [this]
        cases o with
        | none => exact Nat.zero_le _
        | some s => exact Nat.le_refl 1
      refine ⟨l2, o4, _, _, rfl, rfl, s24 _ _ hl2, upd_same, by rw [sizeLine_eq]; show us.length + 1 ≤ _; omega, fun o5 ho5 => ?_⟩
      have s5 := same_upd (o := .lst (us ++ [.ref o3])) ho5
      have s25 := s24.trans s5
      refine q o5 _ (o.toList ++ [⟨some l3, two.hi, two.p, two.b⟩]) _ (Same.free (s02.trans s24) ho5) (s02.trans s25) upd_same ?_ (dd_cut g.n1 g.n2 eh el lt gap elo sho lng lol lh al tr na)
      exact PySem.Paired.snoc (RowsV.same s25 rv) ⟨o3, rfl, s5 _ _ (s4 _ _ upd_same)⟩
theorem ok_du {f : Addr} {fd : FuncData} (F : Fun K "drawn_up" "drawn_up" (top 46) f fd) (k : DrK P w K mg base) : FnOk P w K mg base CX0 5 f fd P2r spDd := by
  refine F.ok scDu (fun vs H Q E h => ?_) (fun cdv A outer s H vs Q E hr h => ?_)
  · obtain ⟨v1, v2, one, two, rfl, _⟩ := h
    rfl
  · obtain ⟨v1, v2, one, two, rfl, g, q⟩ := h
    obtain ⟨t1, rfl, h1⟩ := g.r1
    obtain ⟨t2, rfl, h2⟩ := g.r2
    obtain ⟨h, l, eh, el, lt⟩ := g.b
    have nd := scDu.nd
    have r2 := hr.mono (k := 4) (j := 2) (by decide)
    have r3 := hr.mono (k := 4) (j := 3) (by decide)
    have ok1 := g.n1.ok
    have ok2 := g.n2.ok
    refine ⟨_, pss_cons (ps_asg (pv 1) (pg_tup rfl (pgs_cons (pg_name (i := 2) nd rfl (.inl rfl)) (pgs_cons (pg_name (i := 3) nd rfl (.inl rfl)) (pgs_cons (pg_name (i := 4) nd rfl (.inl rfl)) (pgs_cons (pg_name (i := 5) nd rfl (.inl rfl)) pgs_nil))))))
      (pss_cons (ps_if (pt_cmpR op_ne (pe_fn k.ls r3 (pa_cons (pe_ix ix_tup (pv 0) pe_int (fun _ _ => rfl)) (pa_cons (pe_ix ix_tup (pv 0) pe_int (fun _ _ => rfl)) (pa_cons (pe_op op_sub (pv 2) pe_int) pa_nil)))) (pe_ix ix_tup (pv 0) pe_int (fun _ _ => rfl)) (nomark _)) (pss_one (ps_ret (pe_lst (pa_cons (pv 0) (pa_cons (pv 1) pa_nil))))) pss_nil)
      (pss_cons (ps_set (i := 6) nd rfl (.inl rfl) (pe_fn k.fu hr (pa_cons (pv 2) (pa_cons (pv 3) (pa_cons (pv 4) (pa_cons (pv 5) (pa_cons (pe_ix ix_tup (pv 0) pe_int (fun _ _ => rfl)) (pa_cons (pe_ix ix_tup (pv 0) pe_int (fun _ _ => rfl)) pa_nil))))))))
      (pss_cons (ps_if (pt_cmp (pc_isN (pv 6))) (pss_one (ps_ret (pe_lst (pa_cons (pe_tup (pa_cons (pe_ix ix_tup (pv 0) pe_int (fun _ _ => rfl)) (pa_cons (pv 3) (pa_cons (pe_ix ix_tup (pv 0) pe_int (fun _ _ => rfl)) (pa_cons (pe_ix ix_tup (pv 0) pe_int (fun _ _ => rfl)) pa_nil))))) pa_nil)))) pss_nil)
      (pss_cons (ps_if (pw_or (pt_val (pe_fn k.lg r2 (pa_cons (pv 1) pa_nil))) (pw_or1 (pt_not (pt_val (pe_fn k.lg r2 (pa_cons (pv 0) pa_nil)))))).pt (pss_one (ps_ret (pe_lst (pa_cons (pv 0) (pa_cons (pv 1) pa_nil))))) pss_nil)
      (pss_one (ps_ret (pe_op op_cat
        (pe_lst (pa_cons (pe_tup (pa_cons (pe_ix ix_tup (pv 0) pe_int (fun _ _ => rfl)) (pa_cons (pe_fn k.ls r3 (pa_cons (pe_ix ix_tup (pv 0) pe_int (fun _ _ => rfl)) (pa_cons (pe_ix ix_tup (pv 0) pe_int (fun _ _ => rfl)) (pa_cons (pe_op op_sub (pv 6) pe_int) pa_nil))))
          (pa_cons (pe_ix ix_tup (pv 0) pe_int (fun _ _ => rfl)) (pa_cons (pe_ix ix_tup (pv 0) pe_int (fun _ _ => rfl)) pa_nil))))) pa_nil))
        (pe_fn k.tm hr (pa_cons (pe_tup (pa_cons (pv 6) (pa_cons (pv 3) (pa_cons (pv 4) (pa_cons (pv 5) pa_nil))))) pa_nil))))))))), ?_⟩
    have both : ∀ (H2 : Hp) (o : Addr), Same H H2 → H2 o = none → Within one two [one, two] → Q (.ref o) (upd H2 o (.lst [.ref t1, .ref t2])) := fun H2 o s2 ho wi =>
      have s3 := same_upd (o := .lst [.ref t1, .ref t2]) ho
      q o _ [one, two] _ (Same.free s2 ho) (s2.trans s3) upd_same (.cons ⟨t1, rfl, s3 _ _ (s2 _ _ h1)⟩ (.cons ⟨t2, rfl, s3 _ _ (s2 _ _ h2)⟩ .nil)) wi
    have e1 : (Rvs one)[1]? = some (V.int h) := by show some (oI one.hi) = _; rw [eh]; rfl
    refine seqV (Good := fun σ2 H2 => H = H2 ∧ σ2 = [some (.ref t1), some (.ref t2), some (.int l), some (oI two.hi), some (.int two.p), some (.int two.b), none]) ?_ ?_
    · intro nx hnx
      have eo : oI two.lo = .int l := by rw [el]; rfl
      refine ⟨_, rfl, t2, _, rfl, .inl (.inl h2), rfl, _, _, rfl, _, _, rfl, _, _, rfl, _, _, rfl, rfl, ?_⟩
      show nx [some (.ref t1), some (.ref t2), some (oI two.lo), some (oI two.hi), some (.int two.p), some (.int two.b), none] H
      rw [eo]
      exact hnx _ _ ⟨rfl, rfl⟩
    rintro _ _ ⟨rfl, rfl⟩
    refine seqV (Good := fun σ2 H2 => (∀ n, h < n → n < l → pat one.p one.b n = false) ∧ H = H2 ∧ σ2 = [some (.ref t1), some (.ref t2), some (.int l), some (oI two.hi), some (.int two.p), some (.int two.b), none]) ?_ ?_
    · intro nx hnx
      refine ⟨_, rfl, t1, _, _, _, rfl, rfl, .inl (.inl h1), rfl, _, rfl, t1, _, _, _, rfl, rfl, .inl (.inl h1), rfl, _, rfl, _, _, rfl, rfl, one.p, one.b, l - 1, rfl, ok1.p0, by have := g.p1; omega, ok1.bl, g.n1.ex, fun r na => ?_⟩
      refine ⟨_, rfl, t1, _, _, _, rfl, rfl, .inl (.inl h1), e1, rfl, !decide (r = h), dec_ne r h, ?_⟩
      by_cases c : r = h
      · rw [decide_eq_true c]
        exact iteF (hnx _ _ ⟨fun n n1 n2 => na.off n (by omega) (by omega), rfl, rfl⟩)
      · rw [decide_eq_false c]
        exact iteT ⟨_, rfl, _, rfl, (by show 2 ≤ sizeLine; decide), fun o ho => both H o (fun _ _ z => z) ho (dd_same g.n1 g.n2 g.b)⟩
    rintro _ _ ⟨gap, rfl, rfl⟩
    refine seqV (Good := fun σ2 H2 => ∃ o, FuR l two.hi two.p two.b one.p one.b o ∧ H = H2 ∧ σ2 = [some (.ref t1), some (.ref t2), some (.int l), some (oI two.hi), some (.int two.p), some (.int two.b), some (oI o)]) ?_ ?_
    · intro nx hnx
      exact ⟨_, rfl, _, rfl, _, rfl, _, rfl, _, rfl, t1, _, _, _, rfl, rfl, .inl (.inl h1), rfl, _, rfl, t1, _, _, _, rfl, rfl, .inl (.inl h1), rfl, l, two.hi, two.p, two.b, one.p, one.b, rfl, ok2.p0, g.p2, ok2.bl, ok1.p0, g.p1, ok1.bl, fun x hx => ok2.le l x el hx, fun o lr => hnx _ _ ⟨o, lr, rfl, rfl⟩⟩
    rintro _ _ ⟨o, lr, rfl, rfl⟩
    cases o with
    | none =>
      obtain ⟨al, inf⟩ := lr
      refine ⟨_, rfl, true, rfl, iteT ⟨_, rfl, t1, _, _, _, rfl, rfl, .inl (.inl h1), rfl, _, rfl, _, rfl, t1, _, _, _, rfl, rfl, .inl (.inl h1), rfl, _, rfl, t1, _, _, _, rfl, rfl, .inl (.inl h1), rfl, (by show 4 ≤ sizeLine; decide), fun o1 ho1 => ⟨(by show 1 ≤ sizeLine; decide), fun o2 ho2 => ?_⟩⟩⟩
      have s1 := same_upd (o := .tup [oI one.lo, oI two.hi, .int one.p, .int one.b]) ho1
      have s2 := same_upd (o := .lst [.ref o1]) ho2
      exact q o2 [.ref o1] [⟨one.lo, two.hi, one.p, one.b⟩] _ (Same.free s1 ho2) (s1.trans s2) upd_same (.cons ⟨o1, rfl, s2 _ _ upd_same⟩ .nil) (du_merge g.n1 g.n2 eh el lt gap al inf)
    | some first =>
      obtain ⟨lf, lh, _, al⟩ := lr
      refine seqV (Good := fun σ2 H2 => H = H2 ∧ σ2 = [some (.ref t1), some (.ref t2), some (.int l), some (oI two.hi), some (.int two.p), some (.int two.b), some (.int first)]) (fun nx hnx => ⟨_, rfl, false, rfl, iteF (hnx _ _ ⟨rfl, rfl⟩)⟩) ?_
      rintro _ _ ⟨rfl, rfl⟩
      refine seqV (Good := fun σ2 H2 => (∃ hi, two.hi = some hi ∧ hi - l + 1 ≤ 5040) ∧ (∀ y, one.lo = some y → 5040 < h - y + 1) ∧ H = H2 ∧ σ2 = [some (.ref t1), some (.ref t2), some (.int l), some (oI two.hi), some (.int two.p), some (.int two.b), some (.int first)]) ?_ ?_
      · intro nx hnx
        refine ⟨_, rfl, _, two, rfl, ⟨t2, rfl, h2⟩, fun b1 hb1 _ => ⟨b1, rfl, ?_⟩⟩
        cases b1 with
        | true => exact iteT ⟨_, rfl, _, rfl, (by show 2 ≤ sizeLine; decide), fun o ho => both H o (fun _ _ z => z) ho (dd_same g.n1 g.n2 g.b)⟩
        | false =>
          refine iteF ⟨_, rfl, _, one, rfl, ⟨t1, rfl, h1⟩, fun b2 _ hb2 => ⟨b2, rfl, ?_⟩⟩
          cases b2 with
          | true => 
            obtain ⟨lo, x, e1, e2, le⟩ := hb1 rfl
            rw [el] at e1
            cases e1
            exact iteF (hnx _ _ ⟨⟨x, e2, le⟩, fun y ey => hb2 rfl y h ey eh, rfl, rfl⟩)
          | false => exact iteT ⟨_, rfl, _, rfl, (by show 2 ≤ sizeLine; decide), fun o ho => both H o (fun _ _ z => z) ho (dd_same g.n1 g.n2 g.b)⟩
      rintro _ _ ⟨⟨hi, ehi, sho⟩, lng, rfl, rfl⟩
      have fhi : first ≤ hi := lh hi ehi
      refine ⟨_, rfl, t1, _, _, _, rfl, rfl, .inl (.inl h1), rfl, _, rfl, t1, _, _, _, rfl, rfl, .inl (.inl h1), rfl, _, rfl, t1, _, _, _, rfl, rfl, .inl (.inl h1), rfl, _, rfl, _, _, rfl, rfl, one.p, one.b, first - 1, rfl, ok1.p0, by have := g.p1; omega, ok1.bl, g.n1.ex, fun h3 na => ?_⟩
      refine ⟨_, rfl, t1, _, _, _, rfl, rfl, .inl (.inl h1), rfl, _, rfl, t1, _, _, _, rfl, rfl, .inl (.inl h1), rfl, (by show 4 ≤ sizeLine; decide), fun o1 ho1 => ⟨(by show 1 ≤ sizeLine; decide), fun o2 ho2 => ?_⟩⟩
      have s1 := same_upd (o := .tup [oI one.lo, .int h3, .int one.p, .int one.b]) ho1
      have s2 := same_upd (o := .lst [.ref o1]) ho2
      have s02 := s1.trans s2
      refine ⟨_, rfl, _, rfl, _, rfl, _, rfl, (by show 4 ≤ sizeLine; decide), fun o3 ho3 => ?_⟩
      have s3 := same_upd (o := .tup [.int first, oI two.hi, .int two.p, .int two.b]) ho3
      have s03 := s02.trans s3
      refine ⟨_, ⟨some first, two.hi, two.p, two.b⟩, rfl, ⟨o3, rfl, upd_same⟩, ⟨ok2.p0, ok2.bl, fun x y e1 e2 => ?_⟩, by have := g.p2; show two.p ≤ 100000; omega, fun l2 us o H2 n2 s4 hl2 rv tr => ?_⟩
      · cases e1
        exact lh y e2
      have ul : us.length ≤ 1 := by
        have := Paired.length rv
        rw [this]
        cases o with
        | none => exact Nat.zero_le _
        | some s => exact Nat.le_refl 1
      have hA := s4 _ _ (s3 _ _ (show (upd (upd H o1 (.tup [oI one.lo, .int h3, .int one.p, .int one.b])) o2 (.lst [.ref o1])) o2 = some (.lst [.ref o1]) from upd_same))
      have hB := s4 _ _ (s3 _ _ (s2 _ _ (show (upd H o1 (.tup [oI one.lo, .int h3, .int one.p, .int one.b])) o1 = some (.tup [oI one.lo, .int h3, .int one.p, .int one.b]) from upd_same)))
      refine ⟨o2, l2, _, _, rfl, rfl, hA, hl2, by rw [sizeLine_eq]; show 1 + us.length ≤ _; omega, fun o5 ho5 => ?_⟩
      have s5 := same_upd (o := .lst ([.ref o1] ++ us)) ho5
      refine q o5 _ ([⟨one.lo, some h3, one.p, one.b⟩] ++ o.toList) _ (Same.free (s03.trans s4) ho5) (s03.trans (s4.trans s5)) upd_same ?_ (du_cut g.n1 g.n2 eh el lt gap ehi sho lng lf fhi al tr na)
      exact .cons ⟨o1, rfl, s5 _ _ hB⟩ (RowsV.same s5 rv)
/-! met -/
theorem scMe : FnScope ["one", "two", "rows"] P2r (defScope (top 47)) := ⟨rfl, rfl, rfl, by decide +kernel, rfl, by decide +kernel, by decide +kernel⟩
/-- two neat rows, within bounds -/
def spMe : Sp := fun vs H Q _ => ∃ (v1 v2 : V) (one two : Rw) (Z : Zn) (L : Nat), vs = [v1, v2] ∧ TwoAt H v1 v2 one two ∧ Lm Z L one ∧ Lm Z L two ∧ Z.Ok L ∧ ∀ (l : Addr) (us : List V) (out : List Rw) (H' : Hp), H l = none → Same H H' → H' l = some (.lst us) → RowsV H' us out → Within one two out → Q (.ref l) H'
theorem ok_me {f : Addr} {fd : FuncData} (F : Fun K "met" "met" (top 47) f fd) (n : Nm mg) (DD : Fn P w K mg base 5 "drawn_down" P2r spDd) (DU : Fn P w K mg base 5 "drawn_up" P2r spDd) : FnOk P w K mg base CX0 6 f fd P2r spMe := by
  refine F.ok scMe (fun vs H Q E h => ?_) (fun cdv A outer s H vs Q E hr h => ?_)
  · obtain ⟨v1, v2, one, two, Z, L, rfl, _⟩ := h
    rfl
  · obtain ⟨v1, v2, one, two, Z, L, rfl, g, m1, m2, kk, q⟩ := h
    have nd := scMe.nd
    refine ⟨_, pss_cons (ps_set (i := 2) nd rfl (.inl rfl) (pe_fn DD hr (pa_cons (pv 0) (pa_cons (pv 1) pa_nil))))
      (pss_one (ps_ret (pe_ifExp (pt_cmpR op_eq (pe_callB call_len_seq (by rfl) n.len PySem.boot_len (pa_cons (pv 2) pa_nil)) pe_int (nomark _)) (pe_fn DU hr (pa_cons (pe_ix ix_list (pv 2) pe_int (fun _ _ => rfl)) (pa_cons (pe_ix ix_list (pv 2) pe_int (fun _ _ => rfl)) pa_nil))) (pv 2)))), ?_⟩
    refine ⟨_, rfl, _, rfl, v1, v2, one, two, rfl, g, fun l us out H1 nl s1 hl rv wi => ?_⟩
    have lu := Paired.length rv
    refine ⟨_, rfl, l, us, rfl, .inl (.inl (.inl hl)), rfl, decide (us.length = 2), congrArg V.bl (by simp only [V.int.injEq]; congr 1; rw [eq_iff_iff]; omega), ?_⟩
    by_cases c : us.length = 2
    · rw [decide_eq_true c]
      refine iteT ?_
      match us, out, rv, lu, c with
      | [u0, u1], [r0, r1], .cons k0 (.cons k1 .nil), _, _ =>
        have n0 := wi.nt.nt r0 (by simp)
        have n1 := wi.nt.nt r1 (by simp)
        have b01 : Bef r0 r1 := (List.pairwise_cons.mp wi.nt.so).1 r1 (by simp)
        have lm := wi.lm Z L kk m1 m2
        refine ⟨_, rfl, l, _, _, _, rfl, rfl, .inl (.inl hl), rfl, _, rfl, l, _, _, _, rfl, rfl, .inl (.inl hl), rfl, u0, u1, r0, r1, rfl, ⟨k0, k1, n0, n1, b01, by have := lm_p kk n0 (lm r0 (by simp)); omega, by have := lm_p kk n1 (lm r1 (by simp)); omega⟩, fun l2 us2 out2 H2 nl2 s2 hl2 rv2 wi2 => ?_⟩
        exact q l2 us2 out2 H2 (Same.free s1 nl2) (s1.trans s2) hl2 rv2 (within_trans wi wi2)
    · rw [decide_eq_false c]
      exact iteF ⟨_, rfl, q l us out H1 nl s1 hl rv wi⟩
end
end L2.K14
end

section
set_option Elab.async false
set_option linter.all false
set_option maxRecDepth 100000
set_option maxHeartbeats 2000000
/-! enumerate of a tuple -/
namespace PyProof.Rows
open PySem
open Sem (wp)
open AutoSeq1 (wpAny_loadPart')
section
variable {prog : Program} {w : World} {A : Around} {E : Value → Shared → Prop} {s : Shared} {I T e : Addr} {i : Nat} {xs : Array Value} {x old : Value}
/-- the tuple's iterator, asked from within a builtin -/
theorem nextOf_tup {Q : Value → Shared → Prop} (it : IsTupIter s.heap I T i) (ht : IsTup s.heap T xs) (hx : xs[i]? = some x)
    (k : ∀ h', IsTupIter h' I T (i + 1) → Heap.SameBut I s.heap h' → Q x { s with heap := h' }) :
    wpAny (model prog w) A (Builtin.SmallTypes.nextOf (.ref I)) Q E s := by
  obtain ⟨o, oi, oc, od⟩ := id it
  obtain ⟨p, op, _, m, pd⟩ := ht
  unfold Builtin.SmallTypes.nextOf
  refine wpAny_bind (wpAny_callSpecial?_slot (name := Str.ofString "__next__") it.typeIs slot_tupleiter_next (wpAny_call_entry slot_tupleiter_next it.typeIs entry_tupleiter_next
    (?a : wpAny _ _ _ _ _ _) (args_tupleiter_next _)))
  show wpAny _ _ (field (.ref I) 0 >>= _) _ _ s
  refine wpAny_bind (wpAny_field oi od (x := .ref T) rfl ?_)
  show wpAny _ _ (if (Value.ref T == Value.none) = true then _ else _) _ _ s
  rw [if_neg (show ¬ ((Value.ref T == Value.none) = true) from Bool.false_ne_true)]
  show wpAny _ _ (field (.ref I) 1 >>= _) _ _ s
  refine wpAny_bind (wpAny_field oi od (x := .int i 0) rfl ?_)
  show wpAny _ _ (seqItems? (.ref T) >>= _) _ _ s
  refine wpAny_bind (wpAny_seqItems op pd ?_)
  simp only [hx, Int.toNat_natCast]
  refine wpAny_bind (wpAny_setField oi od (by simp) (wpAny_pure ⟨x, rfl, wpAny_pure (k _ ⟨_, Heap.get?_update_self _ oi (Obj.isFreed_of_fields (Obj.data_mapFields od _)), (Obj.cls_mapFields ..).trans oc, ?_⟩ (Heap.SameBut.update ..))⟩))
  rw [Obj.data_mapFields od]
  simp [rawInt]
theorem nextOf_tup_end {Q : Value → Shared → Prop} (hh : A.handled = none) (it : IsTupIter s.heap I T i) (ht : IsTup s.heap T xs) (hx : xs[i]? = none)
    (k : ∀ h' c, Heap.ExtBut I s.heap h' → (∃ o, h'.get? c = some o ∧ o.cls = .type "StopIteration") → E (.ref c) { s with heap := h' }) :
    wpAny (model prog w) A (Builtin.SmallTypes.nextOf (.ref I)) Q E s := by
  obtain ⟨o, oi, oc, od⟩ := id it
  obtain ⟨p, op, _, m, pd⟩ := ht
  unfold Builtin.SmallTypes.nextOf
  refine wpAny_bind (wpAny_callSpecial?_slot (name := Str.ofString "__next__") it.typeIs slot_tupleiter_next (wpAny_call_entry slot_tupleiter_next it.typeIs entry_tupleiter_next
    (?a : wpAny _ _ _ _ _ _) (args_tupleiter_next _)))
  show wpAny _ _ (field (.ref I) 0 >>= _) _ _ s
  refine wpAny_bind (wpAny_field oi od (x := .ref T) rfl ?_)
  show wpAny _ _ (if (Value.ref T == Value.none) = true then _ else _) _ _ s
  rw [if_neg (show ¬ ((Value.ref T == Value.none) = true) from Bool.false_ne_true)]
  show wpAny _ _ (field (.ref I) 1 >>= _) _ _ s
  refine wpAny_bind (wpAny_field oi od (x := .int i 0) rfl ?_)
  show wpAny _ _ (seqItems? (.ref T) >>= _) _ _ s
  refine wpAny_bind (wpAny_seqItems op pd ?_)
  simp only [hx, Int.toNat_natCast]
  refine wpAny_bind (wpAny_rule (wpAny_bind (wpAny_setField oi od (by simp) ?_)))
  show wpAny _ _ (newExc (.type "StopIteration") ([] : List Value) >>= _) _ _ _
  refine wpAny_bind ?_
  simp only [newTuple, newExc]
  refine wpAny_bind (wpAny_newObj_type ?_ (by size_fits))
  refine wpAny_bind (m := firstArgMember _ _) (wpAny_of_eq (a := Value.none) rfl ?_)
  refine wpAny_newObj_type ?_ (by size_fits)
  simp only [raiseNew]
  refine wpAny_bind (wpAny_handled ?_)
  rw [show A.in1.handled = none from hh]
  exact wpAny_bind (wpAny_pure (wpAny_throw (k _ _ (((Heap.SameBut.update ..).extBut.push _).push _) ⟨_, Heap.get?_push_size _ rfl, rfl⟩)))
/-- enumerate.__next__ over a tuple's iterator: a pair -/
theorem enumT_item {Q : Value → Shared → Prop} (he : IsEnum s.heap e I i old) (it : IsTupIter s.heap I T i) (ht : IsTup s.heap T xs) (hx : xs[i]? = some x) (ne : e ≠ I)
    (k : ∀ h', IsEnumOut h' e I ((i : Int) + 1) x s.heap.objs.size → IsTupIter h' I T (i + 1) →
      h'.get? s.heap.objs.size = some { cls := .type "tuple", data := .seq #[.int i s.toks, x] } → h'.objs.size = s.heap.objs.size + 1 →
      (∀ b o, b ≠ e → b ≠ I → s.heap.get? b = some o → h'.get? b = some o) → Q (.ref s.heap.objs.size) { s with heap := h', toks := s.toks + 1 }) :
    wpAny (model prog w) A (Builtin.«enumerate.__next__» ⟨[.ref e], []⟩) (fun r s' => ∃ v, r = .done (.ret v) ∧ Q v s') E s := by
  obtain ⟨hp, gs, dr, tk, os⟩ := s
  show wpAny _ _ (field (.ref e) 2 >>= _) _ _ (⟨hp, gs, dr, tk, os⟩ : Shared)
  refine wpAny_bind (wpAny_field he rfl (x := .ref I) rfl (wpAny_bind (nextOf_tup it ht hx ?_)))
  intro a1 ia1 (sa1 : Heap.SameBut I hp a1)
  have e1 : IsEnum a1 e I i old := (sa1.2 e ne).trans he
  show wpAny _ _ (field (.ref e) 3 >>= _) _ _ ⟨a1, gs, dr, tk, os⟩
  refine wpAny_bind (wpAny_field e1 rfl (x := rawInt i) rfl ?_)
  show wpAny _ _ (field (.ref e) 4 >>= _) _ _ ⟨a1, gs, dr, tk, os⟩
  refine wpAny_bind (wpAny_field e1 rfl (x := .none) rfl ?_)
  show wpAny _ _ (mkInt i >>= _) _ _ ⟨a1, gs, dr, tk, os⟩
  refine wpAny_bind (wpAny_mkInt ?_)
  show wpAny _ _ (setField (.ref e) 3 (rawInt ((i : Int) + 1)) >>= _) _ _ ⟨a1, gs, dr, tk + 1, os⟩
  refine wpAny_bind (wpAny_setField_rec e1 (by simp) ?_)
  intro a2 (e2 : IsEnum a2 e I ((i : Int) + 1) old) (sa2 : Heap.SameBut e a1 a2)
  show wpAny _ _ (setField (.ref e) 4 .none >>= _) _ _ ⟨a2, gs, dr, tk + 1, os⟩
  refine wpAny_bind (wpAny_setField_rec e2 (by simp) ?_)
  intro a3 (e3 : IsEnum a3 e I ((i : Int) + 1) old) (sa3 : Heap.SameBut e a2 a3)
  show wpAny _ _ (newTuple [.int i tk, x] >>= _) _ _ ⟨a3, gs, dr, tk + 1, os⟩
  refine wpAny_bind (wpAny_newTuple ?_)
  have z3 : a3.objs.size = hp.objs.size := by rw [sa3.1, sa2.1, sa1.1]
  have le : e < hp.objs.size := Heap.lt_size he
  have nz : hp.objs.size ≠ e := Nat.ne_of_gt le
  rw [z3]
  generalize hq : a3.push { cls := .type "tuple", data := .seq #[.int i tk, x] } = a4
  have e4 : IsEnum a4 e I ((i : Int) + 1) old := by
    rw [← hq]
    exact Heap.get?_push_of_some _ e3
  have t4 : a4.get? hp.objs.size = some { cls := .type "tuple", data := .seq #[.int i tk, x] } := by
    rw [← hq, ← z3]
    exact Heap.get?_push_size _ rfl
  have z4 : a4.objs.size = hp.objs.size + 1 := by rw [← hq, Heap.size_push, z3]
  have k4 : ∀ b o, b ≠ e → b ≠ I → hp.get? b = some o → a4.get? b = some o := by
    intro b o h1 h2 h3
    rw [← hq]
    exact Heap.get?_push_of_some _ (sa3.extBut b o h1 (sa2.extBut b o h1 (sa1.extBut b o h2 h3)))
  have i4 : IsTupIter a4 I T (i + 1) := by
    rw [← hq]
    obtain ⟨o, ho, r⟩ := (ia1.extBut sa2.extBut (Ne.symm ne)).extBut sa3.extBut (Ne.symm ne)
    exact ⟨o, Heap.get?_push_of_some _ ho, r⟩
  show wpAny _ _ (Builtin.SmallTypes.ownedTupleIsFree (.ref e) >>= _) _ _ ⟨a4, gs, dr, tk + 1, os⟩
  refine wpAny_bind ?_
  unfold Builtin.SmallTypes.ownedTupleIsFree
  refine wpAny_bind (wpAny_field e4 rfl (x := .none) rfl (wpAny_pure ?_))
  simp only [if_true]
  refine wpAny_bind (wpAny_rule (wpAny_bind (wpAny_field e4 rfl (x := old) rfl ?_)))
  refine wpAny_bind (wpAny_setField_rec e4 (by simp) ?_)
  intro a5 (e5 : IsEnum a5 e I ((i : Int) + 1) x) (sa5 : Heap.SameBut e a4 a5)
  show wpAny _ _ (Builtin.SmallTypes.ownedTupleHandOut (.ref e) (.ref hp.objs.size) >>= _) _ _ ⟨a5, gs, dr, tk + 1, os⟩
  refine wpAny_bind ?_
  unfold Builtin.SmallTypes.ownedTupleHandOut
  refine wpAny_bind (wpAny_setField_rec e5 (by simp) ?_)
  intro a6 (e6 : IsEnumOut a6 e I ((i : Int) + 1) x hp.objs.size) (sa6 : Heap.SameBut e a5 a6)
  refine wpAny_setField_rec e6 (by simp) ?_
  intro a7 (e7 : IsEnumOut a7 e I ((i : Int) + 1) x hp.objs.size) (sa7 : Heap.SameBut e a6 a7)
  refine wpAny_bind (wpAny_letGo (wpAny_pure ⟨_, rfl, k a7 e7 ?_ ?_ ?_ ?_⟩))
  · exact ((i4.extBut sa5.extBut (Ne.symm ne)).extBut sa6.extBut (Ne.symm ne)).extBut sa7.extBut (Ne.symm ne)
  · exact sa7.extBut _ _ nz (sa6.extBut _ _ nz (sa5.extBut _ _ nz t4))
  · rw [sa7.1, sa6.1, sa5.1, z4]
  · exact fun b o h1 h2 h3 => sa7.extBut b o h1 (sa6.extBut b o h1 (sa5.extBut b o h1 (k4 b o h1 h2 h3)))
theorem pyNext_enumT {Q : Option Value → Shared → Prop} (he : IsEnum s.heap e I i old) (it : IsTupIter s.heap I T i) (ht : IsTup s.heap T xs) (hx : xs[i]? = some x) (ne : e ≠ I)
    (k : ∀ h', IsEnumOut h' e I ((i : Int) + 1) x s.heap.objs.size → IsTupIter h' I T (i + 1) →
      h'.get? s.heap.objs.size = some { cls := .type "tuple", data := .seq #[.int i s.toks, x] } → h'.objs.size = s.heap.objs.size + 1 →
      (∀ b o, b ≠ e → b ≠ I → s.heap.get? b = some o → h'.get? b = some o) → Q (some (.ref s.heap.objs.size)) { s with heap := h', toks := s.toks + 1 }) :
    wpAny (model prog w) A (pyNext (.ref e)) Q E s := by
  have ty : s.TypeIs (.ref e) "enumerate" := ⟨_, he, rfl⟩
  unfold pyNext
  refine wpAny_bind (wpAny_attempt (wpAny_callSpecial?_slot (name := Str.ofString "__next__") ty F.slot_enumerate_next ?_))
  refine wpAny_call_entry F.slot_enumerate_next ty F.entry_enumerate_next ?_ (F.args_enumerate_next_1 _)
  exact enumT_item he it ht hx ne fun h' q1 q2 q3 q4 q5 => wpAny_pure (k h' q1 q2 q3 q4 q5)
theorem pyNext_enumT_end {Q : Option Value → Shared → Prop} (hh : A.handled = none) (he : IsEnum s.heap e I i old) (it : IsTupIter s.heap I T i) (ht : IsTup s.heap T xs) (hx : xs[i]? = none)
    (k : ∀ h', Heap.ExtBut I s.heap h' → Q none { s with heap := h' }) : wpAny (model prog w) A (pyNext (.ref e)) Q E s := by
  have ty : s.TypeIs (.ref e) "enumerate" := ⟨_, he, rfl⟩
  unfold pyNext
  refine wpAny_bind (wpAny_attempt (wpAny_callSpecial?_slot (name := Str.ofString "__next__") ty F.slot_enumerate_next ?_))
  refine wpAny_call_entry F.slot_enumerate_next ty F.entry_enumerate_next ?_ (F.args_enumerate_next_1 _)
  show wpAny _ _ (field (.ref e) 2 >>= _) _ _ s
  refine wpAny_bind (wpAny_field he rfl (x := .ref I) rfl (wpAny_bind (nextOf_tup_end hh it ht hx ?_)))
  rintro h' c q ⟨o, ho, hc⟩
  exact wpAny_bind (wpAny_isInstance (T := "StopIteration") (b := true) ⟨o, ho, hc⟩ isSubtype_stop (wpAny_pure (k _ q)))
/-- enumerate(t) -/
theorem call_enumT {Q : Value → Shared → Prop} (ht : IsTup s.heap T xs)
    (k : ∀ h', IsEnum h' (s.heap.objs.size + 1) s.heap.objs.size 0 .none → IsTupIter h' s.heap.objs.size T 0 →
      (∀ b o, s.heap.get? b = some o → h'.get? b = some o) → Q (.ref (s.heap.objs.size + 1)) { s with heap := h' }) :
    wpAny (model prog w) A (call (.type "enumerate") [.ref T]) Q E s := by
  obtain ⟨o, ho, hc, n, hd⟩ := id ht
  let mid := s.heap.push { cls := .type "tuple_iterator", data := .fields #[.ref T, .int 0 0] }
  let fin := mid.push { cls := .type "enumerate", data := .fields #[.none, .bool false, .ref s.heap.objs.size, rawInt 0, .none, .none] }
  have meets : Meets (Builtin.«enumerate.__new__» ⟨[.type "enumerate", .ref T], []⟩) (fun _ R s' => (∃ o, s'.heap.get? T = some o ∧ o.cls = .type "tuple" ∧ ∃ n, o.data = .seq xs n) ∧
      R (.ok (.ret (.ref (s'.heap.push { cls := .type "tuple_iterator", data := .fields #[.ref T, .int 0 0] }).objs.size)))
        { s' with heap := (s'.heap.push { cls := .type "tuple_iterator", data := .fields #[.ref T, .int 0 0] }).push { cls := .type "enumerate", data := .fields #[.none, .bool false, .ref s'.heap.objs.size, rawInt 0, .none, .none] } }) :=
    .of_wp fun prog w A R s' h => by
      obtain ⟨hp, g, d, tk, os⟩ := s'
      obtain ⟨hT, h⟩ := h
      obtain ⟨o', ho', _⟩ := id hT
      have sub := sub_enumerate
      have tu : IsTup (Shared.heap ⟨hp, g, d, tk, os⟩) T xs := hT
      wp_walk using wpAny_loadPart' ho'
      refine wpAny_stack_any fun st => wpAny_pure ?_
      split
      · rename_i c _ _ _ _ _
        cases (c == Value.type "enumerate") <;> (wp_walk using wpAny_loadPart' ho', iter_tuple tu; exact ⟨_, rfl, h⟩)
      · wp_walk using wpAny_loadPart' ho', iter_tuple tu
        exact ⟨_, rfl, h⟩
  have z : mid.objs.size = s.heap.objs.size + 1 := Heap.size_push ..
  have he : IsEnum fin (s.heap.objs.size + 1) s.heap.objs.size 0 .none := by
    have q := Heap.get?_push_size mid (o := { cls := .type "enumerate", data := .fields #[.none, .bool false, .ref s.heap.objs.size, rawInt 0, .none, .none] }) rfl
    rw [z] at q
    exact q
  refine callType_new F.called_enumerate (by decide) (F.typeCall_enumerate_1 _) (F.newCall_enumerate_1 _) (fun obj => F.args_object_init_2 obj _) F.entry_enumerate_new meets ⟨ht, ?_⟩
  show _ ∧ _
  rw [show (s.heap.push { cls := .type "tuple_iterator", data := .fields #[.ref T, .int 0 0] }).objs.size = s.heap.objs.size + 1 from z]
  exact ⟨⟨_, he, rfl⟩, k fin he ⟨_, Heap.get?_push_of_some _ (Heap.get?_push_size _ rfl), rfl, rfl⟩ fun b o q => Heap.get?_push_of_some _ (Heap.get?_push_of_some _ q)⟩
end
end PyProof.Rows

namespace L2.Gd
open PySem PySem.Spec PyProof.Rows
/-- the tuple at a: each item in a new pair -/
def IteT (K : PySem.W.Frag) (a : Addr) : It where
  go := fun i H => ∃ (xs : List V) (x : V), SqT K H a xs ∧ xs[i]? = some x
  yld := fun i H v H' => ∃ T x, v = .ref T ∧ H T = none ∧ H' = upd H T (.tup [.int (i : Nat), x]) ∧ ∀ xs, SqT K H a xs → xs[i]? = some x
  stop := fun i H => ∃ xs : List V, SqT K H a xs ∧ xs.length ≤ i
theorem turn_enumT {P : Program} {w : World} {K : PySem.W.Frag} {elts : List Expr} {kk : Nat} {tpos : Pos} (a e I : Addr) :
    Turn P w K (.Tuple elts kk tpos) (IteT K a) [e, I] e (fun i h => (∃ old, IsEnum h e I ((i : Nat) : Int) old) ∧ IsTupIter h I a i ∧ e ≠ I) where
  mem := List.mem_cons_self
  obj := by
    rintro i h ⟨⟨old, he⟩, ⟨o, ho, hc, hd⟩, _⟩ b hb
    rcases List.mem_cons.mp hb with rfl | hb
    · exact ⟨_, he, fun v q => nomatch q⟩
    · obtain rfl := List.mem_singleton.mp hb
      exact ⟨o, ho, fun v q => by rw [hd] at q; exact nomatch q⟩
  keep := by
    rintro i h h' ⟨⟨old, he⟩, ⟨o, ho, r⟩, ne⟩ k
    exact ⟨⟨old, k e (by simp) _ he⟩, ⟨o, k I (by simp) _ ho, r⟩, ne⟩
  item := by
    rintro X hP hw hK hc i pins s σ H E J hf ⟨⟨old, he⟩, it, ne⟩ ⟨xs, x, hq, hx⟩
    subst hP hw hK
    obtain ⟨its, rv, tu, _⟩ := J.tuple hq
    obtain ⟨u, hu, ru⟩ := rv.get hx
    have le : e < s.heap.objs.size := Heap.lt_size he
    have li : I < s.heap.objs.size := let ⟨_, q, _⟩ := it; Heap.lt_size q
    refine pyNext_enumT he it tu (x := u) (by simpa using hu) ne ?_
    intro h1 out it1 tup1 z1 k1
    refine ⟨_, rfl, wpAny_letOwnedTupleGo_enum (s := { s with heap := h1, toks := s.toks + 1 }) out ?_⟩
    intro h2 he2 sb
    have tup2 : h2.get? s.heap.objs.size = some { cls := .type "tuple", data := .seq #[.int i s.toks, u] } := (sb.2 _ (Nat.ne_of_gt le)).trans tup1
    have new : ObjOk X.prog X.w (upd H s.heap.objs.size (.tup [.int (i : Nat), x])) h2 s.heap.objs.size (.tup [.int (i : Nat), x]) :=
      ⟨by show 2 ≤ sizeLine; decide, [.int i s.toks, u], .cons ⟨_, rfl⟩ (.cons ru .nil), ⟨_, tup2, rfl, _, rfl⟩⟩
    have J1 : Inv X pins σ (upd H s.heap.objs.size (.tup [.int (i : Nat), x])) { s with heap := h2, toks := s.toks + 1 } := by
      refine J.turnedNew (ch := [e, I]) (fun b o hb q => ?_) hf (Nat.le_refl _) new
      have b1 : b ≠ e := fun z => hb (by simp [z])
      have b2 : b ≠ I := fun z => hb (by simp [z])
      exact (sb.2 b b1).trans (k1 b o b1 b2 q)
    refine ⟨.ref s.heap.objs.size, _, J1, rfl, ⟨_, x, rfl, J.hok.fresh (Nat.le_refl _), rfl, fun ys hy => by rw [J.tuple_inj hy hq]; exact hx⟩, ⟨⟨u, ?_⟩, ?_, ne⟩, ?_⟩
    · rw [show ((i + 1 : Nat) : Int) = (i : Int) + 1 by omega]
      exact he2
    · obtain ⟨o, ho, r⟩ := it1
      exact ⟨o, (sb.2 I (Ne.symm ne)).trans ho, r⟩
    · intro b hb
      have lb : b < s.heap.objs.size := by
        rcases List.mem_cons.mp hb with rfl | q
        · exact le
        · obtain rfl := List.mem_singleton.mp q
          exact li
      rw [upd_ne (Nat.ne_of_lt lb)]
      exact (hf b hb).1
  done := by
    rintro X hP hw hK hc i pins s σ H E J hf ⟨⟨old, he⟩, it, ne⟩ ⟨xs, hq, hx⟩
    subst hP hw hK
    obtain ⟨its, rv, tu, _⟩ := J.tuple hq
    obtain ⟨f0, f1, f2, f3, f4, f5⟩ := hf I (by simp)
    have hl := rv.length
    refine pyNext_enumT_end (J.ok.hd hc) he it tu (by simp; omega) ?_
    intro h1 eb
    exact ⟨rfl, J.turned (t' := s.toks) (fun b o hb q => eb b o hb q) f0 f1 f3 f4 f5⟩
  self := by
    rintro A i s Q E ⟨⟨_, he⟩, _⟩ h
    exact wpAny_pyIter_enum he h
/-- enumerate of a list or of a tuple -/
def iEnumA (K : PySem.W.Frag) (ta : TA) : TI := fun σ H R => ta σ H fun vs H1 => ∃ a xs, vs = [.ref a] ∧
  ((SqL K H1 a xs ∧ R (Ite K a) H1) ∨ (SqT K H1 a xs ∧ R (IteT K a) H1))
theorem pi_enumA {X : Cx} {e : Expr} {ta : TA} {p pos tpos : Pos} {elts : List Expr} {kk : Nat} (hg : Gl X "enumerate") (hm : X.mg "enumerate" = none) (ha : PA X [e] ta)
    (hs : starEach [e] X.env = [(false, eval e X.env)] := by rfl) :
    PI X (.Tuple elts kk tpos) (.Call (.Name "enumerate" p) [e] [] pos) (iEnumA X.K ta) := by
  constructor
  intro pins s σ H R J h
  refine Call_ (ld_blt J hg hm boot_enumerate (PyProof.Rows.callWith_type1 (thn (ha.run pos pins s σ H _ J h) ?_) hs rfl))
  rintro us s1 ⟨vs, H1, J1, r1, a, xs, rfl, q⟩
  cases r1 with
  | cons r rr =>
    cases rr
    cases r
    have fp : ∀ b ∈ [s1.heap.objs.size + 1, s1.heap.objs.size], FpOk X pins H1 b := by
      intro b hb
      have le : s1.heap.objs.size ≤ b := by
        rcases List.mem_cons.mp hb with rfl | q
        · omega
        · obtain rfl := List.mem_singleton.mp q
          exact Nat.le_refl _
      exact J1.fpOk le (J1.hok.fresh le)
    rcases q with ⟨hq, q⟩ | ⟨hq, q⟩
    · obtain ⟨its, rv, pl, _⟩ := J1.list hq
      refine call_enumerate_list pl.isList ?_
      intro h' he it z k
      exact wpAny_pyIter_enum he ⟨_, _, _, _, H1, rfl, J1.kept (t' := s1.toks) k, turn_enum a (s1.heap.objs.size + 1) s1.heap.objs.size,
        ⟨⟨.none, he⟩, it, Nat.succ_ne_self _⟩, fp, q⟩
    · obtain ⟨its, rv, tu, _⟩ := J1.tuple hq
      refine call_enumT tu ?_
      intro h' he it k
      exact wpAny_pyIter_enum he ⟨_, _, _, _, H1, rfl, J1.kept (t' := s1.toks) k, turn_enumT a (s1.heap.objs.size + 1) s1.heap.objs.size,
        ⟨⟨.none, he⟩, it, Nat.succ_ne_self _⟩, fp, q⟩
end L2.Gd
end

section
set_option Elab.async false
set_option linter.all false
set_option maxRecDepth 100000
set_option maxHeartbeats 2000000
/-! [f(x) for x in xs if p(x)], xs a list or a tuple: what is made of each element -/
namespace L2.Gd
open PySem PySem.Spec PyProof.Rows
/-- all that stood, but for the list that is being made -/
def ButD (D : Addr) (H H' : Hp) : Prop := ∀ b o, b ≠ D → H b = some o → H' b = some o
theorem ButD.new {D : Addr} {H H' : Hp} (h : H D = none) (b : ButD D H H') : Same H H' := fun a o e => b a o (ne_of_none e h) e
theorem ButD.put {D : Addr} {H H' : Hp} {o : HO} (b : ButD D H H') : ButD D H (L2.upd H' D o) := fun a u ne e => by
  rw [upd_ne ne]
  exact b a u ne e
theorem ButD.more {D : Addr} {H H' H2 : Hp} (b : ButD D H H') (s : Same H' H2) : ButD D H H2 := fun a u ne e => s _ _ (b a u ne e)
theorem ButD.start {D : Addr} {H : Hp} {o : HO} : ButD D H (L2.upd H D o) := fun a u ne e => by
  rw [upd_ne ne]
  exact e
theorem filt_take {α β : Type} (f : α → Option β) {l : List α} {i : Nat} {x : α} (h : l[i]? = some x) : (l.take (i + 1)).filterMap f = (l.take i).filterMap f ++ (f x).toList := by
  rw [List.take_succ, h, List.filterMap_append]
  congr 1
theorem pair_at {α β : Type} {R : α → β → Prop} : ∀ {xs : List α} {ys : List β} {i : Nat} {x : α}, Paired R xs ys → xs[i]? = some x → ∃ y, ys[i]? = some y ∧ R x y
  | _, _, _, _, .nil, e => by simp at e
  | _, _, 0, _, .cons r _, e => by simp at e; subst e; exact ⟨_, rfl, r⟩
  | _, _, i + 1, x, .cons _ t, e => by
    obtain ⟨u, h1, h2⟩ := pair_at (i := i) (x := x) t (by simpa using e)
    exact ⟨u, by simpa using h1, h2⟩
section
variable {α β : Type} {K : PySem.W.Frag} {a : Addr} {xs : List V} {es : List α} {g : TG} {tt : TT} {te : TE} {vs : List Nat} {σ : L2.St} {H1 : Hp} {D : Addr} {Qd : Hp → Prop}
/-- what is promised of one turn -/
def StepOk (F : Hp → V → α → Prop) (G : Hp → V → β → Prop) (f : α → Option β) (g : TG) (tt : TT) (te : TE) (vs : List Nat) (σ : L2.St) (H1 : Hp) (D : Addr) (es : List α) : Prop :=
  ∀ (x : V) (e : α) (H : Hp) (A : V → Hp → Prop) (B : Hp → Prop), e ∈ es → F H1 x e → ButD D H1 H → (∃ zs, H D = some (.lst zs)) →
    (∀ b y H4, f e = some b → Same H H4 → G H4 y b → A y H4) → (∀ H3, f e = none → Same H H3 → B H3) →
    g x (wipe σ vs) H fun σ2 H2 => wipe σ2 vs = wipe σ vs ∧ tt σ2 H2 fun b H3 => if b = true then te σ2 H3 A else B H3
def Stab (G : Hp → V → β → Prop) (D : Addr) : Prop := ∀ (H H' : Hp) (y : V) (b : β), ButD D H H' → (∃ zs, H D = some (.lst zs)) → G H y b → G H' y b
def LcInv (G : Hp → V → β → Prop) (f : α → Option β) (H1 : Hp) (D : Addr) (es : List α) (i : Nat) (H : Hp) : Prop :=
  ∃ ys, H D = some (.lst ys) ∧ ys.length ≤ i ∧ Paired (G H) ys ((es.take i).filterMap f) ∧ ButD D H1 H
variable {F : Hp → V → α → Prop} {G : Hp → V → β → Prop} {f : α → Option β}
theorem lc_turn (st : Stab G D) (h1000 : xs.length ≤ 1000) (pa : Paired (F H1) xs es) (step : StepOk F G f g tt te vs σ H1 D es) {i : Nat} {x : V} {H : Hp} (hx : xs[i]? = some x) (h : LcInv G f H1 D es i H) :
    g x (wipe σ vs) H fun σ2 H2 => wipe σ2 vs = wipe σ vs ∧ tt σ2 H2 fun b H3 =>
      if b = true then te σ2 H3 fun y H4 => ∃ acc, H4 D = some (.lst acc) ∧ acc.length < sizeLine ∧ LcInv G f H1 D es (i + 1) (L2.upd H4 D (.lst (acc ++ [y]))) else LcInv G f H1 D es (i + 1) H3 := by
  obtain ⟨ys, h1, h2, h3, h4⟩ := h
  obtain ⟨e, he, hF⟩ := pair_at pa hx
  have hi : i < xs.length := (List.getElem?_eq_some_iff.mp hx).1
  refine step x e H _ _ (List.mem_of_getElem? he) hF h4 ⟨ys, h1⟩ (fun b y H4 hf s hg => ?_) (fun H3 hf s => ?_)
  · refine ⟨ys, s _ _ h1, by rw [sizeLine_eq]; omega, ys ++ [y], upd_same, by simp; omega, ?_, (h4.more s).put⟩
    rw [filt_take f he, hf]
    have bt : ButD D H4 (L2.upd H4 D (.lst (ys ++ [y]))) := ButD.start
    have hd : ∃ zs, H4 D = some (.lst zs) := ⟨ys, s _ _ h1⟩
    have o1 : Paired (G (L2.upd H4 D (.lst (ys ++ [y])))) ys ((es.take i).filterMap f) := Paired.mapP h3 fun u v q => st _ _ _ _ (show ButD D H _ from fun c o ne z => bt c o ne (s _ _ z)) ⟨ys, h1⟩ q
    exact PySem.Paired.snoc o1 (st _ _ _ _ bt hd hg)
  · refine ⟨ys, s _ _ h1, by omega, ?_, h4.more s⟩
    rw [filt_take f he, hf]
    simp only [Option.toList, List.append_nil]
    exact Paired.mapP h3 fun u v q => st _ _ _ _ (fun c o _ z => s _ _ z) ⟨ys, h1⟩ q
theorem lc_mapL (st : Stab G D) (hl : H1 a = some (.lst xs)) (hD : H1 D = none) (h1000 : xs.length ≤ 1000) (pa : Paired (F H1) xs es) (step : StepOk F G f g tt te vs σ H1 D es)
    (fin : ∀ ys H, H D = some (.lst ys) → Paired (G H) ys (es.filterMap f) → ButD D H1 H → Qd H) :
    ∃ W : Nat → Nat → Hp → Prop, (∃ m, W 0 m (L2.upd H1 D (.lst []))) ∧ ∀ i m H, W i m H →
      ((Itl K a).stop i H ∧ Qd H) ∨ ((Itl K a).go i H ∧ ∃ Nx : Hp → Prop, (∀ H', Nx H' → ∃ m', m' < m ∧ W (i + 1) m' H') ∧ ∀ x H', (Itl K a).yld i H x H' → g x (wipe σ vs) H' fun σ2 H2 => wipe σ2 vs = wipe σ vs ∧ tt σ2 H2 fun b H3 =>
        if b = true then te σ2 H3 fun y H4 => ∃ acc, H4 D = some (.lst acc) ∧ acc.length < sizeLine ∧ Nx (L2.upd H4 D (.lst (acc ++ [y]))) else Nx H3) := by
  refine lc_list (xs := xs) (LcInv G f H1 D es) ⟨[], upd_same, Nat.le_refl _, .nil, .start⟩ (fun i H _ ⟨ys, _, _, _, h4⟩ => .inl (.inl (h4.new hD _ _ hl))) (fun i x H hx h => lc_turn st h1000 pa step hx h) ?_
  rintro H ⟨ys, h1, _, h3, h4⟩
  rw [PySem.Paired.length pa, List.take_length] at h3
  exact fin ys H h1 h3 h4
theorem lc_mapT (st : Stab G D) (hl : H1 a = some (.tup xs)) (hD : H1 D = none) (h1000 : xs.length ≤ 1000) (pa : Paired (F H1) xs es) (step : StepOk F G f g tt te vs σ H1 D es)
    (fin : ∀ ys H, H D = some (.lst ys) → Paired (G H) ys (es.filterMap f) → ButD D H1 H → Qd H) :
    ∃ W : Nat → Nat → Hp → Prop, (∃ m, W 0 m (L2.upd H1 D (.lst []))) ∧ ∀ i m H, W i m H →
      ((Itt K a).stop i H ∧ Qd H) ∨ ((Itt K a).go i H ∧ ∃ Nx : Hp → Prop, (∀ H', Nx H' → ∃ m', m' < m ∧ W (i + 1) m' H') ∧ ∀ x H', (Itt K a).yld i H x H' → g x (wipe σ vs) H' fun σ2 H2 => wipe σ2 vs = wipe σ vs ∧ tt σ2 H2 fun b H3 =>
        if b = true then te σ2 H3 fun y H4 => ∃ acc, H4 D = some (.lst acc) ∧ acc.length < sizeLine ∧ Nx (L2.upd H4 D (.lst (acc ++ [y]))) else Nx H3) := by
  refine lc_tup (xs := xs) (LcInv G f H1 D es) ⟨[], upd_same, Nat.le_refl _, .nil, .start⟩ (fun i H _ ⟨ys, _, _, _, h4⟩ => .inl (.inl (h4.new hD _ _ hl))) (fun i x H hx h => lc_turn st h1000 pa step hx h) ?_
  rintro H ⟨ys, h1, _, h3, h4⟩
  rw [PySem.Paired.length pa, List.take_length] at h3
  exact fin ys H h1 h3 h4
end
end L2.Gd
end

section
set_option Elab.async false
set_option linter.all false
set_option maxRecDepth 100000
set_option maxHeartbeats 1000000
namespace L2.K14
open PySem PySem.Spec PyProof.Rows L2.Gd L2.Ln
/-! ### drawn -/
theorem rowsV_put {H : Hp} {l : Addr} {zs us : List V} {rs : List Rw} {o : HO} (h : RowsV H us rs) (hl : H l = some (.lst zs)) : RowsV (upd H l o) us rs := Paired.mapP h fun v r ⟨t, e, ht⟩ => ⟨t, e, by
  rw [upd_ne (fun z => by rw [z, hl] at ht; exact nomatch ht)]
  exact ht⟩
theorem rowsV_app {H : Hp} {us us' : List V} {rs rs' : List Rw} (h : RowsV H us rs) (h' : RowsV H us' rs') : RowsV H (us ++ us') (rs ++ rs') := by
  have app : ∀ {xs : List V} {ys : List Rw}, Paired (RowV H) xs ys → Paired (RowV H) (xs ++ us') (ys ++ rs') := by
    intro xs ys k
    induction k with
    | nil => exact h'
    | cons a _ ih => exact .cons a ih
  exact app h
theorem rowsV_last {H : Hp} {us : List V} {rs : List Rw} (h : RowsV H us rs) (n : 0 < us.length) : ∃ (us0 : List V) (u : V) (rs0 : List Rw) (r : Rw), us = us0 ++ [u] ∧ rs = rs0 ++ [r] ∧ RowsV H us0 rs0 ∧ RowV H u r := by
  induction h with
  | nil => exact absurd n (Nat.lt_irrefl 0)
  | cons a t ih =>
    rename_i x y xs ys
    cases t with
    | nil => exact ⟨[], x, [], y, rfl, rfl, .nil, a⟩
    | cons b t' =>
      obtain ⟨us0, u, rs0, r, e1, e2, k, m⟩ := ih (Nat.succ_pos _)
      exact ⟨x :: us0, u, y :: rs0, r, by rw [e1]; rfl, by rw [e2]; rfl, .cons a k, m⟩
theorem rowsV_at {H : Hp} {us : List V} {rs : List Rw} (h : RowsV H us rs) {i : Nat} {u : V} (e : us[i]? = some u) : ∃ r, rs[i]? = some r ∧ RowV H u r := by
  obtain ⟨r, e1, k⟩ := pair_at h e
  exact ⟨r, e1, k⟩
/-- a list of rows as a list -/
def spDr : Sp := fun vs H Q _ => ∃ (a : Addr) (us : List V) (rs : List Rw) (Z : Zn) (L : Nat), vs = [.ref a] ∧ H a = some (.lst us) ∧ RowsV H us rs ∧ Ln_ Z L rs ∧ Z.Ok L ∧ rs.length ≤ 100000 ∧
  ∀ (l : Addr) (us' : List V) (out : List Rw) (H' : Hp), H l = none → Same H H' → H' l = some (.lst us') → RowsV H' us' out → Ln_ Z L out → (∀ n, InL out n ↔ InL rs n) → out.length ≤ rs.length → Q (.ref l) H'
theorem scDr : FnScope ["rows", "out", "row", "now"] ["rows"] (defScope (top 48)) := ⟨rfl, rfl, rfl, by decide +kernel, rfl, by decide +kernel, by decide +kernel⟩
section
variable {P : Program} {w : World} {K : PySem.W.Frag} {mg : Str → Option Value} {base : Heap}
theorem ok_dr {f : Addr} {fd : FuncData} (F : Fun K "drawn" "drawn" (top 48) f fd) (n : Nm mg) (ME : Fn P w K mg base 6 "met" P2r spMe) : FnOk P w K mg base CX0 7 f fd ["rows"] spDr := by
  refine F.ok scDr (fun vs H Q E h => ?_) (fun cdv A outer s H vs Q E hr h => ?_)
  · obtain ⟨a, us, rs, Z, L, rfl, _⟩ := h
    rfl
  · obtain ⟨a, us, rs, Z, L, rfl, ha, rv, ln, kk, rl, q⟩ := h
    have nd := scDr.nd
    have sl := sizeLine_eq
    have lus := Paired.length rv
    refine ⟨_, pss_cons (ps_set (i := 1) nd rfl (.inl rfl) (pe_lst pa_nil))
      (pss_cons (ps_for PassesOwn.never rfl (pi_list (pv 0)) (pg_name (i := 2) nd rfl (.inl rfl))
        (pss_cons (ps_set (i := 3) nd rfl (.inl rfl) (pe_lst (pa_cons (pv 2) pa_nil)))
        (pss_cons (ps_while PassesOwn.never (pw_and (pt_cmpR op_gt (pe_callB call_len_seq (by rfl) n.len PySem.boot_len (pa_cons (pv 1) pa_nil)) pe_int (nomark _)) (pw_and1 (pt_cmpR op_eq (pe_callB call_len_seq (by rfl) n.len PySem.boot_len (pa_cons (pv 3) pa_nil)) pe_int (nomark _)))).pt
          (pss_one (ps_set (i := 3) nd rfl (.inl rfl) (pe_fn ME hr (pa_cons (pe_bm0 PySem.F.plainAttrs_list PySem.F.slot_list_pop PySem.F.type_list_pop mt_pop (pv 1)) (pa_cons (pe_ix ix_list (pv 3) pe_int (fun _ _ => rfl)) pa_nil))))))
        (pss_one (ps_expr (pe_bm PySem.F.plainAttrs_list PySem.F.slot_list_extend PySem.F.type_list_extend mt_extend (pv 1) (pa_cons (pv 3) pa_nil)))))))
      (pss_one (ps_ret (pv 1)))), ?_⟩
    refine seqV (Good := fun σ2 H2 => ∃ l, H l = none ∧ Same H H2 ∧ H2 l = some (.lst []) ∧ σ2 = [some (.ref a), some (.ref l), none, none]) (fun nx hnx => ⟨(by show 0 ≤ sizeLine; decide), fun l hl => hnx _ _ ⟨l, hl, same_upd hl, upd_same, rfl⟩⟩) ?_
    rintro _ H1 ⟨l, nl, s1, hl1, rfl⟩
    refine ⟨_, rfl, a, rfl, ⟨_, .inl (.inl (s1 _ _ ha))⟩, ?_⟩
    refine loop_of (n := us.length) (fun i σ H2 => ∃ (x2 x3 : Option V) (vs : List V) (os : List Rw), Same H H2 ∧ H2 l = some (.lst vs) ∧ RowsV H2 vs os ∧ Ln_ Z L (os ++ rs.drop i) ∧ (∀ n, InL (os ++ rs.drop i) n ↔ InL rs n) ∧ os.length ≤ i ∧ σ = [some (.ref a), some (.ref l), x2, x3])
      ⟨none, none, [], [], s1, hl1, .nil, ln, fun _ => Iff.rfl, Nat.le_refl _, rfl⟩ ?_ ?_
    · rintro σ H2 ⟨x2, x3, vs, os, s2, hl2, ov, lo, io, ol, rfl⟩
      refine ⟨⟨_, .inl (.inl (s2 _ _ ha)), Nat.le_refl _⟩, _, rfl, ?_⟩
      rw [lus, List.drop_length, List.append_nil] at lo
      refine q l vs os H2 nl s2 hl2 ov lo (fun n => ?_) (by omega)
      have := io n
      rw [lus, List.drop_length, List.append_nil] at this
      exact this
    · rintro i σ H2 hi ⟨x2, x3, vs, os, s2, hl2, ov, lo, io, ol, rfl⟩
      refine ⟨⟨_, _, .inl (.inl (s2 _ _ ha)), List.getElem?_eq_getElem hi⟩, ?_⟩
      rintro v H3 ⟨rfl, hy⟩
      have hvi := hy _ (.inl (.inl (s2 _ _ ha)))
      obtain ⟨r, er, rvr⟩ := rowsV_at rv hvi
      have ri : i < rs.length := by omega
      have dr : rs.drop i = r :: rs.drop (i + 1) := by
        rw [List.drop_eq_getElem_cons ri]
        rw [List.getElem?_eq_getElem ri] at er
        rw [Option.some.inj er]
      rw [dr] at lo io
      generalize rs.drop (i + 1) = rest at lo io ⊢
      refine gn ?_
      -- now
      refine seqV (Good := fun σ2 H4 => ∃ (nw : Addr) (ws : List V) (vs' : List V) (os' ns : List Rw), Same H H4 ∧ nw ≠ l ∧ H4 l = some (.lst vs') ∧ H4 nw = some (.lst ws) ∧ RowsV H4 vs' os' ∧ RowsV H4 ws ns ∧ Ln_ Z L (os' ++ ns ++ rest) ∧ (∀ n, InL (os' ++ ns ++ rest) n ↔ InL rs n) ∧ os'.length + ns.length ≤ i + 1 ∧ σ2 = [some (.ref a), some (.ref l), some v, some (.ref nw)]) ?_ ?_
      · intro nx hnx
        refine ⟨_, rfl, (by show 1 ≤ sizeLine; decide), fun nw hn => ?_⟩
        have s4 := same_upd (o := .lst [v]) hn
        refine hnx _ _ ⟨nw, [v], vs, os, [r], s2.trans s4, (ne_of_none hl2 hn).symm, s4 _ _ hl2, upd_same, RowsV.same s4 ov, .cons (RowV.same (s2.trans s4) rvr) .nil, ?_, fun n => ?_, by show os.length + 1 ≤ i + 1; omega, rfl⟩
        · rw [List.append_assoc]
          exact lo
        · rw [List.append_assoc]
          exact io n
      clear lo io ov ol hl2
      rintro _ H4 ⟨nw, ws, vs', os', ns, s4, nwl, hl4, hn4, ov4, nv4, lo4, io4, ol4, rfl⟩
      -- met
      refine seqV (Good := fun σ2 H5 => ∃ (nw : Addr) (ws : List V) (vs' : List V) (os' ns : List Rw), Same H H5 ∧ nw ≠ l ∧ H5 l = some (.lst vs') ∧ H5 nw = some (.lst ws) ∧ RowsV H5 vs' os' ∧ RowsV H5 ws ns ∧ Ln_ Z L (os' ++ ns ++ rest) ∧ (∀ n, InL (os' ++ ns ++ rest) n ↔ InL rs n) ∧ os'.length + ns.length ≤ i + 1 ∧ σ2 = [some (.ref a), some (.ref l), some v, some (.ref nw)]) ?_ ?_
      · intro nx hnx
        refine ⟨fun k σ H5 => ∃ (nw : Addr) (ws : List V) (vs' : List V) (os' ns : List Rw), k = os'.length ∧ Same H H5 ∧ nw ≠ l ∧ H5 l = some (.lst vs') ∧ H5 nw = some (.lst ws) ∧ RowsV H5 vs' os' ∧ RowsV H5 ws ns ∧ Ln_ Z L (os' ++ ns ++ rest) ∧ (∀ n, InL (os' ++ ns ++ rest) n ↔ InL rs n) ∧ os'.length + ns.length ≤ i + 1 ∧ σ = [some (.ref a), some (.ref l), some v, some (.ref nw)],
          ⟨_, nw, ws, vs', os', ns, rfl, s4, nwl, hl4, hn4, ov4, nv4, lo4, io4, ol4, rfl⟩, ?_⟩
        clear s4 nwl hl4 hn4 ov4 nv4 lo4 io4 ol4
        rintro k σ H5 ⟨nw, ws, vs', os', ns, rfl, s5, nwl, hl5, hn5, ov5, nv5, lo5, io5, ol5, rfl⟩
        have lv := Paired.length ov5
        have lw := Paired.length nv5
        refine ⟨_, rfl, l, vs', rfl, .inl (.inl (.inl hl5)), _, _, rfl, rfl, decide ((vs'.length : Int) > 0), rfl, ?_⟩
        by_cases c : 0 < vs'.length
        · rw [decide_eq_true (by omega)]
          refine iteT ⟨_, rfl, nw, ws, rfl, .inl (.inl (.inl hn5)), rfl, decide (ws.length = 1), congrArg V.bl (by simp only [V.int.injEq]; congr 1; rw [eq_iff_iff]; omega), ?_⟩
          by_cases d : ws.length = 1
          · rw [decide_eq_true d]
            obtain ⟨us0, u, rs0, one, e1, e2, k1, k2⟩ := rowsV_last ov5 c
            obtain ⟨w0, rfl⟩ : ∃ w0, ws = [w0] := List.length_eq_one_iff.mp d
            match ns, nv5 with
            | [two], .cons kt .nil =>
              subst e1 e2
              refine iteT ⟨fun σ6 H6 => ∃ (nw : Addr) (ws : List V) (vs' : List V) (os' ns : List Rw), os' = rs0 ∧ Same H H6 ∧ nw ≠ l ∧ H6 l = some (.lst vs') ∧ H6 nw = some (.lst ws) ∧ RowsV H6 vs' os' ∧ RowsV H6 ws ns ∧ Ln_ Z L (os' ++ ns ++ rest) ∧ (∀ n, InL (os' ++ ns ++ rest) n ↔ InL rs n) ∧ os'.length + ns.length ≤ i + 1 ∧ σ6 = [some (.ref a), some (.ref l), some v, some (.ref nw)],
                fun σ6 H6 ⟨nw, ws, vs', os', ns, e, r⟩ => ⟨rs0.length, by rw [List.length_append]; show rs0.length < rs0.length + 1; omega, nw, ws, vs', os', ns, by rw [e], r⟩, ?_⟩
              have lst : (us0 ++ [u])[(us0 ++ [u]).length - 1]? = some u := by
                rw [List.length_append]
                show (us0 ++ [u])[us0.length + 1 - 1]? = some u
                rw [Nat.add_sub_cancel, List.getElem?_append_right (Nat.le_refl _), Nat.sub_self]
                rfl
              refine ⟨_, rfl, .inl ⟨rfl, _, .inl (.inl hl5)⟩, l, _, u, rfl, rfl, hl5, lst, ?_⟩
              rw [List.dropLast_concat]
              have hn6 : (upd H5 l (.lst us0)) nw = some (.lst [w0]) := by rw [upd_ne nwl]; exact hn5
              have hl6 : (upd H5 l (.lst us0)) l = some (.lst us0) := upd_same
              have so6 : Same H (upd H5 l (.lst us0)) := same_at nl s5
              have lo6 : Ln_ Z L (rs0 ++ [one, two] ++ rest) := by
                have : rs0 ++ [one] ++ [two] ++ rest = rs0 ++ [one, two] ++ rest := by simp
                rw [← this]
                exact lo5
              have m1 : one ∈ rs0 ++ [one, two] ++ rest := by simp
              have m2 : two ∈ rs0 ++ [one, two] ++ rest := by simp
              have n1 := lo6.nt.nt one m1
              have n2 := lo6.nt.nt two m2
              have lm1 := lo6.lm one m1
              have lm2 := lo6.lm two m2
              have bf : Bef one two := by
                have so := lo6.nt.so
                rw [pw_app, pw_app] at so
                exact (List.pairwise_cons.mp so.1.2.1).1 two (by simp)
              have rp : RowV (upd H5 l (.lst us0)) u one := by
                obtain ⟨t, e, ht⟩ := k2
                exact ⟨t, e, by rw [upd_ne (fun z => by rw [z, hl5] at ht; exact nomatch ht)]; exact ht⟩
              have rp2 : RowV (upd H5 l (.lst us0)) w0 two := by
                obtain ⟨t, e, ht⟩ := kt
                exact ⟨t, e, by rw [upd_ne (fun z => by rw [z, hl5] at ht; exact nomatch ht)]; exact ht⟩
              refine ⟨_, rfl, nw, _, _, _, rfl, rfl, .inl (.inl hn6), rfl, u, w0, one, two, Z, L, rfl, ⟨rp, rp2, n1, n2, bf, by have := lm_p kk n1 lm1; omega, by have := lm_p kk n2 lm2; omega⟩, lm1, lm2, kk, fun l7 us7 out H7 n7 s7 hl7 rv7 wi => ?_⟩
              obtain ⟨ln7, in7⟩ := ln_within kk lo6 wi
              refine ⟨l7, us7, us0, rs0, out, rfl, so6.trans s7, (ne_of_none hl6 n7).symm, s7 _ _ hl6, hl7, RowsV.same s7 (rowsV_put k1 hl5), rv7, ln7, fun n => ?_, ?_, rfl⟩
              · rw [in7 n]
                have := io5 n
                rwa [show rs0 ++ [one] ++ [two] ++ rest = rs0 ++ [one, two] ++ rest by simp] at this
              · rw [List.length_append] at ol5
                have ol5 : rs0.length + 1 + 1 ≤ i + 1 := ol5
                rcases wi.len with e | e <;> omega
          · rw [decide_eq_false d]
            exact iteF (hnx _ _ ⟨nw, ws, vs', os', ns, s5, nwl, hl5, hn5, ov5, nv5, lo5, io5, ol5, rfl⟩)
        · rw [decide_eq_false (by omega)]
          exact iteF (hnx _ _ ⟨nw, ws, vs', os', ns, s5, nwl, hl5, hn5, ov5, nv5, lo5, io5, ol5, rfl⟩)
      clear s4 nwl hl4 hn4 ov4 nv4 lo4 io4 ol4
      rintro _ H5 ⟨nw, ws, vs', os', ns, s5, nwl, hl5, hn5, ov5, nv5, lo5, io5, ol5, rfl⟩
      have lv := Paired.length ov5
      have lw := Paired.length nv5
      refine ⟨_, rfl, .inl ⟨rfl, _, .inl (.inl hl5)⟩, _, rfl, l, nw, _, _, rfl, rfl, hl5, hn5, by rw [sl]; omega, ?_⟩
      exact ⟨_, _, vs' ++ ws, os' ++ ns, same_at nl s5, upd_same, rowsV_app (rowsV_put ov5 hl5) (rowsV_put nv5 hl5), lo5, io5, by rw [List.length_append]; exact ol5, rfl⟩
end
end L2.K14
end

section
set_option Elab.async false
set_option linter.all false
set_option maxRecDepth 100000
set_option maxHeartbeats 1000000
namespace L2.K14
open PySem PySem.Spec PyProof.Rows L2.Gd L2.Ln
/-! ### packed -/
def Unfit (rs : List Rw) : Prop := rs.Pairwise fun r s => ¬ Fit r s
section
variable {P : Program} {w : World} {K : PySem.W.Frag} {mg : Str → Option Value} {base : Heap}
def spFi : Sp := fun vs H Q _ => ∃ (v1 v2 : V) (one two : Rw), vs = [v1, v2] ∧ RowV H v1 one ∧ RowV H v2 two ∧ ∀ b : Bool, (b = true ↔ Fit one two) → Q (.bl b) H
theorem scFi : FnScope ["one", "two", "many"] P2r (defScope (top 49)) := ⟨rfl, rfl, rfl, by decide +kernel, rfl, by decide +kernel, by decide +kernel⟩
theorem ok_fi {f : Addr} {fd : FuncData} {tk : Tok} (F : Fun K "fit_together" "fit_together" (top 49) f fd) (pd : mg "PERIOD" = some (.int 2520 tk)) (LE : Fn P w K mg base 1 "length_of" ["low", "high"] spLen) : FnOk P w K mg base CX0 2 f fd P2r spFi := by
  refine F.ok scFi (fun vs H Q E h => ?_) (fun cdv A outer s H vs Q E hr h => ?_)
  · obtain ⟨v1, v2, one, two, rfl, _⟩ := h
    rfl
  · obtain ⟨v1, v2, one, two, rfl, ⟨t1, rfl, h1⟩, ⟨t2, rfl, h2⟩, q⟩ := h
    have nd := scFi.nd
    refine ⟨_, pss_cons (ps_set (i := 2) nd rfl (.inl rfl) (pe_fn LE hr (pa_cons (pe_ix ix_tup (pv 0) pe_int (fun _ _ => rfl)) (pa_cons (pe_ix ix_tup (pv 1) pe_int (fun _ _ => rfl)) pa_nil))))
      (pss_one (ps_ret (pe_and (pe_cmpR op_notN (pv 2) pe_non (nomark _)) (pe_one (pe_cmpR op_le (pv 2) (pe_glob (v := .int 2520) (by rfl) pd ⟨_, rfl⟩) (nomark _)))))), ?_⟩
    refine ⟨_, rfl, t1, _, _, _, rfl, rfl, .inl (.inl h1), rfl, _, rfl, t2, _, _, _, rfl, rfl, .inl (.inl h2), rfl, one.lo, two.hi, rfl, ?_⟩
    cases e1 : one.lo with
    | none => exact ⟨_, rfl, rfl, false, rfl, iteF (q false ⟨(fun z => nomatch z), fun ⟨l, h, a, _⟩ => by rw [e1] at a; exact nomatch a⟩)⟩
    | some l =>
      cases e2 : two.hi with
      | none => exact ⟨_, rfl, rfl, false, rfl, iteF (q false ⟨(fun z => nomatch z), fun ⟨l, h, _, a, _⟩ => by rw [e2] at a; exact nomatch a⟩)⟩
      | some h =>
        refine ⟨_, rfl, rfl, true, rfl, iteT ⟨_, rfl, _, _, rfl, rfl, q _ ?_⟩⟩
        rw [decide_eq_true_eq]
        constructor
        · intro z
          exact ⟨l, h, e1, e2, z⟩
        · rintro ⟨l', h', a, b, z⟩
          rw [e1] at a
          rw [e2] at b
          cases a
          cases b
          exact z
def spPk : Sp := fun vs H Q _ => ∃ (a : Addr) (us : List V) (rs : List Rw) (Z : Zn) (L : Nat), vs = [.ref a] ∧ H a = some (.lst us) ∧ RowsV H us rs ∧ Ln_ Z L rs ∧ Z.Ok L ∧ rs.length ≤ 100000 ∧
  ∀ (l : Addr) (us' : List V) (out : List Rw) (H' : Hp), H l = none → Same H H' → H' l = some (.lst us') → RowsV H' us' out → Ln_ Z L out → (∀ n, InL out n ↔ InL rs n) → out.length ≤ rs.length → Unfit out → Q (.ref l) H'
theorem scPk : FnScope ["rows", "out", "row", "now", "below", "bits"] ["rows"] (defScope (top 50)) := ⟨rfl, rfl, rfl, by decide +kernel, rfl, by decide +kernel, by decide +kernel⟩
theorem ok_pk {f : Addr} {fd : FuncData} (F : Fun K "packed" "packed" (top 50) f fd) (n : Nm mg) (FI : Fn P w K mg base 2 "fit_together" P2r spFi) (BO : Fn P w K mg base 4 "bits_of" ["row"] spBo) (RB : Fn P w K mg base 3 "row_of_bits" ["low", "many", "bits"] spRb) (TM : Fn P w K mg base 4 "trimmed" ["row"] spTm) : FnOk P w K mg base CX0 5 f fd ["rows"] spPk := by
  refine F.ok scPk (fun vs H Q E h => ?_) (fun cdv A outer s H vs Q E hr h => ?_)
  · obtain ⟨a, us, rs, Z, L, rfl, _⟩ := h
    rfl
  · obtain ⟨a, us, rs, Z, L, rfl, ha, rv, ln, kz, rl, q⟩ := h
    have nd := scPk.nd
    have sl := sizeLine_eq
    have lus := Paired.length rv
    have r2 := hr.mono (k := 4) (j := 2) (by decide)
    have r3 := hr.mono (k := 4) (j := 3) (by decide)
    refine ⟨_, pss_cons (ps_set (i := 1) nd rfl (.inl rfl) (pe_lst pa_nil))
      (pss_cons (ps_for PassesOwn.never rfl (pi_list (pv 0)) (pg_name (i := 2) nd rfl (.inl rfl))
        (pss_cons (ps_set (i := 3) nd rfl (.inl rfl) (pv 2))
        (pss_cons (ps_while PassesOwn.never (pw_and (pt_cmpR op_gt (pe_callB call_len_seq (by rfl) n.len PySem.boot_len (pa_cons (pv 1) pa_nil)) pe_int (nomark _)) (pw_and1 (pt_val (pe_fn FI r2 (pa_cons (pe_ix ix_list (pv 1) (pe_un un_neg pe_int) (fun _ _ => rfl)) (pa_cons (pv 3) pa_nil)))))).pt
          (pss_cons (ps_set (i := 4) nd rfl (.inl rfl) (pe_bm0 PySem.F.plainAttrs_list PySem.F.slot_list_pop PySem.F.type_list_pop mt_pop (pv 1)))
          (pss_cons (ps_set (i := 5) nd rfl (.inl rfl) (pe_op op_or (pe_fn BO hr (pa_cons (pv 4) pa_nil)) (pe_op op_shlW (pe_fn BO hr (pa_cons (pv 3) pa_nil)) (pe_op op_sub (pe_ix ix_tup (pv 3) pe_int (fun _ _ => rfl)) (pe_ix ix_tup (pv 4) pe_int (fun _ _ => rfl))))))
          (pss_one (ps_set (i := 3) nd rfl (.inl rfl) (pe_ix ix_list (pe_fn TM hr (pa_cons (pe_fn RB r3 (pa_cons (pe_ix ix_tup (pv 4) pe_int (fun _ _ => rfl)) (pa_cons (pe_op op_add (pe_op op_sub (pe_ix ix_tup (pv 3) pe_int (fun _ _ => rfl)) (pe_ix ix_tup (pv 4) pe_int (fun _ _ => rfl))) pe_int) (pa_cons (pv 5) pa_nil)))) pa_nil)) pe_int (fun _ _ => rfl)))))))
        (pss_one (ps_expr (pe_bm PySem.F.plainAttrs_list PySem.F.slot_list_append PySem.F.type_list_append mt_append (pv 1) (pa_cons (pv 3) pa_nil)))))))
      (pss_one (ps_ret (pv 1)))), ?_⟩
    refine seqV (Good := fun σ2 H2 => ∃ l, H l = none ∧ Same H H2 ∧ H2 l = some (.lst []) ∧ σ2 = [some (.ref a), some (.ref l), none, none, none, none]) (fun nx hnx => ⟨(by show 0 ≤ sizeLine; decide), fun l hl => hnx _ _ ⟨l, hl, same_upd hl, upd_same, rfl⟩⟩) ?_
    rintro _ H1 ⟨l, nl, s1, hl1, rfl⟩
    refine ⟨_, rfl, a, rfl, ⟨_, .inl (.inl (s1 _ _ ha))⟩, ?_⟩
    refine loop_of (n := us.length) (fun i σ H2 => ∃ (x2 x3 x4 x5 : Option V) (vs : List V) (os : List Rw), Same H H2 ∧ H2 l = some (.lst vs) ∧ RowsV H2 vs os ∧ Ln_ Z L (os ++ rs.drop i) ∧ (∀ n, InL (os ++ rs.drop i) n ↔ InL rs n) ∧ os.length ≤ i ∧ Unfit os ∧ σ = [some (.ref a), some (.ref l), x2, x3, x4, x5])
      ⟨none, none, none, none, [], [], s1, hl1, .nil, ln, fun _ => Iff.rfl, Nat.le_refl _, .nil, rfl⟩ ?_ ?_
    · rintro σ H2 ⟨x2, x3, x4, x5, vs, os, s2, hl2, ov, lo, io, ol, uf, rfl⟩
      refine ⟨⟨_, .inl (.inl (s2 _ _ ha)), Nat.le_refl _⟩, _, rfl, ?_⟩
      rw [lus, List.drop_length, List.append_nil] at lo
      refine q l vs os H2 nl s2 hl2 ov lo (fun n => ?_) (by omega) uf
      have := io n
      rw [lus, List.drop_length, List.append_nil] at this
      exact this
    · rintro i σ H2 hi ⟨x2, x3, x4, x5, vs, os, s2, hl2, ov, lo, io, ol, uf, rfl⟩
      refine ⟨⟨_, _, .inl (.inl (s2 _ _ ha)), List.getElem?_eq_getElem hi⟩, ?_⟩
      rintro v H3 ⟨rfl, hy⟩
      have hvi := hy _ (.inl (.inl (s2 _ _ ha)))
      obtain ⟨r, er, rvr⟩ := rowsV_at rv hvi
      have ri : i < rs.length := by omega
      have dr : rs.drop i = r :: rs.drop (i + 1) := by
        rw [List.drop_eq_getElem_cons ri]
        rw [List.getElem?_eq_getElem ri] at er
        rw [Option.some.inj er]
      rw [dr] at lo io
      generalize rs.drop (i + 1) = rest at lo io ⊢
      refine gn ?_
      refine seqV (Good := fun σ2 H4 => H3 = H4 ∧ σ2 = [some (.ref a), some (.ref l), some v, some v, x4, x5]) (fun nx hnx => ⟨_, rfl, hnx _ _ ⟨rfl, rfl⟩⟩) ?_
      rintro _ _ ⟨rfl, rfl⟩
      -- packed with what is below
      refine seqV (Good := fun σ2 H5 => ∃ (x4 x5 : Option V) (u : V) (vs' : List V) (os' : List Rw) (nw : Rw), Same H H5 ∧ H5 l = some (.lst vs') ∧ RowsV H5 vs' os' ∧ RowV H5 u nw ∧ Ln_ Z L (os' ++ [nw] ++ rest) ∧ (∀ n, InL (os' ++ [nw] ++ rest) n ↔ InL rs n) ∧ os'.length ≤ i ∧ Unfit (os' ++ [nw]) ∧ σ2 = [some (.ref a), some (.ref l), some v, some u, x4, x5]) ?_ ?_
      · intro nx hnx
        refine ⟨fun k σ H5 => ∃ (x4 x5 : Option V) (u : V) (vs' : List V) (os' : List Rw) (nw : Rw), k = os'.length ∧ Same H H5 ∧ H5 l = some (.lst vs') ∧ RowsV H5 vs' os' ∧ RowV H5 u nw ∧ Ln_ Z L (os' ++ [nw] ++ rest) ∧ (∀ n, InL (os' ++ [nw] ++ rest) n ↔ InL rs n) ∧ os'.length ≤ i ∧ Unfit os' ∧ σ = [some (.ref a), some (.ref l), some v, some u, x4, x5],
          ⟨_, x4, x5, v, vs, os, r, rfl, s2, hl2, ov, rvr.same s2, by rw [List.append_assoc]; exact lo, fun n => by rw [List.append_assoc]; exact io n, ol, uf, rfl⟩, ?_⟩
        clear lo io ov ol hl2 uf rvr
        rintro k σ H5 ⟨x4, x5, u, vs', os', nw, rfl, s5, hl5, ov5, ru5, lo5, io5, ol5, uf5, rfl⟩
        have lv := Paired.length ov5
        refine ⟨_, rfl, l, vs', rfl, .inl (.inl (.inl hl5)), _, _, rfl, rfl, decide ((vs'.length : Int) > 0), rfl, ?_⟩
        by_cases c : 0 < vs'.length
        · rw [decide_eq_true (by omega)]
          obtain ⟨us0, u0, rs0, one, e1, e2, k1, k2⟩ := rowsV_last ov5 c
          subst e1 e2
          have lo6 : Ln_ Z L (rs0 ++ [one, nw] ++ rest) := by
            have : rs0 ++ [one] ++ [nw] ++ rest = rs0 ++ [one, nw] ++ rest := by simp
            rw [← this]
            exact lo5
          refine iteT ⟨_, rfl, _, rfl, l, _, _, _, rfl, rfl, .inl (.inl hl5), atI_last _ _, _, rfl, u0, u, one, nw, rfl, k2, ru5, fun b hb => ⟨b, rfl, ?_⟩⟩
          have m1 : one ∈ rs0 ++ [one, nw] ++ rest := by simp
          have m2 : nw ∈ rs0 ++ [one, nw] ++ rest := by simp
          have n1 := lo6.nt.nt one m1
          have n2 := lo6.nt.nt nw m2
          have lm1 := lo6.lm one m1
          have lm2 := lo6.lm nw m2
          have p1 := lm_p kz n1 lm1
          have p2 := lm_p kz n2 lm2
          have bf : Bef one nw := by
            have so := lo6.nt.so
            rw [pw_app, pw_app] at so
            exact (List.pairwise_cons.mp so.1.2.1).1 nw (by simp)
          cases b with
          | false =>
            refine iteF (hnx _ _ ⟨x4, x5, u, us0 ++ [u0], rs0 ++ [one], nw, s5, hl5, ov5, ru5, lo5, io5, ol5, ?_, rfl⟩)
            have so := lo5.nt.so
            rw [pw_app] at so
            exact unfit_snoc so.1 (fun r hr => lo5.nt.nt r (List.mem_append.mpr (.inl hr))) uf5 (fun z => nomatch hb.mpr z)
          | true =>
            obtain ⟨l0, hh1, el0, eh1, le⟩ := hb.mp rfl
            obtain ⟨h0, l1, eh0, el1, lt⟩ := bf
            have le0 := n1.ok.le l0 h0 el0 eh0
            have le1 := n2.ok.le l1 hh1 el1 eh1
            refine iteT ⟨fun σ6 H6 => ∃ (x4 x5 : Option V) (u : V) (vs' : List V) (os' : List Rw) (nw : Rw), os' = rs0 ∧ Same H H6 ∧ H6 l = some (.lst vs') ∧ RowsV H6 vs' os' ∧ RowV H6 u nw ∧ Ln_ Z L (os' ++ [nw] ++ rest) ∧ (∀ n, InL (os' ++ [nw] ++ rest) n ↔ InL rs n) ∧ os'.length ≤ i ∧ Unfit os' ∧ σ6 = [some (.ref a), some (.ref l), some v, some u, x4, x5],
              fun σ6 H6 ⟨x4, x5, u, vs', os', nw, e, r⟩ => ⟨rs0.length, by rw [List.length_append]; show rs0.length < rs0.length + 1; omega, x4, x5, u, vs', os', nw, by rw [e], r⟩, ?_⟩
            have lst : (us0 ++ [u0])[(us0 ++ [u0]).length - 1]? = some u0 := by
              rw [List.length_append]
              show (us0 ++ [u0])[us0.length + 1 - 1]? = some u0
              rw [Nat.add_sub_cancel, List.getElem?_append_right (Nat.le_refl _), Nat.sub_self]
              rfl
            refine seqV (Good := fun σ2 H6 => H6 = upd H5 l (.lst us0) ∧ σ2 = [some (.ref a), some (.ref l), some v, some u, some u0, x5]) ?_ ?_
            · intro nx2 hnx2
              refine ⟨_, rfl, .inl ⟨rfl, _, .inl (.inl hl5)⟩, l, _, u0, rfl, rfl, hl5, lst, ?_⟩
              rw [List.dropLast_concat]
              exact hnx2 _ _ ⟨rfl, rfl⟩
            rintro _ H6 ⟨eH6, rfl⟩
            have hl6 : H6 l = some (.lst us0) := by rw [eH6]; exact upd_same
            have so6 : Same H H6 := by rw [eH6]; exact same_at nl s5
            have k16 : RowsV H6 us0 rs0 := by rw [eH6]; exact rowsV_put k1 hl5
            have k26 : RowV H6 u0 one := by
              obtain ⟨t, e, ht⟩ := k2
              exact ⟨t, e, by rw [eH6, upd_ne (fun z => by rw [z, hl5] at ht; exact nomatch ht)]; exact ht⟩
            have ru6 : RowV H6 u nw := by
              obtain ⟨t, e, ht⟩ := ru5
              exact ⟨t, e, by rw [eH6, upd_ne (fun z => by rw [z, hl5] at ht; exact nomatch ht)]; exact ht⟩
            clear eH6
            obtain ⟨m0, em0⟩ : ∃ m0 : Nat, (m0 : Int) = h0 - l0 + 1 := ⟨(h0 - l0 + 1).toNat, by omega⟩
            obtain ⟨m1', em1⟩ : ∃ m1' : Nat, (m1' : Int) = hh1 - l1 + 1 := ⟨(hh1 - l1 + 1).toNat, by omega⟩
            obtain ⟨m, em⟩ : ∃ m : Nat, (m : Int) = hh1 - l0 + 1 := ⟨(hh1 - l0 + 1).toNat, by omega⟩
            obtain ⟨kk, ek⟩ : ∃ kk : Nat, (kk : Int) = l1 - l0 := ⟨(l1 - l0).toNat, by omega⟩
            obtain ⟨t1, rfl, ht1⟩ := id k26
            obtain ⟨tn, rfl, htn⟩ := id ru6
            have a1 : (Rvs nw)[0]? = some (V.int l1) := by show some (oI nw.lo) = _; rw [el1]; rfl
            have a2 : (Rvs one)[0]? = some (V.int l0) := by show some (oI one.lo) = _; rw [el0]; rfl
            have a3 : (Rvs nw)[1]? = some (V.int hh1) := by show some (oI nw.hi) = _; rw [eh1]; rfl
            refine seqV (Good := fun σ2 H7 => ∃ w0 w1 : Nat, WinAt one.p one.b l0 m0 w0 ∧ WinAt nw.p nw.b l1 m1' w1 ∧ H6 = H7 ∧ σ2 = [some (.ref a), some (.ref l), some v, some (.ref tn), some (.ref t1), some (.int ((w0 ||| (w1 <<< kk) : Nat) : Int))]) ?_ ?_
            · intro nx2 hnx2
              refine ⟨_, rfl, _, one, l0, h0, m0, rfl, k26, el0, eh0, em0, by omega, n1.ok.p0, by omega, n1.ok.bl, fun w0 W0 => ?_⟩
              refine ⟨_, rfl, _, nw, l1, hh1, m1', rfl, ru6, el1, eh1, em1, by omega, n2.ok.p0, by omega, n2.ok.bl, fun w1 W1 => ?_⟩
              have fin := hnx2 _ _ ⟨w0, w1, W0, W1, rfl, rfl⟩
              rw [← or_nat, ← shl_nat, ek] at fin
              refine ⟨_, rfl, tn, _, _, _, rfl, rfl, .inl (.inl htn), a1, _, rfl, t1, _, _, _, rfl, rfl, .inl (.inl ht1), a2, _, _, rfl, rfl, _, _, rfl, rfl, ?_, _, _, rfl, rfl, fin⟩
              rw [← ek]
              exact cshl W1.l (by omega)
            rintro _ _ ⟨w0, w1, W0, W1, rfl, rfl⟩
            obtain ⟨bl, hin⟩ := pack_bits el0 eh0 el1 eh1 lt le0 le1 em em0 em1 ek W0 W1
            have ev : [V.int l0, V.int (hh1 - l0 + 1), V.int ((w0 ||| (w1 <<< kk) : Nat) : Int)] = [V.int l0, V.int m, V.int ((w0 ||| (w1 <<< kk) : Nat) : Int)] := by rw [em]
            refine ⟨_, rfl, t1, _, _, _, rfl, rfl, .inl (.inl ht1), a2, _, rfl, tn, _, _, _, rfl, rfl, .inl (.inl htn), a3, _, rfl, t1, _, _, _, rfl, rfl, .inl (.inl ht1), a2, _, _, rfl, rfl, _, _, rfl, rfl, _, rfl, l0, m, _, ev, by omega, by omega, bl, fun v7 H7 s7 rv7 => ?_⟩
            refine ⟨v7, _, rfl, rv7, ⟨by show 0 < m; omega, turn_lt _ _ _, fun x y e1 e2 => by cases e1; cases e2; omega⟩, by show m ≤ 100000; omega, fun l8 us8 o H8 n8 s8 hl8 rv8 tr => ?_⟩
            obtain ⟨sx, rfl, wi⟩ := pack_within n1 n2 ⟨h0, l1, eh0, el1, lt⟩ el0 eh1 le (u := ⟨some l0, some (l0 + m - 1), m, turnN (w0 ||| (w1 <<< kk)) m l0⟩) rfl (by show some (l0 + m - 1) = some hh1; congr 1; omega) hin tr
            obtain ⟨ln7, in7⟩ := ln_within kz lo6 wi
            match us8, rv8 with
            | [x8], .cons k8 .nil =>
              have s78 := s7.trans s8
              refine ⟨l8, _, _, x8, rfl, rfl, .inl (.inl hl8), rfl, ?_⟩
              refine ⟨_, _, x8, us0, rs0, sx, rfl, so6.trans s78, s78 _ _ hl6, RowsV.same s78 k16, k8, ln7, fun n => ?_, ?_, ?_, rfl⟩
              · rw [in7 n]
                have := io5 n
                rwa [show rs0 ++ [one] ++ [nw] ++ rest = rs0 ++ [one, nw] ++ rest by simp] at this
              · rw [List.length_append] at ol5
                have ol5 : rs0.length + 1 ≤ i := ol5
                omega
              · have uf5 : (rs0 ++ [one]).Pairwise fun r s => ¬ Fit r s := uf5
                rw [pw_app] at uf5
                exact uf5.1
        · rw [decide_eq_false (by omega)]
          have os0 : os' = [] := List.eq_nil_of_length_eq_zero (by omega)
          subst os0
          exact iteF (hnx _ _ ⟨x4, x5, u, vs', [], nw, s5, hl5, ov5, ru5, lo5, io5, ol5, List.pairwise_singleton _ _, rfl⟩)
      clear lo io ov ol hl2 uf rvr
      rintro _ H5 ⟨x4, x5, u, vs', os', nw, s5, hl5, ov5, ru5, lo5, io5, ol5, uf5, rfl⟩
      have lv := Paired.length ov5
      refine ⟨_, rfl, .inl ⟨rfl, _, .inl (.inl hl5)⟩, _, rfl, l, _, _, rfl, rfl, hl5, by rw [sl]; omega, ?_⟩
      refine ⟨_, _, _, _, vs' ++ [u], os' ++ [nw], same_at nl s5, upd_same, ?_, lo5, io5, by rw [List.length_append]; show os'.length + 1 ≤ i + 1; omega, uf5, rfl⟩
      refine rowsV_app (rowsV_put ov5 hl5) (.cons ?_ .nil)
      obtain ⟨t, e, ht⟩ := ru5
      exact ⟨t, e, by rw [upd_ne (fun z => by rw [z, hl5] at ht; exact nomatch ht)]; exact ht⟩
end
end L2.K14
end

section
set_option Elab.async false
set_option linter.all false
set_option maxRecDepth 100000
set_option maxHeartbeats 1000000
namespace L2.K14
open PySem PySem.Spec PyProof.Rows L2.Gd L2.Ln
/-! ### tidy -/
/-- a few neat rows -/
structure NtS (Z : Zn) (L : Nat) (rs : List Rw) : Prop where
  ln : Ln_ Z L rs
  few : rs.length ≤ 2 * Z.cs.length + 1
/-- a list of rows as a list in the heap -/
def RowsAt (H : Hp) (a : Addr) (rs : List Rw) : Prop := ∃ us, H a = some (.lst us) ∧ RowsV H us rs
theorem RowsAt.same {H H' : Hp} {a : Addr} {rs : List Rw} (s : Same H H') (h : RowsAt H a rs) : RowsAt H' a rs := let ⟨us, e, q⟩ := h; ⟨us, s _ _ e, RowsV.same s q⟩
def spTd : Sp := fun vs H Q _ => ∃ (a : Addr) (js : List Rw) (Z : Zn) (L : Nat), vs = [.ref a] ∧ RowsAt H a js ∧ (∀ r ∈ js, r.Ok) ∧ js.Pairwise Bef ∧ (∀ r ∈ js, Lm Z L r) ∧ (∀ r ∈ js, r.p ≤ 100000) ∧ (Z.up L).Ok L ∧ js.length ≤ 1000 ∧
  ∀ (l : Addr) (out : List Rw) (H' : Hp), H l = none → Same H H' → RowsAt H' l out → NtS (Z.up L) L out → (∀ n, InL out n ↔ InL js n) → Q (.ref l) H'
theorem scTd : FnScope ["rows", "neat", "row"] ["rows"] (defScope (top 51)) := ⟨rfl, rfl, rfl, by decide +kernel, rfl, by decide +kernel, by decide +kernel⟩
section
variable {P : Program} {w : World} {K : PySem.W.Frag} {mg : Str → Option Value} {base : Heap}
theorem ok_td {f : Addr} {fd : FuncData} (F : Fun K "tidy" "tidy" (top 51) f fd) (TM : Fn P w K mg base 4 "trimmed" ["row"] spTm) (DR : Fn P w K mg base 7 "drawn" ["rows"] spDr) (PK : Fn P w K mg base 5 "packed" ["rows"] spPk) : FnOk P w K mg base CX0 8 f fd ["rows"] spTd := by
  refine F.ok scTd (fun vs H Q E h => ?_) (fun cdv A outer s H vs Q E hr h => ?_)
  · obtain ⟨a, js, Z, L, rfl, _⟩ := h
    rfl
  · obtain ⟨a, js, Z, L, rfl, ⟨us, ha, rv⟩, okl, so, lm, pl, kk, jl, q⟩ := h
    have nd := scTd.nd
    have sl := sizeLine_eq
    have lus := Paired.length rv
    have r4 := hr.mono (k := 7) (j := 4) (by decide)
    have r5 := hr.mono (k := 7) (j := 5) (by decide)
    refine ⟨_, pss_cons (ps_set (i := 1) nd rfl (.inl rfl) (pe_lst pa_nil))
      (pss_cons (ps_for PassesOwn.never rfl (pi_list (pv 0)) (pg_name (i := 2) nd rfl (.inl rfl))
        (pss_one (ps_expr (pe_bm PySem.F.plainAttrs_list PySem.F.slot_list_extend PySem.F.type_list_extend mt_extend (pv 1) (pa_cons (pe_fn TM r4 (pa_cons (pv 2) pa_nil)) pa_nil)))))
      (pss_one (ps_ret (pe_fn PK r5 (pa_cons (pe_fn DR hr (pa_cons (pv 1) pa_nil)) pa_nil))))), ?_⟩
    refine seqV (Good := fun σ2 H2 => ∃ l, H l = none ∧ Same H H2 ∧ H2 l = some (.lst []) ∧ σ2 = [some (.ref a), some (.ref l), none]) (fun nx hnx => ⟨(by show 0 ≤ sizeLine; decide), fun l hl => hnx _ _ ⟨l, hl, same_upd hl, upd_same, rfl⟩⟩) ?_
    rintro _ H1 ⟨l, nl, s1, hl1, rfl⟩
    refine ⟨_, rfl, a, rfl, ⟨_, .inl (.inl (s1 _ _ ha))⟩, ?_⟩
    refine loop_of (n := us.length) (fun i σ H2 => ∃ (x2 : Option V) (vs : List V) (os : List Rw), Same H H2 ∧ H2 l = some (.lst vs) ∧ RowsV H2 vs os ∧ Pre Z L (js.take i) os ∧ os.length ≤ i ∧ σ = [some (.ref a), some (.ref l), x2])
      ⟨none, [], [], s1, hl1, .nil, pre_nil Z L, Nat.le_refl _, rfl⟩ ?_ ?_
    · rintro σ H2 ⟨x2, vs, os, s2, hl2, ov, pr, ol, rfl⟩
      refine ⟨⟨_, .inl (.inl (s2 _ _ ha)), Nat.le_refl _⟩, ?_⟩
      rw [lus, List.take_length] at pr
      have ln : Ln_ (Z.up L) L os := ⟨pr.nt, pr.lm⟩
      refine ⟨_, rfl, l, vs, os, Z.up L, L, rfl, hl2, ov, ln, kk, by omega, fun l3 us3 out3 H3 n3 s3 hl3 rv3 ln3 in3 le3 => ?_⟩
      refine ⟨l3, us3, out3, Z.up L, L, rfl, hl3, rv3, ln3, kk, by omega, fun l4 us4 out4 H4 n4 s4 hl4 rv4 ln4 in4 le4 uf4 => ?_⟩
      exact q l4 out4 H4 (Same.free (s2.trans s3) n4) (s2.trans (s3.trans s4)) ⟨us4, hl4, rv4⟩ ⟨ln4, few_rows kk ln4 uf4⟩ fun n => by rw [in4 n, in3 n, pr.i n]
    · rintro i σ H2 hi ⟨x2, vs, os, s2, hl2, ov, pr, ol, rfl⟩
      refine ⟨⟨_, _, .inl (.inl (s2 _ _ ha)), List.getElem?_eq_getElem hi⟩, ?_⟩
      rintro v H3 ⟨rfl, hy⟩
      have hvi := hy _ (.inl (.inl (s2 _ _ ha)))
      obtain ⟨r, er, rvr⟩ := rowsV_at rv hvi
      have rm : r ∈ js := List.mem_of_getElem? er
      have ri : i < js.length := by omega
      have tk : js.take (i + 1) = js.take i ++ [r] := by rw [List.take_succ, er]; rfl
      have bf : ∀ x ∈ js.take i, Bef x r := fun x hx => by
        have e : js = js.take i ++ (r :: js.drop (i + 1)) := by
          have d : js.drop i = r :: js.drop (i + 1) := by
            rw [List.drop_eq_getElem_cons ri]
            rw [List.getElem?_eq_getElem ri] at er
            rw [Option.some.inj er]
          rw [← d, List.take_append_drop]
        rw [e, pw_app] at so
        exact so.2.2 x hx r (by simp)
      rw [tk]
      refine gn ?_
      refine ⟨_, rfl, .inl ⟨rfl, _, .inl (.inl hl2)⟩, _, rfl, v, r, rfl, rvr.same s2, okl r rm, pl r rm, fun l4 us4 o H4 n4 s4 hl4 rv4 tr => ?_⟩
      have hl4' := s4 _ _ hl2
      have lv := Paired.length ov
      have l4l := Paired.length rv4
      have o1 : o.toList.length ≤ 1 := by
        cases o with
        | none => exact Nat.zero_le _
        | some s => exact Nat.le_refl 1
      refine ⟨l, l4, _, _, rfl, rfl, hl4', hl4, by rw [sl]; omega, ?_⟩
      have so4 : Same H H4 := s2.trans s4
      refine ⟨_, vs ++ us4, os ++ o.toList, same_at nl so4, upd_same, rowsV_app (rowsV_put (RowsV.same s4 ov) hl4') (rowsV_put rv4 hl4'), trim_snoc kk pr bf (lm r rm) tr, by rw [List.length_append]; omega, rfl⟩
end
end L2.K14
end

section
set_option Elab.async false
set_option linter.all false
set_option maxRecDepth 100000
set_option maxHeartbeats 4000000
/-! set(l), l a list of ints -/
namespace L2.Gd
open PySem PySem.Spec PyProof.Rows
/-- a set just made -/
abbrev eS (w : World) : Obj := { cls := .type "set", data := .set #[] 0 (.fresh 0 0 (!w.params.followText "set-order")) }
abbrev hS0 (w : World) (h : Heap) : Heap := h.push (eS w)
section
variable {w : World} {P : Program} {s : Shared} {A : Around} {E : Value → Shared → Prop}
/-- what set.__init__ leaves -/
def Filled (w : World) (s : Shared) (ns : List Int) (z : Shared) : Prop := ∃ h2 tk c, z = { s with heap := h2, toks := tk } ∧
  SetR w h2 s.heap.objs.size (fun j => decide (j ∈ ns)) c ∧ c ≤ ns.length ∧ ∀ b o, s.heap.get? b = some o → h2.get? b = some o
theorem set_fill {l : Addr} {items : Array Value} {ns : List Int} {R : Value → Shared → Prop} {X : Value → Shared → Prop} {A : Around} (hh : A.handled = none) (hl : s.heap.IsList l items) (hit : IntsAre items.toList ns) (hb : ns.length + 1 < scanBound)
    (k : ∀ z, Filled w s ns z → R .none z) (I : Addr) (eI : I = (hS0 w s.heap).objs.size) :
    codeAny (model P w) A (.builtin "set.update.loop" ⟨[.ref s.heap.objs.size, .ref I], []⟩) (wants R X) { s with heap := (hS0 w s.heap).push { cls := .type "list_iterator", data := .fields #[.ref l, .int 0 0] } } := by
  subst eI
  have sz : items.size = ns.length := by
    rw [← Array.length_toList]
    exact IntsAre.length hit
  obtain ⟨ol, hol, hcl, nl, hdl⟩ := id hl
  have lS : l < s.heap.objs.size := Heap.lt_size hol
  have z1 : (hS0 w s.heap).objs.size = s.heap.objs.size + 1 := Heap.size_push ..
  have nI : l ≠ (hS0 w s.heap).objs.size := Nat.ne_of_lt (by rw [z1]; exact Nat.lt_succ_of_lt lS)
  have oS : (hS0 w s.heap).get? s.heap.objs.size = some (eS w) := Heap.get?_push_size _ rfl
  have nf : s.heap.objs.size ∉ [(hS0 w s.heap).objs.size, l] := by
    intro q
    rcases List.mem_cons.mp q with q | q
    · exact Nat.ne_of_lt (Nat.lt_succ_self _) (q.trans z1)
    · exact Nat.ne_of_gt lS (List.mem_singleton.mp q)
  have vals : ∀ (i : Nat) (v : Value), items[i]? = some v → ∃ k t, ns[i]? = some k ∧ v = .int k t := by
    intro i v hv
    have hi : i < ns.length := by rw [← sz]; exact (Array.getElem?_eq_some_iff.mp hv).1
    obtain ⟨t, e⟩ := IntsAre.int_at hit i v (by rw [Array.getElem?_toList]; exact hv)
    rw [List.getD_eq_getElem?_getD, List.getElem?_eq_getElem hi] at e
    exact ⟨ns[i], t, List.getElem?_eq_getElem hi, e⟩
  have W := (Walks.list (prog := P) (w := w) (A := A.in1) hh (hS0 w s.heap).objs.size l nI items).toS
  have hl2 : (hS0 w s.heap).IsList l items := ⟨ol, Heap.get?_push_of_some _ hol, hcl, nl, hdl⟩
  refine set_update_ints W s.heap.objs.size nf ns sz hb vals items.size 0 _ (by omega) (by omega) ⟨⟨_, Heap.get?_push_size _ rfl, rfl, rfl⟩, hl2.push _⟩ ?_ ?_
  · exact ⟨0, Nat.le_refl 0, setR_new_at (Heap.get?_push_of_some _ oS)⟩
  · intro z c m le R2
    obtain ⟨h2, g2, d2, tk, o2⟩ := z
    have e1 : g2 = s.gens := m.gens
    have e2 : d2 = s.drawn := m.drawn
    have e3 : o2 = s.os := m.os
    subst e1 e2 e3
    refine k _ ⟨h2, tk, c, rfl, R2, by omega, fun b o e => ?_⟩
    have b0 := Heap.lt_size e
    refine m.heap b o (fun q => ?_) (Heap.get?_push_of_some _ (Heap.get?_push_of_some _ e))
    rcases List.mem_cons.mp q with q | q
    · exact Nat.ne_of_lt b0 q
    · exact Nat.ne_of_lt (Nat.lt_succ_of_lt b0) ((List.mem_singleton.mp q).trans z1)
theorem set_list_ints {l : Addr} {items : Array Value} (ns : List Int) {Q : Value → Shared → Prop} (hh : A.handled = none) (hl : s.heap.IsList l items) (hit : IntsAre items.toList ns) (hb : ns.length + 1 < scanBound)
    (fin : ∀ z, Filled w s ns z → Q (.ref s.heap.objs.size) z) : wpAny (model P w) A (call (.type "set") [.ref l]) Q E s := by
  obtain ⟨cc, tl, k0⟩ := F.called_set.mro
  have k1 := F.called_set.made
  have k2 := F.called_set.sub
  refine wpAny_call ?_
  refine codeAny_of_tree ?_
  show wpAny _ _ (callAny (Value.type "set") _) _ _ _
  refine wpAny_pure ⟨Code.quiet_builtin _ (by decide +kernel), ?_⟩
  refine codeAny_builtin F.entry_type_call ?_
  rw [Around.under_plain (weight_type_call_type "set" [Value.ref l] []) rfl]
  have k3 := F.called_set.notType
  have k4 := F.called_set.canCreate
  have k5 := F.typeCall_set_1 (Value.ref l)
  repeat any_goals first | assumption | wp_step
  refine codeAny_mono (code_set_led1 (.ref l) (E := E) (Q₁ := fun v z => v = .ref s.heap.objs.size ∧ z = { s with heap := hS0 w s.heap }) ⟨rfl, rfl⟩) fun r z hr => ?_
  rcases r with e | fl
  · exact hr
  match fl, hr with
  | .ret v, ⟨e1, e2⟩ =>
    subst e1 e2
    have oS : (hS0 w s.heap).get? s.heap.objs.size = some (eS w) := Heap.get?_push_size _ rfl
    have tS : Shared.TypeIs { s with heap := hS0 w s.heap } (.ref s.heap.objs.size) "set" := ⟨_, oS, rfl⟩
    have k6 := F.called_set.init.lookup
    have k7 := F.called_set.init.bind (.ref s.heap.objs.size)
    repeat any_goals first | assumption | wp_step
    refine codeAny_mono (codeAny_call_builtin (R := wants (fun v z => v = .none ∧ Filled w s ns z) E) F.called_set.init.plain F.entry_set_init (check_set_init_1 tS ?_)) fun r z hr => ?_
    · obtain ⟨⟨oc, od, oda, osl⟩, hol, hcl, nl, hdl⟩ := id hl
      simp only at hcl hdl
      subst hcl hdl
      have ho2 : (hS0 w s.heap).get? l = some { cls := .type "list", dict := od, data := .seq items nl, slots := osl } := Heap.get?_push_of_some _ hol
      have f1 := F.sub_list_set
      have f2 := F.sub_list_frozenset
      have f3 : (Value.type "list" == Value.type "dict") = false := by decide
      have hl1 : (hS0 w s.heap).IsList l items := ⟨_, ho2, rfl, nl, rfl⟩
      unfold Builtin.«set.__init__» noKeywords Builtin.Frozenset.updateFrom
      generalize hpi : pyIter = PI
      wp_walk
      subst hpi
      refine wpAny_pyIter_list hl1 ?_
      refine wpAny_bind ?_
      refine wpAny_runValue ?_
      refine set_fill (by simp [hh]) hl hit hb (fun z fz => ?_) _ rfl
      refine wpAny_pure ?_
      show wpAny _ _ (ret Value.none) _ _ _
      exact wpAny_pure ⟨rfl, fz⟩
    · rcases r with e | fl
      · exact hr
      match fl, hr with
      | .ret v, ⟨e1, fz⟩ =>
        subst e1
        obtain ⟨h2, tk, c, e2, R2, le, kp⟩ := fz
        subst e2
        repeat any_goals first | assumption | wp_step
        exact fin _ ⟨h2, tk, c, rfl, R2, le, kp⟩
      | .next, hr => exact hr.elim
      | .brk, hr => exact hr.elim
      | .cont, hr => exact hr.elim
  | .next, hr => exact hr.elim
  | .brk, hr => exact hr.elim
  | .cont, hr => exact hr.elim
end
/-- set(l) -/
def rSetLI (w : World) : List V → Hp → VK → Prop := fun vs H Q => ∃ (l : Addr) (ns : List Int), vs = [.ref l] ∧ H l = some (.lst (ns.map V.int)) ∧ ns.length < 60 ∧
  ∀ (p : Addr) (c : Nat), c ≤ ns.length → H p = none → Q (.ref p) (upd H p (SetO w p (fun j => decide (j ∈ ns)) c))
theorem cr_setLI {X : Cx} (hc : X.calm = true) : CallR X (.type "set") (rSetLI X.w) := by
  rintro pins s σ H vs us Q I r ⟨l, ns, rfl, hl, h60, q⟩
  obtain ⟨u, rfl, rx⟩ := vals1 r
  cases rx
  obtain ⟨its, rv, pl, hz⟩ := I.list (.inl (.inl hl))
  obtain ⟨o, n, ho, hcl, hd, hdat⟩ := pl
  refine set_list_ints ns (I.ok.hd hc) ⟨o, ho, hcl, n, hdat⟩ (by simpa using ints_of_vals rv) (by unfold scanBound; omega) fun z fz => ?_
  obtain ⟨h2, tk, c, rfl, R2, le, kp⟩ := fz
  exact ⟨.ref s.heap.objs.size, upd H s.heap.objs.size (SetO X.w s.heap.objs.size (fun j => decide (j ∈ ns)) c), I.laid (t' := tk) kp (Nat.le_refl _) (setO_new R2), rfl, q _ c le (I.hok.fresh (Nat.le_refl _))⟩
/-- .. in e, e a dict with tuple keys: it is locked from then on -/
def iKeysL (td : TE) : TI := fun σ H R => td σ H fun x H1 => ∃ d kvs, x = .ref d ∧ H1 d = some (.dT kvs) ∧ ∀ od, R (Itkt d od kvs) (upd H1 d (.frz od (.dT kvs)))
theorem pi_keysL {X : Cx} {tg e : Expr} {td : TE} (he : PE X e td) : PI X tg e (iKeysL td) := by
  refine ⟨fun pns s σ H R I hw => ?_⟩
  refine thn (he.run pns s σ H _ I hw) fun u s1 ⟨x, H1, I1, rx, d, kvs, ex, hd, q⟩ => ?_
  subst ex
  obtain rfl : u = .ref d := rx
  obtain ⟨od, I2⟩ := I1.lock hd True.intro
  have hd2 : upd H1 d (.frz od (.dT kvs)) d = some (.frz od (.dT kvs)) := upd_same
  obtain ⟨hs, hgd, hx, es, ep, hdt, hsz, ent⟩ := I2.frzT hd2
  refine iter_keys hs hgd hx hdt (pi_one (tk := s1.toks) I2 _ (turn_keysT _ hdt) ⟨_, Heap.get?_push_size _ rfl, rfl, ?_⟩ (q od))
  rw [hsz] <;> rfl
end L2.Gd
end

section
set_option Elab.async false
set_option linter.all false
set_option maxRecDepth 100000
set_option maxHeartbeats 1000000
namespace L2.K14
open PySem PySem.Spec PyProof.Rows L2.Gd L2.Ln
/-! ### marks_of -/
theorem ints_of : ∀ {zs : List V} {bs : List Int}, Paired (fun v b => v = V.int b) zs bs → zs = bs.map V.int
  | _, _, .nil => rfl
  | _, _, .cons a t => by rw [a, ints_of t]; rfl
def marksL (rs : List Rw) : List Int := rs.filterMap (·.lo) ++ rs.filterMap fun r => r.hi.map (· + 1)
theorem marks_len (rs : List Rw) : (marksL rs).length ≤ 2 * rs.length := by
  unfold marksL
  rw [List.length_append]
  have a := List.length_filterMap_le (·.lo) rs
  have b := List.length_filterMap_le (fun r : Rw => r.hi.map (· + 1)) rs
  omega
theorem marks_lo {rs : List Rw} {r : Rw} (h : r ∈ rs) {l : Int} (e : r.lo = some l) : l ∈ marksL rs := List.mem_append.mpr (.inl (List.mem_filterMap.mpr ⟨r, h, e⟩))
theorem marks_hi {rs : List Rw} {r : Rw} (h : r ∈ rs) {l : Int} (e : r.hi = some l) : l + 1 ∈ marksL rs := List.mem_append.mpr (.inr (List.mem_filterMap.mpr ⟨r, h, by rw [e]; rfl⟩))
theorem marks_in {rs : List Rw} {Z : Zn} {L : Nat} (h : ∀ r ∈ rs, Lm Z L r) {m : Int} (hm : m ∈ marksL rs) : ∃ c ∈ Z.cs, c - Z.w ≤ m ∧ m ≤ c + Z.w + 1 := by
  rcases List.mem_append.mp hm with hm | hm
  · obtain ⟨r, hr, e⟩ := List.mem_filterMap.mp hm
    obtain ⟨c, hc, a, b⟩ := (h r hr).l m e
    exact ⟨c, hc, by omega, by omega⟩
  · obtain ⟨r, hr, e⟩ := List.mem_filterMap.mp hm
    obtain ⟨x, hx, e⟩ := Option.map_eq_some_iff.mp e
    obtain ⟨c, hc, a, b⟩ := (h r hr).h x hx
    exact ⟨c, hc, by omega, by omega⟩
theorem SqT.same {K : PySem.W.Frag} {H H' : Hp} {a : Addr} {xs : List V} (s : Same H H') (h : SqT K H a xs) : SqT K H' a xs := by
  rcases h with h | h
  · rcases h with h | ⟨o, h⟩
    · exact .inl (.inl (s _ _ h))
    · exact .inl (.inr ⟨o, s _ _ h⟩)
  · exact .inr h
/-- a row as a tuple, one that the text's top made among them -/
def RowK (K : PySem.W.Frag) (H : Hp) (v : V) (r : Rw) : Prop := ∃ t, v = .ref t ∧ SqT K H t (Rvs r)
theorem RowK.same {K : PySem.W.Frag} {H H' : Hp} {v : V} {r : Rw} (s : Same H H') (h : RowK K H v r) : RowK K H' v r := let ⟨t, e, q⟩ := h; ⟨t, e, SqT.same s q⟩
theorem rowsK_same {K : PySem.W.Frag} {H H' : Hp} {vs : List V} {rs : List Rw} (s : Same H H') (h : Paired (RowK K H) vs rs) : Paired (RowK K H') vs rs := Paired.mapP h fun _ _ q => RowK.same s q
def RowsK (K : PySem.W.Frag) (H : Hp) (a : Addr) (rs : List Rw) : Prop := ∃ us, H a = some (.lst us) ∧ Paired (RowK K H) us rs
theorem RowsK.same {K : PySem.W.Frag} {H H' : Hp} {a : Addr} {rs : List Rw} (s : Same H H') (h : RowsK K H a rs) : RowsK K H' a rs := let ⟨us, e, q⟩ := h; ⟨us, s _ _ e, rowsK_same s q⟩
theorem RowsAt.k {K : PySem.W.Frag} {H : Hp} {a : Addr} {rs : List Rw} (h : RowsAt H a rs) : RowsK K H a rs := let ⟨us, e, q⟩ := h; ⟨us, e, Paired.mapP q fun _ _ ⟨t, e, z⟩ => ⟨t, e, .inl (.inl z)⟩⟩
def spMk (K : PySem.W.Frag) : Sp := fun vs H Q _ => ∃ (a : Addr) (rs : List Rw), vs = [.ref a] ∧ RowsK K H a rs ∧ rs.length ≤ 400 ∧ ∀ (l : Addr) (H' : Hp), H l = none → Same H H' → H' l = some (.lst ((marksL rs).map V.int)) → Q (.ref l) H'
theorem scMk : FnScope ["rows", "row"] ["rows"] (defScope (top 52)) := ⟨rfl, rfl, rfl, by decide +kernel, rfl, by decide +kernel, by decide +kernel⟩
section
variable {P : Program} {w : World} {K : PySem.W.Frag} {mg : Str → Option Value} {base : Heap}
theorem ok_mk {f : Addr} {fd : FuncData} (F : Fun K "marks_of" "marks_of" (top 52) f fd) : FnOk P w K mg base CX0 1 f fd ["rows"] (spMk K) := by
  refine F.ok scMk (fun vs H Q E h => ?_) (fun cdv A outer s H vs Q E hr h => ?_)
  · obtain ⟨a, rs, rfl, _⟩ := h
    rfl
  · obtain ⟨a, rs, rfl, ⟨us, ha, rv⟩, rl, q⟩ := h
    have nd := scMk.nd
    have lus := Paired.length rv
    have sl := sizeLine_eq
    refine ⟨_, pss_one (ps_ret (pe_op op_cat
      (pe_lc (own := [("row", 1)]) (g := gName 1) rfl nd (pi_list (pv 0)) (blkOk_by (N := ["rows", "row"]) (sc := defScope (top 52)) (by decide +kernel)) (fun _ _ _ _ _ => pg_name (i := 1) nd rfl (.inl rfl)) (fun _ _ _ _ _ => pts_one (pt_cmp (pc_notN (pe_ix (r := rIxT K) ix_tup (pv 1) pe_int (fun _ _ => rfl))))) (fun _ _ _ _ _ => pe_ix (r := rIxT K) ix_tup (pv 1) pe_int (fun _ _ => rfl)))
      (pe_lc (own := [("row", 1)]) (g := gName 1) rfl nd (pi_list (pv 0)) (blkOk_by (N := ["rows", "row"]) (sc := defScope (top 52)) (by decide +kernel)) (fun _ _ _ _ _ => pg_name (i := 1) nd rfl (.inl rfl)) (fun _ _ _ _ _ => pts_one (pt_cmp (pc_notN (pe_ix (r := rIxT K) ix_tup (pv 1) pe_int (fun _ _ => rfl))))) (fun _ _ _ _ _ => pe_op op_add (pe_ix (r := rIxT K) ix_tup (pv 1) pe_int (fun _ _ => rfl)) pe_int)))), ?_⟩
    refine ⟨_, rfl, a, rfl, ⟨_, .inl (.inl ha)⟩, fun D hD => ?_⟩
    refine lc_mapL (es := rs) (F := RowK K) (G := fun _ v b => v = V.int b) (f := fun r : Rw => r.lo) (fun _ _ _ _ _ _ z => z) ha hD (by omega) rv ?_ ?_
    · rintro x r H2 A B hi ⟨t, rfl, ht⟩ bt ⟨zs, hz⟩ hA hB
      have ht2 := SqT.same (bt.new hD) ht
      refine ⟨rfl, _, rfl, t, _, _, _, rfl, rfl, ht2, rfl, ?_⟩
      cases e : r.lo with
      | none => exact ⟨false, by simp [oI], iteF (hB H2 e fun _ _ z => z)⟩
      | some l =>
        have ee : (Rvs r)[0]? = some (V.int l) := by show some (oI r.lo) = _; rw [e]; rfl
        exact ⟨true, by simp [oI], iteT ⟨_, rfl, t, _, _, V.int l, rfl, rfl, ht2, ee, hA _ _ H2 e (fun _ _ z => z) rfl⟩⟩
    · intro zs H2 h1 h2 h3
      rw [ints_of h2] at h1
      have s2 := h3.new hD
      have ha2 := s2 _ _ ha
      refine ⟨_, rfl, a, rfl, ⟨_, .inl (.inl ha2)⟩, fun D2 hD2 => ?_⟩
      refine lc_mapL (es := rs) (F := RowK K) (G := fun _ v b => v = V.int b) (f := fun r : Rw => r.hi.map (· + 1)) (fun _ _ _ _ _ _ z => z) ha2 hD2 (by omega) (rowsK_same s2 rv) ?_ ?_
      · rintro x r H3 A B hi ⟨t, rfl, ht⟩ bt ⟨zs', hz⟩ hA hB
        have ht2 := SqT.same (bt.new hD2) ht
        refine ⟨rfl, _, rfl, t, _, _, _, rfl, rfl, ht2, rfl, ?_⟩
        cases e : r.hi with
        | none => exact ⟨false, by simp [oI], iteF (hB H3 (by show r.hi.map (· + 1) = none; rw [e]; rfl) fun _ _ z => z)⟩
        | some l =>
          have ee : (Rvs r)[1]? = some (V.int l) := by show some (oI r.hi) = _; rw [e]; rfl
          exact ⟨true, by simp [oI], iteT ⟨_, rfl, t, _, _, V.int l, rfl, rfl, ht2, ee, _, _, rfl, rfl, hA (l + 1) _ H3 (by show r.hi.map (· + 1) = some (l + 1); rw [e]; rfl) (fun _ _ z => z) rfl⟩⟩
      · intro zs2 H3 h4 h5 h6
        rw [ints_of h5] at h4
        have s3 := h6.new hD2
        have ml := marks_len rs
        unfold marksL at ml
        rw [List.length_append] at ml
        refine ⟨D, D2, _, _, rfl, rfl, s3 _ _ h1, h4, by rw [List.length_map, List.length_map, sl]; omega, fun o ho => ?_⟩
        refine q o _ (Same.free (s2.trans s3) ho) (s2.trans (s3.trans (same_upd ho))) ?_
        rw [upd_same]
        unfold marksL
        rw [List.map_append]
/-! ### rests_from -/
/-- what is found for each span -/
def RestV (L P : Nat) (ms : List Int) (rs : List Rw) (H : Hp) (k : Nat) (v : V) : Prop := ∃ (t : Addr) (p b : Nat), v = .ref t ∧ H t = some (.tup [.int p, .int b]) ∧ RestAt L P rs (lowAt ms k) (highAt ms k) p b
theorem RestV.same {L P : Nat} {ms : List Int} {rs : List Rw} {H H' : Hp} {k : Nat} {v : V} (s : Same H H') (h : RestV L P ms rs H k v) : RestV L P ms rs H' k v := let ⟨t, p, b, e, ht, r⟩ := h; ⟨t, p, b, e, s _ _ ht, r⟩
def lowsV (ms : List Int) : List V := .non :: ms.map V.int
theorem lowsV_at {ms : List Int} {k : Nat} (h : k ≤ ms.length) : (lowsV ms)[k]? = some (oI (lowAt ms k)) := by
  cases k with
  | zero => rfl
  | succ k =>
    show (ms.map V.int)[k]? = some (oI ms[k]?)
    rw [List.getElem?_map, List.getElem?_eq_getElem (by omega)]
    rfl
def spRf (K : PySem.W.Frag) : Sp := fun vs H Q _ => ∃ (a b : Addr) (rs : List Rw) (ms : List Int) (Z : Zn) (L P : Nat), vs = [.ref a, .ref b] ∧ RowsK K H a rs ∧ H b = some (.lst (lowsV ms)) ∧ Asc ms ∧ Marks ms rs ∧ Ln_ Z L rs ∧ Z.Ok L ∧ (∀ r ∈ rs, r.p ≤ P) ∧ 1 ≤ P ∧ ms.length ≤ 400 ∧
  ∀ (l : Addr) (vs' : List V) (H' : Hp), H l = none → Same H H' → H' l = some (.lst vs') → vs'.length = ms.length + 1 → (∀ k v, vs'[k]? = some v → RestV L P ms rs H' k v) → Q (.ref l) H'
theorem scRf : FnScope ["rows", "lows", "out", "at", "low", "begun"] ["rows", "lows"] (defScope (top 53)) := ⟨rfl, rfl, rfl, by decide +kernel, rfl, by decide +kernel, by decide +kernel⟩
theorem oI_ref {o : Option Int} {v : V} (h : oI o = v) (n : v ≠ .non) : ∃ l, o = some l ∧ v = .int l := by
  cases o with
  | none => exact absurd h.symm n
  | some l => exact ⟨l, rfl, h.symm⟩
theorem ok_rf {f : Addr} {fd : FuncData} (F : Fun K "rests_from" "rests_from" (top 53) f fd) (n : Nm mg) : FnOk P w K mg base CX0 1 f fd ["rows", "lows"] (spRf K) := by
  refine F.ok scRf (fun vs H Q E h => ?_) (fun cdv A outer s H vs Q E hr h => ?_)
  · obtain ⟨a, b, rs, ms, Z, L, P', rfl, _⟩ := h
    rfl
  · obtain ⟨a, b, rs, ms, Z, L, P', rfl, ⟨us, ha, rv⟩, hb, asc, mk, ln, kz, pP, P1, ml, q⟩ := h
    have nd := scRf.nd
    have lus := Paired.length rv
    have sl := sizeLine_eq
    refine ⟨_, pss_cons (ps_set (i := 2) nd rfl (.inl rfl) (pe_lst pa_nil)) (pss_cons (ps_set (i := 3) nd rfl (.inl rfl) pe_int)
      (pss_cons (ps_for PassesOwn.never rfl (pi_list (pv 1)) (pg_name (i := 4) nd rfl (.inl rfl))
        (pss_cons (ps_while PassesOwn.never (pw_and (pt_cmpR op_lt (pv 3) (pe_callB call_len_seq (by rfl) n.len PySem.boot_len (pa_cons (pv 0) pa_nil)) (nomark _)) (pw_and (pt_cmp (pc_notN (pe_ix ix_tup (pe_ix ix_list (pv 0) (pv 3) (fun _ _ => rfl)) pe_int (fun _ _ => rfl)))) (pw_and (pt_cmp (pc_notN (pv 4))) (pw_and1 (pt_cmpR op_lt (pe_ix ix_tup (pe_ix ix_list (pv 0) (pv 3) (fun _ _ => rfl)) pe_int (fun _ _ => rfl)) (pv 4) (nomark _)))))).pt
          (pss_one (ps_aug (i := 3) nd rfl (.inl rfl) pe_int ip_add)))
        (pss_cons (ps_set (i := 5) nd rfl (.inl rfl) (pe_and (pe_cmpR op_lt (pv 3) (pe_callB call_len_seq (by rfl) n.len PySem.boot_len (pa_cons (pv 0) pa_nil)) (nomark _)) (pe_one (pe_or (pe_cmpR op_isN (pe_ix ix_tup (pe_ix ix_list (pv 0) (pv 3) (fun _ _ => rfl)) pe_int (fun _ _ => rfl)) pe_non (nomark _))
          (pe_one (pe_and (pe_cmpR op_notN (pv 4) pe_non (nomark _)) (pe_one (pe_cmpR op_le (pe_ix ix_tup (pe_ix ix_list (pv 0) (pv 3) (fun _ _ => rfl)) pe_int (fun _ _ => rfl)) (pv 4) (nomark _)))))))))
        (pss_one (ps_expr (pe_bm PySem.F.plainAttrs_list PySem.F.slot_list_append PySem.F.type_list_append mt_append (pv 2) (pa_cons (pe_ifExp (pt_val (pv 5)) (pe_tup (pa_cons (pe_ix ix_tup (pe_ix ix_list (pv 0) (pv 3) (fun _ _ => rfl)) pe_int (fun _ _ => rfl)) (pa_cons (pe_ix ix_tup (pe_ix ix_list (pv 0) (pv 3) (fun _ _ => rfl)) pe_int (fun _ _ => rfl)) pa_nil))) (pe_tup (pa_cons pe_int (pa_cons pe_int pa_nil)))) pa_nil)))))))
      (pss_one (ps_ret (pv 2))))), ?_⟩
    refine seqV (Good := fun σ2 H2 => ∃ l, H l = none ∧ Same H H2 ∧ H2 l = some (.lst []) ∧ σ2 = [some (.ref a), some (.ref b), some (.ref l), none, none, none]) (fun nx hnx => ⟨(by show 0 ≤ sizeLine; decide), fun l hl => hnx _ _ ⟨l, hl, same_upd hl, upd_same, rfl⟩⟩) ?_
    rintro _ H1 ⟨l, nl, s1, hl1, rfl⟩
    refine seqV (Good := fun σ2 H2 => H1 = H2 ∧ σ2 = [some (.ref a), some (.ref b), some (.ref l), some (.int ((0 : Nat) : Int)), none, none]) (fun nx hnx => hnx _ _ ⟨rfl, rfl⟩) ?_
    rintro _ _ ⟨rfl, rfl⟩
    have lvl : (lowsV ms).length = ms.length + 1 := by unfold lowsV; rw [List.length_cons, List.length_map]
    refine ⟨_, rfl, b, rfl, ⟨_, .inl (.inl (s1 _ _ hb))⟩, ?_⟩
    refine loop_of (n := (lowsV ms).length) (fun i σ H2 => ∃ (x4 x5 : Option V) (at_ : Nat) (vs : List V), Same H H2 ∧ H2 l = some (.lst vs) ∧ vs.length = i ∧ (∀ k v, vs[k]? = some v → RestV L P' ms rs H2 k v) ∧ at_ ≤ rs.length ∧ (i ≤ ms.length → AtOk rs at_ (lowAt ms i)) ∧ σ = [some (.ref a), some (.ref b), some (.ref l), some (.int (at_ : Nat)), x4, x5])
      ⟨none, none, 0, [], s1, hl1, rfl, (fun k v e => by simp at e), Nat.zero_le _, fun _ r hr => by simp at hr, rfl⟩ ?_ ?_
    · rintro σ H2 ⟨x4, x5, at_, vs, s2, hl2, vl, rs2, al, ao, rfl⟩
      exact ⟨⟨_, .inl (.inl (s2 _ _ hb)), Nat.le_refl _⟩, _, rfl, q l vs H2 nl s2 hl2 (by rw [vl, lvl]) rs2⟩
    · rintro i σ H2 hi ⟨x4, x5, at_, vs, s2, hl2, vl, rs2, al, ao, rfl⟩
      refine ⟨⟨_, _, .inl (.inl (s2 _ _ hb)), List.getElem?_eq_getElem hi⟩, ?_⟩
      rintro v H3 ⟨rfl, hy⟩
      have hvi := hy _ (.inl (.inl (s2 _ _ hb)))
      rw [lvl] at hi
      have im : i ≤ ms.length := by omega
      have ev : v = oI (lowAt ms i) := by
        rw [lowsV_at im] at hvi
        exact (Option.some.inj hvi).symm
      have ao := ao im
      have ha3 := s2 _ _ ha
      have row_at : ∀ k : Nat, k < rs.length → ∃ (t : Addr) (r : Rw), rs[k]? = some r ∧ us[k]? = some (.ref t) ∧ SqT K H3 t (Rvs r) := fun k hk => by
        have e : us[k]? = some us[k] := List.getElem?_eq_getElem (by omega)
        obtain ⟨r, er, t, et, ht⟩ := pair_at rv e
        exact ⟨t, r, er, by rw [e, et], SqT.same s2 ht⟩
      subst ev
      refine gn ?_
      -- on to the row that is asked for
      refine seqV (Good := fun σ2 H4 => ∃ at2 : Nat, at2 ≤ rs.length ∧ AtOk rs at2 (lowAt ms i) ∧ (∀ r, rs[at2]? = some r → ∀ h0 l0, r.hi = some h0 → lowAt ms i = some l0 → l0 ≤ h0) ∧ H3 = H4 ∧ σ2 = [some (.ref a), some (.ref b), some (.ref l), some (.int (at2 : Nat)), some (oI (lowAt ms i)), x5]) ?_ ?_
      · intro nx hnx
        refine ⟨fun k σ H5 => ∃ at2 : Nat, k = rs.length - at2 ∧ at2 ≤ rs.length ∧ AtOk rs at2 (lowAt ms i) ∧ H3 = H5 ∧ σ = [some (.ref a), some (.ref b), some (.ref l), some (.int (at2 : Nat)), some (oI (lowAt ms i)), x5], ⟨_, at_, rfl, al, ao, rfl, rfl⟩, ?_⟩
        rintro k σ H5 ⟨at2, rfl, al2, ao2, rfl, rfl⟩
        refine ⟨_, rfl, _, rfl, a, us, rfl, .inl (.inl (.inl ha3)), _, _, rfl, rfl, decide ((at2 : Int) < us.length), rfl, ?_⟩
        by_cases c : at2 < us.length
        · obtain ⟨t, r, er, et, ht⟩ := row_at at2 (by omega)
          rw [decide_eq_true (by omega)]
          refine iteT ⟨_, rfl, _, rfl, a, us, _, _, rfl, rfl, .inl (.inl ha3), atI_nat et, t, _, _, _, rfl, rfl, ht, rfl, ?_⟩
          have stop : (∀ h0 l0, r.hi = some h0 → lowAt ms i = some l0 → l0 ≤ h0) → nx [some (.ref a), some (.ref b), some (.ref l), some (.int (at2 : Nat)), some (oI (lowAt ms i)), x5] H3 := fun z => hnx _ _ ⟨at2, al2, ao2, fun r' e' => by rw [er] at e'; cases e'; exact z, rfl, rfl⟩
          cases eh : r.hi with
          | none => exact ⟨false, by simp [oI], iteF (stop fun h0 l0 e => by rw [eh] at e; exact nomatch e)⟩
          | some h0 =>
            have e1 : (Rvs r)[1]? = some (V.int h0) := by show some (oI r.hi) = _; rw [eh]; rfl
            refine ⟨true, by simp [oI], iteT ⟨_, rfl, ?_⟩⟩
            cases elo : lowAt ms i with
            | none =>
              refine ⟨false, by simp [oI], iteF ?_⟩
              have := stop fun h0 l0 _ e => by rw [elo] at e; exact nomatch e
              rw [elo] at this
              exact this
            | some l0 =>
              refine ⟨true, by simp [oI], iteT ⟨_, rfl, _, rfl, a, us, _, _, rfl, rfl, .inl (.inl ha3), atI_nat et, t, _, _, V.int h0, rfl, rfl, ht, e1, _, rfl, _, _, rfl, rfl, decide (h0 < l0), rfl, ?_⟩⟩
              by_cases d : h0 < l0
              · rw [decide_eq_true d]
                refine iteT ⟨fun σ6 H6 => H3 = H6 ∧ σ6 = [some (.ref a), some (.ref b), some (.ref l), some (.int ((at2 + 1 : Nat) : Int)), some (oI (some l0)), x5], fun σ6 H6 ⟨e2, e3⟩ => ⟨rs.length - (at2 + 1), by omega, at2 + 1, rfl, by omega, ?_, e2, e3⟩, ?_⟩
                · intro r' hr'
                  rw [List.take_succ, er] at hr'
                  rcases List.mem_append.mp hr' with hr' | hr'
                  · have := ao2 r' hr'
                    rw [elo] at this
                    exact this
                  · have : r' = r := by simpa using hr'
                    rw [this]
                    exact ⟨h0, l0, eh, rfl, d⟩
                · refine ⟨_, rfl, _, _, rfl, rfl, rfl, ?_⟩
                  rw [show ((at2 + 1 : Nat) : Int) = (at2 : Int) + 1 by omega]
                  rfl
              · rw [decide_eq_false d]
                refine iteF ?_
                have := stop fun h1 l1 e2 e3 => by
                  rw [eh] at e2
                  rw [elo] at e3
                  cases e2
                  cases e3
                  omega
                rw [elo] at this
                exact this
        · rw [decide_eq_false (by omega)]
          exact iteF (hnx _ _ ⟨at2, al2, ao2, (fun r e => absurd e (by rw [List.getElem?_eq_none (by omega)]; simp)), rfl, rfl⟩)
      rintro _ _ ⟨at2, al2, ao2, st2, rfl, rfl⟩
      have sp := span_ok asc im
      -- begun
      refine seqV (Good := fun σ2 H4 => ∃ bg : Bool, (bg = true → ∃ r, rs[at2]? = some r ∧ ∀ x, r.lo = some x → ∃ l1, lowAt ms i = some l1 ∧ x ≤ l1) ∧ (bg = false → rs.length ≤ at2 ∨ ∃ r x, rs[at2]? = some r ∧ r.lo = some x ∧ ∀ l1, lowAt ms i = some l1 → l1 < x) ∧ H3 = H4 ∧ σ2 = [some (.ref a), some (.ref b), some (.ref l), some (.int (at2 : Nat)), some (oI (lowAt ms i)), some (.bl bg)]) ?_ ?_
      · intro nx hnx
        refine ⟨_, rfl, _, rfl, a, us, rfl, .inl (.inl (.inl ha3)), _, _, rfl, rfl, decide ((at2 : Int) < us.length), rfl, ?_⟩
        by_cases c : at2 < us.length
        · obtain ⟨t, r, er, et, ht⟩ := row_at at2 (by omega)
          rw [decide_eq_true (by omega), if_pos rfl]
          refine ⟨_, rfl, _, rfl, a, us, _, _, rfl, rfl, .inl (.inl ha3), atI_nat et, t, _, _, _, rfl, rfl, ht, rfl, rfl, ?_⟩
          cases eh : r.lo with
          | none => exact ⟨true, by simp [oI], by rw [if_pos rfl]; exact hnx _ _ ⟨true, fun _ => ⟨r, er, fun x e => by rw [eh] at e; exact nomatch e⟩, (fun z => nomatch z), rfl, rfl⟩⟩
          | some x =>
            have e0 : (Rvs r)[0]? = some (V.int x) := by show some (oI r.lo) = _; rw [eh]; rfl
            refine ⟨false, by simp [oI], ?_⟩
            rw [if_neg (by decide)]
            refine ⟨_, rfl, rfl, ?_⟩
            cases elo : lowAt ms i with
            | none =>
              rw [elo] at hnx
              exact ⟨false, by simp [oI], by rw [if_neg (by decide)]; exact hnx _ _ ⟨false, (fun z => nomatch z), fun _ => .inr ⟨r, x, er, eh, (fun l1 e => nomatch e)⟩, rfl, rfl⟩⟩
            | some l1 =>
              rw [elo] at hnx
              refine ⟨true, by simp [oI], ?_⟩
              rw [if_pos rfl]
              refine ⟨_, rfl, _, rfl, a, us, _, _, rfl, rfl, .inl (.inl ha3), atI_nat et, t, _, _, V.int x, rfl, rfl, ht, e0, _, rfl, _, _, rfl, rfl, ?_⟩
              by_cases d : x ≤ l1
              · refine hnx _ _ ⟨true, fun _ => ⟨r, er, fun y e => ⟨l1, rfl, by rw [eh] at e; cases e; exact d⟩⟩, (fun z => nomatch z), rfl, ?_⟩
                show [_, _, _, _, _, some (V.bl (decide (x ≤ l1)))] = _
                rw [decide_eq_true d]
              · refine hnx _ _ ⟨false, (fun z => nomatch z), fun _ => .inr ⟨r, x, er, eh, fun y e => by cases e; omega⟩, rfl, ?_⟩
                show [_, _, _, _, _, some (V.bl (decide (x ≤ l1)))] = _
                rw [decide_eq_false d]
        · rw [decide_eq_false (by omega), if_neg (by decide)]
          exact hnx _ _ ⟨false, (fun z => nomatch z), fun _ => .inl (by omega), rfl, rfl⟩
      rintro _ _ ⟨bg, bT, bF, rfl, rfl⟩
      have done : ∀ (o : Addr) (p b' : Nat), H3 o = none → RestAt L P' rs (lowAt ms i) (highAt ms i) p b' →
          ∃ (x4 x5 : Option V) (at_ : Nat) (vs' : List V), Same H (upd (upd H3 o (.tup [.int p, .int b'])) l (.lst (vs ++ [.ref o]))) ∧ (upd (upd H3 o (.tup [.int p, .int b'])) l (.lst (vs ++ [.ref o]))) l = some (.lst vs') ∧ vs'.length = i + 1 ∧ (∀ k v, vs'[k]? = some v → RestV L P' ms rs (upd (upd H3 o (.tup [.int p, .int b'])) l (.lst (vs ++ [.ref o]))) k v) ∧ at_ ≤ rs.length ∧ (i + 1 ≤ ms.length → AtOk rs at_ (lowAt ms (i + 1))) ∧ [some (V.ref a), some (V.ref b), some (V.ref l), some (.int (at2 : Nat)), some (oI (lowAt ms i)), some (.bl bg)] = [some (V.ref a), some (V.ref b), some (V.ref l), some (.int (at_ : Nat)), x4, x5] := by
        intro o p b' ho ra
        have so := same_upd (o := .tup [V.int p, V.int b']) ho
        have ol : o ≠ l := (ne_of_none hl2 ho).symm
        refine ⟨_, _, at2, vs ++ [.ref o], same_at nl (s2.trans so), upd_same, by rw [List.length_append, vl]; rfl, fun k v e => ?_, al2, fun h1 r hr => ?_, rfl⟩
        · by_cases c : k < vs.length
          · rw [List.getElem?_append_left c] at e
            obtain ⟨t, p0, b0, e1, ht, ra0⟩ := rs2 k v e
            refine ⟨t, p0, b0, e1, ?_, ra0⟩
            rw [upd_ne (fun z => by rw [z, hl2] at ht; exact nomatch ht)]
            exact so _ _ ht
          · rw [List.getElem?_append_right (by omega)] at e
            have k0 : k - vs.length = 0 := by
              apply Classical.byContradiction
              intro z
              rw [List.getElem?_eq_none (by show 1 ≤ k - vs.length; omega)] at e
              exact nomatch e
            rw [k0] at e
            obtain rfl : v = .ref o := (Option.some.inj e).symm
            obtain rfl : k = i := by omega
            exact ⟨o, p, b', rfl, by rw [upd_ne ol, upd_same], ra⟩
        · obtain ⟨h0, l0, e1, e2, lt⟩ := ao2 r hr
          have e3 : lowAt ms (i + 1) = some ms[i] := List.getElem?_eq_getElem (by omega)
          refine ⟨h0, ms[i], e1, e3, ?_⟩
          cases i with
          | zero => exact nomatch e2
          | succ j =>
            have := asc_lt asc (show ms[j]? = some l0 from e2) (List.getElem?_eq_getElem (show j + 1 < ms.length by omega)) (Nat.lt_succ_self j)
            omega
      refine ⟨_, rfl, .inl ⟨rfl, _, .inl (.inl hl2)⟩, ?_⟩
      cases bg with
      | true =>
        obtain ⟨r, er, bb⟩ := bT rfl
        have at_lt : at2 < rs.length := by
          apply Classical.byContradiction
          intro z
          rw [List.getElem?_eq_none (by omega)] at er
          exact nomatch er
        obtain ⟨t, r', er', et, ht⟩ := row_at at2 at_lt
        rw [er] at er'
        cases er'
        have ra := rest_begun (P := P') kz ln mk sp er ao2 (st2 r er) bb (pP r (List.mem_of_getElem? er))
        refine ⟨_, rfl, true, rfl, iteT ⟨_, rfl, _, rfl, a, us, _, _, rfl, rfl, .inl (.inl ha3), atI_nat et, t, _, _, _, rfl, rfl, ht, rfl, _, rfl, _, rfl, a, us, _, _, rfl, rfl, .inl (.inl ha3), atI_nat et, t, _, _, _, rfl, rfl, ht, rfl, (by show 2 ≤ sizeLine; decide), fun o ho => ?_⟩⟩
        have so := same_upd (o := .tup [V.int r.p, V.int r.b]) ho
        exact ⟨l, vs, _, rfl, rfl, so _ _ hl2, by rw [sl]; omega, done o r.p r.b ho ra⟩
      | false =>
        have ra := rest_none (L := L) (P := P') ln.nt mk sp ao2 (bF rfl) P1
        refine ⟨_, rfl, false, rfl, iteF ⟨(by show 2 ≤ sizeLine; decide), fun o ho => ?_⟩⟩
        have so := same_upd (o := .tup [V.int ((1 : Nat) : Int), V.int ((0 : Nat) : Int)]) ho
        exact ⟨l, vs, _, rfl, rfl, so _ _ hl2, by rw [sl]; omega, done o 1 0 ho ra⟩
end
end L2.K14
end

section
set_option Elab.async false
set_option linter.all false
set_option maxRecDepth 100000
set_option maxHeartbeats 2000000
/-! [f(i) for i in range(..)] -/
namespace L2.Gd
open PySem PySem.Spec PyProof.Rows
def rgI (lo : Int) (n : Nat) : List Int := (List.range n).map fun i : Nat => lo + (i : Int)
theorem rgI_len (lo : Int) (n : Nat) : (rgI lo n).length = n := by unfold rgI; rw [List.length_map, List.length_range]
theorem paired_int : ∀ ns : List Int, Paired (fun v e => v = V.int e) (ns.map V.int) ns
  | [] => .nil
  | n :: r => .cons rfl (paired_int r)
section
variable {β : Type} {lo : Int} {n : Nat} {g : TG} {tt : TT} {te : TE} {vs : List Nat} {σ : L2.St} {H1 : Hp} {D : Addr} {Qd : Hp → Prop} {G : Hp → V → β → Prop} {f : Int → Option β}
theorem lc_mapR (st : Stab G D) (h1000 : n ≤ 1000) (step : StepOk (fun _ v e => v = V.int e) G f g tt te vs σ H1 D (rgI lo n))
    (fin : ∀ ys H, H D = some (.lst ys) → Paired (G H) ys ((rgI lo n).filterMap f) → ButD D H1 H → Qd H) :
    ∃ W : Nat → Nat → Hp → Prop, (∃ m, W 0 m (L2.upd H1 D (.lst []))) ∧ ∀ i m H, W i m H →
      ((Itr lo n).stop i H ∧ Qd H) ∨ ((Itr lo n).go i H ∧ ∃ Nx : Hp → Prop, (∀ H', Nx H' → ∃ m', m' < m ∧ W (i + 1) m' H') ∧ ∀ x H', (Itr lo n).yld i H x H' → g x (wipe σ vs) H' fun σ2 H2 => wipe σ2 vs = wipe σ vs ∧ tt σ2 H2 fun b H3 =>
        if b = true then te σ2 H3 fun y H4 => ∃ acc, H4 D = some (.lst acc) ∧ acc.length < sizeLine ∧ Nx (L2.upd H4 D (.lst (acc ++ [y]))) else Nx H3) := by
  have pa := paired_int (rgI lo n)
  have len : ((rgI lo n).map V.int).length = n := by rw [List.length_map, rgI_len]
  refine lc_range (LcInv G f H1 D (rgI lo n)) ⟨[], upd_same, Nat.le_refl _, .nil, .start⟩ (fun i H hi h => ?_) ?_
  · refine lc_turn (xs := (rgI lo n).map V.int) (F := fun _ v e => v = V.int e) st (by rw [len]; exact h1000) pa step (i := i) (x := .int (lo + i)) ?_ h
    unfold rgI
    rw [List.getElem?_map, List.getElem?_map, List.getElem?_range hi]
    rfl
  · rintro H ⟨ys, h1, _, h3, h4⟩
    rw [List.take_of_length_le (Nat.le_of_eq (rgI_len lo n))] at h3
    exact fin ys H h1 h3 h4
end
end L2.Gd
end

section
set_option Elab.async false
set_option linter.all false
set_option maxRecDepth 100000
set_option maxHeartbeats 1000000
namespace L2.K14
open PySem PySem.Spec PyProof.Rows L2.Gd L2.Ln
/-! ### spans -/
def SpanV (L P : Nat) (ms : List Int) (one two : List Rw) (H : Hp) (k : Nat) (v : V) : Prop := ∃ (t : Addr) (p b q c : Nat), v = .ref t ∧ H t = some (.tup [oI (lowAt ms k), oI (highAt ms k), .int p, .int b, .int q, .int c]) ∧ RestAt L P one (lowAt ms k) (highAt ms k) p b ∧ RestAt L P two (lowAt ms k) (highAt ms k) q c
theorem SpanV.same {L P : Nat} {ms : List Int} {one two : List Rw} {H H' : Hp} {k : Nat} {v : V} (s : Same H H') (h : SpanV L P ms one two H k v) : SpanV L P ms one two H' k v := let ⟨t, p, b, q, c, e, ht, r⟩ := h; ⟨t, p, b, q, c, e, s _ _ ht, r⟩
/-- two lists of rows that can be asked together -/
structure PairAt (K : PySem.W.Frag) (Z : Zn) (L P : Nat) (H : Hp) (a b : Addr) (one two : List Rw) : Prop where
  ra : RowsK K H a one
  rb : RowsK K H b two
  la : Ln_ Z L one
  lb : Ln_ Z L two
  zo : Z.Ok L
  fa : one.length ≤ 13
  fb : two.length ≤ 13
  pa : ∀ r ∈ one, r.p ≤ P
  pb : ∀ r ∈ two, r.p ≤ P
  P1 : 1 ≤ P
def spSpn (K : PySem.W.Frag) : Sp := fun vs H Q _ => ∃ (a b : Addr) (one two : List Rw) (Z : Zn) (L P : Nat), vs = [.ref a, .ref b] ∧ PairAt K Z L P H a b one two ∧ ∀ (l : Addr) (ms : List Int) (vs' : List V) (H' : Hp), H l = none → Same H H' → H' l = some (.lst vs') → Asc ms → (∀ m ∈ ms, ∃ c ∈ Z.cs, c - Z.w ≤ m ∧ m ≤ c + Z.w + 1) → ms.length ≤ 52 → vs'.length = ms.length + 1 → (∀ k v, vs'[k]? = some v → SpanV L P ms one two H' k v) → Q (.ref l) H'
abbrev NSpn : List Str := ["one", "two", "marks", "lows", "highs", "left", "right", "mark", "k"]
theorem scSpn : FnScope NSpn P2r (defScope (top 54)) := ⟨rfl, rfl, rfl, by decide +kernel, rfl, by decide +kernel, by decide +kernel⟩
theorem highsV_at {ms : List Int} {k : Nat} (h : k ≤ ms.length) : ((ms.map fun m => m - 1).map V.int ++ [V.non])[k]? = some (oI (highAt ms k)) := by
  have el : ((ms.map fun m => m - 1).map V.int).length = ms.length := by rw [List.length_map, List.length_map]
  unfold highAt
  by_cases c : k < ms.length
  · rw [List.getElem?_append_left (by omega), List.getElem?_map, List.getElem?_map, List.getElem?_eq_getElem c]
    rfl
  · have ek : k = ms.length := by omega
    have e0 : ms[k]? = none := List.getElem?_eq_none (by omega)
    have e1 : ((ms.map fun m => m - 1).map V.int ++ [V.non])[k]? = some V.non := by
      rw [List.getElem?_append_right (by omega), el, ek, Nat.sub_self]
      rfl
    rw [e1, e0]
    rfl
section
variable {P : Program} {w : World} {K : PySem.W.Frag} {mg : Str → Option Value} {base : Heap}
theorem ok_spn {f : Addr} {fd : FuncData} (F : Fun K "spans" "spans" (top 54) f fd) (n : Nm mg) (hset : mg "set" = none) (MK : Fn P w K mg base 1 "marks_of" ["rows"] (spMk K)) (RF : Fn P w K mg base 1 "rests_from" ["rows", "lows"] (spRf K)) : FnOk P w K mg base CX0 2 f fd P2r (spSpn K) := by
  refine F.ok scSpn (fun vs H Q E h => ?_) (fun cdv A outer s H vs Q E hr h => ?_)
  · obtain ⟨a, b, one, two, Z, L, P', rfl, _⟩ := h
    rfl
  · obtain ⟨a, b, one, two, Z, L, P', rfl, g, q⟩ := h
    have nd := scSpn.nd
    have sl := sizeLine_eq
    refine ⟨_, pss_cons (ps_set (i := 2) nd rfl (.inl rfl) (pe_callB (cr_sortedSet rfl) (by rfl) n.sorted (by decide +kernel) (pa_cons (pe_callTy (cr_setLI rfl) (by rfl) hset (by decide +kernel) (pa_cons (pe_op op_cat (pe_fn MK hr (pa_cons (pv 0) pa_nil)) (pe_fn MK hr (pa_cons (pv 1) pa_nil))) pa_nil)) pa_nil)))
      (pss_cons (ps_set (i := 3) nd rfl (.inr rfl) (pe_op op_cat (pe_lst (pa_cons pe_non pa_nil)) (pv 2)))
      (pss_cons (ps_set (i := 4) nd rfl (.inr rfl) (pe_op op_cat (pe_lc (own := [("mark", 7)]) (g := gName 7) (tt := tYes) rfl nd (pi_list (pv 2)) (blkOk_by (N := NSpn) (sc := defScope (top 54)) (by decide +kernel)) (fun _ _ _ _ _ => pg_name (i := 7) nd rfl (.inl rfl)) (fun _ _ _ _ _ => pts_nil) (fun _ _ _ _ _ => pe_op op_sub (pv 7) pe_int)) (pe_lst (pa_cons pe_non pa_nil))))
      (pss_cons (ps_asg (pe_tup (pa_cons (pe_fn RF hr (pa_cons (pv 0) (pa_cons (pv 3) pa_nil))) (pa_cons (pe_fn RF hr (pa_cons (pv 1) (pa_cons (pv 3) pa_nil))) pa_nil))) (pg_tup rfl (pgs_cons (pg_name (i := 5) nd rfl (.inr rfl)) (pgs_cons (pg_name (i := 6) nd rfl (.inr rfl)) pgs_nil))))
      (pss_one (ps_ret (pe_lc (own := [("k", 8)]) (g := gName 8) (tt := tYes) rfl nd (pi_range1 (by rfl) n.range (pa_cons (pe_callB call_len_seq (by rfl) n.len PySem.boot_len (pa_cons (pv 3) pa_nil)) pa_nil)) (blkOk_by (N := NSpn) (sc := defScope (top 54)) (by decide +kernel)) (fun _ _ _ _ _ => pg_name (i := 8) nd rfl (.inl rfl)) (fun _ _ _ _ _ => pts_nil)
        (fun _ _ _ _ _ => pe_op (r := rCatT K) op_catT (pe_op (r := rCatT K) op_catT (pe_tup (pa_cons (pe_ix (r := rIxL K) ix_list (pv 3) (pv 8) (fun _ _ => rfl)) (pa_cons (pe_ix (r := rIxL K) ix_list (pv 4) (pv 8) (fun _ _ => rfl)) pa_nil))) (pe_ix (r := rIxL K) ix_list (pv 5) (pv 8) (fun _ _ => rfl))) (pe_ix (r := rIxL K) ix_list (pv 6) (pv 8) (fun _ _ => rfl))))))))), ?_⟩
    -- marks
    refine seqV (Good := fun σ2 H2 => ∃ (m : Addr) (ms : List Int), Same H H2 ∧ H2 m = some (.lst (ms.map V.int)) ∧ Asc ms ∧ (∀ k : Int, k ∈ ms ↔ (k ∈ marksL one ∨ k ∈ marksL two)) ∧ ms.length ≤ 52 ∧ σ2 = [some (.ref a), some (.ref b), some (.ref m), none, none, none, none, none, none]) ?_ ?_
    · intro nx hnx
      have l1 := marks_len one
      have l2 := marks_len two
      have fa := g.fa
      have fb := g.fb
      refine ⟨_, rfl, a, one, rfl, g.ra, by omega, fun m1 H1 n1 s1 hm1 => ?_⟩
      refine ⟨_, rfl, b, two, rfl, g.rb.same s1, by omega, fun m2 H2 n2 s2 hm2 => ?_⟩
      refine ⟨m1, m2, _, _, rfl, rfl, s2 _ _ hm1, hm2, by rw [List.length_map, List.length_map, sl]; omega, fun m3 n3 => ?_⟩
      have s3 := same_upd (o := .lst ((marksL one).map V.int ++ (marksL two).map V.int)) n3
      refine ⟨m3, marksL one ++ marksL two, rfl, by rw [upd_same, List.map_append], by rw [List.length_append]; omega, fun p4 c le4 n4 => ?_⟩
      have s4 := same_upd (o := SetO w p4 (fun j => decide (j ∈ marksL one ++ marksL two)) c) n4
      rw [List.length_append] at le4
      refine ⟨p4, _, c, rfl, upd_same, by omega, fun ns p5 asc mem len n5 => ?_⟩
      have s5 := same_upd (o := .lst (ns.map V.int)) n5
      refine hnx _ _ ⟨p5, ns, s1.trans (s2.trans (s3.trans (s4.trans s5))), upd_same, asc, fun k => ?_, by omega, rfl⟩
      rw [mem k, decide_eq_true_eq, List.mem_append]
    rintro _ H2 ⟨m, ms, s2, hm, asc, mem, ml, rfl⟩
    have mk1 : Marks ms one := ⟨fun r hr l e => (mem l).mpr (.inl (marks_lo hr e)), fun r hr l e => (mem _).mpr (.inl (marks_hi hr e))⟩
    have mk2 : Marks ms two := ⟨fun r hr l e => (mem l).mpr (.inr (marks_lo hr e)), fun r hr l e => (mem _).mpr (.inr (marks_hi hr e))⟩
    have mb : ∀ x ∈ ms, ∃ c ∈ Z.cs, c - Z.w ≤ x ∧ x ≤ c + Z.w + 1 := fun x hx => ((mem x).mp hx).elim (marks_in g.la.lm) (marks_in g.lb.lm)
    have lvl : (lowsV ms).length = ms.length + 1 := by unfold lowsV; rw [List.length_cons, List.length_map]
    -- lows
    refine seqV (Good := fun σ2 H3 => ∃ lo : Addr, Same H2 H3 ∧ H3 lo = some (.lst (lowsV ms)) ∧ σ2 = [some (.ref a), some (.ref b), some (.ref m), some (.ref lo), none, none, none, none, none]) ?_ ?_
    · intro nx hnx
      refine ⟨(by show 1 ≤ sizeLine; decide), fun o ho => ?_⟩
      have s3 := same_upd (o := .lst [V.non]) ho
      refine ⟨_, rfl, o, m, _, _, rfl, rfl, upd_same, s3 _ _ hm, by rw [List.length_map, sl]; show 1 + ms.length ≤ _; omega, fun o2 ho2 => ?_⟩
      exact hnx _ _ ⟨o2, s3.trans (same_upd ho2), upd_same, rfl⟩
    rintro _ H3 ⟨lo, s3, hlo, rfl⟩
    -- highs
    refine seqV (Good := fun σ2 H4 => ∃ hi : Addr, Same H3 H4 ∧ H4 hi = some (.lst ((ms.map fun m => m - 1).map V.int ++ [V.non])) ∧ σ2 = [some (.ref a), some (.ref b), some (.ref m), some (.ref lo), some (.ref hi), none, none, none, none]) ?_ ?_
    · intro nx hnx
      have hm3 := s3 _ _ hm
      refine ⟨_, rfl, m, rfl, ⟨_, .inl (.inl hm3)⟩, fun D hD => ?_⟩
      refine lc_mapL (es := ms) (F := fun _ v i => v = V.int i) (G := fun _ v b => v = V.int b) (f := fun i => some (i - 1)) (fun _ _ _ _ _ _ z => z) hm3 hD (by rw [List.length_map]; omega) (paired_int ms) ?_ ?_
      · rintro x i H4 A B hi rfl bt ⟨zs, hz⟩ hA hB
        exact ⟨rfl, yes_ite ⟨_, rfl, _, _, rfl, rfl, hA _ _ H4 rfl (fun _ _ z => z) rfl⟩⟩
      · intro zs H4 h1 h2 h3
        have e : ms.filterMap (fun i => some (i - 1)) = ms.map fun m => m - 1 := by rw [List.filterMap_eq_map']
        rw [e] at h2
        rw [ints_of h2] at h1
        have s4 := h3.new hD
        refine ⟨(by show 1 ≤ sizeLine; decide), fun o ho => ?_⟩
        have s5 := same_upd (o := .lst [V.non]) ho
        refine ⟨D, o, _, _, rfl, rfl, s5 _ _ h1, upd_same, by rw [List.length_map, List.length_map, sl]; show ms.length + 1 ≤ _; omega, fun o2 ho2 => ?_⟩
        exact hnx _ _ ⟨o2, s4.trans (s5.trans (same_upd ho2)), upd_same, rfl⟩
    rintro _ H4 ⟨hi, s4, hhi, rfl⟩
    have s04 := s2.trans (s3.trans s4)
    -- left, right
    refine seqV (Good := fun σ2 H5 => ∃ (le ri : Addr) (ls rs : List V), Same H4 H5 ∧ H5 le = some (.lst ls) ∧ H5 ri = some (.lst rs) ∧ ls.length = ms.length + 1 ∧ rs.length = ms.length + 1 ∧ (∀ k v, ls[k]? = some v → RestV L P' ms one H5 k v) ∧ (∀ k v, rs[k]? = some v → RestV L P' ms two H5 k v) ∧ σ2 = [some (.ref a), some (.ref b), some (.ref m), some (.ref lo), some (.ref hi), some (.ref le), some (.ref ri), none, none]) ?_ ?_
    · intro nx hnx
      refine ⟨_, rfl, _, rfl, a, lo, one, ms, Z, L, P', rfl, g.ra.same s04, s4 _ _ hlo, asc, mk1, g.la, g.zo, g.pa, g.P1, by omega, fun l5 ls H5 n5 s5 hl5 ll5 k5 => ?_⟩
      refine ⟨_, rfl, _, rfl, b, lo, two, ms, Z, L, P', rfl, g.rb.same (s04.trans s5), s5 _ _ (s4 _ _ hlo), asc, mk2, g.lb, g.zo, g.pb, g.P1, by omega, fun l6 rs H6 n6 s6 hl6 ll6 k6 => ?_⟩
      refine ⟨(by show 2 ≤ sizeLine; decide), fun o ho => ?_⟩
      have s7 := same_upd (o := .tup [V.ref l5, V.ref l6]) ho
      refine ⟨o, _, rfl, .inl (.inl upd_same), rfl, _, _, rfl, _, _, rfl, rfl, gn (gn (hnx _ _ ⟨l5, l6, ls, rs, s5.trans (s6.trans s7), s7 _ _ (s6 _ _ hl5), s7 _ _ hl6, ll5, ll6, fun k v e => (k5 k v e).same (s6.trans s7), fun k v e => (k6 k v e).same s7, rfl⟩))⟩
    rintro _ H5 ⟨le, ri, ls, rs, s5, hle, hri, ll, rl, kl, kr, rfl⟩
    have hlo5 := s5 _ _ (s4 _ _ hlo)
    have hhi5 := s5 _ _ hhi
    refine ⟨_, rfl, lo, _, rfl, .inl (.inl (.inl hlo5)), ((lowsV ms).length : Int), rfl, by omega, by omega, fun D hD => ?_⟩
    rw [lvl, Int.toNat_natCast]
    refine lc_range (lo := 0) (n := ms.length + 1) (fun i H6 => ∃ zs : List V, Same H5 H6 ∧ H6 D = some (.lst zs) ∧ zs.length = i ∧ ∀ k v, zs[k]? = some v → SpanV L P' ms one two H6 k v) ⟨[], same_upd hD, upd_same, rfl, fun k v e => by simp at e⟩ (fun i H6 hi6 h => ?_) fun H6 h => ?_
    · obtain ⟨zs, s6, hD6, zl, kz⟩ := h
      have im : i ≤ ms.length := by omega
      have eL : ls[i]? = some ls[i] := List.getElem?_eq_getElem (by omega)
      have eR : rs[i]? = some rs[i] := List.getElem?_eq_getElem (by omega)
      obtain ⟨t1, p, b1, e1, ht1, ra1⟩ := kl i _ eL
      obtain ⟨t2, q2, c, e2, ht2, ra2⟩ := kr i _ eR
      rw [e1] at eL
      rw [e2] at eR
      refine ⟨rfl, yes_ite ?_⟩
      have ai : ∀ {xs : List V} {y : V}, xs[i]? = some y → atI xs (0 + (i : Int)) = some y := fun h => by
        rw [Int.zero_add]
        exact atI_nat h
      refine ⟨_, rfl, _, rfl, lo, _, _, _, rfl, rfl, .inl (.inl (s6 _ _ hlo5)), ai (lowsV_at im), _, rfl, _, rfl, _, _, _, _, rfl, rfl, .inl (.inl (s6 _ _ hhi5)), ai (highsV_at im), (by show 2 ≤ sizeLine; decide), fun o1 ho1 => ?_⟩
      have s7 := same_upd (o := .tup [oI (lowAt ms i), oI (highAt ms i)]) ho1
      refine ⟨_, rfl, _, rfl, le, _, _, _, rfl, rfl, .inl (.inl (s7 _ _ (s6 _ _ hle))), ai eL, o1, t1, _, _, rfl, rfl, .inl (.inl upd_same), .inl (.inl (s7 _ _ (s6 _ _ ht1))), by simp, (by show 4 ≤ sizeLine; decide), (fun z => nomatch z), fun _ o2 ho2 => ?_⟩
      have s8 := same_upd (o := .tup ([oI (lowAt ms i), oI (highAt ms i)] ++ [V.int p, V.int b1])) ho2
      refine ⟨_, rfl, _, rfl, ri, _, _, _, rfl, rfl, .inl (.inl (s8 _ _ (s7 _ _ (s6 _ _ hri)))), ai eR, o2, t2, _, _, rfl, rfl, .inl (.inl upd_same), .inl (.inl (s8 _ _ (s7 _ _ (s6 _ _ ht2)))), by simp, (by show 6 ≤ sizeLine; decide), (fun z => nomatch z), fun _ o3 ho3 => ?_⟩
      have s9 := same_upd (o := .tup ([oI (lowAt ms i), oI (highAt ms i)] ++ [V.int p, V.int b1] ++ [V.int q2, V.int c])) ho3
      have s69 := s7.trans (s8.trans s9)
      have hD9 := s69 _ _ hD6
      have o3D : o3 ≠ D := (ne_of_none (s8 _ _ (s7 _ _ hD6)) ho3).symm
      refine ⟨zs, hD9, by rw [sl]; omega, zs ++ [.ref o3], ?_, upd_same, by rw [List.length_append, zl]; rfl, fun k v e => ?_⟩
      · exact same_at hD (s6.trans s69)
      · by_cases cc : k < zs.length
        · rw [List.getElem?_append_left cc] at e
          obtain ⟨t, p0, b0, q0, c0, f1, ht, rr⟩ := kz k v e
          refine ⟨t, p0, b0, q0, c0, f1, ?_, rr⟩
          rw [upd_ne (fun z => by rw [z, hD6] at ht; exact nomatch ht)]
          exact s69 _ _ ht
        · rw [List.getElem?_append_right (by omega)] at e
          have k0 : k - zs.length = 0 := by
            apply Classical.byContradiction
            intro z
            rw [List.getElem?_eq_none (by show 1 ≤ k - zs.length; omega)] at e
            exact nomatch e
          rw [k0] at e
          obtain rfl : v = .ref o3 := (Option.some.inj e).symm
          obtain rfl : k = i := by omega
          exact ⟨o3, p, b1, q2, c, rfl, by rw [upd_ne o3D, upd_same]; rfl, ra1, ra2⟩
    · obtain ⟨zs, s6, hD6, zl, kz⟩ := h
      exact q D ms zs H6 (Same.free (s04.trans s5) hD) (s04.trans (s5.trans s6)) hD6 asc mb ml zl kz
end
end L2.K14
end

section
set_option Elab.async false
set_option linter.all false
set_option maxRecDepth 100000
set_option maxHeartbeats 1000000
namespace L2.K14
open PySem PySem.Spec PyProof.Rows L2.Gd L2.Ln
/-! ### the joining of a span -/
inductive Wd where
  | or_
  | and_
  | less
def Wd.txt : Wd → Str
  | .or_ => "or"
  | .and_ => "and"
  | .less => "less"
def Wd.op : Wd → Bool → Bool → Bool
  | .or_ => fun a b => a || b
  | .and_ => fun a b => a && b
  | .less => fun a b => a && !b
def Wd.mk (x : Wd) (u v : Nat) : Nat :=
  match x with
  | .or_ => u ||| v
  | .and_ => u &&& v
  | .less => u ^^^ (u &&& v)
theorem Wd.made (x : Wd) {m u v : Nat} (h1 : u < 2 ^ m) (h2 : v < 2 ^ m) : Made x.op m u v (x.mk u v) := by
  cases x with
  | or_ => exact made_or h1 h2
  | and_ => exact made_and h1
  | less => exact made_less h1
section
variable {P : Program} {w : World} {K : PySem.W.Frag} {mg : Str → Option Value} {base : Heap}
def spJb : Sp := fun vs H Q _ => ∃ (x : Wd) (u v : Nat), vs = [.str x.txt, .int u, .int v] ∧ Q (.int (x.mk u v : Nat)) H
theorem scJb : FnScope ["word", "bits", "others"] ["word", "bits", "others"] (defScope (top 55)) := ⟨rfl, rfl, rfl, by decide +kernel, rfl, by decide +kernel, by decide +kernel⟩
theorem ok_jb {f : Addr} {fd : FuncData} (F : Fun K "joined_bits" "joined_bits" (top 55) f fd) : FnOk P w K mg base CX0 1 f fd ["word", "bits", "others"] spJb := by
  refine F.ok scJb (fun vs H Q E h => ?_) (fun cdv A outer s H vs Q E hr h => ?_)
  · obtain ⟨x, u, v, rfl, _⟩ := h
    rfl
  · obtain ⟨x, u, v, rfl, q⟩ := h
    refine ⟨_, pss_cons (ps_if (pt_cmpR op_eq (pv 0) pe_str (nomark _)) (pss_one (ps_ret (pe_op op_or (pv 1) (pv 2)))) pss_nil)
      (pss_cons (ps_if (pt_cmpR op_eq (pv 0) pe_str (nomark _)) (pss_one (ps_ret (pe_op op_and (pv 1) (pv 2)))) pss_nil)
      (pss_one (ps_ret (pe_op op_xor (pv 1) (pe_op op_and (pv 1) (pv 2)))))), ?_⟩
    cases x with
    | or_ =>
      refine ⟨_, rfl, rfl, true, rfl, iteT ⟨_, rfl, _, rfl, _, _, rfl, rfl, ?_⟩⟩
      have q : Q (.int ((u ||| v : Nat) : Int)) H := q
      rw [← or_nat] at q
      exact q
    | and_ =>
      refine ⟨_, rfl, rfl, false, rfl, iteF ⟨_, rfl, rfl, true, rfl, iteT ⟨_, rfl, _, rfl, _, _, rfl, rfl, ?_⟩⟩⟩
      have q : Q (.int ((u &&& v : Nat) : Int)) H := q
      rw [← and_nat] at q
      exact q
    | less =>
      refine ⟨_, rfl, rfl, false, rfl, iteF ⟨_, rfl, rfl, false, rfl, iteF ⟨_, rfl, _, rfl, _, rfl, _, _, rfl, rfl, _, _, rfl, rfl, ?_⟩⟩⟩
      have q : Q (.int ((u ^^^ (u &&& v) : Nat) : Int)) H := q
      rw [← xor_nat, ← and_nat] at q
      exact q
def rLcm : List V → Hp → VK → Prop := fun vs H Q => ∃ a b : Nat, vs = [.int a, .int b] ∧ a < 2 ^ 64 ∧ b < 2 ^ 64 ∧ Q (.int ((Nat.lcm a b : Nat) : Int)) H
theorem cr_lcm {X : Cx} : CallR X (.builtin "math.lcm") rLcm := by
  intro pins s σ H vs us Q I r h
  obtain ⟨a, b, rfl, ha, hb, q⟩ := h
  obtain ⟨t, u, rfl⟩ := Vals.int2 r
  exact PySem.W.mc_lcm (by omega) (by omega) fun _ => ⟨.int _, H, I.tok _, ⟨_, rfl⟩, q⟩
/-- what a span has -/
structure JrIn (lo hi : Option Int) (p b q c : Nat) : Prop where
  p0 : 0 < p
  q0 : 0 < q
  bl : b < 2 ^ p
  cl : c < 2 ^ q
  pm : p ≤ 100000
  qm : q ≤ 100000
  le : ∀ l h, lo = some l → hi = some h → l ≤ h
  sm : Nat.lcm p q ≤ 100000 ∨ ∃ l h, lo = some l ∧ hi = some h ∧ h - l + 1 ≤ 100000
/-- what is made of it -/
structure JrOut (x : Wd) (lo hi : Option Int) (p b q c : Nat) (r : Rw) : Prop where
  ok : r.Ok
  lo_ : r.lo = lo
  hi_ : r.hi = hi
  i : ∀ n, InSp lo hi n → pat r.p r.b n = x.op (pat p b n) (pat q c n)
  pd : r.p = Nat.lcm p q ∨ ∃ l h, lo = some l ∧ hi = some h ∧ h - l + 1 < Nat.lcm p q
  pm : r.p ≤ 100000
def spJr : Sp := fun vs H Q _ => ∃ (x : Wd) (t : Addr) (lo hi : Option Int) (p b q' c : Nat), vs = [.str x.txt, .ref t] ∧ H t = some (.tup [oI lo, oI hi, .int p, .int b, .int q', .int c]) ∧ JrIn lo hi p b q' c ∧ ∀ (o : Addr) (r : Rw) (H' : Hp), H o = none → Same H H' → H' o = some (.tup (Rvs r)) → JrOut x lo hi p b q' c r → Q (.ref o) H'
abbrev NJr : List Str := ["word", "span", "low", "high", "step", "bits", "other_step", "other_bits", "many", "size", "first", "made"]
theorem scJr : FnScope NJr ["word", "span"] (defScope (top 56)) := ⟨rfl, rfl, rfl, by decide +kernel, rfl, by decide +kernel, by decide +kernel⟩
theorem jr_out {x : Wd} {lo hi : Option Int} {p b q c : Nat} (g : JrIn lo hi p b q c) {s : Nat} {f : Int} {w1 w2 : Nat} (s0 : 0 < s) (sm : s ≤ 100000) (sc : s = Nat.lcm p q ∨ ∃ l h, lo = some l ∧ hi = some h ∧ (s : Int) = h - l + 1 ∧ s < Nat.lcm p q) (fl : ∀ l, lo = some l → f = l) (h1 : WinAt p b f s w1) (h2 : WinAt q c f s w2) : JrOut x lo hi p b q c ⟨lo, hi, s, turnN (x.mk w1 w2) s f⟩ := by
  have m := x.made h1.l h2.l
  refine ⟨⟨s0, turn_lt _ _ _, g.le⟩, rfl, rfl, fun n hn => ?_, ?_, sm⟩
  · rcases sc with rfl | ⟨l, h, e1, e2, es, _⟩
    · exact join_all g.p0 g.q0 (Nat.dvd_lcm_left p q) (Nat.dvd_lcm_right p q) s0 h1 h2 m n
    · have a := hn.1 l e1
      have d := hn.2 h e2
      have := fl l e1
      exact join_span s0 h1 h2 m (by omega) (by omega)
  · rcases sc with e | ⟨l, h, e1, e2, es, lt⟩
    · exact .inl e
    · exact .inr ⟨l, h, e1, e2, by omega⟩
theorem ok_jr {f : Addr} {fd : FuncData} {tk : Tok} (F : Fun K "joined_row" "joined_row" (top 56) f fd) (n : Nm mg) (hl : mg "lcm" = some (.builtin "math.lcm")) (gr : mg "GREATEST" = some (.int 6350400 tk)) (LE : Fn P w K mg base 1 "length_of" ["low", "high"] spLen) (JB : Fn P w K mg base 1 "joined_bits" ["word", "bits", "others"] spJb) (WI : Fn P w K mg base 3 "window" ["step", "bits", "low", "many"] spWi)
    (TU : Fn P w K mg base 2 "turned" ["bits", "step", "by"] spTu) : FnOk P w K mg base CX0 4 f fd ["word", "span"] spJr := by
  refine F.ok scJr (fun vs H Q E h => ?_) (fun cdv A outer s H vs Q E hr h => ?_)
  · obtain ⟨x, t, lo, hi, p, b, q', c, rfl, _⟩ := h
    rfl
  · obtain ⟨x, t, lo, hi, p, b, q', c, rfl, ht, g, q⟩ := h
    have nd := scJr.nd
    have r1 := hr.mono (k := 3) (j := 1) (by decide)
    have r2 := hr.mono (k := 3) (j := 2) (by decide)
    refine ⟨_, pss_cons (ps_asg (pv 1) (pg_tup rfl (pgs_cons (pg_name (i := 2) nd rfl (.inl rfl)) (pgs_cons (pg_name (i := 3) nd rfl (.inl rfl)) (pgs_cons (pg_name (i := 4) nd rfl (.inl rfl)) (pgs_cons (pg_name (i := 5) nd rfl (.inl rfl)) (pgs_cons (pg_name (i := 6) nd rfl (.inl rfl)) (pgs_cons (pg_name (i := 7) nd rfl (.inl rfl)) pgs_nil))))))))
      (pss_cons (ps_par (i := 8) (j := 9) rfl nd rfl rfl (by decide) rfl rfl (pa_cons (pe_fn LE r1 (pa_cons (pv 2) (pa_cons (pv 3) pa_nil))) (pa_cons (pe_callBfun cr_lcm (by rfl) hl (pa_cons (pv 4) (pa_cons (pv 6) pa_nil))) pa_nil)) (by rfl))
      (pss_cons (ps_if (pt_cmp (pc_notN (pv 8))) (pss_one (ps_set (i := 9) nd rfl (.inl rfl) (pe_callB (call_min2 rfl) (by rfl) n.min (by decide +kernel) (pa_cons (pv 9) (pa_cons (pv 8) pa_nil))))) pss_nil)
      (pss_cons (ps_if (pt_cmpR op_gt (pv 9) (pe_glob (v := .int 6350400) (by rfl) gr ⟨_, rfl⟩) (nomark _)) pss_never pss_nil)
      (pss_cons (ps_set (i := 10) nd rfl (.inl rfl) (pv 2))
      (pss_cons (ps_if (pt_cmp (pc_isN (pv 2))) (pss_one (ps_set (i := 10) nd rfl (.inl rfl) (pe_ifExp (pt_cmp (pc_isN (pv 3))) pe_int (pe_op op_add (pe_op op_sub (pv 3) (pv 9)) pe_int)))) pss_nil)
      (pss_cons (ps_set (i := 11) nd rfl (.inl rfl) (pe_fn JB r1 (pa_cons (pv 0) (pa_cons (pe_fn WI hr (pa_cons (pv 4) (pa_cons (pv 5) (pa_cons (pv 10) (pa_cons (pv 9) pa_nil))))) (pa_cons (pe_fn WI hr (pa_cons (pv 6) (pa_cons (pv 7) (pa_cons (pv 10) (pa_cons (pv 9) pa_nil))))) pa_nil)))))
      (pss_one (ps_ret (pe_tup (pa_cons (pv 2) (pa_cons (pv 3) (pa_cons (pv 9) (pa_cons (pe_fn TU r2 (pa_cons (pv 11) (pa_cons (pv 9) (pa_cons (pv 10) pa_nil)))) pa_nil))))))))))))), ?_⟩
    refine seqV (Good := fun σ2 H2 => H = H2 ∧ σ2 = [some (.str x.txt), some (.ref t), some (oI lo), some (oI hi), some (.int p), some (.int b), some (.int q'), some (.int c), none, none, none, none]) (fun nx hnx => ⟨_, rfl, t, _, rfl, .inl (.inl ht), rfl, _, _, rfl, _, _, rfl, _, _, rfl, _, _, rfl, _, _, rfl, _, _, rfl, rfl, hnx _ _ ⟨rfl, rfl⟩⟩) ?_
    rintro _ _ ⟨rfl, rfl⟩
    have p0 := g.p0
    have q0 := g.q0
    have pm := g.pm
    have qm := g.qm
    have l0 : 0 < Nat.lcm p q' := Nat.lcm_pos p0 q0
    refine seqV (Good := fun σ2 H2 => H = H2 ∧ σ2 = [some (.str x.txt), some (.ref t), some (oI lo), some (oI hi), some (.int p), some (.int b), some (.int q'), some (.int c), some (oI (lenO lo hi)), some (.int (Nat.lcm p q' : Nat)), none, none]) (fun nx hnx => ⟨_, rfl, _, rfl, lo, hi, rfl, _, rfl, _, rfl, p, q', rfl, by omega, by omega, _, _, rfl, hnx _ _ ⟨rfl, rfl⟩⟩) ?_
    rintro _ _ ⟨rfl, rfl⟩
    -- size
    refine seqV (Good := fun σ2 H2 => ∃ s : Nat, 0 < s ∧ s ≤ 100000 ∧ (s = Nat.lcm p q' ∨ ∃ l h, lo = some l ∧ hi = some h ∧ (s : Int) = h - l + 1 ∧ s < Nat.lcm p q') ∧ H = H2 ∧ σ2 = [some (.str x.txt), some (.ref t), some (oI lo), some (oI hi), some (.int p), some (.int b), some (.int q'), some (.int c), some (oI (lenO lo hi)), some (.int s), none, none]) ?_ ?_
    · intro nx hnx
      cases lo with
      | none =>
        have sm : Nat.lcm p q' ≤ 100000 := g.sm.elim id fun ⟨_, _, e, _⟩ => nomatch e
        exact ⟨_, rfl, false, rfl, iteF (hnx _ _ ⟨_, l0, sm, .inl rfl, rfl, rfl⟩)⟩
      | some l =>
        cases hi with
        | none =>
          have sm : Nat.lcm p q' ≤ 100000 := g.sm.elim id fun ⟨_, _, _, e, _⟩ => nomatch e
          exact ⟨_, rfl, false, rfl, iteF (hnx _ _ ⟨_, l0, sm, .inl rfl, rfl, rfl⟩)⟩
        | some h =>
          have lh := g.le l h rfl rfl
          have sm : Nat.lcm p q' ≤ 100000 ∨ h - l + 1 ≤ 100000 := g.sm.imp id fun ⟨l', h', e1, e2, z⟩ => by cases e1; cases e2; exact z
          refine ⟨_, rfl, true, rfl, iteT ⟨_, rfl, _, rfl, _, _, rfl, ?_⟩⟩
          by_cases cc : h - l + 1 < ((Nat.lcm p q' : Nat) : Int)
          · have e : (if h - l + 1 < ((Nat.lcm p q' : Nat) : Int) then h - l + 1 else ((Nat.lcm p q' : Nat) : Int)) = (((h - l + 1).toNat : Nat) : Int) := by
              rw [if_pos cc]
              omega
            refine hnx _ _ ⟨(h - l + 1).toNat, by omega, by omega, .inr ⟨l, h, rfl, rfl, by omega⟩, rfl, ?_⟩
            rw [← e]
            rfl
          · have e : (if h - l + 1 < ((Nat.lcm p q' : Nat) : Int) then h - l + 1 else ((Nat.lcm p q' : Nat) : Int)) = ((Nat.lcm p q' : Nat) : Int) := by rw [if_neg cc]
            refine hnx _ _ ⟨Nat.lcm p q', l0, by omega, .inl rfl, rfl, ?_⟩
            rw [if_neg cc]
            rfl
    rintro _ _ ⟨s', s0, sm, sc, rfl, rfl⟩
    refine seqV (Good := fun σ2 H2 => H = H2 ∧ σ2 = [some (.str x.txt), some (.ref t), some (oI lo), some (oI hi), some (.int p), some (.int b), some (.int q'), some (.int c), some (oI (lenO lo hi)), some (.int s'), none, none]) (fun nx hnx => ⟨_, rfl, _, _, rfl, rfl, decide ((6350400 : Int) < s'), rfl, by
      rw [decide_eq_false (by omega)]
      exact iteF (hnx _ _ ⟨rfl, rfl⟩)⟩) ?_
    rintro _ _ ⟨rfl, rfl⟩
    refine seqV (Good := fun σ2 H2 => H = H2 ∧ σ2 = [some (.str x.txt), some (.ref t), some (oI lo), some (oI hi), some (.int p), some (.int b), some (.int q'), some (.int c), some (oI (lenO lo hi)), some (.int s'), some (oI lo), none]) (fun nx hnx => ⟨_, rfl, hnx _ _ ⟨rfl, rfl⟩⟩) ?_
    rintro _ _ ⟨rfl, rfl⟩
    refine seqV (Good := fun σ2 H2 => ∃ f : Int, (∀ l, lo = some l → f = l) ∧ H = H2 ∧ σ2 = [some (.str x.txt), some (.ref t), some (oI lo), some (oI hi), some (.int p), some (.int b), some (.int q'), some (.int c), some (oI (lenO lo hi)), some (.int s'), some (.int f), none]) ?_ ?_
    · intro nx hnx
      cases lo with
      | some l => exact ⟨_, rfl, false, rfl, iteF (hnx _ _ ⟨l, (fun _ e => by cases e; rfl), rfl, rfl⟩)⟩
      | none =>
        cases hi with
        | none => exact ⟨_, rfl, true, rfl, iteT ⟨_, rfl, true, rfl, iteT (hnx _ _ ⟨0, (fun _ e => nomatch e), rfl, rfl⟩)⟩⟩
        | some h => exact ⟨_, rfl, true, rfl, iteT ⟨_, rfl, false, rfl, iteF ⟨_, rfl, _, rfl, _, _, rfl, rfl, _, _, rfl, rfl, hnx _ _ ⟨h - s' + 1, (fun _ e => nomatch e), rfl, rfl⟩⟩⟩⟩
    rintro _ _ ⟨f0, fl, rfl, rfl⟩
    refine seqV (Good := fun σ2 H2 => ∃ w1 w2 : Nat, WinAt p b f0 s' w1 ∧ WinAt q' c f0 s' w2 ∧ H = H2 ∧ σ2 = [some (.str x.txt), some (.ref t), some (oI lo), some (oI hi), some (.int p), some (.int b), some (.int q'), some (.int c), some (oI (lenO lo hi)), some (.int s'), some (.int f0), some (.int (x.mk w1 w2 : Nat))]) ?_ ?_
    · intro nx hnx
      exact ⟨_, rfl, _, rfl, _, rfl, _, rfl, _, rfl, p, b, s', f0, rfl, p0, pm, sm, g.bl, fun w1 h1 => ⟨_, rfl, _, rfl, _, rfl, _, rfl, q', c, s', f0, rfl, q0, qm, sm, g.cl, fun w2 h2 => ⟨x, w1, w2, rfl, hnx _ _ ⟨w1, w2, h1, h2, rfl, rfl⟩⟩⟩⟩
    rintro _ _ ⟨w1, w2, h1, h2, rfl, rfl⟩
    refine ⟨_, rfl, _, rfl, _, rfl, _, rfl, _, rfl, _, rfl, x.mk w1 w2, s', f0, rfl, s0, by omega, (x.made h1.l h2.l).l, (by show 4 ≤ sizeLine; decide), fun o ho => ?_⟩
    exact q o ⟨lo, hi, s', turnN (x.mk w1 w2) s' f0⟩ _ ho (same_upd ho) upd_same (jr_out g s0 sm sc fl h1 h2)
end
end L2.K14
end

section
set_option Elab.async false
set_option linter.all false
set_option maxRecDepth 100000
set_option maxHeartbeats 1000000
namespace L2.K14
open PySem PySem.Spec PyProof.Rows L2.Gd L2.Ln
/-! ### what two lists make together -/
theorem up_up {Z : Zn} {a b : Int} : (Z.up a).up b = Z.up (a + b) := by
  show Zn.mk _ _ = Zn.mk _ _
  congr 1
  show Z.w + a + b = Z.w + (a + b)
  omega
theorem lowAt_mem {ms : List Int} {k : Nat} {a : Int} (e : lowAt ms k = some a) : a ∈ ms := by
  cases k with
  | zero => exact nomatch e
  | succ k => exact List.mem_of_getElem? (show ms[k]? = some a from e)
theorem highAt_mem {ms : List Int} {k : Nat} {a : Int} (e : highAt ms k = some a) : a + 1 ∈ ms := by
  unfold highAt at e
  obtain ⟨c, hc, e⟩ := Option.map_eq_some_iff.mp e
  have : a + 1 = c := by omega
  rw [this]
  exact List.mem_of_getElem? hc
theorem nts_per {Z : Zn} {L : Nat} {rs : List Rw} (k : Z.Ok L) (h : NtS Z L rs) : ∀ r ∈ rs, r.p ≤ 2520 := fun r hr => lm_p k (h.ln.nt.nt r hr) (h.ln.lm r hr)
theorem jr_in {L P : Nat} {one two : List Rw} {ms : List Int} {k p b q c : Nat} (asc : Asc ms) (L0 : 0 < L) (Lb : L ≤ 2520) (Pb : P ≤ 50000) (h1 : RestAt L P one (lowAt ms k) (highAt ms k) p b) (h2 : RestAt L P two (lowAt ms k) (highAt ms k) q c) : JrIn (lowAt ms k) (highAt ms k) p b q c := by
  refine ⟨h1.p0, h2.p0, h1.bl, h2.bl, Nat.le_trans h1.pP (by omega), Nat.le_trans h2.pP (by omega), fun l h e1 e2 => span_le asc e1 e2, ?_⟩
  rcases h1.pd with d1 | ⟨l, h, e1, e2, le⟩
  · rcases h2.pd with d2 | ⟨l, h, e1, e2, le⟩
    · exact .inl (Nat.le_trans (Nat.le_of_dvd L0 (Nat.lcm_dvd d1 d2)) (by omega))
    · exact .inr ⟨l, h, e1, e2, by omega⟩
  · exact .inr ⟨l, h, e1, e2, by omega⟩
theorem jr_joined {x : Wd} {L P : Nat} {one two : List Rw} {ms : List Int} {k p b q c : Nat} {r : Rw} (L0 : 0 < L) (Lb : L ≤ 2520) (h1 : RestAt L P one (lowAt ms k) (highAt ms k) p b) (h2 : RestAt L P two (lowAt ms k) (highAt ms k) q c) (o : JrOut x (lowAt ms k) (highAt ms k) p b q c r) : Joined x.op L ms one two k r :=
  ⟨o.ok, o.lo_, o.hi_, fun n hn => by rw [o.i n hn, rest_eq h1 hn, rest_eq h2 hn], by
    rw [o.lo_, o.hi_]
    rcases h1.pd with d1 | z
    · rcases h2.pd with d2 | z
      · have dl := Nat.lcm_dvd d1 d2
        rcases o.pd with e | ⟨l, h, e1, e2, lt⟩
        · exact .inl (e ▸ dl)
        · have := Nat.le_of_dvd L0 dl
          exact .inr ⟨l, h, e1, e2, by omega⟩
      · exact .inr z
    · exact .inr z⟩
/-- two lists that are asked together, and what they make -/
def spCm (K : PySem.W.Frag) : Sp := fun vs H Q _ => ∃ (x : Wd) (a b : Addr) (one two : List Rw) (Z : Zn) (L : Nat), vs = [.str x.txt, .ref a, .ref b] ∧ RowsK K H a one ∧ RowsK K H b two ∧ NtS Z L one ∧ NtS Z L two ∧ (Z.up (1 + L)).Ok L ∧
  ∀ (l : Addr) (out : List Rw) (H' : Hp), H l = none → Same H H' → RowsAt H' l out → NtS (Z.up (1 + L)) L out → (∀ n, inLB out n = x.op (inLB one n) (inLB two n)) → Q (.ref l) H'
abbrev NCm : List Str := ["word", "one", "two", "span"]
theorem scCm : FnScope NCm ["word", "one", "two"] (defScope (top 57)) := ⟨rfl, rfl, rfl, by decide +kernel, rfl, by decide +kernel, by decide +kernel⟩
section
variable {P : Program} {w : World} {K : PySem.W.Frag} {mg : Str → Option Value} {base : Heap}
theorem ok_cm {f : Addr} {fd : FuncData} (F : Fun K "combined" "combined" (top 57) f fd) (TD : Fn P w K mg base 8 "tidy" ["rows"] spTd) (JR : Fn P w K mg base 4 "joined_row" ["word", "span"] spJr) (SP : Fn P w K mg base 2 "spans" P2r (spSpn K)) : FnOk P w K mg base CX0 9 f fd ["word", "one", "two"] (spCm K) := by
  refine F.ok scCm (fun vs H Q E h => ?_) (fun cdv A outer s H vs Q E hr h => ?_)
  · obtain ⟨x, a, b, one, two, Z, L, rfl, _⟩ := h
    rfl
  · obtain ⟨x, a, b, one, two, Z, L, rfl, ra, rb, na, nb, ku, q⟩ := h
    have nd := scCm.nd
    have sl := sizeLine_eq
    have r4 := hr.mono (k := 8) (j := 4) (by decide)
    have r2 := hr.mono (k := 8) (j := 2) (by decide)
    have kz : Z.Ok L := ku.down (by omega)
    have L0 := kz.L0
    have Lb := kz.Lb
    have cl := kz.cl
    have ku1 : (Z.up 1).Ok L := by
      have : (Z.up (1 + L)) = (Z.up 1).up L := by show Zn.mk _ _ = Zn.mk _ _; congr 1; show Z.w + (1 + (L : Int)) = Z.w + 1 + L; omega
      rw [this] at ku
      exact ku.down (by omega)
    have g : PairAt K Z L 50000 H a b one two := ⟨ra, rb, na.ln, nb.ln, kz, by have := na.few; omega, by have := nb.few; omega, fun r hr => Nat.le_trans (nts_per kz na r hr) (by decide), fun r hr => Nat.le_trans (nts_per kz nb r hr) (by decide), by decide⟩
    refine ⟨_, pss_one (ps_ret (pe_fn TD hr (pa_cons (pe_lc (own := [("span", 3)]) (g := gName 3) (tt := tYes) rfl nd (pi_list (pe_fn SP r2 (pa_cons (pv 1) (pa_cons (pv 2) pa_nil)))) (blkOk_by (N := NCm) (sc := defScope (top 57)) (by decide +kernel))
      (fun _ _ _ _ _ => pg_name (i := 3) nd rfl (.inl rfl)) (fun _ _ _ _ _ => pts_nil) (fun _ _ _ _ _ => pe_fn JR r4 (pa_cons (pv 0) (pa_cons (pv 3) pa_nil)))) pa_nil))), ?_⟩
    refine ⟨_, rfl, _, rfl, a, b, one, two, Z, L, 50000, rfl, g, fun l ms vs' H1 n1 s1 hl1 asc mb ml vl kz => ?_⟩
    refine ⟨l, rfl, ⟨_, .inl (.inl hl1)⟩, fun D hD => ?_⟩
    refine lc_list (xs := vs') (fun i H2 => ∃ (zs : List V) (rs : List Rw), Same H1 H2 ∧ H2 D = some (.lst zs) ∧ RowsV H2 zs rs ∧ rs.length = i ∧ (∀ k r, rs[k]? = some r → Joined x.op L ms one two k r) ∧ ∀ r ∈ rs, r.p ≤ 100000)
      ⟨[], [], same_upd hD, upd_same, .nil, rfl, (fun k r e => by simp at e), fun r hr => by simp at hr⟩ (fun i H2 _ ⟨_, _, s2, _⟩ => .inl (.inl (s2 _ _ hl1))) ?_ ?_
    · rintro i v H2 hv ⟨zs, rs, s2, hD2, rv, rl, jn, pm⟩
      obtain ⟨t, p, b1, q1, c, rfl, ht, k1, k2⟩ := kz i v hv
      refine ⟨rfl, yes_ite ?_⟩
      refine ⟨_, rfl, _, rfl, x, t, _, _, p, b1, q1, c, rfl, s2 _ _ ht, jr_in asc L0 Lb (Nat.le_refl _) k1 k2, fun o r H3 n3 s3 ho jo => ?_⟩
      have zl := Paired.length rv
      have il : i < vs'.length := by
        apply Classical.byContradiction
        intro z
        rw [List.getElem?_eq_none (by omega)] at hv
        exact nomatch hv
      have oD : o ≠ D := (ne_of_none hD2 n3).symm
      refine ⟨zs, s3 _ _ hD2, by rw [sl]; omega, zs ++ [.ref o], rs ++ [r], same_at hD (s2.trans s3), upd_same, rowsV_app (rowsV_put (rv.same s3) (s3 _ _ hD2)) (.cons ⟨o, rfl, by rw [upd_ne oD]; exact ho⟩ .nil), by rw [List.length_append, rl]; rfl, fun k r' e => ?_, fun r' hr' => ?_⟩
      · by_cases cc : k < rs.length
        · rw [List.getElem?_append_left cc] at e
          exact jn k r' e
        · rw [List.getElem?_append_right (by omega)] at e
          have k0 : k - rs.length = 0 := by
            apply Classical.byContradiction
            intro z
            rw [List.getElem?_eq_none (by show 1 ≤ k - rs.length; omega)] at e
            exact nomatch e
          rw [k0] at e
          obtain rfl : r' = r := (Option.some.inj e).symm
          obtain rfl : k = i := by omega
          exact jr_joined L0 Lb k1 k2 jo
      · rcases List.mem_append.mp hr' with z | z
        · exact pm r' z
        · obtain rfl := List.mem_singleton.mp z
          exact jo.pm
    · rintro H2 ⟨zs, rs, s2, hD2, rv, rl, jn, pm⟩
      have jl : JoinedL x.op L ms one two rs := ⟨by omega, jn⟩
      refine ⟨D, rs, Z.up 1, L, rfl, ⟨zs, hD2, rv⟩, fun r hr => ?_, joined_so asc jl, joined_lm ku1 asc jl mb, pm, by rw [up_up]; exact ku, by omega, fun l4 out H4 n4 s4 ro ns iff => ?_⟩
      · obtain ⟨k, hk⟩ := List.getElem?_of_mem hr
        exact (jn k r hk).ok
      · exact q l4 out H4 (Same.free (s1.trans s2) n4) (s1.trans (s2.trans s4)) ro (by rw [up_up] at ns; exact ns) fun n => inLB_eq ((iff n).trans (joined_in asc jl n))
end
end L2.K14
end

section
set_option Elab.async false
set_option linter.all false
set_option maxRecDepth 100000
set_option maxHeartbeats 1000000
namespace L2.K14
open PySem PySem.Spec PyProof.Rows L2.Gd L2.Ln
/-! ### what stretches can tell -/
def spCut : Sp := fun vs H Q _ => ∃ (v : V) (r : Rw), vs = [v] ∧ RowV H v r ∧ r.p ≤ 2520 ∧ ∀ (l : Addr) (H' : Hp), H l = none → Same H H' → H' l = some (.lst [v]) → Q (.ref l) H'
abbrev NCut : List Str := ["row", "low", "high", "step", "bits", "many", "out", "whole", "far", "size"]
theorem scCut : FnScope NCut ["row"] (defScope (top 59)) := ⟨rfl, rfl, rfl, by decide +kernel, rfl, by decide +kernel, by decide +kernel⟩
def spLim : Sp := fun vs H Q _ => ∃ (a : Addr) (rs : List Rw), vs = [.ref a] ∧ RowsAt H a rs ∧ (∀ r ∈ rs, r.p ≤ 2520) ∧ rs.length ≤ 400 ∧ ∀ (l : Addr) (H' : Hp), H l = none → Same H H' → RowsAt H' l rs → Q (.ref l) H'
theorem scLim : FnScope ["rows", "out", "row"] ["rows"] (defScope (top 60)) := ⟨rfl, rfl, rfl, by decide +kernel, rfl, by decide +kernel, by decide +kernel⟩
section
variable {P : Program} {w : World} {K : PySem.W.Frag} {mg : Str → Option Value} {base : Heap}
theorem ok_cut {f : Addr} {fd : FuncData} {tk : Tok} (F : Fun K "cut" "cut" (top 59) f fd) (pd : mg "PERIOD" = some (.int 2520 tk)) : FnOk P w K mg base CX0 1 f fd ["row"] spCut := by
  refine F.ok scCut (fun vs H Q E h => ?_) (fun cdv A outer s H vs Q E hr h => ?_)
  · obtain ⟨v, r, rfl, _⟩ := h
    rfl
  · obtain ⟨v, r, rfl, ⟨t, rfl, ht⟩, pm, q⟩ := h
    have nd := scCut.nd
    refine ⟨_, pss_cons (ps_asg (pv 0) (pg_tup rfl (pgs_cons (pg_name (i := 1) nd rfl (.inl rfl)) (pgs_cons (pg_name (i := 2) nd rfl (.inl rfl)) (pgs_cons (pg_name (i := 3) nd rfl (.inl rfl)) (pgs_cons (pg_name (i := 4) nd rfl (.inl rfl)) pgs_nil))))))
      (pss_cons (ps_if (pt_cmpR op_le (pv 3) (pe_glob (v := .int 2520) (by rfl) pd ⟨_, rfl⟩) (nomark _)) (pss_one (ps_ret (pe_lst (pa_cons (pv 0) pa_nil)))) pss_nil) pss_never), ?_⟩
    refine seqV (Good := fun σ2 H2 => H = H2 ∧ σ2 = [some (.ref t), some (oI r.lo), some (oI r.hi), some (.int r.p), some (.int r.b), none, none, none, none, none]) (fun nx hnx => ⟨_, rfl, t, _, rfl, .inl (.inl ht), rfl, _, _, rfl, _, _, rfl, _, _, rfl, _, _, rfl, rfl, hnx _ _ ⟨rfl, rfl⟩⟩) ?_
    rintro _ _ ⟨rfl, rfl⟩
    refine ⟨_, rfl, _, _, rfl, rfl, decide ((r.p : Int) ≤ 2520), rfl, ?_⟩
    rw [decide_eq_true (by omega)]
    exact iteT ⟨_, rfl, (by show 1 ≤ sizeLine; decide), fun l hl => q l _ hl (same_upd hl) upd_same⟩
theorem ok_lim {f : Addr} {fd : FuncData} {tk : Tok} (F : Fun K "limited" "limited" (top 60) f fd) (n : Nm mg) (st : mg "STRETCHES" = some (.int 400 tk)) (CU : Fn P w K mg base 1 "cut" ["row"] spCut) : FnOk P w K mg base CX0 2 f fd ["rows"] spLim := by
  refine F.ok scLim (fun vs H Q E h => ?_) (fun cdv A outer s H vs Q E hr h => ?_)
  · obtain ⟨a, rs, rfl, _⟩ := h
    rfl
  · obtain ⟨a, rs, rfl, ⟨us, ha, rv⟩, pm, rl, q⟩ := h
    have nd := scLim.nd
    have sl := sizeLine_eq
    have lus := Paired.length rv
    refine ⟨_, pss_cons (ps_set (i := 1) nd rfl (.inl rfl) (pe_lst pa_nil))
      (pss_cons (ps_for PassesOwn.never rfl (pi_list (pv 0)) (pg_name (i := 2) nd rfl (.inl rfl))
        (pss_one (ps_expr (pe_bm PySem.F.plainAttrs_list PySem.F.slot_list_extend PySem.F.type_list_extend mt_extend (pv 1) (pa_cons (pe_fn CU hr (pa_cons (pv 2) pa_nil)) pa_nil)))))
      (pss_cons (ps_if (pt_cmpR op_gt (pe_callB call_len_seq (by rfl) n.len PySem.boot_len (pa_cons (pv 1) pa_nil)) (pe_glob (v := .int 400) (by rfl) st ⟨_, rfl⟩) (nomark _)) pss_never pss_nil)
      (pss_one (ps_ret (pv 1))))), ?_⟩
    refine seqV (Good := fun σ2 H2 => ∃ l, H l = none ∧ Same H H2 ∧ H2 l = some (.lst []) ∧ σ2 = [some (.ref a), some (.ref l), none]) (fun nx hnx => ⟨(by show 0 ≤ sizeLine; decide), fun l hl => hnx _ _ ⟨l, hl, same_upd hl, upd_same, rfl⟩⟩) ?_
    rintro _ H1 ⟨l, nl, s1, hl1, rfl⟩
    refine ⟨_, rfl, a, rfl, ⟨_, .inl (.inl (s1 _ _ ha))⟩, ?_⟩
    refine loop_of (n := us.length) (fun i σ H2 => ∃ (x2 : Option V), Same H H2 ∧ H2 l = some (.lst (us.take i)) ∧ σ = [some (.ref a), some (.ref l), x2]) ⟨none, s1, hl1, rfl⟩ ?_ ?_
    · rintro σ H2 ⟨x2, s2, hl2, rfl⟩
      refine ⟨⟨_, .inl (.inl (s2 _ _ ha)), Nat.le_refl _⟩, ?_⟩
      rw [List.take_length] at hl2
      refine ⟨_, rfl, l, us, rfl, .inl (.inl (.inl hl2)), _, _, rfl, rfl, decide ((400 : Int) < us.length), rfl, ?_⟩
      rw [decide_eq_false (by omega)]
      exact iteF ⟨_, rfl, q l H2 nl s2 ⟨us, hl2, RowsV.same s2 rv⟩⟩
    · rintro i σ H2 hi ⟨x2, s2, hl2, rfl⟩
      refine ⟨⟨_, _, .inl (.inl (s2 _ _ ha)), List.getElem?_eq_getElem hi⟩, ?_⟩
      rintro v H3 ⟨rfl, hy⟩
      have hvi := hy _ (.inl (.inl (s2 _ _ ha)))
      obtain ⟨r, er, rvr⟩ := rowsV_at rv hvi
      have rm : r ∈ rs := List.mem_of_getElem? er
      refine gn ?_
      refine ⟨_, rfl, .inl ⟨rfl, _, .inl (.inl hl2)⟩, _, rfl, v, r, rfl, rvr.same s2, pm r rm, fun l4 H4 n4 s4 hl4 => ?_⟩
      have hl4' := s4 _ _ hl2
      refine ⟨l, l4, _, _, rfl, rfl, hl4', hl4, by rw [List.length_take, sl]; show min i us.length + 1 ≤ _; omega, ?_⟩
      have so4 : Same H H4 := s2.trans s4
      exact ⟨_, same_at nl so4, by rw [upd_same, List.take_succ, hvi]; rfl, rfl⟩
end
end L2.K14
end

section
set_option Elab.async false
set_option linter.all false
set_option maxRecDepth 100000
set_option maxHeartbeats 1000000
namespace L2.K14
open PySem PySem.Spec PyProof.Rows L2.Gd L2.Ln
/-! ### whether a number is there -/
theorem bef_at {rs : List Rw} (so : rs.Pairwise Bef) {i j : Nat} {r s : Rw} (e1 : rs[i]? = some r) (e2 : rs[j]? = some s) (ij : i < j) : Bef r s := by
  obtain ⟨h1, e1⟩ := List.getElem?_eq_some_iff.mp e1
  obtain ⟨h2, e2⟩ := List.getElem?_eq_some_iff.mp e2
  have := List.pairwise_iff_getElem.mp so i j h1 h2 ij
  rw [e1, e2] at this
  exact this
structure RaOk (rs : List Rw) (n : Int) (at_ : Nat) : Prop where
  le : at_ ≤ rs.length
  bf : ∀ k r, k < at_ → rs[k]? = some r → ∃ h, r.hi = some h ∧ h < n
  at_ : ∀ r, rs[at_]? = some r → Le r.hi n
/-- asked at this row -/
theorem ra_in {rs : List Rw} {n : Int} {i : Nat} (so : rs.Pairwise Bef) (ok : ∀ r ∈ rs, r.Ok) (h : RaOk rs n i) {r : Rw} (e : rs[i]? = some r) (g : Ge r.lo n) : inLB rs n = pat r.p r.b n := by
  refine inLB_eq ⟨?_, fun z => ⟨r, List.mem_of_getElem? e, g, h.at_ r e, z⟩⟩
  rintro ⟨s, hs, im⟩
  obtain ⟨k, hk⟩ := List.getElem?_of_mem hs
  rcases Nat.lt_trichotomy k i with c | c | c
  · obtain ⟨x, e1, lt⟩ := h.bf k s c hk
    have := im.2.1 x e1
    omega
  · subst c
    rw [e] at hk
    cases hk
    exact im.2.2
  · obtain ⟨x, y, e1, e2, lt⟩ := bef_at so e hk c
    have := h.at_ r e x e1
    have := im.1 y e2
    omega
theorem ra_out {rs : List Rw} {n : Int} {i : Nat} (so : rs.Pairwise Bef) (ok : ∀ r ∈ rs, r.Ok) (h : RaOk rs n i) (b : ∀ r, rs[i]? = some r → ∃ l, r.lo = some l ∧ n < l) : inLB rs n = false := by
  refine inLB_eq ⟨?_, fun z => nomatch z⟩
  rintro ⟨s, hs, im⟩
  obtain ⟨k, hk⟩ := List.getElem?_of_mem hs
  rcases Nat.lt_trichotomy k i with c | c | c
  · obtain ⟨x, e1, lt⟩ := h.bf k s c hk
    have := im.2.1 x e1
    omega
  · subst c
    obtain ⟨l, e1, lt⟩ := b s hk
    have := im.1 l e1
    omega
  · have hk' := hk
    obtain ⟨kl, _⟩ := List.getElem?_eq_some_iff.mp hk
    have e : rs[i]? = some (rs[i]'(by omega)) := List.getElem?_eq_getElem (by omega)
    obtain ⟨l, e0, l0⟩ := b _ e
    obtain ⟨x, y, e1, e2, lt⟩ := bef_at so e hk c
    have := (ok _ (List.mem_of_getElem? e)).le l x e0 e1
    have := im.1 y e2
    omega
theorem has_bit {p b : Nat} {n : Int} (p0 : 0 < p) : decide (V.int (Builtin.bitAnd ((b : Int) / 2 ^ (n % (p : Int)).toNat) 1) = V.int 1) = pat p b n := by
  have e : (b : Int) / 2 ^ (n % (p : Int)).toNat = ((b >>> (n % (p : Int)).toNat : Nat) : Int) := by
    rw [← shr_nat, Int.toNat_natCast]
  rw [e, show (1 : Int) = ((1 : Nat) : Int) from rfl, and_nat]
  unfold pat
  rw [Nat.testBit_eq_decide_div_mod_eq, ← Nat.shiftRight_eq_div_pow, Nat.and_one_is_mod]
  simp only [V.int.injEq]
  congr 1
  rw [eq_iff_iff]
  omega
def spRa : Sp := fun vs H Q _ => ∃ (a : Addr) (rs : List Rw) (n : Int), vs = [.ref a, .int n] ∧ RowsAt H a rs ∧ rs.Pairwise Bef ∧ (∀ r ∈ rs, r.Ok) ∧ rs.length ≤ 1000 ∧ ∀ i : Nat, RaOk rs n i → Q (.int i) H
abbrev NRa : List Str := ["rows", "number", "first", "behind", "middle"]
theorem scRa : FnScope NRa ["rows", "number"] (defScope (top 62)) := ⟨rfl, rfl, rfl, by decide +kernel, rfl, by decide +kernel, by decide +kernel⟩
def spBa : Sp := fun vs H Q _ => ∃ (a : Addr) (rs : List Rw) (i : Nat) (n : Int), vs = [.ref a, .int i, .int n] ∧ RowsAt H a rs ∧ i ≤ rs.length ∧ ∀ b : Bool, (b = true ↔ ∀ r, rs[i]? = some r → ∃ l, r.lo = some l ∧ n < l) → Q (.bl b) H
theorem scBa : FnScope ["rows", "at", "number"] ["rows", "at", "number"] (defScope (top 63)) := ⟨rfl, rfl, rfl, by decide +kernel, rfl, by decide +kernel, by decide +kernel⟩
def spHas : Sp := fun vs H Q _ => ∃ (a : Addr) (rs : List Rw) (n : Int), vs = [.ref a, .int n] ∧ RowsAt H a rs ∧ rs.Pairwise Bef ∧ (∀ r ∈ rs, r.Ok) ∧ rs.length ≤ 1000 ∧ Q (.bl (inLB rs n)) H
theorem scHas : FnScope ["rows", "number", "at"] ["rows", "number"] (defScope (top 64)) := ⟨rfl, rfl, rfl, by decide +kernel, rfl, by decide +kernel, by decide +kernel⟩
theorem rows_row {H : Hp} {us : List V} {rs : List Rw} (rv : RowsV H us rs) {k : Nat} (hk : k < rs.length) : ∃ (t : Addr) (r : Rw), rs[k]? = some r ∧ us[k]? = some (.ref t) ∧ H t = some (.tup (Rvs r)) := by
  have e : us[k]? = some (us[k]'(by have := Paired.length rv; omega)) := List.getElem?_eq_getElem (by have := Paired.length rv; omega)
  obtain ⟨r, er, t, et, ht⟩ := rowsV_at rv e
  exact ⟨t, r, er, by rw [e, et], ht⟩
section
variable {P : Program} {w : World} {K : PySem.W.Frag} {mg : Str → Option Value} {base : Heap}
theorem ok_ba {f : Addr} {fd : FuncData} (F : Fun K "begins_above" "begins_above" (top 63) f fd) (n : Nm mg) : FnOk P w K mg base CX0 1 f fd ["rows", "at", "number"] spBa := by
  refine F.ok scBa (fun vs H Q E h => ?_) (fun cdv A outer s H vs Q E hr h => ?_)
  · obtain ⟨a, rs, i, m, rfl, _⟩ := h
    rfl
  · obtain ⟨a, rs, i, m, rfl, ⟨us, ha, rv⟩, le, q⟩ := h
    have lus := Paired.length rv
    refine ⟨_, pss_one (ps_ret (pe_or (pe_cmpR op_eq (pv 1) (pe_callB call_len_seq (by rfl) n.len PySem.boot_len (pa_cons (pv 0) pa_nil)) (nomark _)) (pe_one (pe_and (pe_cmpR op_notN (pe_ix ix_tup (pe_ix ix_list (pv 0) (pv 1) (fun _ _ => rfl)) pe_int (fun _ _ => rfl)) pe_non (nomark _)) (pe_one (pe_cmpR op_gt (pe_ix ix_tup (pe_ix ix_list (pv 0) (pv 1) (fun _ _ => rfl)) pe_int (fun _ _ => rfl)) (pv 2) (nomark _))))))), ?_⟩
    by_cases c : i < rs.length
    · obtain ⟨t, r, er, et, ht⟩ := rows_row rv c
      refine ⟨_, rfl, _, rfl, a, us, rfl, .inl (.inl (.inl ha)), rfl, false, congrArg V.bl (decide_eq_false (by rw [V.int.injEq]; omega)), iteF ?_⟩
      refine ⟨_, rfl, _, rfl, a, us, _, _, rfl, rfl, .inl (.inl ha), atI_nat et, t, _, _, _, rfl, rfl, .inl (.inl ht), rfl, ?_⟩
      cases el : r.lo with
      | none =>
        exact ⟨rfl, false, rfl, iteF (q false ⟨(fun z => nomatch z), fun z => by obtain ⟨l, e, _⟩ := z r er; rw [el] at e; exact nomatch e⟩)⟩
      | some l =>
        have e1 : (Rvs r)[0]? = some (V.int l) := by show some (oI r.lo) = _; rw [el]; rfl
        refine ⟨rfl, true, rfl, iteT ⟨_, rfl, _, rfl, a, us, _, _, rfl, rfl, .inl (.inl ha), atI_nat et, t, _, _, V.int l, rfl, rfl, .inl (.inl ht), e1, _, rfl, _, _, rfl, rfl, q _ ?_⟩⟩
        rw [decide_eq_true_eq]
        constructor
        · intro z r' e'
          rw [er] at e'
          cases e'
          exact ⟨l, el, z⟩
        · intro z
          obtain ⟨l', e', lt⟩ := z r er
          rw [el] at e'
          cases e'
          exact lt
    · obtain rfl : i = rs.length := by omega
      refine ⟨_, rfl, _, rfl, a, us, rfl, .inl (.inl (.inl ha)), rfl, true, congrArg V.bl (decide_eq_true (by rw [V.int.injEq]; omega)), iteT (q true ⟨fun _ r e => ?_, fun _ => rfl⟩)⟩
      rw [List.getElem?_eq_none (Nat.le_refl _)] at e
      exact nomatch e
end
end L2.K14
end

section
set_option Elab.async false
set_option linter.all false
set_option maxRecDepth 100000
set_option maxHeartbeats 1000000
namespace L2.K14
open PySem PySem.Spec PyProof.Rows L2.Gd L2.Ln
/-! ### the row that is asked -/
section
variable {P : Program} {w : World} {K : PySem.W.Frag} {mg : Str → Option Value} {base : Heap}
theorem ok_ra {f : Addr} {fd : FuncData} (F : Fun K "row_at" "row_at" (top 62) f fd) (n : Nm mg) : FnOk P w K mg base CX0 1 f fd ["rows", "number"] spRa := by
  refine F.ok scRa (fun vs H Q E h => ?_) (fun cdv A outer s H vs Q E hr h => ?_)
  · obtain ⟨a, rs, m, rfl, _⟩ := h
    rfl
  · obtain ⟨a, rs, m, rfl, ⟨us, ha, rv⟩, so, ok, rl, q⟩ := h
    have nd := scRa.nd
    have lus := Paired.length rv
    refine ⟨_, pss_cons (ps_par (i := 2) (j := 3) rfl nd rfl rfl (by decide) rfl rfl (pa_cons pe_int (pa_cons (pe_callB call_len_seq (by rfl) n.len PySem.boot_len (pa_cons (pv 0) pa_nil)) pa_nil)) (by rfl))
      (pss_cons (ps_while PassesOwn.never (pt_cmpR op_lt (pv 2) (pv 3) (nomark _))
        (pss_cons (ps_set (i := 4) nd rfl (.inl rfl) (pe_op op_fdiv (pe_op op_add (pv 2) (pv 3)) pe_int))
        (pss_one (ps_if (pw_and (pt_cmp (pc_notN (pe_ix ix_tup (pe_ix ix_list (pv 0) (pv 4) (fun _ _ => rfl)) pe_int (fun _ _ => rfl)))) (pw_and1 (pt_cmpR op_lt (pe_ix ix_tup (pe_ix ix_list (pv 0) (pv 4) (fun _ _ => rfl)) pe_int (fun _ _ => rfl)) (pv 1) (nomark _)))).pt
          (pss_one (ps_set (i := 2) nd rfl (.inl rfl) (pe_op op_add (pv 4) pe_int))) (pss_one (ps_set (i := 3) nd rfl (.inl rfl) (pv 4)))))))
      (pss_one (ps_ret (pv 2)))), ?_⟩
    refine seqV (Good := fun σ2 H2 => H = H2 ∧ σ2 = [some (.ref a), some (.int m), some (.int ((0 : Nat) : Int)), some (.int us.length), none]) (fun nx hnx => ⟨_, rfl, a, us, rfl, .inl (.inl (.inl ha)), _, _, rfl, hnx _ _ ⟨rfl, rfl⟩⟩) ?_
    rintro _ _ ⟨rfl, rfl⟩
    refine ⟨fun k σ H2 => ∃ (f0 b0 : Nat) (x : Option V), k = b0 - f0 ∧ f0 ≤ b0 ∧ b0 ≤ rs.length ∧ (∀ k r, k < f0 → rs[k]? = some r → ∃ h, r.hi = some h ∧ h < m) ∧ (∀ k r, b0 ≤ k → rs[k]? = some r → Le r.hi m) ∧ H = H2 ∧ σ = [some (.ref a), some (.int m), some (.int f0), some (.int b0), x], ⟨_, 0, rs.length, none, rfl, Nat.zero_le _, Nat.le_refl _, (fun k r z => absurd z (Nat.not_lt_zero k)), (fun k r z e => ?_), rfl, by rw [← lus]⟩, ?_⟩
    · rw [List.getElem?_eq_none z] at e
      exact nomatch e
    rintro k σ H2 ⟨f0, b0, x, rfl, fb, bl, lo, up, rfl, rfl⟩
    refine ⟨_, rfl, _, rfl, _, _, rfl, rfl, decide ((f0 : Int) < b0), rfl, ?_⟩
    by_cases c : f0 < b0
    · rw [decide_eq_true (by omega)]
      have mid1 : f0 ≤ (f0 + b0) / 2 := by omega
      have mid2 : (f0 + b0) / 2 < b0 := by omega
      have em : ((f0 : Int) + b0) / 2 = (((f0 + b0) / 2 : Nat) : Int) := by omega
      generalize (f0 + b0) / 2 = md at mid1 mid2 em
      obtain ⟨t, r, er, et, ht⟩ := rows_row rv (show md < rs.length by omega)
      have rok := ok r (List.mem_of_getElem? er)
      refine iteT ⟨fun σ3 H3 => (∃ h, r.hi = some h ∧ h < m) ∧ H = H3 ∧ σ3 = [some (.ref a), some (.int m), some (.int ((md + 1 : Nat) : Int)), some (.int b0), some (.int md)] ∨ Le r.hi m ∧ H = H3 ∧ σ3 = [some (.ref a), some (.int m), some (.int f0), some (.int md), some (.int md)], ?_, ?_⟩
      · rintro σ3 H3 (⟨⟨h, eh, hm⟩, e1, e2⟩ | ⟨g, e1, e2⟩)
        · refine ⟨b0 - (md + 1), by omega, md + 1, b0, _, rfl, by omega, bl, fun k r' kk e => ?_, up, e1, e2⟩
          rcases Nat.lt_or_eq_of_le (show k ≤ md by omega) with d | d
          · obtain ⟨x1, y1, e3, e4, lt⟩ := bef_at so e er d
            have := rok.le y1 h e4 eh
            exact ⟨x1, e3, by omega⟩
          · subst d
            rw [er] at e
            cases e
            exact ⟨h, eh, hm⟩
        · refine ⟨md - f0, by omega, f0, md, _, rfl, mid1, by omega, lo, fun k r' kk e => ?_, e1, e2⟩
          rcases Nat.lt_or_eq_of_le kk with d | d
          · obtain ⟨x1, y1, e3, e4, lt⟩ := bef_at so er e d
            intro h e5
            have := g x1 e3
            have := (ok r' (List.mem_of_getElem? e)).le y1 h e4 e5
            omega
          · subst d
            rw [er] at e
            cases e
            exact g
      · refine seqV (Good := fun σ2 H2 => H = H2 ∧ σ2 = [some (.ref a), some (.int m), some (.int f0), some (.int b0), some (.int md)]) ?_ ?_
        · intro nx hnx
          rw [← em] at hnx
          exact ⟨_, rfl, _, rfl, _, _, rfl, rfl, _, _, rfl, rfl, ⟨by decide, by decide⟩, hnx _ _ ⟨rfl, rfl⟩⟩
        rintro _ _ ⟨rfl, rfl⟩
        refine ⟨_, rfl, _, rfl, a, us, _, _, rfl, rfl, .inl (.inl ha), atI_nat et, t, _, _, _, rfl, rfl, .inl (.inl ht), rfl, ?_⟩
        cases eh : r.hi with
        | none => exact ⟨false, rfl, iteF ⟨_, rfl, .inr ⟨(fun h e => nomatch e), rfl, rfl⟩⟩⟩
        | some h =>
          have e1 : (Rvs r)[1]? = some (V.int h) := by show some (oI r.hi) = _; rw [eh]; rfl
          refine ⟨true, rfl, iteT ⟨_, rfl, _, rfl, a, us, _, _, rfl, rfl, .inl (.inl ha), atI_nat et, t, _, _, V.int h, rfl, rfl, .inl (.inl ht), e1, _, rfl, _, _, rfl, rfl, decide (h < m), rfl, ?_⟩⟩
          by_cases d : h < m
          · rw [decide_eq_true d]
            exact iteT ⟨_, rfl, _, _, rfl, rfl, .inl ⟨⟨h, rfl, d⟩, rfl, rfl⟩⟩
          · rw [decide_eq_false d]
            exact iteF ⟨_, rfl, .inr ⟨(fun h' e => by cases e; omega), rfl, rfl⟩⟩
    · rw [decide_eq_false (by omega)]
      obtain rfl : f0 = b0 := by omega
      exact iteF ⟨_, rfl, q f0 ⟨bl, lo, fun r e => up f0 r (Nat.le_refl _) e⟩⟩
theorem ok_has {f : Addr} {fd : FuncData} (F : Fun K "has_number" "has_number" (top 64) f fd) (RA : Fn P w K mg base 1 "row_at" ["rows", "number"] spRa) (BA : Fn P w K mg base 1 "begins_above" ["rows", "at", "number"] spBa) : FnOk P w K mg base CX0 2 f fd ["rows", "number"] spHas := by
  refine F.ok scHas (fun vs H Q E h => ?_) (fun cdv A outer s H vs Q E hr h => ?_)
  · obtain ⟨a, rs, m, rfl, _⟩ := h
    rfl
  · obtain ⟨a, rs, m, rfl, ra, so, ok, rl, q⟩ := h
    have nd := scHas.nd
    refine ⟨_, pss_cons (ps_set (i := 2) nd rfl (.inl rfl) (pe_fn RA hr (pa_cons (pv 0) (pa_cons (pv 1) pa_nil))))
      (pss_cons (ps_if (pt_val (pe_fn BA hr (pa_cons (pv 0) (pa_cons (pv 2) (pa_cons (pv 1) pa_nil))))) (pss_one (ps_ret pe_bl)) pss_nil)
      (pss_one (ps_ret (pe_cmpR op_eq (pe_op op_and (pe_op op_shr (pe_ix ix_tup (pe_ix ix_list (pv 0) (pv 2) (fun _ _ => rfl)) pe_int (fun _ _ => rfl)) (pe_op op_mod (pv 1) (pe_ix ix_tup (pe_ix ix_list (pv 0) (pv 2) (fun _ _ => rfl)) pe_int (fun _ _ => rfl)))) pe_int) pe_int (nomark _))))), ?_⟩
    refine seqV (Good := fun σ2 H2 => ∃ i : Nat, RaOk rs m i ∧ H = H2 ∧ σ2 = [some (.ref a), some (.int m), some (.int i)]) (fun nx hnx => ⟨_, rfl, _, rfl, a, rs, m, rfl, ra, so, ok, rl, fun i hi => hnx _ _ ⟨i, hi, rfl, rfl⟩⟩) ?_
    rintro _ _ ⟨i, hi, rfl, rfl⟩
    refine ⟨_, rfl, _, rfl, _, rfl, a, rs, i, m, rfl, ra, hi.le, fun b hb => ⟨b, rfl, ?_⟩⟩
    cases b with
    | true =>
      rw [ra_out so ok hi (hb.mp rfl)] at q
      exact iteT q
    | false =>
      have nb : ¬ ∀ r, rs[i]? = some r → ∃ l, r.lo = some l ∧ m < l := fun z => nomatch hb.mpr z
      have il : i < rs.length := by
        apply Classical.byContradiction
        intro z
        refine nb fun r e => ?_
        rw [List.getElem?_eq_none (by omega)] at e
        exact nomatch e
      obtain ⟨us, ha, rv⟩ := ra
      obtain ⟨t, r, er, et, ht⟩ := rows_row rv il
      have rok := ok r (List.mem_of_getElem? er)
      have p0 := rok.p0
      have g : Ge r.lo m := fun l e => by
        apply Classical.byContradiction
        intro z
        exact nb fun r' e' => by rw [er] at e'; cases e'; exact ⟨l, e, by omega⟩
      rw [ra_in so ok hi er g, ← has_bit p0] at q
      exact iteF ⟨_, rfl, _, rfl, a, us, _, _, rfl, rfl, .inl (.inl ha), atI_nat et, t, _, _, _, rfl, rfl, .inl (.inl ht), rfl, _, rfl, _, rfl, _, rfl, a, us, _, _, rfl, rfl, .inl (.inl ha), atI_nat et, t, _, _, _, rfl, rfl, .inl (.inl ht), rfl, _, _, rfl, rfl, (by omega), _, _, rfl, rfl, Int.emod_nonneg _ (by omega), _, _, rfl, rfl, rfl, q⟩
theorem nt_ex {r : Rw} (h : Nt r) : ∃ n, r.In n := by
  cases e1 : r.lo with
  | some l => exact ⟨l, h.lom l e1⟩
  | none =>
    cases e2 : r.hi with
    | some x => exact ⟨x, h.him x e2⟩
    | none =>
      obtain ⟨i, hi⟩ := Nat.exists_testBit_of_ne_zero h.ex
      have il : i < r.p := by
        apply Classical.byContradiction
        intro z
        rw [Nat.testBit_lt_two_pow (Nat.lt_of_lt_of_le h.ok.bl (Nat.pow_le_pow_right (by decide) (by omega)))] at hi
        exact nomatch hi
      exact ⟨i, (fun l e => by rw [e1] at e; exact nomatch e), (fun l e => by rw [e2] at e; exact nomatch e), by rw [pat_nat il]; exact hi⟩
theorem nts_nil {W : Zn} {L : Nat} {rs : List Rw} (h : NtS W L rs) : rs = [] ↔ ∀ n, inLB rs n = false := by
  constructor
  · rintro rfl n
    rfl
  · intro z
    cases rs with
    | nil => rfl
    | cons r rs =>
      obtain ⟨n, hn⟩ := nt_ex (h.ln.nt.nt r (by simp))
      have : inLB (r :: rs) n = true := inLB_iff.mpr ⟨r, List.mem_cons_self, hn⟩
      rw [z n] at this
      exact nomatch this
end
end L2.K14
end

section
set_option Elab.async false
set_option linter.all false
set_option maxRecDepth 100000
set_option maxHeartbeats 1000000
namespace L2.K14
open PySem PySem.Spec PyProof.Rows L2.Gd L2.Ln
/-! ### where two lists are not alike -/
/-- two lists of rows that can be asked together -/
structure BothAt (Z : Zn) (L : Nat) (H : Hp) (a b : Addr) (one two : List Rw) : Prop where
  ra : RowsAt H a one
  rb : RowsAt H b two
  na : NtS Z L one
  nb : NtS Z L two
  kz : Z.Ok L
theorem BothAt.pair {K : PySem.W.Frag} {Z : Zn} {L : Nat} {H : Hp} {a b : Addr} {one two : List Rw} (g : BothAt Z L H a b one two) : PairAt K Z L 50000 H a b one two :=
  have cl := g.kz.cl
  ⟨g.ra.k, g.rb.k, g.na.ln, g.nb.ln, g.kz, by have := g.na.few; omega, by have := g.nb.few; omega, fun r hr => Nat.le_trans (nts_per g.kz g.na r hr) (by decide), fun r hr => Nat.le_trans (nts_per g.kz g.nb r hr) (by decide), by decide⟩
theorem BothAt.same {Z : Zn} {L : Nat} {H H' : Hp} {a b : Addr} {one two : List Rw} (s : Same H H') (g : BothAt Z L H a b one two) : BothAt Z L H' a b one two := ⟨g.ra.same s, g.rb.same s, g.na, g.nb, g.kz⟩
/-- the first number from n on that is in just one of both -/
def NextX (one two : List Rw) (n : Int) : Option Int → Prop
  | none => ∀ m, n ≤ m → inLB one m = inLB two m
  | some x => n ≤ x ∧ inLB one x ≠ inLB two x ∧ ∀ m, n ≤ m → m < x → inLB one m = inLB two m
def spNu : Sp := fun vs H Q _ => ∃ (a b : Addr) (one two : List Rw) (Z : Zn) (L : Nat) (n : Int), vs = [.ref a, .ref b, .int n] ∧ BothAt Z L H a b one two ∧ ∀ (o : Option Int) (H' : Hp), Same H H' → NextX one two n o → Q (oI o) H'
abbrev NNu : List Str := ["one", "two", "number", "low", "high", "step", "bits", "other_step", "other_bits", "first", "found"]
theorem scNu : FnScope NNu ["one", "two", "number"] (defScope (top 65)) := ⟨rfl, rfl, rfl, by decide +kernel, rfl, by decide +kernel, by decide +kernel⟩
section
variable {P : Program} {w : World} {K : PySem.W.Frag} {mg : Str → Option Value} {base : Heap}
theorem ok_nu {f : Addr} {fd : FuncData} (F : Fun K "next_unlike" "next_unlike" (top 65) f fd) (n : Nm mg) (SP : Fn P w K mg base 2 "spans" P2r (spSpn K)) (FU : Fn P w K mg base 4 "first_unlike" P6l spFu) : FnOk P w K mg base CX0 5 f fd ["one", "two", "number"] spNu := by
  refine F.ok scNu (fun vs H Q E h => ?_) (fun cdv A outer s H vs Q E hr h => ?_)
  · obtain ⟨a, b, one, two, Z, L, m, rfl, _⟩ := h
    rfl
  · obtain ⟨a, b, one, two, Z, L, m, rfl, g, q⟩ := h
    have nd := scNu.nd
    have r2 := hr.mono (k := 4) (j := 2) (by decide)
    refine ⟨_, pss_cons (ps_for PassesOwn.never rfl (pi_list (pe_fn SP r2 (pa_cons (pv 0) (pa_cons (pv 1) pa_nil)))) (pg_tup rfl (pgs_cons (pg_name (i := 3) nd rfl (.inl rfl)) (pgs_cons (pg_name (i := 4) nd rfl (.inl rfl)) (pgs_cons (pg_name (i := 5) nd rfl (.inl rfl)) (pgs_cons (pg_name (i := 6) nd rfl (.inl rfl)) (pgs_cons (pg_name (i := 7) nd rfl (.inl rfl)) (pgs_cons (pg_name (i := 8) nd rfl (.inl rfl)) pgs_nil)))))))
        (pss_cons (ps_if (pw_and (pt_cmp (pc_notN (pv 4))) (pw_and1 (pt_cmpR op_lt (pv 4) (pv 2) (nomark _)))).pt (pss_one ps_continue) pss_nil)
        (pss_cons (ps_set (i := 9) nd rfl (.inl rfl) (pe_ifExp (pt_cmp (pc_isN (pv 3))) (pv 2) (pe_callB (call_max2 rfl) (by rfl) n.max (by decide +kernel) (pa_cons (pv 3) (pa_cons (pv 2) pa_nil)))))
        (pss_cons (ps_set (i := 10) nd rfl (.inl rfl) (pe_fn FU hr (pa_cons (pv 9) (pa_cons (pv 4) (pa_cons (pv 5) (pa_cons (pv 6) (pa_cons (pv 7) (pa_cons (pv 8) pa_nil))))))))
        (pss_one (ps_if (pt_cmp (pc_notN (pv 10))) (pss_one (ps_ret (pv 10))) pss_nil))))))
      (pss_one (ps_ret pe_non)), ?_⟩
    refine ⟨_, rfl, _, rfl, a, b, one, two, Z, L, 50000, rfl, g.pair, fun l ms us H1 n1 s1 hl1 asc mb ml ul kz => ?_⟩
    refine ⟨l, rfl, ⟨_, .inl (.inl hl1)⟩, ?_⟩
    refine loop_of (n := us.length) (fun i σ H2 => ∃ (x3 x4 x5 x6 x7 x8 x9 x10 : Option V), (∀ k, k < i → ∀ y, InSp (lowAt ms k) (highAt ms k) y → m ≤ y → inLB one y = inLB two y) ∧ H1 = H2 ∧ σ = [some (.ref a), some (.ref b), some (.int m), x3, x4, x5, x6, x7, x8, x9, x10])
      ⟨none, none, none, none, none, none, none, none, (fun k z => absurd z (Nat.not_lt_zero k)), rfl, rfl⟩ ?_ ?_
    · rintro σ H2 ⟨x3, x4, x5, x6, x7, x8, x9, x10, al, rfl, rfl⟩
      refine ⟨⟨_, .inl (.inl hl1), Nat.le_refl _⟩, q none H1 s1 fun y my => ?_⟩
      obtain ⟨k, hk, sp⟩ := span_cover ms y
      exact al k (by omega) y sp my
    · rintro i σ H2 hi ⟨x3, x4, x5, x6, x7, x8, x9, x10, al, rfl, rfl⟩
      refine ⟨⟨_, _, .inl (.inl hl1), List.getElem?_eq_getElem hi⟩, ?_⟩
      rintro v H3 ⟨rfl, hy⟩
      have hvi := hy _ (.inl (.inl hl1))
      obtain ⟨t, p, b1, q1, c, rfl, ht, k1, k2⟩ := kz i v hvi
      refine ⟨t, _, rfl, .inl (.inl ht), rfl, _, _, rfl, _, _, rfl, _, _, rfl, _, _, rfl, _, _, rfl, _, _, rfl, rfl, ?_⟩
      generalize elo : lowAt ms i = lo at *
      generalize ehi : highAt ms i = hi' at *
      have step : (∀ y, InSp lo hi' y → m ≤ y → inLB one y = inLB two y) → ∀ k, k < i + 1 → ∀ y, InSp (lowAt ms k) (highAt ms k) y → m ≤ y → inLB one y = inLB two y := fun z k kk y sp my => by
        rcases Nat.lt_or_eq_of_le (Nat.le_of_lt_succ kk) with d | d
        · exact al k d y sp my
        · subst d
          rw [elo, ehi] at sp
          exact z y sp my
      -- those that end below
      refine seqV (Good := fun σ2 H2 => (∀ h, hi' = some h → m ≤ h) ∧ H3 = H2 ∧ σ2 = [some (.ref a), some (.ref b), some (.int m), some (oI lo), some (oI hi'), some (.int p), some (.int b1), some (.int q1), some (.int c), x9, x10]) ?_ ?_
      · intro nx hnx
        cases hi' with
        | none => exact ⟨_, rfl, false, rfl, iteF (hnx _ _ ⟨(fun h e => nomatch e), rfl, rfl⟩)⟩
        | some h =>
          refine ⟨_, rfl, true, rfl, iteT ⟨_, rfl, _, rfl, _, _, rfl, rfl, decide (h < m), rfl, ?_⟩⟩
          by_cases d : h < m
          · rw [decide_eq_true d]
            exact iteT ⟨_, _, _, _, _, _, _, _, step (fun y sp my => by have := sp.2 h rfl; omega), rfl, rfl⟩
          · rw [decide_eq_false d]
            exact iteF (hnx _ _ ⟨(fun h' e => by cases e; omega), rfl, rfl⟩)
      rintro _ _ ⟨hm, rfl, rfl⟩
      refine seqV (Good := fun σ2 H2 => ∃ f0 : Int, m ≤ f0 ∧ Ge lo f0 ∧ (∀ y, Ge lo y → m ≤ y → f0 ≤ y) ∧ (f0 = m ∨ lo = some f0) ∧ H3 = H2 ∧ σ2 = [some (.ref a), some (.ref b), some (.int m), some (oI lo), some (oI hi'), some (.int p), some (.int b1), some (.int q1), some (.int c), some (.int f0), x10]) ?_ ?_
      · intro nx hnx
        cases lo with
        | none => exact ⟨_, rfl, true, rfl, iteT ⟨_, rfl, hnx _ _ ⟨m, Int.le_refl _, ge_none m, (fun y _ z => z), .inl rfl, rfl, rfl⟩⟩⟩
        | some l0 =>
          refine ⟨_, rfl, false, rfl, iteF ⟨_, rfl, _, rfl, _, _, rfl, ?_⟩⟩
          by_cases d : m > l0
          · have e : (if m > l0 then m else l0) = m := if_pos d
            refine hnx _ _ ⟨m, Int.le_refl _, (fun l e => by cases e; omega), (fun y _ z => z), .inl rfl, rfl, ?_⟩
            rw [e]
            rfl
          · have e : (if m > l0 then m else l0) = l0 := if_neg d
            refine hnx _ _ ⟨l0, by omega, (fun l e => by cases e; omega), (fun y z _ => z l0 rfl), .inr rfl, rfl, ?_⟩
            rw [e]
            rfl
      rintro _ _ ⟨f0, f1, f2, f3, f4, rfl, rfl⟩
      have lehi : Le hi' f0 := fun h e => by
        rcases f4 with z | z
        · have := hm h e
          omega
        · exact span_le asc (elo.trans z) (ehi.trans e)
      refine seqV (Good := fun σ2 H2 => ∃ o, FuR f0 hi' p b1 q1 c o ∧ H3 = H2 ∧ σ2 = [some (.ref a), some (.ref b), some (.int m), some (oI lo), some (oI hi'), some (.int p), some (.int b1), some (.int q1), some (.int c), some (.int f0), some (oI o)]) ?_ ?_
      · intro nx hnx
        exact ⟨_, rfl, _, rfl, _, rfl, _, rfl, _, rfl, _, rfl, f0, hi', p, b1, q1, c, rfl, k1.p0, k1.pP, k1.bl, k2.p0, k2.pP, k2.bl, lehi, fun o ho => hnx _ _ ⟨o, ho, rfl, rfl⟩⟩
      rintro _ _ ⟨o, ho, rfl, rfl⟩
      cases o with
      | none =>
        refine ⟨_, rfl, false, rfl, iteF ⟨_, _, _, _, _, _, _, _, step (fun y sp my => ?_), rfl, rfl⟩⟩
        rw [rest_eq k1 sp, rest_eq k2 sp]
        exact ho.1 y (f3 y sp.1 my) sp.2
      | some x =>
        have sp : InSp lo hi' x := ⟨fun l e => by have := f2 l e; have := ho.1; omega, ho.2.1⟩
        refine ⟨_, rfl, true, rfl, iteT ⟨_, rfl, q (some x) H3 s1 ⟨by have := ho.1; omega, by rw [rest_eq k1 sp, rest_eq k2 sp]; exact ho.2.2.1, fun y my yx => ?_⟩⟩⟩
        obtain ⟨k, hk, spk⟩ := span_cover ms y
        rcases Nat.lt_trichotomy k i with d | d | d
        · exact al k d y spk my
        · subst d
          rw [elo, ehi] at spk
          rw [rest_eq k1 spk, rest_eq k2 spk]
          exact ho.2.2.2 y (f3 y spk.1 my) yx
        · exfalso
          obtain ⟨a1, b1', e1, e2, lt⟩ := span_so asc d hk
          rw [ehi] at e1
          have h1 := sp.2 a1 e1
          have h2 := spk.1 b1' e2
          omega
end
end L2.K14
end

section
set_option Elab.async false
set_option linter.all false
set_option maxRecDepth 100000
set_option maxHeartbeats 1000000
namespace L2.K14
open PySem PySem.Spec PyProof.Rows L2.Gd L2.Ln
/-! ### whether two lists have the same numbers -/
/-- the last number up to n that is in just one of both -/
def LastX (one two : List Rw) (n : Int) : Option Int → Prop
  | none => ∀ m, m ≤ n → inLB one m = inLB two m
  | some x => x ≤ n ∧ inLB one x ≠ inLB two x ∧ ∀ m, x < m → m ≤ n → inLB one m = inLB two m
def spPu : Sp := fun vs H Q _ => ∃ (a b : Addr) (one two : List Rw) (Z : Zn) (L : Nat) (n : Int), vs = [.ref a, .ref b, .int n] ∧ BothAt Z L H a b one two ∧ ∀ (o : Option Int) (H' : Hp), Same H H' → LastX one two n o → Q (oI o) H'
abbrev NPu : List Str := ["one", "two", "number", "low", "high", "step", "bits", "other_step", "other_bits", "last", "found"]
theorem scPu : FnScope NPu ["one", "two", "number"] (defScope (top 66)) := ⟨rfl, rfl, rfl, by decide +kernel, rfl, by decide +kernel, by decide +kernel⟩
section
variable {P : Program} {w : World} {K : PySem.W.Frag} {mg : Str → Option Value} {base : Heap}
theorem ok_pu {f : Addr} {fd : FuncData} (F : Fun K "previous_unlike" "previous_unlike" (top 66) f fd) (n : Nm mg) (SP : Fn P w K mg base 2 "spans" P2r (spSpn K)) (LU : Fn P w K mg base 4 "last_unlike" P6l spLu) : FnOk P w K mg base CX0 5 f fd ["one", "two", "number"] spPu := by
  refine F.ok scPu (fun vs H Q E h => ?_) (fun cdv A outer s H vs Q E hr h => ?_)
  · obtain ⟨a, b, one, two, Z, L, m, rfl, _⟩ := h
    rfl
  · obtain ⟨a, b, one, two, Z, L, m, rfl, g, q⟩ := h
    have nd := scPu.nd
    have r2 := hr.mono (k := 4) (j := 2) (by decide)
    refine ⟨_, pss_cons (ps_for PassesOwn.never rfl (pi_list (pe_revL (pe_fn SP r2 (pa_cons (pv 0) (pa_cons (pv 1) pa_nil))))) (pg_tup rfl (pgs_cons (pg_name (i := 3) nd rfl (.inl rfl)) (pgs_cons (pg_name (i := 4) nd rfl (.inl rfl)) (pgs_cons (pg_name (i := 5) nd rfl (.inl rfl)) (pgs_cons (pg_name (i := 6) nd rfl (.inl rfl)) (pgs_cons (pg_name (i := 7) nd rfl (.inl rfl)) (pgs_cons (pg_name (i := 8) nd rfl (.inl rfl)) pgs_nil)))))))
        (pss_cons (ps_if (pw_and (pt_cmp (pc_notN (pv 3))) (pw_and1 (pt_cmpR op_gt (pv 3) (pv 2) (nomark _)))).pt (pss_one ps_continue) pss_nil)
        (pss_cons (ps_set (i := 9) nd rfl (.inl rfl) (pe_ifExp (pt_cmp (pc_isN (pv 4))) (pv 2) (pe_callB (call_min2 rfl) (by rfl) n.min (by decide +kernel) (pa_cons (pv 4) (pa_cons (pv 2) pa_nil)))))
        (pss_cons (ps_set (i := 10) nd rfl (.inl rfl) (pe_fn LU hr (pa_cons (pv 3) (pa_cons (pv 9) (pa_cons (pv 5) (pa_cons (pv 6) (pa_cons (pv 7) (pa_cons (pv 8) pa_nil))))))))
        (pss_one (ps_if (pt_cmp (pc_notN (pv 10))) (pss_one (ps_ret (pv 10))) pss_nil))))))
      (pss_one (ps_ret pe_non)), ?_⟩
    refine ⟨_, rfl, _, rfl, a, b, one, two, Z, L, 50000, rfl, g.pair, fun l ms us H1 n1 s1 hl1 asc mb ml ul kz => ?_⟩
    refine ⟨l, us, rfl, .inl (.inl hl1), fun r hr1 => ?_⟩
    have sr := same_upd (o := .lst us.reverse) hr1
    have hlr : upd H1 r (.lst us.reverse) r = some (.lst us.reverse) := upd_same
    have kz : ∀ k v, us[k]? = some v → SpanV L 50000 ms one two (upd H1 r (.lst us.reverse)) k v := fun k v e => (kz k v e).same sr
    have s1 := s1.trans sr
    generalize upd H1 r (.lst us.reverse) = H1 at *
    refine ⟨r, rfl, ⟨_, .inl (.inl hlr)⟩, ?_⟩
    refine loop_of (n := us.length) (fun i σ H2 => ∃ (x3 x4 x5 x6 x7 x8 x9 x10 : Option V), (∀ k, us.length - i ≤ k → k ≤ ms.length → ∀ y, InSp (lowAt ms k) (highAt ms k) y → y ≤ m → inLB one y = inLB two y) ∧ H1 = H2 ∧ σ = [some (.ref a), some (.ref b), some (.int m), x3, x4, x5, x6, x7, x8, x9, x10])
      ⟨none, none, none, none, none, none, none, none, (fun k z z2 => by omega), rfl, rfl⟩ ?_ ?_
    · rintro σ H2 ⟨x3, x4, x5, x6, x7, x8, x9, x10, al, rfl, rfl⟩
      refine ⟨⟨_, .inl (.inl hlr), by rw [List.length_reverse]; exact Nat.le_refl _⟩, q none H1 s1 fun y my => ?_⟩
      obtain ⟨k, hk, sp⟩ := span_cover ms y
      exact al k (by omega) hk y sp my
    · rintro i σ H2 hi ⟨x3, x4, x5, x6, x7, x8, x9, x10, al, rfl, rfl⟩
      refine ⟨⟨_, _, .inl (.inl hlr), List.getElem?_eq_getElem (by rw [List.length_reverse]; exact hi)⟩, ?_⟩
      rintro v H3 ⟨rfl, hy⟩
      have hvi := hy _ (.inl (.inl hlr))
      rw [List.getElem?_reverse hi] at hvi
      obtain ⟨j, ej⟩ : ∃ j, j = us.length - 1 - i := ⟨_, rfl⟩
      rw [← ej] at hvi
      obtain ⟨t, p, b1, q1, c, rfl, ht, k1, k2⟩ := kz j v hvi
      refine ⟨t, _, rfl, .inl (.inl ht), rfl, _, _, rfl, _, _, rfl, _, _, rfl, _, _, rfl, _, _, rfl, _, _, rfl, rfl, ?_⟩
      generalize elo : lowAt ms j = lo at *
      generalize ehi : highAt ms j = hi' at *
      have step : (∀ y, InSp lo hi' y → y ≤ m → inLB one y = inLB two y) → ∀ k, us.length - (i + 1) ≤ k → k ≤ ms.length → ∀ y, InSp (lowAt ms k) (highAt ms k) y → y ≤ m → inLB one y = inLB two y := fun z k kk km y sp my => by
        by_cases d : us.length - i ≤ k
        · exact al k d km y sp my
        · obtain rfl : k = j := by omega
          rw [elo, ehi] at sp
          exact z y sp my
      -- those that begin above
      refine seqV (Good := fun σ2 H2 => (∀ l, lo = some l → l ≤ m) ∧ H3 = H2 ∧ σ2 = [some (.ref a), some (.ref b), some (.int m), some (oI lo), some (oI hi'), some (.int p), some (.int b1), some (.int q1), some (.int c), x9, x10]) ?_ ?_
      · intro nx hnx
        cases lo with
        | none => exact ⟨_, rfl, false, rfl, iteF (hnx _ _ ⟨(fun h e => nomatch e), rfl, rfl⟩)⟩
        | some h =>
          refine ⟨_, rfl, true, rfl, iteT ⟨_, rfl, _, rfl, _, _, rfl, rfl, decide (m < h), rfl, ?_⟩⟩
          by_cases d : m < h
          · rw [decide_eq_true d]
            exact iteT ⟨_, _, _, _, _, _, _, _, step (fun y sp my => by have := sp.1 h rfl; omega), rfl, rfl⟩
          · rw [decide_eq_false d]
            exact iteF (hnx _ _ ⟨(fun h' e => by cases e; omega), rfl, rfl⟩)
      rintro _ _ ⟨hm, rfl, rfl⟩
      refine seqV (Good := fun σ2 H2 => ∃ f0 : Int, f0 ≤ m ∧ Le hi' f0 ∧ (∀ y, Le hi' y → y ≤ m → y ≤ f0) ∧ (f0 = m ∨ hi' = some f0) ∧ H3 = H2 ∧ σ2 = [some (.ref a), some (.ref b), some (.int m), some (oI lo), some (oI hi'), some (.int p), some (.int b1), some (.int q1), some (.int c), some (.int f0), x10]) ?_ ?_
      · intro nx hnx
        cases hi' with
        | none => exact ⟨_, rfl, true, rfl, iteT ⟨_, rfl, hnx _ _ ⟨m, Int.le_refl _, le_none m, (fun y _ z => z), .inl rfl, rfl, rfl⟩⟩⟩
        | some l0 =>
          refine ⟨_, rfl, false, rfl, iteF ⟨_, rfl, _, rfl, _, _, rfl, ?_⟩⟩
          by_cases d : m < l0
          · have e : (if m < l0 then m else l0) = m := if_pos d
            refine hnx _ _ ⟨m, Int.le_refl _, (fun l e => by cases e; omega), (fun y _ z => z), .inl rfl, rfl, ?_⟩
            rw [e]
            rfl
          · have e : (if m < l0 then m else l0) = l0 := if_neg d
            refine hnx _ _ ⟨l0, by omega, (fun l e => by cases e; omega), (fun y z _ => z l0 rfl), .inr rfl, rfl, ?_⟩
            rw [e]
            rfl
      rintro _ _ ⟨f0, f1, f2, f3, f4, rfl, rfl⟩
      have gelo : Ge lo f0 := fun h e => by
        rcases f4 with z | z
        · have := hm h e
          omega
        · exact span_le asc (elo.trans e) (ehi.trans z)
      refine seqV (Good := fun σ2 H2 => ∃ o, LuR lo f0 p b1 q1 c o ∧ H3 = H2 ∧ σ2 = [some (.ref a), some (.ref b), some (.int m), some (oI lo), some (oI hi'), some (.int p), some (.int b1), some (.int q1), some (.int c), some (.int f0), some (oI o)]) ?_ ?_
      · intro nx hnx
        exact ⟨_, rfl, _, rfl, _, rfl, _, rfl, _, rfl, _, rfl, lo, f0, p, b1, q1, c, rfl, k1.p0, k1.pP, k1.bl, k2.p0, k2.pP, k2.bl, gelo, fun o ho => hnx _ _ ⟨o, ho, rfl, rfl⟩⟩
      rintro _ _ ⟨o, ho, rfl, rfl⟩
      cases o with
      | none =>
        refine ⟨_, rfl, false, rfl, iteF ⟨_, _, _, _, _, _, _, _, step (fun y sp my => ?_), rfl, rfl⟩⟩
        rw [rest_eq k1 sp, rest_eq k2 sp]
        exact ho.1 y sp.1 (f3 y sp.2 my)
      | some x =>
        have sp : InSp lo hi' x := ⟨ho.1, fun l e => by have := f2 l e; have := ho.2.1; omega⟩
        refine ⟨_, rfl, true, rfl, iteT ⟨_, rfl, q (some x) H3 s1 ⟨by have := ho.2.1; omega, by rw [rest_eq k1 sp, rest_eq k2 sp]; exact ho.2.2.1, fun y xy my => ?_⟩⟩⟩
        obtain ⟨k, hk, spk⟩ := span_cover ms y
        rcases Nat.lt_trichotomy k j with d | d | d
        · exfalso
          obtain ⟨a1, b1', e1, e2, lt⟩ := span_so asc d (by omega)
          rw [elo] at e2
          have h1 := sp.1 b1' e2
          have h2 := spk.2 a1 e1
          omega
        · subst d
          rw [elo, ehi] at spk
          rw [rest_eq k1 spk, rest_eq k2 spk]
          exact ho.2.2.2 y xy (f3 y spk.2 my)
        · exact al k (by omega) hk y spk my
end
end L2.K14
end

section
set_option Elab.async false
set_option linter.all false
set_option maxRecDepth 100000
set_option maxHeartbeats 1000000
namespace L2.K14
open PySem PySem.Spec PyProof.Rows L2.Gd L2.Ln
/-! ### whether two lists have the same numbers -/
def spSm : Sp := fun vs H Q _ => ∃ (a b : Addr) (one two : List Rw) (Z : Zn) (L : Nat), vs = [.ref a, .ref b] ∧ BothAt Z L H a b one two ∧ ∀ (c : Bool) (H' : Hp), Same H H' → (c = true ↔ ∀ m, inLB one m = inLB two m) → Q (.bl c) H'
theorem scSm : FnScope ["one", "two"] ["one", "two"] (defScope (top 67)) := ⟨rfl, rfl, rfl, by decide +kernel, rfl, by decide +kernel, by decide +kernel⟩
section
variable {P : Program} {w : World} {K : PySem.W.Frag} {mg : Str → Option Value} {base : Heap}
theorem ok_sm {f : Addr} {fd : FuncData} (F : Fun K "are_same" "are_same" (top 67) f fd) (NU : Fn P w K mg base 5 "next_unlike" ["one", "two", "number"] spNu) (PU : Fn P w K mg base 5 "previous_unlike" ["one", "two", "number"] spPu) : FnOk P w K mg base CX0 6 f fd ["one", "two"] spSm := by
  refine F.ok scSm (fun vs H Q E h => ?_) (fun cdv A outer s H vs Q E hr h => ?_)
  · obtain ⟨a, b, one, two, Z, L, rfl, _⟩ := h
    rfl
  · obtain ⟨a, b, one, two, Z, L, rfl, g, q⟩ := h
    refine ⟨_, pss_one (ps_ret (pe_and (pe_cmpR op_isN (pe_fn NU hr (pa_cons (pv 0) (pa_cons (pv 1) (pa_cons pe_int pa_nil)))) pe_non (nomark _)) (pe_one (pe_cmpR op_isN (pe_fn PU hr (pa_cons (pv 0) (pa_cons (pv 1) (pa_cons (pe_un un_neg pe_int) pa_nil)))) pe_non (nomark _))))), ?_⟩
    refine ⟨_, rfl, _, rfl, a, b, one, two, Z, L, 0, rfl, g, fun o H1 s1 ho => ?_⟩
    cases o with
    | some x =>
      refine ⟨rfl, false, rfl, iteF (q false H1 s1 ⟨(fun z => nomatch z), fun z => ?_⟩)⟩
      exact absurd (z x) ho.2.1
    | none =>
      refine ⟨rfl, true, rfl, iteT ⟨_, rfl, _, rfl, _, rfl, a, b, one, two, Z, L, -1, rfl, g.same s1, fun o2 H2 s2 ho2 => ?_⟩⟩
      have up : ∀ m, 0 ≤ m → inLB one m = inLB two m := ho
      cases o2 with
      | some x =>
        refine ⟨rfl, q false H2 (s1.trans s2) ⟨(fun z => nomatch z), fun z => ?_⟩⟩
        exact absurd (z x) ho2.2.1
      | none =>
        have dn : ∀ m, m ≤ -1 → inLB one m = inLB two m := ho2
        refine ⟨rfl, q true H2 (s1.trans s2) ⟨fun _ m => ?_, fun _ => rfl⟩⟩
        by_cases c : 0 ≤ m
        · exact up m c
        · exact dn m (by omega)
end
end L2.K14
end

section
set_option Elab.async false
set_option linter.all false
set_option maxRecDepth 100000
set_option maxHeartbeats 1000000
namespace L2.K14
open PySem PySem.Spec PyProof.Rows L2.Gd L2.Ln
/-! ### stretches -/
def spEn : Sp := fun vs H Q _ => ∃ o : Option Int, vs = [oI o] ∧ Q (.bl true) H
theorem scEn : FnScope ["value"] ["value"] (defScope (top 69)) := ⟨rfl, rfl, rfl, by decide +kernel, rfl, by decide +kernel, by decide +kernel⟩
/-- a rising list of rests -/
structure RsOk (p : Int) (xs : List Int) : Prop where
  ne : xs ≠ []
  up : xs.Pairwise (· < ·)
  b : ∀ x ∈ xs, 0 ≤ x ∧ x < p
  len : xs.length ≤ 10000
def spRs : Sp := fun vs H Q _ => ∃ (a : Addr) (xs : List Int) (p : Int), vs = [.ref a, .int p] ∧ H a = some (.lst (xs.map V.int)) ∧ RsOk p xs ∧ ∀ H', Same H H' → Q (.bl true) H'
theorem scRs : FnScope ["value", "period", "last", "rest"] ["value", "period"] (defScope (top 70)) := ⟨rfl, rfl, rfl, by decide +kernel, rfl, by decide +kernel, by decide +kernel⟩
section
variable {P : Program} {w : World} {K : PySem.W.Frag} {mg : Str → Option Value} {base : Heap}
theorem ok_en {f : Addr} {fd : FuncData} (F : Fun K "is_end" "is_end" (top 69) f fd) (G : Fn P w K mg base 1 "is_integer" ["value"] spIsInt) : FnOk P w K mg base CX0 2 f fd ["value"] spEn := by
  refine F.ok scEn (fun vs H Q E h => ?_) (fun cdv A outer s H vs Q E hr h => ?_)
  · obtain ⟨o, rfl, _⟩ := h
    rfl
  · obtain ⟨o, rfl, q⟩ := h
    refine ⟨_, pss_one (ps_ret (pe_or (pe_cmpR op_isN (pv 0) pe_non (nomark _)) (pe_one (pe_fn G hr (pa_cons (pv 0) pa_nil))))), ?_⟩
    cases o with
    | none => exact ⟨_, rfl, rfl, true, rfl, iteT q⟩
    | some i => exact ⟨_, rfl, rfl, false, rfl, iteF ⟨_, rfl, i, rfl, q⟩⟩
theorem ok_rs {f : Addr} {fd : FuncData} (F : Fun K "are_rests" "are_rests" (top 70) f fd) (n : Nm mg) (GL : Fn P w K mg base 1 "is_list" ["value"] (spIsList K)) (GC : Fn P w K mg base 2 "is_count" ["value"] spIsCount) : FnOk P w K mg base CX0 3 f fd ["value", "period"] spRs := by
  refine F.ok scRs (fun vs H Q E h => ?_) (fun cdv A outer s H vs Q E hr h => ?_)
  · obtain ⟨a, xs, p, rfl, _⟩ := h
    rfl
  · obtain ⟨a, xs, p, rfl, ha, g, q⟩ := h
    have nd := scRs.nd
    have r1 := hr.mono (k := 2) (j := 1) (by decide)
    refine ⟨_, pss_cons (ps_if (pw_or (pt_not (pt_val (pe_fn GL r1 (pa_cons (pv 0) pa_nil)))) (pw_or1 (pt_cmpR op_eq (pe_callB call_len_seq (by rfl) n.len PySem.boot_len (pa_cons (pv 0) pa_nil)) pe_int (nomark _)))).pt (pss_one (ps_ret pe_bl)) pss_nil)
      (pss_cons (ps_set (i := 2) nd rfl (.inl rfl) (pe_un un_neg pe_int))
      (pss_cons (ps_for PassesOwn.never rfl (pi_list (pv 0)) (pg_name (i := 3) nd rfl (.inl rfl))
        (pss_cons (ps_if (pw_or (pt_not (pt_val (pe_fn GC hr (pa_cons (pv 3) pa_nil)))) (pw_or (pt_cmpR op_le (pv 3) (pv 2) (nomark _)) (pw_or1 (pt_cmpR op_ge (pv 3) (pv 1) (nomark _))))).pt (pss_one (ps_ret pe_bl)) pss_nil)
        (pss_one (ps_set (i := 2) nd rfl (.inl rfl) (pv 3)))))
      (pss_one (ps_ret pe_bl)))), ?_⟩
    refine seqV (Good := fun σ2 H2 => Same H H2 ∧ σ2 = [some (.ref a), some (.int p), none, none]) ?_ ?_
    · intro nx hnx
      refine ⟨_, rfl, a, _, rfl, .inl ha, fun H1 s1 => ⟨true, rfl, iteF ?_⟩⟩
      refine ⟨_, rfl, a, _, rfl, .inl (.inl (.inl (s1 _ _ ha))), rfl, false, congrArg V.bl (decide_eq_false ?_), iteF (hnx _ _ ⟨s1, rfl⟩)⟩
      rw [List.length_map, V.int.injEq]
      have := List.length_pos_iff.mpr g.ne
      omega
    rintro _ H1 ⟨s1, rfl⟩
    have ha1 := s1 _ _ ha
    refine seqV (Good := fun σ2 H2 => H1 = H2 ∧ σ2 = [some (.ref a), some (.int p), some (.int (-1)), none]) (fun nx hnx => ⟨_, rfl, hnx _ _ ⟨rfl, rfl⟩⟩) ?_
    rintro _ _ ⟨rfl, rfl⟩
    refine ⟨_, rfl, a, rfl, ⟨_, .inl (.inl ha1)⟩, ?_⟩
    refine loop_of (n := (xs.map V.int).length) (fun i σ H2 => ∃ (la : Int) (x3 : Option V), (∀ k x, i ≤ k → xs[k]? = some x → la < x) ∧ H1 = H2 ∧ σ = [some (.ref a), some (.int p), some (.int la), x3])
      ⟨-1, none, (fun k x _ e => by have := (g.b x (List.mem_of_getElem? e)).1; omega), rfl, rfl⟩ ?_ ?_
    · rintro σ H2 ⟨la, x3, al, rfl, rfl⟩
      exact ⟨⟨_, .inl (.inl ha1), Nat.le_refl _⟩, q H1 s1⟩
    · rintro i σ H2 hi ⟨la, x3, al, rfl, rfl⟩
      refine ⟨⟨_, _, .inl (.inl ha1), List.getElem?_eq_getElem hi⟩, ?_⟩
      rintro v H3 ⟨rfl, hy⟩
      have hvi := hy _ (.inl (.inl ha1))
      rw [List.getElem?_map] at hvi
      obtain ⟨x, hx, rfl⟩ := Option.map_eq_some_iff.mp hvi
      have b := g.b x (List.mem_of_getElem? hx)
      have lx := al i x (Nat.le_refl i) hx
      refine gn ?_
      refine seqV (Good := fun σ2 H2 => H3 = H2 ∧ σ2 = [some (.ref a), some (.int p), some (.int la), some (.int x)]) ?_ ?_
      · intro nx hnx
        refine ⟨_, rfl, x, rfl, b.1, true, rfl, iteF ?_⟩
        refine ⟨_, rfl, _, rfl, _, _, rfl, rfl, decide (x ≤ la), rfl, ?_⟩
        rw [decide_eq_false (by omega)]
        refine iteF ⟨_, rfl, _, rfl, _, _, rfl, rfl, decide (p ≤ x), rfl, ?_⟩
        rw [decide_eq_false (by omega)]
        exact iteF (hnx _ _ ⟨rfl, rfl⟩)
      rintro _ _ ⟨rfl, rfl⟩
      refine ⟨_, rfl, x, _, fun k y kk e => ?_, rfl, rfl⟩
      obtain ⟨h1, e1⟩ := List.getElem?_eq_some_iff.mp hx
      obtain ⟨h2, e2⟩ := List.getElem?_eq_some_iff.mp e
      have := List.pairwise_iff_getElem.mp g.up i k h1 h2 (by omega)
      rw [e1, e2] at this
      exact this
end
end L2.K14
end

section
set_option Elab.async false
set_option linter.all false
set_option maxRecDepth 100000
/-! a loop over a list or a tuple, whichever it is -/
namespace L2
open PySem PySem.Spec PyProof.Rows
section
variable {X : Cx} {tg : Expr}
/-- what such a loop asks -/
def iSeq (K : PySem.W.Frag) (te : TE) : TI := fun σ H R => te σ H fun v H2 => ∃ b, v = .ref b ∧ (((∃ ys, SqL K H2 b ys) ∧ R (Itl K b) H2) ∨ ((∃ ys, SqT K H2 b ys) ∧ R (Itt K b) H2))
theorem pi_seq {e : Expr} {te : TE} (he : PE X e te) : PI X tg e (iSeq X.K te) := by
  constructor
  intro pn sh σ H R inv ask
  refine thn (he.run pn sh σ H _ inv ask) ?_
  rintro u sh2 ⟨v, H2, inv2, rel, b, rfl, which⟩
  cases rel
  have only : ∀ c ∈ [sh2.heap.objs.size], c = sh2.heap.objs.size := fun c hc => by simpa using hc
  rcases which with ⟨⟨ys, sq⟩, go⟩ | ⟨⟨ys, sq⟩, go⟩
  · obtain ⟨us, _, isl, _⟩ := inv2.list sq
    refine wpAny_pyIter_list isl.isList ⟨_, [sh2.heap.objs.size], _, _, H2, rfl, inv2.kept (t' := sh2.toks) fun c o ec => Heap.get?_push_of_some _ ec, turn_list b _, ⟨_, Heap.get?_push_size _ rfl, rfl, rfl⟩, ?_, go⟩
    intro c hc
    rw [only c hc]
    exact inv2.fpOk (Nat.le_refl _) (inv2.hok.fresh (Nat.le_refl _))
  · obtain ⟨us, _, ist, _⟩ := inv2.tuple sq
    refine wpAny_pyIter_tuple (show sh2.heap.IsTuple b us.toArray from ist) ⟨_, [sh2.heap.objs.size], _, _, H2, rfl, inv2.kept (t' := sh2.toks) fun c o ec => Heap.get?_push_of_some _ ec, turn_tuple b _, ⟨_, Heap.get?_push_size _ rfl, rfl, rfl⟩, ?_, go⟩
    intro c hc
    rw [only c hc]
    exact inv2.fpOk (Nat.le_refl _) (inv2.hok.fresh (Nat.le_refl _))
end
end L2
end

section
set_option Elab.async false
set_option linter.all false
set_option maxRecDepth 100000
set_option maxHeartbeats 1000000
namespace L2.K14
open PySem PySem.Spec PyProof.Rows L2.Gd L2.Ln
/-! ### a stretch and its row -/
/-- rests, in a list or a tuple -/
def RsAt (H : Hp) (l : Addr) (xs : List Int) : Prop := H l = some (.lst (xs.map V.int)) ∨ H l = some (.tup (xs.map V.int))
theorem RsAt.same {H H' : Hp} {l : Addr} {xs : List Int} (s : Same H H') (h : RsAt H l xs) : RsAt H' l xs := h.imp (s _ _) (s _ _)
/-- a stretch as a value -/
def StV (H : Hp) (v : V) (lo hi : Option Int) (p : Nat) (xs : List Int) : Prop := ∃ t l, v = .ref t ∧ H t = some (.tup [oI lo, oI hi, .int p, .ref l]) ∧ RsAt H l xs
theorem StV.same {H H' : Hp} {v : V} {lo hi : Option Int} {p : Nat} {xs : List Int} (s : Same H H') (h : StV H v lo hi p xs) : StV H' v lo hi p xs := let ⟨t, l, e, ht, hl⟩ := h; ⟨t, l, e, s _ _ ht, hl.same s⟩
structure StOk (lo hi : Option Int) (p : Nat) (xs : List Int) : Prop where
  p0 : 0 < p
  pm : p ≤ 2520
  rs : RsOk p xs
  le : ∀ l h, lo = some l → hi = some h → l ≤ h
def maskN : List Int → Nat → Nat
  | [], b => b
  | x :: xs, b => maskN xs (b ||| (1 <<< x.toNat))
theorem mask_app (xs : List Int) (x : Int) : ∀ b, maskN (xs ++ [x]) b = maskN xs b ||| (1 <<< x.toNat) := by
  induction xs with
  | nil => intro b; rfl
  | cons y ys ih => intro b; exact ih _
theorem mask_bit {xs : List Int} (h : ∀ x ∈ xs, 0 ≤ x) (i : Nat) : ∀ b, (maskN xs b).testBit i = (b.testBit i || decide ((i : Int) ∈ xs)) := by
  induction xs with
  | nil => intro b; simp [maskN]
  | cons y ys ih =>
    intro b
    have h0 := h y (by simp)
    show (maskN ys (b ||| (1 <<< y.toNat))).testBit i = _
    rw [ih (fun x hx => h x (List.mem_cons_of_mem _ hx)), Nat.testBit_or, Nat.shiftLeft_eq, Nat.one_mul, Nat.testBit_two_pow, Bool.or_assoc]
    congr 1
    rw [Bool.eq_iff_iff, Bool.or_eq_true, decide_eq_true_eq, decide_eq_true_eq, decide_eq_true_eq, List.mem_cons]
    constructor
    · rintro (z | z)
      · exact .inl (by omega)
      · exact .inr z
    · rintro (z | z)
      · exact .inl (by omega)
      · exact .inr z
theorem mask_lt {xs : List Int} {p : Nat} (h : ∀ x ∈ xs, 0 ≤ x ∧ x < (p : Int)) : maskN xs 0 < 2 ^ p := by
  refine Nat.lt_pow_two_of_testBit _ fun i hi => ?_
  rw [mask_bit (fun x hx => (h x hx).1), Nat.zero_testBit, Bool.false_or, decide_eq_false_iff_not]
  intro z
  have := (h _ z).2
  omega
/-- the numbers of a stretch -/
theorem mask_pat {xs : List Int} {p : Nat} (p0 : 0 < p) (h : ∀ x ∈ xs, 0 ≤ x ∧ x < (p : Int)) (n : Int) : pat p (maskN xs 0) n = decide (n % (p : Int) ∈ xs) := by
  unfold pat
  rw [mask_bit (fun x hx => (h x hx).1), Nat.zero_testBit, Bool.false_or, Int.toNat_of_nonneg (Int.emod_nonneg n (by omega))]
def spSt : Sp := fun vs H Q _ => ∃ (v : V) (lo hi : Option Int) (p : Nat) (xs : List Int), vs = [v] ∧ StV H v lo hi p xs ∧ StOk lo hi p xs ∧ ∀ H', Same H H' → Q (.bl true) H'
abbrev NSt : List Str := ["value", "low", "high", "period", "rests"]
theorem scSt : FnScope NSt ["value"] (defScope (top 71)) := ⟨rfl, rfl, rfl, by decide +kernel, rfl, by decide +kernel, by decide +kernel⟩
def spMo : Sp := fun vs H Q _ => ∃ (a : Addr) (xs : List Int), vs = [.ref a] ∧ RsAt H a xs ∧ (∀ x ∈ xs, 0 ≤ x ∧ x < 10000) ∧ Q (.int (maskN xs 0 : Nat)) H
theorem scMo : FnScope ["positions", "bits", "position"] ["positions"] (defScope (top 23)) := ⟨rfl, rfl, rfl, by decide +kernel, rfl, by decide +kernel, by decide +kernel⟩
def spRl : Sp := fun vs H Q _ => ∃ (v : V) (lo hi : Option Int) (p : Nat) (xs : List Int), vs = [v] ∧ StV H v lo hi p xs ∧ StOk lo hi p xs ∧ ∀ (l : Addr) (us : List V) (o : Option Rw) (H' : Hp), H l = none → Same H H' → H' l = some (.lst us) → RowsV H' us o.toList → TrimR ⟨lo, hi, p, maskN xs 0⟩ o → Q (.ref l) H'
theorem scRl : FnScope ["stretch", "low", "high", "period", "rests"] ["stretch"] (defScope (top 72)) := ⟨rfl, rfl, rfl, by decide +kernel, rfl, by decide +kernel, by decide +kernel⟩
section
variable {P : Program} {w : World} {K : PySem.W.Frag} {mg : Str → Option Value} {base : Heap}
theorem ok_mo {f : Addr} {fd : FuncData} (F : Fun K "mask_of" "mask_of" (top 23) f fd) : FnOk P w K mg base CX0 1 f fd ["positions"] spMo := by
  refine F.ok scMo (fun vs H Q E h => ?_) (fun cdv A outer s H vs Q E hr h => ?_)
  · obtain ⟨a, xs, rfl, _⟩ := h
    rfl
  · obtain ⟨a, xs, rfl, ha, xb, q⟩ := h
    have nd := scMo.nd
    refine ⟨_, pss_cons (ps_set (i := 1) nd rfl (.inl rfl) pe_int)
      (pss_cons (ps_for PassesOwn.never rfl (pi_seq (pv 0)) (pg_name (i := 2) nd rfl (.inl rfl)) (pss_one (ps_set (i := 1) nd rfl (.inl rfl) (pe_op op_or (pv 1) (pe_op op_oneShl pe_int (pv 2))))))
      (pss_one (ps_ret (pv 1)))), ?_⟩
    refine seqV (Good := fun σ2 H2 => H = H2 ∧ σ2 = [some (.ref a), some (.int ((0 : Nat) : Int)), none]) (fun nx hnx => hnx _ _ ⟨rfl, rfl⟩) ?_
    rintro _ _ ⟨rfl, rfl⟩
    refine ⟨_, rfl, a, rfl, ?_⟩
    rcases ha with ha | ha
    · refine .inl ⟨⟨_, .inl (.inl ha)⟩, ?_⟩
      refine loop_of (n := (xs.map V.int).length) (fun i σ H2 => ∃ x2 : Option V, H = H2 ∧ σ = [some (.ref a), some (.int (maskN (xs.take i) 0 : Nat)), x2]) ⟨none, rfl, rfl⟩ ?_ ?_
      · rintro σ H2 ⟨x2, rfl, rfl⟩
        refine ⟨⟨_, .inl (.inl ha), Nat.le_refl _⟩, _, rfl, ?_⟩
        rw [List.length_map, List.take_length]
        exact q
      · rintro i σ H2 hi ⟨x2, rfl, rfl⟩
        refine ⟨⟨_, _, .inl (.inl ha), List.getElem?_eq_getElem hi⟩, ?_⟩
        rintro v H3 ⟨rfl, hy⟩
        have hvi := hy _ (.inl (.inl ha))
        rw [List.getElem?_map] at hvi
        obtain ⟨x, hx, rfl⟩ := Option.map_eq_some_iff.mp hvi
        have b := xb x (List.mem_of_getElem? hx)
        obtain ⟨k, rfl⟩ : ∃ k : Nat, x = k := ⟨x.toNat, by omega⟩
        refine gn ?_
        refine ⟨_, rfl, _, rfl, k, rfl, rfl, by omega, ?_⟩
        have e1 : maskN (xs.take (i + 1)) 0 = maskN (xs.take i) 0 ||| 2 ^ k := by
          rw [List.take_succ, hx]
          show maskN (xs.take i ++ [(k : Int)]) 0 = _
          rw [mask_app, Int.toNat_natCast, Nat.shiftLeft_eq, Nat.one_mul]
        have e2 : Builtin.bitOr ((maskN (xs.take i) 0 : Nat) : Int) (2 ^ k) = ((maskN (xs.take (i + 1)) 0 : Nat) : Int) := by
          rw [e1, ← or_nat, Int.natCast_pow]
          rfl
        refine ⟨_, _, rfl, rfl, some (.int (k : Int)), rfl, ?_⟩
        show [some (V.ref a), some (V.int (Builtin.bitOr ((maskN (xs.take i) 0 : Nat) : Int) (2 ^ k))), some (V.int (k : Int))] = _
        rw [e2]
    · refine .inr ⟨⟨_, .inl (.inl ha)⟩, ?_⟩
      refine loop_of (n := (xs.map V.int).length) (fun i σ H2 => ∃ x2 : Option V, H = H2 ∧ σ = [some (.ref a), some (.int (maskN (xs.take i) 0 : Nat)), x2]) ⟨none, rfl, rfl⟩ ?_ ?_
      · rintro σ H2 ⟨x2, rfl, rfl⟩
        refine ⟨⟨_, .inl (.inl ha), Nat.le_refl _⟩, _, rfl, ?_⟩
        rw [List.length_map, List.take_length]
        exact q
      · rintro i σ H2 hi ⟨x2, rfl, rfl⟩
        refine ⟨⟨_, _, .inl (.inl ha), List.getElem?_eq_getElem hi⟩, ?_⟩
        rintro v H3 ⟨rfl, hy⟩
        have hvi := hy _ (.inl (.inl ha))
        rw [List.getElem?_map] at hvi
        obtain ⟨x, hx, rfl⟩ := Option.map_eq_some_iff.mp hvi
        have b := xb x (List.mem_of_getElem? hx)
        obtain ⟨k, rfl⟩ : ∃ k : Nat, x = k := ⟨x.toNat, by omega⟩
        refine gn ?_
        refine ⟨_, rfl, _, rfl, k, rfl, rfl, by omega, ?_⟩
        have e1 : maskN (xs.take (i + 1)) 0 = maskN (xs.take i) 0 ||| 2 ^ k := by
          rw [List.take_succ, hx]
          show maskN (xs.take i ++ [(k : Int)]) 0 = _
          rw [mask_app, Int.toNat_natCast, Nat.shiftLeft_eq, Nat.one_mul]
        have e2 : Builtin.bitOr ((maskN (xs.take i) 0 : Nat) : Int) (2 ^ k) = ((maskN (xs.take (i + 1)) 0 : Nat) : Int) := by
          rw [e1, ← or_nat, Int.natCast_pow]
          rfl
        refine ⟨_, _, rfl, rfl, some (.int (k : Int)), rfl, ?_⟩
        show [some (V.ref a), some (V.int (Builtin.bitOr ((maskN (xs.take i) 0 : Nat) : Int) (2 ^ k))), some (V.int (k : Int))] = _
        rw [e2]
theorem ok_rl {f : Addr} {fd : FuncData} (F : Fun K "row_list" "row_list" (top 72) f fd) (TM : Fn P w K mg base 4 "trimmed" ["row"] spTm) (MO : Fn P w K mg base 1 "mask_of" ["positions"] spMo) : FnOk P w K mg base CX0 5 f fd ["stretch"] spRl := by
  refine F.ok scRl (fun vs H Q E h => ?_) (fun cdv A outer s H vs Q E hr h => ?_)
  · obtain ⟨v, lo, hi, p, xs, rfl, _⟩ := h
    rfl
  · obtain ⟨v, lo, hi, p, xs, rfl, ⟨t, l, rfl, ht, hl⟩, g, q⟩ := h
    have nd := scRl.nd
    have r1 := hr.mono (k := 4) (j := 1) (by decide)
    refine ⟨_, pss_cons (ps_asg (pv 0) (pg_tup rfl (pgs_cons (pg_name (i := 1) nd rfl (.inl rfl)) (pgs_cons (pg_name (i := 2) nd rfl (.inl rfl)) (pgs_cons (pg_name (i := 3) nd rfl (.inl rfl)) (pgs_cons (pg_name (i := 4) nd rfl (.inl rfl)) pgs_nil))))))
      (pss_one (ps_ret (pe_fn TM hr (pa_cons (pe_tup (pa_cons (pv 1) (pa_cons (pv 2) (pa_cons (pv 3) (pa_cons (pe_fn MO r1 (pa_cons (pv 4) pa_nil)) pa_nil))))) pa_nil)))), ?_⟩
    refine seqV (Good := fun σ2 H2 => H = H2 ∧ σ2 = [some (.ref t), some (oI lo), some (oI hi), some (.int p), some (.ref l)]) (fun nx hnx => ⟨_, rfl, t, _, rfl, .inl (.inl ht), rfl, _, _, rfl, _, _, rfl, _, _, rfl, _, _, rfl, rfl, hnx _ _ ⟨rfl, rfl⟩⟩) ?_
    rintro _ _ ⟨rfl, rfl⟩
    have pm := g.pm
    refine ⟨_, rfl, _, rfl, _, rfl, _, rfl, l, xs, rfl, hl, (fun x hx => by have := g.rs.b x hx; omega), (by show 4 ≤ sizeLine; decide), fun o ho => ?_⟩
    have s1 := same_upd (o := .tup [oI lo, oI hi, .int p, .int (maskN xs 0 : Nat)]) ho
    refine ⟨_, ⟨lo, hi, p, maskN xs 0⟩, rfl, ⟨o, rfl, upd_same⟩, ⟨g.p0, mask_lt g.rs.b, g.le⟩, (by show p ≤ 100000; omega), fun l4 us o4 H4 n4 s4 hl4 rv4 tr => ?_⟩
    exact q l4 us o4 H4 (Same.free s1 n4) (s1.trans s4) hl4 rv4 tr
end
end L2.K14
end

section
set_option Elab.async false
set_option linter.all false
set_option maxRecDepth 100000
set_option maxHeartbeats 1000000
namespace L2.K14
open PySem PySem.Spec PyProof.Rows L2.Gd L2.Ln
/-! ### many lists made one (mathematics; the reading of united is to come) -/
theorem NtS.sub {Z Z' : Zn} (s : Z.Sub Z') {L : Nat} {rs : List Rw} (h : NtS Z L rs) : NtS Z' L rs :=
  ⟨⟨h.ln.nt, fun r hr => (h.ln.lm r hr).sub s⟩, by have := h.few; have := s.l; omega⟩
theorem NtS.mono {cs : List Int} {W W' : Int} {L : Nat} {rs : List Rw} (le : W ≤ W') (h : NtS ⟨cs, W⟩ L rs) : NtS ⟨cs, W'⟩ L rs := NtS.sub (Z := ⟨cs, W⟩) (Z' := ⟨cs, W'⟩) ⟨fun _ z => z, le, Nat.le_refl _⟩ h
def inW (ws : List (List Rw)) (n : Int) : Prop := ∃ rs ∈ ws, inLB rs n = true
/-- each two next to each other made one -/
structure Halved (ws ps : List (List Rw)) : Prop where
  len : ps.length = ws.length / 2
  at_ : ∀ j rs, ps[j]? = some rs → ∃ a b, ws[2 * j]? = some a ∧ ws[2 * j + 1]? = some b ∧ ∀ n, inLB rs n = (inLB a n || inLB b n)
theorem halved_in {ws ps : List (List Rw)} (h : Halved ws ps) {n : Int} (i : inW ps n) : inW ws n := by
  obtain ⟨rs, hr, e⟩ := i
  obtain ⟨j, hj⟩ := List.getElem?_of_mem hr
  obtain ⟨a, b, ha, hb, o⟩ := h.at_ j rs hj
  rw [o n, Bool.or_eq_true] at e
  rcases e with e | e
  · exact ⟨a, List.mem_of_getElem? ha, e⟩
  · exact ⟨b, List.mem_of_getElem? hb, e⟩
theorem halved_at {ws ps : List (List Rw)} (h : Halved ws ps) {n : Int} {k : Nat} {rs : List Rw} (hk : ws[k]? = some rs) (e : inLB rs n = true) (lt : k / 2 < ws.length / 2) : inW ps n := by
  have e1 : ps[k / 2]? = some (ps[k / 2]'(by rw [h.len]; exact lt)) := List.getElem?_eq_getElem (by rw [h.len]; exact lt)
  obtain ⟨a, b, ha, hb, o⟩ := h.at_ _ _ e1
  refine ⟨_, List.mem_of_getElem? e1, ?_⟩
  rw [o n, Bool.or_eq_true]
  rcases Nat.mod_two_eq_zero_or_one k with z | z
  · left
    rw [show 2 * (k / 2) = k by omega, hk] at ha
    cases ha
    exact e
  · right
    rw [show 2 * (k / 2) + 1 = k by omega, hk] at hb
    cases hb
    exact e
theorem halved_even {ws ps : List (List Rw)} (h : Halved ws ps) (ev : ws.length % 2 = 0) (n : Int) : inW ps n ↔ inW ws n := by
  refine ⟨halved_in h, ?_⟩
  rintro ⟨rs, hr, e⟩
  obtain ⟨k, hk⟩ := List.getElem?_of_mem hr
  obtain ⟨kl, _⟩ := List.getElem?_eq_some_iff.mp hk
  exact halved_at h hk e (by omega)
theorem halved_odd {ws ps : List (List Rw)} (h : Halved ws ps) (od : ws.length % 2 = 1) {z : List Rw} (hz : ws[ws.length - 1]? = some z) (n : Int) : inW (ps ++ [z]) n ↔ inW ws n := by
  constructor
  · rintro ⟨rs, hr, e⟩
    rcases List.mem_append.mp hr with c | c
    · exact halved_in h ⟨rs, c, e⟩
    · obtain rfl := List.mem_singleton.mp c
      exact ⟨_, List.mem_of_getElem? hz, e⟩
  · rintro ⟨rs, hr, e⟩
    obtain ⟨k, hk⟩ := List.getElem?_of_mem hr
    obtain ⟨kl, _⟩ := List.getElem?_eq_some_iff.mp hk
    by_cases c : k / 2 < ws.length / 2
    · obtain ⟨r2, m, e2⟩ := halved_at h hk e c
      exact ⟨r2, List.mem_append_left _ m, e2⟩
    · obtain rfl : k = ws.length - 1 := by omega
      rw [hz] at hk
      cases hk
      exact ⟨z, List.mem_append_right _ (List.mem_singleton.mpr rfl), e⟩
/-- the lists that have a row -/
theorem inW_some (ws : List (List Rw)) (n : Int) : inW (ws.filter fun rs => decide (0 < rs.length)) n ↔ inW ws n := by
  constructor
  · rintro ⟨rs, hr, e⟩
    exact ⟨rs, (List.mem_filter.mp hr).1, e⟩
  · rintro ⟨rs, hr, e⟩
    refine ⟨rs, List.mem_filter.mpr ⟨hr, ?_⟩, e⟩
    cases rs with
    | nil => exact nomatch e
    | cons r rs => rfl
/-- lists of rows as values -/
def WorkV (H : Hp) (vs : List V) (ws : List (List Rw)) : Prop := Paired (fun v rs => ∃ a, v = .ref a ∧ RowsAt H a rs) vs ws
theorem WorkV.same {H H' : Hp} {vs : List V} {ws : List (List Rw)} (s : Same H H') (h : WorkV H vs ws) : WorkV H' vs ws := Paired.mapP h fun _ _ ⟨a, e, r⟩ => ⟨a, e, r.same s⟩
theorem pair_app {α β : Type} {R : α → β → Prop} {xs xs' : List α} {ys ys' : List β} (h : Paired R xs ys) (h' : Paired R xs' ys') : Paired R (xs ++ xs') (ys ++ ys') := by
  induction h with
  | nil => exact h'
  | cons a _ ih => exact .cons a ih
/-- one more at the end -/
theorem workV_snoc {H : Hp} {vs : List V} {ws : List (List Rw)} {b : Addr} {rs : List Rw} (h : WorkV H vs ws) (hb : RowsAt H b rs) : WorkV H (vs ++ [.ref b]) (ws ++ [rs]) := pair_app h (.cons ⟨b, rfl, hb⟩ .nil)
/-- a comprehension over whatever is walked, by a count -/
theorem lc_any {J : It} {n : Nat} {g : TG} {tt : TT} {te : TE} {vs : List Nat} {σ : L2.St} {H1 : Hp} {D : Addr} {Qd : Hp → Prop} (Pv : Nat → Hp → Prop) (h0 : Pv 0 (upd H1 D (.lst []))) (hd : ∀ H, Pv n H → J.stop n H ∧ Qd H)
    (hs : ∀ i H, i < n → Pv i H → J.go i H ∧ ∀ x H', J.yld i H x H' → g x (wipe σ vs) H' fun σ2 H2 => wipe σ2 vs = wipe σ vs ∧ tt σ2 H2 fun b H3 =>
      if b = true then te σ2 H3 fun y H4 => ∃ acc, H4 D = some (.lst acc) ∧ acc.length < sizeLine ∧ Pv (i + 1) (upd H4 D (.lst (acc ++ [y]))) else Pv (i + 1) H3) :
    ∃ W : Nat → Nat → Hp → Prop, (∃ m, W 0 m (upd H1 D (.lst []))) ∧ ∀ i m H, W i m H →
      (J.stop i H ∧ Qd H) ∨ (J.go i H ∧ ∃ Nx : Hp → Prop, (∀ H', Nx H' → ∃ m', m' < m ∧ W (i + 1) m' H') ∧ ∀ x H', J.yld i H x H' → g x (wipe σ vs) H' fun σ2 H2 => wipe σ2 vs = wipe σ vs ∧ tt σ2 H2 fun b H3 =>
        if b = true then te σ2 H3 fun y H4 => ∃ acc, H4 D = some (.lst acc) ∧ acc.length < sizeLine ∧ Nx (upd H4 D (.lst (acc ++ [y]))) else Nx H3) := by
  refine ⟨fun i m H => m = n - i ∧ i ≤ n ∧ Pv i H, ⟨n, by simp, Nat.zero_le _, h0⟩, ?_⟩
  rintro i m H ⟨rfl, hi, hp⟩
  by_cases e : i < n
  · obtain ⟨go, k⟩ := hs i H e hp
    exact .inr ⟨go, Pv (i + 1), fun H' q => ⟨n - (i + 1), by omega, rfl, e, q⟩, k⟩
  · obtain rfl : i = n := by omega
    exact .inl (hd H hp)
end L2.K14
end

section
set_option Elab.async false
set_option linter.all false
set_option maxRecDepth 100000
set_option maxHeartbeats 1000000
namespace L2.K14
open PySem PySem.Spec PyProof.Rows L2.Gd L2.Ln
/-- how the ends grow while lists are made one -/
def Hlv (W : Int) (L n : Nat) (W2 : Int) : Prop := (n ≤ 16 ∧ W2 = W) ∨ (n ≤ 8 ∧ W2 = W + (1 + L)) ∨ (n ≤ 4 ∧ W2 = W + 2 * (1 + L)) ∨ (n ≤ 2 ∧ W2 = W + 3 * (1 + L)) ∨ (n ≤ 1 ∧ W2 = W + 4 * (1 + L))
theorem Hlv.len {W : Int} {L n : Nat} {W2 : Int} (h : Hlv W L n W2) : n ≤ 16 := by
  rcases h with h | h | h | h | h <;> omega
theorem Hlv.down {W : Int} {L n k : Nat} {W2 : Int} (h : Hlv W L n W2) (l : k ≤ n) : Hlv W L k W2 := by
  rcases h with h | h | h | h | h
  · exact .inl ⟨by omega, h.2⟩
  · exact .inr (.inl ⟨by omega, h.2⟩)
  · exact .inr (.inr (.inl ⟨by omega, h.2⟩))
  · exact .inr (.inr (.inr (.inl ⟨by omega, h.2⟩)))
  · exact .inr (.inr (.inr (.inr ⟨by omega, h.2⟩)))
theorem Hlv.le {W : Int} {L n : Nat} {W2 : Int} (h : Hlv W L n W2) : W2 ≤ W + 4 * (1 + L) := by
  rcases h with h | h | h | h | h <;> omega
theorem Hlv.two {W : Int} {L n : Nat} {W2 : Int} (h : Hlv W L n W2) (c : 1 < n) : W2 + (1 + L) ≤ W + 4 * (1 + L) := by
  rcases h with h | h | h | h | h <;> omega
theorem Hlv.half {W : Int} {L n k : Nat} {W2 : Int} (h : Hlv W L n W2) (c : 1 < n) (e : k = (n + 1) / 2) : Hlv W L k (W2 + (1 + L)) := by
  rcases h with h | h | h | h | h
  · exact .inr (.inl ⟨by omega, by omega⟩)
  · exact .inr (.inr (.inl ⟨by omega, by omega⟩))
  · exact .inr (.inr (.inr (.inl ⟨by omega, by omega⟩)))
  · exact .inr (.inr (.inr (.inr ⟨by omega, by omega⟩)))
  · omega
theorem rgC2 {n : Nat} (h1 : 1 < n) (h4 : n ≤ 16) : RgC 1 (n : Int) 2 (n / 2) := by
  rcases (show n = 2 ∨ n = 3 ∨ n = 4 ∨ n = 5 ∨ n = 6 ∨ n = 7 ∨ n = 8 ∨ n = 9 ∨ n = 10 ∨ n = 11 ∨ n = 12 ∨ n = 13 ∨ n = 14 ∨ n = 15 ∨ n = 16 by omega) with rfl | rfl | rfl | rfl | rfl | rfl | rfl | rfl | rfl | rfl | rfl | rfl | rfl | rfl | rfl <;> exact ⟨by decide, by decide, by decide, by decide⟩
def PairIn (ws : List (List Rw)) (j : Nat) (rs : List Rw) : Prop := ∃ a b, ws[2 * j]? = some a ∧ ws[2 * j + 1]? = some b ∧ ∀ n, inLB rs n = (inLB a n || inLB b n)
theorem mod_one (n : Nat) : decide (V.int ((n : Int) % 2) = V.int 1) = decide (n % 2 = 1) := by
  apply decide_eq_decide.mpr
  constructor
  · intro h
    have := V.int.inj h
    omega
  · intro h
    exact congrArg V.int (by omega)
theorem one_of {α : Type} {xs : List α} {x : α} (h : xs.length ≤ 1) (e : xs[0]? = some x) : xs = [x] := by
  match xs, h, e with
  | [y], _, e => exact congrArg (fun z => [z]) (Option.some.inj e)
theorem nts_empty {W : Zn} {L : Nat} : NtS W L [] := ⟨⟨⟨(fun r h => nomatch h), .nil⟩, fun r h => nomatch h⟩, Nat.zero_le _⟩
theorem at_last {xs : List V} {y : V} (h : xs[xs.length - 1]? = some y) : atI xs (-1) = some y := by
  have l := (List.getElem?_eq_some_iff.mp h).1
  obtain ⟨zs, z, rfl⟩ : ∃ zs z, xs = zs ++ [z] := ⟨xs.dropLast, xs.getLast (by intro e; rw [e] at l; exact nomatch l), (List.dropLast_concat_getLast _).symm⟩
  rw [List.length_append] at h
  have : zs.length + [z].length - 1 = zs.length := by simp
  rw [this, List.getElem?_append_right (Nat.le_refl _), Nat.sub_self] at h
  obtain rfl : z = y := Option.some.inj h
  exact atI_last _ _
theorem rowsAt_put {H : Hp} {D o : Addr} {rs : List Rw} {xs ys : List V} (h : RowsAt H o rs) (ne : o ≠ D) (hD : H D = some (.lst xs)) : RowsAt (upd H D (.lst ys)) o rs := by
  obtain ⟨us, e, q⟩ := h
  exact ⟨us, by rw [upd_ne ne]; exact e, rowsV_put q hD⟩
theorem workV_put {H : Hp} {D : Addr} {vs : List V} {ws : List (List Rw)} {xs ys : List V} (h : WorkV H vs ws) (hD : H D = some (.lst xs)) (ne : .ref D ∉ vs) : WorkV (upd H D (.lst ys)) vs ws := by
  induction h with
  | nil => exact .nil
  | cons a _ ih =>
    obtain ⟨b, rfl, r⟩ := a
    rw [List.mem_cons, not_or] at ne
    exact .cons ⟨b, rfl, rowsAt_put r (fun z => ne.1 (by rw [z])) hD⟩ (ih ne.2)
/-- what len asks of a list or a tuple -/
def rLenS (K : PySem.W.Frag) : List V → Hp → VK → Prop := fun xs H Q => ∃ p ys, xs = [V.ref p] ∧ (SqL K H p ys ∨ SqT K H p ys) ∧ Q (V.int (ys.length : Nat)) H
/-- given, or new -/
def OkU (H : Hp) (us : List V) (v : V) : Prop := v ∈ us ∨ ∃ b : Addr, v = .ref b ∧ H b = none
theorem same_none {H H' : Hp} {a : Addr} (s : Same H H') (h : H' a = none) : H a = none := by
  cases e : H a with
  | none => rfl
  | some u =>
    rw [s _ _ e] at h
    exact nomatch h
def spUn : Sp := fun vs H Q _ => ∃ (a : Addr) (us : List V) (ws : List (List Rw)) (cs : List Int) (W W0 : Int) (L : Nat), vs = [.ref a] ∧ H a = some (.lst us) ∧ WorkV H us ws ∧ (∀ rs ∈ ws, NtS ⟨cs, W0⟩ L rs) ∧ Hlv W L ws.length W0 ∧ (Zn.mk cs (W + 4 * (1 + L))).Ok L ∧
  ∀ (l : Addr) (out : List Rw) (H' : Hp), (V.ref l ∈ us ∨ H l = none) → Same H H' → RowsAt H' l out → NtS ⟨cs, (W + 4 * (1 + L))⟩ L out → (∀ n, inLB out n = true ↔ inW ws n) → Q (.ref l) H'
abbrev NUn : List Str := ["lots", "work", "pairs", "rows", "k"]
theorem scUn : FnScope NUn ["lots"] (defScope (top 58)) := ⟨rfl, rfl, rfl, by decide +kernel, rfl, by decide +kernel, by decide +kernel⟩
section
variable {P : Program} {w : World} {K : PySem.W.Frag} {mg : Str → Option Value} {base : Heap}
theorem ok_un {f : Addr} {fd : FuncData} {tk : Tok} (F : Fun K "united" "united" (top 58) f fd) (n : Nm mg) (mr : mg "MOST_ROWS" = some (.int 4000 tk)) (CM : Fn P w K mg base 9 "combined" ["word", "one", "two"] (spCm K)) : FnOk P w K mg base CX0 10 f fd ["lots"] spUn := by
  refine F.ok scUn (fun vs H Q E h => ?_) (fun cdv A outer s H vs Q E hr h => ?_)
  · obtain ⟨a, us, ws, cs, W, W0, L, rfl, _⟩ := h
    rfl
  · obtain ⟨a, us, ws, cs, W, W0, L, rfl, ha, wv, nt, hv0, kz, q⟩ := h
    have wl := hv0.len
    have nd := scUn.nd
    have sl := sizeLine_eq
    refine ⟨_, pss_cons (ps_set (i := 1) nd rfl (.inr rfl) (pe_lc (own := [("rows", 3)]) (g := gName 3) rfl nd (pi_list (pv 0)) (blkOk_by (N := NUn) (sc := defScope (top 58)) (by decide +kernel)) (fun _ _ _ _ _ => pg_name (i := 3) nd rfl (.inl rfl)) (fun _ _ _ _ _ => pts_one (pt_cmpR op_gt (pe_callB (r := rLenS K) call_len_seq (by rfl) n.len PySem.boot_len (pa_cons (pv 3) pa_nil)) pe_int (nomark _))) (fun _ _ _ _ _ => pv 3)))
      (pss_cons (ps_while PassesOwn.never (pt_cmpR op_gt (pe_callB call_len_seq (by rfl) n.len PySem.boot_len (pa_cons (pv 1) pa_nil)) pe_int (nomark _))
        (pss_cons (ps_setLc (i := 2) (own := [("k", 4)]) (g := gName 4) (tt := tYes) (by rfl) nd rfl rfl (sw_true rfl rfl rfl (by decide +kernel)) (pi_range3 (by rfl) n.range (pa_cons pe_int (pa_cons (pe_callB call_len_seq (by rfl) n.len PySem.boot_len (pa_cons (pv 1) pa_nil)) (pa_cons pe_int pa_nil)))) (blkOk_by (N := NUn) (sc := defScope (top 58)) (by decide +kernel)) (fun _ _ _ _ _ => pg_name (i := 4) nd rfl (.inl rfl)) (fun _ _ _ _ _ => pts_nil)
          (fun _ _ _ _ _ => pe_fn CM hr (pa_cons pe_str (pa_cons (pe_ix (r := rIxL K) ix_list (pv 1) (pe_op op_sub (pv 4) pe_int) (fun _ _ => rfl)) (pa_cons (pe_ix (r := rIxL K) ix_list (pv 1) (pv 4) (fun _ _ => rfl)) pa_nil)))))
        (pss_cons (ps_set (i := 1) nd rfl (.inr rfl) (pe_ifExp (pt_cmpR op_eq (pe_op op_mod (pe_callB call_len_seq (by rfl) n.len PySem.boot_len (pa_cons (pv 1) pa_nil)) pe_int) pe_int (nomark _)) (pe_op op_cat (pv 2) (pe_lst (pa_cons (pe_ix ix_list (pv 1) (pe_un un_neg pe_int) (fun _ _ => rfl)) pa_nil))) (pv 2)))
        (pss_one (ps_if (pt_cmpR op_gt (pe_callB (cr_max rfl) (by rfl) n.max (by decide +kernel) (pa_cons (pe_lc (own := [("rows", 3)]) (g := gName 3) (tt := tYes) rfl nd (pi_list (pv 1)) (blkOk_by (N := NUn) (sc := defScope (top 58)) (by decide +kernel)) (fun _ _ _ _ _ => pg_name (i := 3) nd rfl (.inl rfl)) (fun _ _ _ _ _ => pts_nil) (fun _ _ _ _ _ => pe_callB (r := rLenS K) call_len_seq (by rfl) n.len PySem.boot_len (pa_cons (pv 3) pa_nil))) pa_nil)) (pe_glob (v := .int 4000) (by rfl) mr ⟨_, rfl⟩) (nomark _)) pss_never pss_nil)))))
      (pss_one (ps_ret (pe_ifExp (pt_cmpR op_gt (pe_callB call_len_seq (by rfl) n.len PySem.boot_len (pa_cons (pv 1) pa_nil)) pe_int (nomark _)) (pe_ix ix_list (pv 1) pe_int (fun _ _ => rfl)) (pe_lst pa_nil))))), ?_⟩
    -- work
    refine seqV (Good := fun σ2 H2 => ∃ (l : Addr) (vs2 : List V) (ws2 : List (List Rw)), (∀ v ∈ vs2, OkU H us v) ∧ Same H H2 ∧ H2 l = some (.lst vs2) ∧ WorkV H2 vs2 ws2 ∧ (∀ rs ∈ ws2, NtS ⟨cs, W0⟩ L rs) ∧ ws2.length ≤ ws.length ∧ (∀ m, inW ws2 m ↔ inW ws m) ∧ σ2 = [some (.ref a), some (.ref l), none, none, none]) ?_ ?_
    · intro nx hnx
      refine ⟨_, rfl, a, rfl, ⟨_, .inl (.inl ha)⟩, fun D hD => ?_⟩
      refine lc_list (xs := us) (fun i H2 => ∃ (zs : List V), (∀ v ∈ zs, v ∈ us) ∧ Same H H2 ∧ H2 D = some (.lst zs) ∧ zs.length ≤ i ∧ WorkV H zs ((ws.take i).filter fun rs => decide (0 < rs.length))) ⟨[], (fun v h => nomatch h), same_upd hD, upd_same, Nat.le_refl _, .nil⟩ (fun i H2 _ ⟨_, _, s2, _⟩ => .inl (.inl (s2 _ _ ha))) ?_ ?_
      · rintro i v H2 hv ⟨zs, zin, s2, hD2, zl, zw⟩
        obtain ⟨rs, hrs, b, rfl, us2, hb, rv⟩ := pair_at wv hv
        have lv := Paired.length rv
        have il := (List.getElem?_eq_some_iff.mp hv).1
        have lus := Paired.length wv
        refine ⟨rfl, _, rfl, b, us2, rfl, .inl (.inl (.inl (s2 _ _ hb))), _, _, rfl, rfl, decide ((0 : Int) < us2.length), rfl, ?_⟩
        rw [List.take_succ, hrs, List.filter_append]
        by_cases c : 0 < us2.length
        · rw [decide_eq_true (by omega)]
          refine iteT ⟨_, rfl, zs, hD2, by rw [sl]; omega, zs ++ [.ref b], (fun v h => (List.mem_append.mp h).elim (zin v) fun h => by rw [List.mem_singleton.mp h]; exact List.mem_of_getElem? hv), same_at hD s2, upd_same, by rw [List.length_append]; show zs.length + 1 ≤ _; omega, ?_⟩
          have e : (Option.toList (some rs)).filter (fun rs => decide (0 < rs.length)) = [rs] := by
            show List.filter _ [rs] = _
            rw [List.filter_cons, if_pos (by rw [decide_eq_true_eq]; omega), List.filter_nil]
          rw [e]
          exact workV_snoc zw ⟨us2, hb, rv⟩
        · rw [decide_eq_false (by omega)]
          have e : (Option.toList (some rs)).filter (fun rs => decide (0 < rs.length)) = [] := by
            show List.filter _ [rs] = _
            rw [List.filter_cons, if_neg (by rw [decide_eq_true_eq]; omega), List.filter_nil]
          rw [e, List.append_nil]
          exact iteF ⟨zs, zin, s2, hD2, by omega, zw⟩
      · rintro H2 ⟨zs, zin, s2, hD2, zl, zw⟩
        have lus := Paired.length wv
        rw [lus, List.take_length] at zw
        refine hnx _ _ ⟨D, zs, _, (fun v h => .inl (zin v h)), s2, hD2, zw.same s2, fun rs hr => nt rs (List.mem_filter.mp hr).1, ?_, inW_some ws, rfl⟩
        have := Paired.length zw
        omega
    rintro _ H1 ⟨l1, vs1, ws1, ok1, s1, hl1, wv1, nt1, wl1, iw1, rfl⟩
    refine ⟨fun k σ H2 => ∃ (l : Addr) (x2 : Option V) (vs2 : List V) (ws2 : List (List Rw)) (W2 : Int), k = ws2.length ∧ (∀ v ∈ vs2, OkU H us v) ∧ Same H H2 ∧ H2 l = some (.lst vs2) ∧ WorkV H2 vs2 ws2 ∧ (∀ rs ∈ ws2, NtS ⟨cs, W2⟩ L rs) ∧ Hlv W L ws2.length W2 ∧ (∀ m, inW ws2 m ↔ inW ws m) ∧ σ = [some (.ref a), some (.ref l), x2, none, none], ⟨_, l1, none, vs1, ws1, W0, rfl, ok1, s1, hl1, wv1, nt1, hv0.down wl1, iw1, rfl⟩, ?_⟩
    rintro k σ H2 ⟨l, x2, vs2, ws2, W2, rfl, ok2, s2, hl2, wv2, nt2, hv, iw2, rfl⟩
    have lvs := Paired.length wv2
    have len4 : ws2.length ≤ 16 := hv.len
    refine ⟨_, rfl, l, vs2, rfl, .inl (.inl (.inl hl2)), _, _, rfl, rfl, decide ((1 : Int) < vs2.length), rfl, ?_⟩
    by_cases c : 1 < ws2.length
    · rw [decide_eq_true (by omega)]
      refine iteT ⟨fun σ3 H3 => ∃ (l3 : Addr) (x3 : Option V) (vs3 : List V) (ws3 : List (List Rw)) (W3 : Int), ws3.length < ws2.length ∧ (∀ v ∈ vs3, OkU H us v) ∧ Same H H3 ∧ H3 l3 = some (.lst vs3) ∧ WorkV H3 vs3 ws3 ∧ (∀ rs ∈ ws3, NtS ⟨cs, W3⟩ L rs) ∧ Hlv W L ws3.length W3 ∧ (∀ m, inW ws3 m ↔ inW ws m) ∧ σ3 = [some (.ref a), some (.ref l3), x3, none, none], fun σ3 H3 ⟨l3, x3, vs3, ws3, W3, e0, eo, e1, e2, e3, e4, e5, e6, e7⟩ => ⟨ws3.length, e0, l3, x3, vs3, ws3, W3, rfl, eo, e1, e2, e3, e4, e5, e6, e7⟩, ?_⟩
      have hw2 := hv.two c
      -- pairs
      refine seqV (Good := fun σ3 H3 => ∃ (d : Addr) (zs : List V) (ps : List (List Rw)), (∀ v ∈ zs, OkU H us v) ∧ Same H2 H3 ∧ H3 d = some (.lst zs) ∧ WorkV H3 zs ps ∧ (∀ rs ∈ ps, NtS ⟨cs, (W2 + (1 + L))⟩ L rs) ∧ Halved ws2 ps ∧ σ3 = [some (.ref a), some (.ref l), some (.ref d), none, none]) ?_ ?_
      · intro nx hnx
        refine ⟨_, rfl, l, vs2, rfl, .inl (.inl (.inl hl2)), 1, (vs2.length : Int), 2, vs2.length / 2, rfl, rgC2 (by omega) (by omega), fun D hD => ?_⟩
        refine lc_any (n := vs2.length / 2) (fun i H3 => ∃ (zs : List V) (ps : List (List Rw)), (∀ v ∈ zs, OkU H us v) ∧ V.ref D ∉ zs ∧ Same H2 H3 ∧ H3 D = some (.lst zs) ∧ WorkV H3 zs ps ∧ (∀ rs ∈ ps, NtS ⟨cs, (W2 + (1 + L))⟩ L rs) ∧ ps.length = i ∧ ∀ j rs, ps[j]? = some rs → PairIn ws2 j rs)
          ⟨[], [], (fun v h => nomatch h), (fun h => nomatch h), same_upd hD, upd_same, .nil, (fun rs h => nomatch h), rfl, fun j rs e => by simp at e⟩ ?_ ?_
        · rintro H3 ⟨zs, ps, okz, nD, s3, hD3, zv, nz, pl, pi⟩
          exact ⟨Nat.le_refl _, hnx _ _ ⟨D, zs, ps, okz, s3, hD3, zv, nz, ⟨by omega, pi⟩, rfl⟩⟩
        · rintro i H3 hi ⟨zs, ps, okz, nD, s3, hD3, zv, nz, pl, pi⟩
          refine ⟨hi, ?_⟩
          rintro x H4 ⟨rfl, rfl⟩
          refine ⟨rfl, yes_ite ?_⟩
          have e1 : vs2[2 * i]? = some (vs2[2 * i]'(by omega)) := List.getElem?_eq_getElem (by omega)
          have e2 : vs2[2 * i + 1]? = some (vs2[2 * i + 1]'(by omega)) := List.getElem?_eq_getElem (by omega)
          obtain ⟨ra, ha1, b1, eb1, rv1⟩ := pair_at wv2 e1
          obtain ⟨rb, ha2, b2, eb2, rv2⟩ := pair_at wv2 e2
          rw [eb1] at e1
          rw [eb2] at e2
          have zl := Paired.length zv
          have i1 : ((1 : Int) + (i : Nat) * 2 - 1) = ((2 * i : Nat) : Int) := by omega
          have i2 : ((1 : Int) + (i : Nat) * 2) = ((2 * i + 1 : Nat) : Int) := by omega
          refine ⟨_, rfl, _, rfl, _, _, rfl, rfl, l, vs2, _, _, rfl, rfl, .inl (.inl (s3 _ _ hl2)), (by rw [i1]; exact atI_nat e1), _, rfl, _, rfl, l, vs2, _, _, rfl, rfl, .inl (.inl (s3 _ _ hl2)), (by rw [i2]; exact atI_nat e2), ?_⟩
          refine ⟨.or_, b1, b2, ra, rb, ⟨cs, W2⟩, L, rfl, (rv1.same s3).k, (rv2.same s3).k, nt2 _ (List.mem_of_getElem? ha1), nt2 _ (List.mem_of_getElem? ha2), kz.le (hv.two c), fun o out H5 n5 s5 ho ns iff => ?_⟩
          have oD : o ≠ D := (ne_of_none hD3 n5).symm
          have hD5 := s5 _ _ hD3
          have zv5 : WorkV (upd H5 D (.lst (zs ++ [.ref o]))) zs ps := workV_put (zv.same s5) hD5 nD
          refine ⟨zs, hD5, by rw [sl]; omega, zs ++ [.ref o], ps ++ [out], (fun v h => (List.mem_append.mp h).elim (okz v) fun h => .inr ⟨o, List.mem_singleton.mp h, same_none (s2.trans s3) n5⟩), (fun h => by
            rcases List.mem_append.mp h with z | z
            · exact nD z
            · exact oD (V.ref.inj (List.mem_singleton.mp z)).symm), same_at hD (s3.trans s5), upd_same, workV_snoc zv5 (rowsAt_put ho oD hD5), fun rs hr => ?_, by rw [List.length_append, pl]; rfl, fun j rs e => ?_⟩
          · rcases List.mem_append.mp hr with z | z
            · exact nz rs z
            · obtain rfl := List.mem_singleton.mp z
              exact ns
          · by_cases cc : j < ps.length
            · rw [List.getElem?_append_left cc] at e
              exact pi j rs e
            · rw [List.getElem?_append_right (by omega)] at e
              have k0 : j - ps.length = 0 := by
                apply Classical.byContradiction
                intro z
                rw [List.getElem?_eq_none (by show 1 ≤ j - ps.length; omega)] at e
                exact nomatch e
              rw [k0] at e
              obtain rfl : rs = out := (Option.some.inj e).symm
              obtain rfl : j = i := by omega
              exact ⟨ra, rb, ha1, ha2, iff⟩
      rintro _ H3 ⟨d, zs, ps, okz, s3, hd3, zv, nz, hf, rfl⟩
      have pl := hf.len
      have zl := Paired.length zv
      have wv3 := wv2.same s3
      have hl3 := s3 _ _ hl2
      -- work
      refine seqV (Good := fun σ4 H4 => ∃ (l4 : Addr) (vs4 : List V) (ws4 : List (List Rw)), ws4.length = (ws2.length + 1) / 2 ∧ (∀ v ∈ vs4, OkU H us v) ∧ Same H3 H4 ∧ H4 l4 = some (.lst vs4) ∧ WorkV H4 vs4 ws4 ∧ (∀ rs ∈ ws4, NtS ⟨cs, (W2 + (1 + L))⟩ L rs) ∧ (∀ m, inW ws4 m ↔ inW ws2 m) ∧ σ4 = [some (.ref a), some (.ref l4), some (.ref d), none, none]) ?_ ?_
      · intro nx hnx
        refine ⟨_, rfl, l, vs2, rfl, .inl (.inl (.inl hl3)), _, _, rfl, rfl, by omega, rfl, decide (vs2.length % 2 = 1), congrArg V.bl (mod_one vs2.length), ?_⟩
        by_cases od : vs2.length % 2 = 1
        · rw [decide_eq_true od]
          obtain ⟨z, hz⟩ : ∃ z, ws2[ws2.length - 1]? = some z := ⟨_, List.getElem?_eq_getElem (by omega)⟩
          obtain ⟨y, hy⟩ : ∃ y, vs2[vs2.length - 1]? = some y := ⟨_, List.getElem?_eq_getElem (by omega)⟩
          obtain ⟨z', hz', b, rfl, rz⟩ := pair_at wv3 hy
          rw [lvs, hz] at hz'
          obtain rfl := Option.some.inj hz'
          refine iteT ⟨_, rfl, _, rfl, _, rfl, l, vs2, _, _, rfl, rfl, .inl (.inl hl3), at_last hy, (by show 1 ≤ sizeLine; decide), fun o ho => ?_⟩
          have s4 := same_upd (o := .lst [V.ref b]) ho
          refine ⟨d, o, _, _, rfl, rfl, s4 _ _ hd3, upd_same, by rw [sl]; show zs.length + 1 ≤ _; omega, fun o2 ho2 => ?_⟩
          have s5 := s4.trans (same_upd (o := .lst (zs ++ [V.ref b])) ho2)
          refine hnx _ _ ⟨o2, _, ps ++ [z], by rw [List.length_append, pl]; show ws2.length / 2 + 1 = _; omega, (fun v h => (List.mem_append.mp h).elim (okz v) fun h => by rw [List.mem_singleton.mp h]; exact ok2 _ (List.mem_of_getElem? hy)), s5, upd_same, workV_snoc (zv.same s5) (rz.same s5), fun rs hr => ?_, fun m => halved_odd hf (by omega) hz m, rfl⟩
          rcases List.mem_append.mp hr with q1 | q1
          · exact nz rs q1
          · obtain rfl := List.mem_singleton.mp q1
            exact NtS.mono (by omega) (nt2 _ (List.mem_of_getElem? hz))
        · rw [decide_eq_false od]
          exact iteF ⟨_, rfl, hnx _ _ ⟨d, zs, ps, by omega, okz, Same.refl _, hd3, zv, nz, fun m => halved_even hf (by omega) m, rfl⟩⟩
      rintro _ H4 ⟨l4, vs4, ws4, wl4, ok4, s4, hl4, wv4, nt4, iw4, rfl⟩
      have lv4 := Paired.length wv4
      have s04 := s2.trans (s3.trans s4)
      -- not too many
      refine ⟨_, rfl, l4, rfl, ⟨_, .inl (.inl hl4)⟩, fun D hD => ?_⟩
      refine lc_list (xs := vs4) (fun i H5 => ∃ ns : List Int, Same H4 H5 ∧ H5 D = some (.lst (ns.map V.int)) ∧ ns.length = i ∧ ∀ y ∈ ns, y ≤ 13) ⟨[], same_upd hD, upd_same, rfl, fun y h => nomatch h⟩ (fun i H5 _ ⟨_, s5, _⟩ => .inl (.inl (s5 _ _ hl4))) ?_ ?_
      · rintro i v H5 hv' ⟨ns, s5, hD5, nl, nb⟩
        obtain ⟨rs, hrs, b, rfl, us2, hb, rv⟩ := pair_at wv4 hv'
        have il := (List.getElem?_eq_some_iff.mp hv').1
        have lr := Paired.length rv
        have fw : rs.length ≤ 2 * cs.length + 1 := (nt4 rs (List.mem_of_getElem? hrs)).few
        have cl : cs.length ≤ 6 := kz.cl
        refine ⟨rfl, yes_ite ⟨_, rfl, b, us2, rfl, .inl (.inl (.inl (s5 _ _ hb))), ns.map V.int, hD5, by rw [List.length_map, sl]; omega, ns ++ [(us2.length : Int)], same_at hD s5, by rw [upd_same, List.map_append]; rfl, by rw [List.length_append, nl]; rfl, fun y hy => ?_⟩⟩
        rcases List.mem_append.mp hy with q1 | q1
        · exact nb y q1
        · obtain rfl := List.mem_singleton.mp q1
          omega
      · rintro H5 ⟨ns, s5, hD5, nl, nb⟩
        refine ⟨D, ns, rfl, .inl (.inl hD5), by omega, fun m hm _ => ?_⟩
        have m3 := nb m hm
        refine ⟨_, _, rfl, rfl, decide ((4000 : Int) < m), rfl, ?_⟩
        rw [decide_eq_false (by omega)]
        refine iteF ⟨l4, _, vs4, ws4, W2 + (1 + L), by omega, ok4, s04.trans s5, s5 _ _ hl4, wv4.same s5, nt4, hv.half c wl4, fun m => (iw4 m).trans (iw2 m), rfl⟩
    · rw [decide_eq_false (by omega)]
      refine iteF ⟨_, rfl, l, vs2, rfl, .inl (.inl (.inl hl2)), _, _, rfl, rfl, decide ((0 : Int) < vs2.length), rfl, ?_⟩
      by_cases z : 0 < ws2.length
      · rw [decide_eq_true (by omega)]
        obtain ⟨y, hy⟩ : ∃ y, vs2[0]? = some y := ⟨_, List.getElem?_eq_getElem (by omega)⟩
        obtain ⟨rs, hrs, b, rfl, rv⟩ := pair_at wv2 hy
        refine iteT ⟨_, rfl, l, vs2, _, _, rfl, rfl, .inl (.inl hl2), atI_nat hy, ?_⟩
        refine q b rs H2 ((ok2 _ (List.mem_of_getElem? hy)).imp id fun ⟨b', e, h'⟩ => by rw [V.ref.inj e]; exact h') s2 rv (NtS.mono (hv.le) (nt2 _ (List.mem_of_getElem? hrs))) fun n => ?_
        rw [← iw2 n]
        have e : ws2 = [rs] := one_of (by omega) hrs
        rw [e]
        exact ⟨fun h => ⟨rs, List.mem_singleton.mpr rfl, h⟩, fun ⟨r, hr, h⟩ => by rw [List.mem_singleton.mp hr] at h; exact h⟩
      · rw [decide_eq_false (by omega)]
        refine iteF ⟨(by show 0 ≤ sizeLine; decide), fun o ho => ?_⟩
        have e : ws2 = [] := List.eq_nil_of_length_eq_zero (by omega)
        refine q o [] _ (.inr (same_none s2 ho)) (s2.trans (same_upd ho)) ⟨[], upd_same, .nil⟩ nts_empty fun n => ?_
        rw [← iw2 n, e]
        exact ⟨(fun h => nomatch h), fun ⟨r, hr, h⟩ => nomatch hr⟩
end
end L2.K14
end

section
set_option Elab.async false
set_option linter.all false
set_option maxRecDepth 100000
set_option maxHeartbeats 2000000
/-! a comprehension by an invariant, whatever is walked -/
namespace L2.Gd
open PySem PySem.Spec PyProof.Rows
theorem lc_gen {J : It} {n : Nat} {g : TG} {tt : TT} {te : TE} {vs : List Nat} {σ : L2.St} {H1 : Hp} {D : Addr} {Qd : Hp → Prop} (Iv : Nat → Hp → Prop) (h0 : Iv 0 (L2.upd H1 D (.lst []))) (hd : ∀ H, Iv n H → J.stop n H ∧ Qd H)
    (hs : ∀ i H, i < n → Iv i H → J.go i H ∧ ∀ x H', J.yld i H x H' → g x (wipe σ vs) H' fun σ2 H2 => wipe σ2 vs = wipe σ vs ∧ tt σ2 H2 fun b H3 =>
      if b = true then te σ2 H3 fun y H4 => ∃ acc, H4 D = some (.lst acc) ∧ acc.length < sizeLine ∧ Iv (i + 1) (L2.upd H4 D (.lst (acc ++ [y]))) else Iv (i + 1) H3) :
    ∃ W : Nat → Nat → Hp → Prop, (∃ m, W 0 m (L2.upd H1 D (.lst []))) ∧ ∀ i m H, W i m H →
      (J.stop i H ∧ Qd H) ∨ (J.go i H ∧ ∃ Nx : Hp → Prop, (∀ H', Nx H' → ∃ m', m' < m ∧ W (i + 1) m' H') ∧ ∀ x H', J.yld i H x H' → g x (wipe σ vs) H' fun σ2 H2 => wipe σ2 vs = wipe σ vs ∧ tt σ2 H2 fun b H3 =>
        if b = true then te σ2 H3 fun y H4 => ∃ acc, H4 D = some (.lst acc) ∧ acc.length < sizeLine ∧ Nx (L2.upd H4 D (.lst (acc ++ [y]))) else Nx H3) := by
  refine ⟨fun i m H => m = n - i ∧ i ≤ n ∧ Iv i H, ⟨n, by simp, Nat.zero_le _, h0⟩, ?_⟩
  rintro i m H ⟨rfl, hi, hp⟩
  by_cases e : i < n
  · obtain ⟨go, k⟩ := hs i H e hp
    exact .inr ⟨go, Iv (i + 1), fun H' q => ⟨n - (i + 1), by omega, rfl, e, q⟩, k⟩
  · obtain rfl : i = n := by omega
    exact .inl (hd H hp)
/-! ### [f(i) for i in range(..)], long ones -/
section
variable {β : Type} {lo : Int} {n : Nat} {g : TG} {tt : TT} {te : TE} {vs : List Nat} {σ : L2.St} {H1 : Hp} {D : Addr} {Qd : Hp → Prop} {G : Hp → V → β → Prop} {f : Int → Option β}
theorem lc_mapRL (st : Stab G D) (hn : n ≤ 1000000) (step : StepOk (fun _ v e => v = V.int e) G f g tt te vs σ H1 D (rgI lo n))
    (fin : ∀ ys H, H D = some (.lst ys) → Paired (G H) ys ((rgI lo n).filterMap f) → ButD D H1 H → Qd H) :
    ∃ W : Nat → Nat → Hp → Prop, (∃ m, W 0 m (L2.upd H1 D (.lst []))) ∧ ∀ i m H, W i m H →
      ((Itr lo n).stop i H ∧ Qd H) ∨ ((Itr lo n).go i H ∧ ∃ Nx : Hp → Prop, (∀ H', Nx H' → ∃ m', m' < m ∧ W (i + 1) m' H') ∧ ∀ x H', (Itr lo n).yld i H x H' → g x (wipe σ vs) H' fun σ2 H2 => wipe σ2 vs = wipe σ vs ∧ tt σ2 H2 fun b H3 =>
        if b = true then te σ2 H3 fun y H4 => ∃ acc, H4 D = some (.lst acc) ∧ acc.length < sizeLine ∧ Nx (L2.upd H4 D (.lst (acc ++ [y]))) else Nx H3) := by
  refine lc_range (LcInv G f H1 D (rgI lo n)) ⟨[], upd_same, Nat.le_refl _, .nil, .start⟩ (fun i H hi h => ?_) ?_
  · obtain ⟨ys, h1, h2, h3, h4⟩ := h
    have he : (rgI lo n)[i]? = some (lo + (i : Int)) := by
      unfold rgI
      rw [List.getElem?_map, List.getElem?_range hi]
      rfl
    refine step (.int (lo + i)) (lo + i) H _ _ (List.mem_of_getElem? he) rfl h4 ⟨ys, h1⟩ (fun b y H4 hf s hg => ?_) (fun H3 hf s => ?_)
    · refine ⟨ys, s _ _ h1, by rw [sizeLine_eq]; omega, ys ++ [y], upd_same, by simp; omega, ?_, (h4.more s).put⟩
      rw [filt_take f he, hf]
      have bt : ButD D H4 (L2.upd H4 D (.lst (ys ++ [y]))) := ButD.start
      have hd : ∃ zs, H4 D = some (.lst zs) := ⟨ys, s _ _ h1⟩
      have o1 : Paired (G (L2.upd H4 D (.lst (ys ++ [y])))) ys (((rgI lo n).take i).filterMap f) := Paired.mapP h3 fun u v q => st _ _ _ _ (show ButD D H _ from fun c o ne z => bt c o ne (s _ _ z)) ⟨ys, h1⟩ q
      exact PySem.Paired.snoc o1 (st _ _ _ _ bt hd hg)
    · refine ⟨ys, s _ _ h1, by omega, ?_, h4.more s⟩
      rw [filt_take f he, hf]
      simp only [Option.toList, List.append_nil]
      exact Paired.mapP h3 fun u v q => st _ _ _ _ (fun c o _ z => s _ _ z) ⟨ys, h1⟩ q
  · rintro H ⟨ys, h1, _, h3, h4⟩
    rw [List.take_of_length_le (Nat.le_of_eq (rgI_len lo n))] at h3
    exact fin ys H h1 h3 h4
end
end L2.Gd
end

section
set_option Elab.async false
set_option linter.all false
set_option maxRecDepth 100000
set_option maxHeartbeats 1000000
namespace L2.K14
open PySem PySem.Spec PyProof.Rows L2.Gd L2.Ln
/-! ### the rows of stretches -/
structure Sst where
  lo : Option Int
  hi : Option Int
  p : Nat
  xs : List Int
def Sst.row (s : Sst) : Rw := ⟨s.lo, s.hi, s.p, maskN s.xs 0⟩
def Sst.Ok (s : Sst) : Prop := StOk s.lo s.hi s.p s.xs
def SsAt (H : Hp) (v : V) (s : Sst) : Prop := StV H v s.lo s.hi s.p s.xs
theorem SsAt.same {H H' : Hp} {v : V} {s : Sst} (e : Same H H') (h : SsAt H v s) : SsAt H' v s := StV.same e h
/-- a list of these, or the empty tuple -/
def SeqA (K : PySem.W.Frag) (H : Hp) (a : Addr) (xs : List V) : Prop := H a = some (.lst xs) ∨ (SqT K H a xs ∧ xs = [])
theorem SeqA.same {K : PySem.W.Frag} {H H' : Hp} {a : Addr} {xs : List V} (s : Same H H') (h : SeqA K H a xs) : SeqA K H' a xs := h.elim (fun q => .inl (s _ _ q)) (fun q => .inr ⟨SqT.same s q.1, q.2⟩)
/-- a list or a tuple of these -/
def SeqB (K : PySem.W.Frag) (H : Hp) (a : Addr) (xs : List V) : Prop := H a = some (.lst xs) ∨ SqT K H a xs
theorem SeqA.b {K : PySem.W.Frag} {H : Hp} {a : Addr} {xs : List V} (h : SeqA K H a xs) : SeqB K H a xs := h.imp id And.left
theorem perm_paired {α β : Type} {R : α → β → Prop} {xs ys : List α} (h : ys.Perm xs) : ∀ {as : List β}, Paired R xs as → ∃ bs : List β, bs.Perm as ∧ Paired R ys bs := by
  induction h with
  | nil => intro as p; exact ⟨as, .refl _, p⟩
  | cons x _ ih =>
    intro as p
    cases p with
    | cons a q =>
      obtain ⟨bs, e, k⟩ := ih q
      exact ⟨_ :: bs, e.cons _, .cons a k⟩
  | swap x y l =>
    intro as p
    cases p with
    | cons a q =>
      cases q with
      | cons b q =>
        exact ⟨_ :: _ :: _, .swap _ _ _, .cons b (.cons a q)⟩
  | trans _ _ i1 i2 =>
    intro as p
    obtain ⟨bs, e, k⟩ := i2 p
    obtain ⟨cs, e2, k2⟩ := i1 k
    exact ⟨cs, e2.trans e, k2⟩
/-- a pair that ends in a position -/
def PosAt (H : Hp) (v : V) (k : Nat) : Prop := ∃ (t : Addr) (i : Int), v = .ref t ∧ H t = some (.tup [.int i, .int (k : Nat)])
theorem PosAt.same {H H' : Hp} {v : V} {k : Nat} (s : Same H H') (h : PosAt H v k) : PosAt H' v k := let ⟨t, i, e, q⟩ := h; ⟨t, i, e, s _ _ q⟩
theorem PosAt.put {H : Hp} {D : Addr} {xs : List V} {o : HO} {v : V} {k : Nat} (hD : H D = some (.lst xs)) (h : PosAt H v k) : PosAt (upd H D o) v k := by
  obtain ⟨t, i, e, q⟩ := h
  refine ⟨t, i, e, ?_⟩
  rw [upd_ne (fun z => by rw [z, hD] at q; exact nomatch q)]
  exact q
/-- the row of a stretch, if it has one -/
def LotOf (sts : List Sst) (rs : List Rw) (k : Nat) : Prop := ∃ (s : Sst) (o : Option Rw), sts[k]? = some s ∧ rs = o.toList ∧ TrimR s.row o
def inSs (sts : List Sst) (n : Int) : Prop := ∃ s ∈ sts, s.row.In n
theorem lot_in {s : Sst} {o : Option Rw} (t : TrimR s.row o) (n : Int) : inLB o.toList n = true ↔ s.row.In n := by
  cases o with
  | none => exact ⟨(fun h => nomatch h), fun h => absurd h (t n)⟩
  | some r =>
    rw [inLB_iff]
    constructor
    · rintro ⟨r', hr, k⟩
      obtain rfl := List.mem_singleton.mp hr
      exact (t.2.1 n).mp k
    · intro k
      exact ⟨r, List.mem_singleton.mpr rfl, (t.2.1 n).mpr k⟩
theorem lots_in {sts : List Sst} {ws : List (List Rw)} {ks : List Nat} (h : Paired (LotOf sts) ws ks) (p : ks.Perm (List.range sts.length)) (n : Int) : inW ws n ↔ inSs sts n := by
  constructor
  · rintro ⟨rs, hr, e⟩
    obtain ⟨j, hj⟩ := List.getElem?_of_mem hr
    obtain ⟨k, hk, s, o, hs, rfl, t⟩ := pair_at h hj
    exact ⟨s, List.mem_of_getElem? hs, (lot_in t n).mp e⟩
  · rintro ⟨s, hs, e⟩
    obtain ⟨k, hk⟩ := List.getElem?_of_mem hs
    have km : k ∈ ks := p.symm.subset (List.mem_range.mpr (List.getElem?_eq_some_iff.mp hk).1)
    obtain ⟨j, hj⟩ := List.getElem?_of_mem km
    obtain ⟨rs, hrs⟩ : ∃ rs, ws[j]? = some rs := ⟨_, List.getElem?_eq_getElem (by rw [Paired.length h]; exact (List.getElem?_eq_some_iff.mp hj).1)⟩
    obtain ⟨k', hk', s', o, hs', rfl, t⟩ := pair_at h hrs
    obtain rfl : k' = k := Option.some.inj (hk'.symm.trans hj)
    obtain rfl : s' = s := Option.some.inj (hs'.symm.trans hk)
    exact ⟨_, List.mem_of_getElem? hrs, (lot_in t n).mpr e⟩
theorem lot_nts {s : Sst} {o : Option Rw} {Z : Zn} {L : Nat} (k : (Z.up L).Ok L) (lm : Lm Z L s.row) (t : TrimR s.row o) : NtS (Z.up L) L o.toList := by
  cases o with
  | none => exact nts_empty
  | some r =>
    refine ⟨⟨⟨fun x hx => ?_, List.pairwise_singleton _ _⟩, fun x hx => ?_⟩, (by show 1 ≤ 2 * Z.cs.length + 1; omega)⟩
    · obtain rfl := List.mem_singleton.mp hx
      exact t.1
    · obtain rfl := List.mem_singleton.mp hx
      exact trim_lm k t lm
def spRo (K : PySem.W.Frag) : Sp := fun vs H Q _ => ∃ (a : Addr) (xs : List V) (sts : List Sst) (cs : List Int) (W W1 : Int) (L : Nat), vs = [.ref a] ∧ SeqB K H a xs ∧ Paired (SsAt H) xs sts ∧ (∀ s ∈ sts, s.Ok) ∧ (∀ s ∈ sts, Lm ⟨cs, W⟩ L s.row) ∧ Hlv W1 L sts.length (W + L) ∧ (Zn.mk cs (W1 + 4 * (1 + L))).Ok L ∧ W + L ≤ W1 + 4 * (1 + L) ∧
  ∀ (l : Addr) (out : List Rw) (H' : Hp), Same H H' → RowsAt H' l out → NtS ⟨cs, W1 + 4 * (1 + L)⟩ L out → (∀ n, inLB out n = true ↔ inSs sts n) → Q (.ref l) H'
abbrev NRo : List Str := ["stretches", "periods", "position", "stretch", "_"]
theorem scRo : FnScope NRo ["stretches"] (defScope (top 73)) := ⟨rfl, rfl, rfl, by decide +kernel, rfl, by decide +kernel, by decide +kernel⟩
section
variable {P : Program} {w : World} {K : PySem.W.Frag} {mg : Str → Option Value} {base : Heap}
theorem ok_ro {f : Addr} {fd : FuncData} (F : Fun K "rows_of" "rows_of" (top 73) f fd) (n : Nm mg) (UN : Fn P w K mg base 10 "united" ["lots"] spUn) (RL : Fn P w K mg base 5 "row_list" ["stretch"] spRl) : FnOk P w K mg base CX0 11 f fd ["stretches"] (spRo K) := by
  refine F.ok scRo (fun vs H Q E h => ?_) (fun cdv A outer s H vs Q E hr h => ?_)
  · obtain ⟨a, xs, sts, cs, W, W1, L, rfl, _⟩ := h
    rfl
  · obtain ⟨a, xs, sts, cs, W, W1, L, rfl, ha, sv, ok, lm, hv0, kz, wle, q⟩ := h
    have sl4 := hv0.len
    have nd := scRo.nd
    have sl := sizeLine_eq
    have lx := Paired.length sv
    have r5 := hr.mono (k := 10) (j := 5) (by decide)
    refine ⟨_, pss_cons (ps_set (i := 1) nd rfl (.inl rfl) (pe_callB cr_sortedP (by rfl) n.sorted (by decide +kernel) (pa_cons (pe_lc (own := [("position", 2), ("stretch", 3)]) (g := gTup K 2 (gCons (gName 2) (gCons (gName 3) gNil))) (tt := tYes) rfl nd (pi_enumA (by rfl) n.enumerate (pa_cons (pv 0) pa_nil)) (blkOk_by (N := NRo) (sc := defScope (top 73)) (by decide +kernel))
        (fun _ _ _ _ _ => pg_tup rfl (pgs_cons (pg_name (i := 2) nd rfl (.inl rfl)) (pgs_cons (pg_name (i := 3) nd rfl (.inl rfl)) pgs_nil))) (fun _ _ _ _ _ => pts_nil) (fun _ _ _ _ _ => pe_tup (pa_cons (pe_ix (r := rIxT K) ix_tup (pv 3) pe_int (fun _ _ => rfl)) (pa_cons (pv 2) pa_nil)))) pa_nil)))
      (pss_one (ps_ret (pe_fn UN hr (pa_cons (pe_lc (own := [("_", 4), ("position", 2)]) (g := gTup K 2 (gCons (gName 4) (gCons (gName 2) gNil))) (tt := tYes) rfl nd (pi_list (pv 1)) (blkOk_by (N := NRo) (sc := defScope (top 73)) (by decide +kernel))
        (fun _ _ _ _ _ => pg_tup rfl (pgs_cons (pg_name (i := 4) nd rfl (.inl rfl)) (pgs_cons (pg_name (i := 2) nd rfl (.inl rfl)) pgs_nil))) (fun _ _ _ _ _ => pts_nil) (fun _ _ _ _ _ => pe_fn RL r5 (pa_cons (pe_ix (r := rIx K) ix_seq (pv 0) (pv 2) (fun _ _ => rfl)) pa_nil))) pa_nil)))), ?_⟩
    -- periods
    refine seqV (Good := fun σ2 H2 => ∃ (l : Addr) (ys : List V) (ks : List Nat), Same H H2 ∧ H2 l = some (.lst ys) ∧ Paired (PosAt H2) ys ks ∧ ks.Perm (List.range sts.length) ∧ σ2 = [some (.ref a), some (.ref l), none, none, none]) ?_ ?_
    · intro nx hnx
      -- what the sorting asks
      have fin : ∀ (D : Addr) (zs : List V) (H2 : Hp), Same H H2 → H2 D = some (.lst zs) → Paired (PosAt H2) zs (List.range xs.length) → rSortedP K [.ref D] H2 fun v H3 => nx [some (.ref a), some v, none, none, none] H3 := by
        intro D zs H2 s2 hD pz
        refine ⟨D, zs, rfl, .inl (.inl hD), fun x hx => ?_, fun ys p pm hp => ?_⟩
        · obtain ⟨j, hj⟩ := List.getElem?_of_mem hx
          obtain ⟨k, _, t, i, e, ht⟩ := pair_at pz hj
          exact ⟨t, i, (k : Int), e, ht⟩
        · obtain ⟨ks, kp, py⟩ := perm_paired pm pz
          rw [lx] at kp
          exact hnx _ _ ⟨p, ys, ks, s2.trans (same_upd hp), upd_same, Paired.mapP py fun _ _ z => z.same (same_upd hp), kp, rfl⟩
      rcases ha with ha | ha
      · refine ⟨_, rfl, a, xs, rfl, .inl ⟨.inl (.inl ha), fun D hD => ?_⟩⟩
        refine lc_gen (n := xs.length) (fun i H2 => ∃ zs : List V, Same H H2 ∧ H2 D = some (.lst zs) ∧ zs.length = i ∧ Paired (PosAt H2) zs (List.range i)) ⟨[], same_upd hD, upd_same, rfl, .nil⟩ ?_ ?_
        · rintro H2 ⟨zs, s2, hD2, zl, pz⟩
          exact ⟨⟨xs, .inl (.inl (s2 _ _ ha)), Nat.le_refl _⟩, fin D zs H2 s2 hD2 pz⟩
        · rintro i H2 hi ⟨zs, s2, hD2, zl, pz⟩
          refine ⟨⟨xs, _, .inl (.inl (s2 _ _ ha)), List.getElem?_eq_getElem hi⟩, ?_⟩
          rintro x H' ⟨T, y, rfl, hT, rfl, hy⟩
          have hyi := hy _ (.inl (.inl (s2 _ _ ha)))
          obtain ⟨s, hs, t, l, rfl, ht, hl⟩ := pair_at sv hyi
          have s3 := s2.trans (same_upd (o := .tup [.int (i : Nat), .ref t]) hT)
          refine ⟨T, _, rfl, .inl (.inl upd_same), rfl, _, _, rfl, _, _, rfl, rfl, rfl, yes_ite ?_⟩
          refine ⟨_, rfl, t, _, _, _, rfl, rfl, .inl (.inl (s3 _ _ ht)), rfl, _, rfl, (by show 2 ≤ sizeLine; decide), fun o ho => ?_⟩
          have hD3 : upd H2 T (.tup [.int (i : Nat), .ref t]) D = some (.lst zs) := by
            rw [upd_ne (ne_of_none hD2 hT)]
            exact hD2
          have s4 := same_upd (o := .tup [.int s.p, .int (i : Nat)]) ho
          have hD4 := s4 _ _ hD3
          refine ⟨zs, hD4, by rw [sl]; omega, zs ++ [.ref o], same_at hD (s3.trans s4), upd_same, by rw [List.length_append, zl]; rfl, ?_⟩
          rw [List.range_succ]
          refine pair_app (Paired.mapP pz fun _ _ z => PosAt.put hD4 ((z.same (same_upd hT)).same s4)) (.cons (PosAt.put hD4 ⟨o, s.p, rfl, upd_same⟩) .nil)
      · refine ⟨_, rfl, a, xs, rfl, .inr ⟨ha, fun D hD => ?_⟩⟩
        refine lc_gen (n := xs.length) (fun i H2 => ∃ zs : List V, Same H H2 ∧ H2 D = some (.lst zs) ∧ zs.length = i ∧ Paired (PosAt H2) zs (List.range i)) ⟨[], same_upd hD, upd_same, rfl, .nil⟩ ?_ ?_
        · rintro H2 ⟨zs, s2, hD2, zl, pz⟩
          exact ⟨⟨xs, SqT.same s2 ha, Nat.le_refl _⟩, fin D zs H2 s2 hD2 pz⟩
        · rintro i H2 hi ⟨zs, s2, hD2, zl, pz⟩
          refine ⟨⟨xs, _, SqT.same s2 ha, List.getElem?_eq_getElem hi⟩, ?_⟩
          rintro x H' ⟨T, y, rfl, hT, rfl, hy⟩
          have hyi := hy _ (SqT.same s2 ha)
          obtain ⟨s, hs, t, l, rfl, ht, hl⟩ := pair_at sv hyi
          have s3 := s2.trans (same_upd (o := .tup [.int (i : Nat), .ref t]) hT)
          refine ⟨T, _, rfl, .inl (.inl upd_same), rfl, _, _, rfl, _, _, rfl, rfl, rfl, yes_ite ?_⟩
          refine ⟨_, rfl, t, _, _, _, rfl, rfl, .inl (.inl (s3 _ _ ht)), rfl, _, rfl, (by show 2 ≤ sizeLine; decide), fun o ho => ?_⟩
          have hD3 : upd H2 T (.tup [.int (i : Nat), .ref t]) D = some (.lst zs) := by
            rw [upd_ne (ne_of_none hD2 hT)]
            exact hD2
          have s4 := same_upd (o := .tup [.int s.p, .int (i : Nat)]) ho
          have hD4 := s4 _ _ hD3
          refine ⟨zs, hD4, by rw [sl]; omega, zs ++ [.ref o], same_at hD (s3.trans s4), upd_same, by rw [List.length_append, zl]; rfl, ?_⟩
          rw [List.range_succ]
          refine pair_app (Paired.mapP pz fun _ _ z => PosAt.put hD4 ((z.same (same_upd hT)).same s4)) (.cons (PosAt.put hD4 ⟨o, s.p, rfl, upd_same⟩) .nil)
    rintro _ H2 ⟨l, ys, ks, s2, hl2, py, kp, rfl⟩
    have yl := Paired.length py
    have kl := kp.length_eq
    rw [List.length_range] at kl
    refine ⟨_, rfl, l, rfl, ⟨_, .inl (.inl hl2)⟩, fun D hD => ?_⟩
    refine lc_list (xs := ys) (fun i H3 => ∃ (zs : List V) (ws : List (List Rw)), V.ref D ∉ zs ∧ Same H2 H3 ∧ H3 D = some (.lst zs) ∧ zs.length = i ∧ WorkV H3 zs ws ∧ Paired (LotOf sts) ws (ks.take i)) ⟨[], [], (fun h => nomatch h), same_upd hD, upd_same, rfl, .nil, .nil⟩ (fun i H3 _ ⟨_, _, _, s3, _⟩ => .inl (.inl (s3 _ _ hl2))) ?_ ?_
    · rintro i v H3 hv ⟨zs, ws, nD, s3, hD3, zl, wv, lo⟩
      obtain ⟨k, hk, t, j, rfl, ht⟩ := pair_at py hv
      have il := (List.getElem?_eq_some_iff.mp hv).1
      have kr : k < sts.length := List.mem_range.mp (kp.subset (List.mem_of_getElem? hk))
      have ek : xs[k]? = some (xs[k]'(by omega)) := List.getElem?_eq_getElem (by omega)
      obtain ⟨s, hs, sv2⟩ := pair_at sv ek
      have s13 := s2.trans s3
      refine ⟨t, _, rfl, .inl (.inl (s3 _ _ ht)), rfl, _, _, rfl, _, _, rfl, rfl, rfl, yes_ite ?_⟩
      have ixk : ∀ Q : VK, Q (xs[k]'(by omega)) H3 → rIx K (.ref a) (.int (k : Nat)) H3 Q := fun Q h => ha.elim (fun z => .inl ⟨a, xs, _, _, rfl, rfl, .inl (.inl (s13 _ _ z)), atI_nat ek, h⟩) (fun z => .inr (.inl ⟨a, xs, _, _, rfl, rfl, SqT.same s13 z, atI_nat ek, h⟩))
      refine ⟨_, rfl, _, rfl, ixk _ ?_⟩
      refine ⟨_, s.lo, s.hi, s.p, s.xs, rfl, SsAt.same s13 sv2, ok s (List.mem_of_getElem? hs), fun o us op H4 n4 s4 ho rv tr => ?_⟩
      have oD : o ≠ D := (ne_of_none hD3 n4).symm
      have hD4 := s4 _ _ hD3
      refine ⟨zs, hD4, by rw [sl]; omega, zs ++ [.ref o], ws ++ [op.toList], (fun h => ?_), same_at hD (s3.trans s4), upd_same, by rw [List.length_append, zl]; rfl, workV_snoc (workV_put (wv.same s4) hD4 nD) (rowsAt_put ⟨us, ho, rv⟩ oD hD4), ?_⟩
      · rcases List.mem_append.mp h with z | z
        · exact nD z
        · exact oD (V.ref.inj (List.mem_singleton.mp z)).symm
      · rw [List.take_succ, hk]
        exact pair_app lo (.cons ⟨s, op, hs, rfl, tr⟩ .nil)
    · rintro H3 ⟨zs, ws, nD, s3, hD3, zl, wv, lo⟩
      rw [yl, List.take_length] at lo
      have wl := Paired.length lo
      refine ⟨D, zs, ws, cs, W1, W + L, L, rfl, hD3, wv, fun rs hr => ?_, hv0.down (by omega), kz, fun l4 out H4 _ s4 ro ns iff => ?_⟩
      · obtain ⟨j, hj⟩ := List.getElem?_of_mem hr
        obtain ⟨k, _, s, o, hs, rfl, t⟩ := pair_at lo hj
        exact lot_nts (Z := ⟨cs, W⟩) (kz.le wle) (lm s (List.mem_of_getElem? hs)) t
      · exact q l4 out H4 (s2.trans (s3.trans s4)) ro ns fun n => (iff n).trans (lots_in lo kp n)
end
end L2.K14
end

section
set_option Elab.async false
set_option linter.all false
set_option maxRecDepth 100000
set_option maxHeartbeats 1000000
namespace L2.K14
open PySem PySem.Spec PyProof.Rows L2.Gd L2.Ln
/-! ### what a Line takes -/
theorem ty_tup {K : PySem.W.Frag} {H : Hp} {a : Addr} {xs : List V} (h : SqT K H a xs) : TyX K H (.ref a) (.type "tuple") := by
  rcases h with h | ⟨o, its, m, e, c, _⟩
  · rcases h with h | ⟨o, h⟩
    · exact .base (.tup h)
    · exact .fTuple h
  · exact .kTuple e c
theorem SeqA.len {K : PySem.W.Frag} {H : Hp} {a : Addr} {xs : List V} (h : SeqA K H a xs) : SqL K H a xs ∨ SqT K H a xs := h.elim (fun q => .inl (.inl (.inl q))) (fun q => .inr q.1)
def spIsLA (K : PySem.W.Frag) : Sp := fun vs H Q _ => ∃ a xs, vs = [.ref a] ∧ SeqA K H a xs ∧ ∀ H', Same H H' → Q (.bl true) H'
def spCs (K : PySem.W.Frag) : Sp := fun vs H Q _ => ∃ (a : Addr) (xs : List V) (sts : List Sst), vs = [.ref a] ∧ SeqA K H a xs ∧ Paired (SsAt H) xs sts ∧ (∀ s ∈ sts, s.Ok) ∧ sts.length ≤ 200 ∧ ∀ H', Same H H' → Q .non H'
theorem scCs : FnScope ["stretches", "position", "stretch"] ["stretches"] (defScope (top 90)) := ⟨rfl, rfl, rfl, by decide +kernel, rfl, by decide +kernel, by decide +kernel⟩
section
variable {P : Program} {w : World} {K : PySem.W.Frag} {mg : Str → Option Value} {base : Heap}
theorem ok_isLA {f : Addr} {fd : FuncData} (F : Fun K "is_list" "is_list" sIsList f fd) (n : Nm mg) : FnOk P w K mg base CX0 1 f fd ["value"] (spIsLA K) := by
  refine F.ok scL (fun vs H Q E h => ?_) (fun cdv A outer s H vs Q E hr h => ?_)
  · obtain ⟨i, _, rfl, _⟩ := h
    rfl
  · obtain ⟨a, xs, rfl, hs, k⟩ := h
    refine ⟨_, pss_one (ps_ret (pe_callB call_isiT (by rfl) n.isi (by decide +kernel) (pa_cons (pv 0) (pa_cons (pe_tup (pa_cons (pe_bltn (v := .ty "list") (by rfl) n.list (by decide +kernel) rfl) (pa_cons (pe_bltn (v := .ty "tuple") (by rfl) n.tuple (by decide +kernel) rfl) pa_nil))) pa_nil)))), ?_⟩
    refine ⟨_, rfl, (by show 2 ≤ sizeLine; decide), fun p hp => ?_⟩
    have cs : Paired ClsV [V.ty "list", V.ty "tuple"] [Value.type "list", Value.type "tuple"] := .cons (.ty _) (.cons (.ty _) .nil)
    rcases hs with hs | ⟨hs, _⟩
    · refine ⟨_, p, _, _, _, true, rfl, upd_same, cs, .base (.lst (by rw [upd_ne (ne_of_none hs hp)]; exact hs)), ?_, k _ (same_upd hp)⟩
      exact kitAny_cons (kit_ty (b := "list") (r := true) (by decide +kernel)) (fun z => nomatch z) (fun _ => rfl)
    · refine ⟨_, p, _, _, _, true, rfl, upd_same, cs, ty_tup (SqT.same (same_upd hp) hs), ?_, k _ (same_upd hp)⟩
      exact kitAny_cons (kit_ty (b := "list") (r := false) (by decide +kernel)) (fun _ => kitAny_cons (kit_ty (b := "tuple") (r := true) (by decide +kernel)) (fun z => nomatch z) (fun _ => rfl)) (fun z => nomatch z)
theorem ok_cs {f : Addr} {fd : FuncData} {tk : Tok} (F : Fun K "check_stretches" "check_stretches" (top 90) f fd) (n : Nm mg) (mp : mg "MOST_PASSED" = some (.int 200 tk)) (GL : Fn P w K mg base 1 "is_list" ["value"] (spIsLA K)) (GS : Fn P w K mg base 4 "is_stretch" ["value"] spSt) : FnOk P w K mg base CX0 5 f fd ["stretches"] (spCs K) := by
  refine F.ok scCs (fun vs H Q E h => ?_) (fun cdv A outer s H vs Q E hr h => ?_)
  · obtain ⟨a, xs, sts, rfl, _⟩ := h
    rfl
  · obtain ⟨a, xs, sts, rfl, ha, sv, ok, sl4, q⟩ := h
    have nd := scCs.nd
    have lx := Paired.length sv
    refine ⟨_, pss_cons (ps_if (pt_not (pt_val (pe_fn GL (hr.mono (by decide)) (pa_cons (pv 0) pa_nil)))) pss_never pss_nil)
      (pss_cons (ps_for PassesOwn.never rfl (pi_enumA (by rfl) n.enumerate (pa_cons (pv 0) pa_nil)) (pg_tup rfl (pgs_cons (pg_name (i := 1) nd rfl (.inl rfl)) (pgs_cons (pg_name (i := 2) nd rfl (.inl rfl)) pgs_nil)))
        (pss_one (ps_if (pt_not (pt_val (pe_fn GS hr (pa_cons (pv 2) pa_nil)))) pss_never pss_nil)))
      (pss_one (ps_if (pt_cmpR op_gt (pe_callB call_len_seq (by rfl) n.len PySem.boot_len (pa_cons (pv 0) pa_nil)) (pe_glob (v := .int 200) (by rfl) mp ⟨_, rfl⟩) (nomark _)) pss_never pss_nil))), ?_⟩
    refine ⟨_, rfl, a, xs, rfl, ha, fun H1 s1 => ⟨true, rfl, iteF ?_⟩⟩
    have after : ∀ (H2 : Hp) (x1 x2 : Option V), Same H H2 → tIfS (tTest (tOp (rI0 fun i j => .bl (decide (j < i))) (tCB (fun xs H Q => ∃ p ys, xs = [.ref p] ∧ (SqL K H p ys ∨ SqT K H p ys) ∧ Q (.int ys.length) H) (tCons (tVar 0) tNil)) (tC (.int 200)))) tNever tNext { nx := fun _ H' => Q .non H', rt := Q } [some (.ref a), x1, x2] H2 := by
      intro H2 x1 x2 s2
      refine ⟨_, rfl, a, xs, rfl, (ha.same s2).len, _, _, rfl, rfl, decide ((200 : Int) < xs.length), rfl, ?_⟩
      rw [decide_eq_false (by omega)]
      exact iteF (q _ s2)
    rcases ha with ha | ⟨ha, rfl⟩
    · refine ⟨_, rfl, a, xs, rfl, .inl ⟨.inl (.inl (s1 _ _ ha)), loop_of (n := xs.length) (fun i σ H2 => ∃ (x1 x2 : Option V), Same H H2 ∧ σ = [some (.ref a), x1, x2]) ⟨none, none, s1, rfl⟩ ?_ ?_⟩⟩
      · rintro σ H2 ⟨x1, x2, s2, rfl⟩
        exact ⟨⟨xs, .inl (.inl (s2 _ _ ha)), Nat.le_refl _⟩, after H2 x1 x2 s2⟩
      · rintro i σ H2 hi ⟨x1, x2, s2, rfl⟩
        refine ⟨⟨xs, _, .inl (.inl (s2 _ _ ha)), List.getElem?_eq_getElem hi⟩, ?_⟩
        rintro x H' ⟨T, y, rfl, hT, rfl, hy⟩
        have hyi := hy _ (.inl (.inl (s2 _ _ ha)))
        obtain ⟨s, hs, sv2⟩ := pair_at sv hyi
        have s3 := s2.trans (same_upd (o := .tup [.int (i : Nat), y]) hT)
        refine ⟨T, _, rfl, .inl (.inl upd_same), rfl, _, _, rfl, _, _, rfl, rfl, ?_⟩
        refine ⟨_, rfl, y, s.lo, s.hi, s.p, s.xs, rfl, SsAt.same s3 sv2, ok s (List.mem_of_getElem? hs), fun H4 s4 => ⟨true, rfl, iteF ?_⟩⟩
        exact ⟨_, _, s3.trans s4, rfl⟩
    · refine ⟨_, rfl, a, [], rfl, .inr ⟨SqT.same s1 ha, loop_of (n := 0) (fun i σ H2 => ∃ (x1 x2 : Option V), Same H H2 ∧ σ = [some (.ref a), x1, x2]) ⟨none, none, s1, rfl⟩ ?_ ?_⟩⟩
      · rintro σ H2 ⟨x1, x2, s2, rfl⟩
        exact ⟨⟨[], SqT.same s2 ha, Nat.le_refl _⟩, after H2 x1 x2 s2⟩
      · intro i σ H2 hi _
        exact absurd hi (Nat.not_lt_zero _)
end
end L2.K14
end

section
set_option Elab.async false
set_option linter.all false
set_option maxRecDepth 100000
set_option maxHeartbeats 1000000
namespace L2.K14
open PySem PySem.Spec PyProof.Rows L2.Gd L2.Ln
/-! ### a Line: its rows, its numbers -/
def fldR (l : Addr) : List (Str × V) := putF "_rows" (.ref l) []
theorem fldR_get (l : Addr) : (fldR l).lookup ("_rows" : Str) = some (.ref l) := by
  unfold fldR
  rw [lookup_putF, if_pos rfl]
theorem fldR_no (l : Addr) {x : Str} (h : ¬ x = "_rows") : (fldR l).lookup x = none := by
  unfold fldR
  rw [lookup_putF, if_neg h]
  all_goals rfl
theorem fldR_put (l l' : Addr) : putF "_rows" (.ref l') (fldR l) = fldR l' := by
  unfold fldR
  show (if ("_rows" : Str) = "_rows" then [(("_rows" : Str), V.ref l')] else _) = _
  rw [if_pos rfl]
  rfl
/-- the Line at x, its ends within W, its numbers S -/
def LnS (C : Addr) (W : Zn) (H : Hp) (x : Addr) (S : Int → Bool) : Prop := ∃ (dx l : Addr) (rs : List Rw), H x = some (.ins C dx (fldR l)) ∧ RowsAt H l rs ∧ NtS W 12 rs ∧ ∀ n, inLB rs n = S n
/-- .. its list of rows told -/
def LnA (C : Addr) (W : Zn) (H : Hp) (x l : Addr) (S : Int → Bool) : Prop := ∃ (dx : Addr) (rs : List Rw), H x = some (.ins C dx (fldR l)) ∧ RowsAt H l rs ∧ NtS W 12 rs ∧ ∀ n, inLB rs n = S n
theorem LnA.s {C : Addr} {W : Zn} {H : Hp} {x l : Addr} {S : Int → Bool} (h : LnA C W H x l S) : LnS C W H x S := let ⟨dx, rs, q⟩ := h; ⟨dx, l, rs, q⟩
theorem LnA.same {C : Addr} {W : Zn} {H H' : Hp} {x l : Addr} {S : Int → Bool} (s : Same H H') (h : LnA C W H x l S) : LnA C W H' x l S := let ⟨dx, rs, ox, ra, na, e⟩ := h; ⟨dx, rs, s _ _ ox, ra.same s, na, e⟩
theorem LnA.put {C D : Addr} {W : Zn} {H : Hp} {x l : Addr} {S : Int → Bool} {zs : List V} {o : HO} (hD : H D = some (.lst zs)) (ne : l ≠ D) (h : LnA C W H x l S) : LnA C W (upd H D o) x l S := by
  obtain ⟨dx, rs, ox, ⟨us, hl, rv⟩, na, e⟩ := h
  exact ⟨dx, rs, by rw [upd_ne (fun z => by rw [z, hD] at ox; exact nomatch ox)]; exact ox, ⟨us, by rw [upd_ne ne]; exact hl, rowsV_put rv hD⟩, na, e⟩
theorem LnS.same {C : Addr} {W : Zn} {H H' : Hp} {x : Addr} {S : Int → Bool} (s : Same H H') (h : LnS C W H x S) : LnS C W H' x S := let ⟨dx, l, rs, ox, ra, na, e⟩ := h; ⟨dx, l, rs, s _ _ ox, ra.same s, na, e⟩
theorem LnS.sub {C : Addr} {Z Z' : Zn} {H : Hp} {x : Addr} {S : Int → Bool} (s : Z.Sub Z') (h : LnS C Z H x S) : LnS C Z' H x S := let ⟨dx, l, rs, ox, ra, na, e⟩ := h; ⟨dx, l, rs, ox, ra, na.sub s, e⟩
theorem LnS.mono {C : Addr} {cs : List Int} {W W' : Int} {H : Hp} {x : Addr} {S : Int → Bool} (le : W ≤ W') (h : LnS C ⟨cs, W⟩ H x S) : LnS C ⟨cs, W'⟩ H x S := LnS.sub (Z := ⟨cs, W⟩) (Z' := ⟨cs, W'⟩) ⟨fun _ z => z, le, Nat.le_refl _⟩ h
theorem LnS.cong {C : Addr} {W : Zn} {H : Hp} {x : Addr} {S T : Int → Bool} (h : LnS C W H x S) (e : ∀ n, S n = T n) : LnS C W H x T := let ⟨dx, l, rs, ox, ra, na, z⟩ := h; ⟨dx, l, rs, ox, ra, na, fun n => (z n).trans (e n)⟩
theorem LnS.ob {C : Addr} {W : Zn} {H : Hp} {x : Addr} {S : Int → Bool} (h : LnS C W H x S) : ∃ dx fs, H x = some (.ins C dx fs) := let ⟨dx, l, _, ox, _⟩ := h; ⟨dx, fldR l, ox⟩
theorem rowsAt_ins {H : Hp} {x C dx l : Addr} {fs : List (Str × V)} {o : HO} {rs : List Rw} (h : RowsAt H l rs) (hx : H x = some (.ins C dx fs)) : RowsAt (upd H x o) l rs := by
  obtain ⟨us, e, q⟩ := h
  refine ⟨us, by rw [upd_ne (fun z => by rw [z, hx] at e; exact nomatch e)]; exact e, Paired.mapP q fun v r ⟨t, ev, ht⟩ => ⟨t, ev, ?_⟩⟩
  rw [upd_ne (fun z => by rw [z, hx] at ht; exact nomatch ht)]
  exact ht
theorem nts_2520 {Z : Zn} {rs : List Rw} (k : Z.Ok 12) (h : NtS Z 12 rs) : ∀ r ∈ rs, r.p ≤ 2520 := nts_per k h
section
variable {P : Program} {w : World} {K : PySem.W.Frag} {mg : Str → Option Value} {base : Heap} {C : Addr}
theorem ty_line {H : Hp} (T : ClsT K mg C) {a dx : Addr} {fs : List (Str × V)} (e : H a = some (.ins C dx fs)) : TyX K H (.ref a) (.ref C) :=
  .base (TyOf.ins e T.isc.cl T.isc.ha T.isc.hn T.isc.htk T.isc.hm)
/-! ### __init__ -/
def spInit (K : PySem.W.Frag) (C : Addr) : Sp := fun vs H Q _ => ∃ (x dx a : Addr) (xs : List V) (sts : List Sst) (cs : List Int) (W : Int), vs = [.ref x, .ref a] ∧ H x = some (.ins C dx []) ∧ SeqA K H a xs ∧ Paired (SsAt H) xs sts ∧ (∀ s ∈ sts, s.Ok) ∧ (∀ s ∈ sts, Lm ⟨cs, W⟩ 12 s.row) ∧ sts.length ≤ 4 ∧ (Zn.mk cs (W + 38)).Ok 12 ∧
  ∀ (l : Addr) (out : List Rw) (H' : Hp), H l = none → H' x = some (.ins C dx (fldR l)) → RowsAt H' l out → NtS ⟨cs, W + 38⟩ 12 out → (∀ n, inLB out n = true ↔ inSs sts n) → (∀ b o, b ≠ x → H b = some o → H' b = some o) → Q .non H'
theorem scIn : FnScope ["self", "stretches"] ["self", "stretches"] (defScope (cLine 0)) := ⟨rfl, rfl, rfl, by decide +kernel, rfl, by decide +kernel, by decide +kernel⟩
theorem ok_init {f dT : Addr} {fd : FuncData} (F : FunD K "__init__" "Line.__init__" (defArgs (cLine 0)) (defBody (cLine 0)) (defScope (cLine 0)) [.ref dT] [] f fd)
    (T : ClsT K mg C) (CS : Fn P w K mg base 5 "check_stretches" ["stretches"] (spCs K)) (RO : Fn P w K mg base 11 "rows_of" ["stretches"] (spRo K)) (LI : Fn P w K mg base 2 "limited" ["rows"] spLim) : FnOk P w K mg base CX0 12 f fd ["self", "stretches"] (spInit K C) := by
  refine F.ok scIn (fun vs H Q E h => ?_) (fun cdv A outer s H vs Q E hr h => ?_)
  · obtain ⟨x, dx, a, xs, sts, cs, W, rfl, _⟩ := h
    rfl
  · obtain ⟨x, dx, a, xs, sts, cs, W, rfl, hx, sa, sv, sok, lm, l4, kz, q⟩ := h
    have nd := scIn.nd
    refine ⟨_, pss_cons (ps_expr (pe_fn CS (hr.mono (by decide)) (pa_cons (pv 1) pa_nil)))
      (pss_one (ps_fld (pv 0) (pe_fn LI (hr.mono (by decide)) (pa_cons (pe_fn RO hr (pa_cons (pv 1) pa_nil)) pa_nil)) rfl)), ?_⟩
    refine ⟨_, rfl, a, xs, sts, rfl, sa, sv, sok, by omega, fun H1 s1 => ?_⟩
    refine ⟨_, rfl, a, xs, sts, cs, W, W - 14, 12, rfl, (sa.same s1).b, Paired.mapP sv fun _ _ z => SsAt.same s1 z, sok, lm, .inr (.inr (.inl ⟨l4, by omega⟩)), kz.le (by omega), by omega, fun l out H2 s2 ro ns iff => ?_⟩
    have ns' : NtS ⟨cs, W + 38⟩ 12 out := NtS.mono (by omega) ns
    have few := ns.few
    refine ⟨l, out, rfl, ro, nts_2520 kz ns', by have cl := kz.cl; have e : (Zn.mk cs (W + 38)).cs = cs := rfl; have fw := ns'.few; omega, fun l3 H3 n3 s3 ro3 => ?_⟩
    have s03 := s1.trans (s2.trans s3)
    refine ⟨_, rfl, x, C, dx, [], rfl, s03 _ _ hx, T.isc.cl, T.nR, (by show 0 < 1000; decide), ?_⟩
    refine q l3 out _ (Same.free (s1.trans s2) n3) upd_same (rowsAt_ins ro3 (s03 _ _ hx)) ns' iff fun b o ne e => ?_
    rw [upd_ne ne]
    exact s03 _ _ e
/-- the maker -/
structure MkL (P : Program) (w : World) (K : PySem.W.Frag) (mg : Str → Option Value) (base : Heap) (C dT : Addr) : Prop where
  ex : ∃ f fd, Mk K C f ∧ Binds K fd ["self", "stretches"] [] ∧ (∃ ds : List Value, Binds K fd ["self", "stretches"] ds ∧ Vals [.ref dT] ds) ∧ FnOk P w K mg base CX0 12 f fd ["self", "stretches"] (spInit K C)
  dt : ∀ H, SqT K H dT []
/-- what Line(..) wants -/
def rLine (K : PySem.W.Frag) (C : Addr) : List V → Hp → VK → Prop := fun vs H Q => ∃ (a : Addr) (xs : List V) (sts : List Sst) (cs : List Int) (W : Int), vs = [.ref a] ∧ SeqA K H a xs ∧ Paired (SsAt H) xs sts ∧ (∀ s ∈ sts, s.Ok) ∧ (∀ s ∈ sts, Lm ⟨cs, W⟩ 12 s.row) ∧ sts.length ≤ 4 ∧ (Zn.mk cs (W + 38)).Ok 12 ∧
  ∀ (x l : Addr) (H' : Hp) (S : Int → Bool), H x = none → H l = none → Same H H' → LnA C ⟨cs, W + 38⟩ H' x l S → (∀ n, S n = true ↔ inSs sts n) → Q (.ref x) H'
/-- near 0 alone -/
theorem ok0 {W : Int} (h : 2 * W + 1 ≤ 2520) : (Zn.mk [0] W).Ok 12 := ⟨h, by decide, by decide, fun c hc d hd => .inl (by rw [List.mem_singleton.mp hc, List.mem_singleton.mp hd]), (by show 1 ≤ 6; decide)⟩
theorem line_read {H : Hp} {a : Addr} {Q : VK} {E : XK} (h : rLine K C [.ref a] H Q) (x dx : Addr) (hx : H x = none) (hdx : H dx = none) (ne : dx ≠ x) :
    spInit K C [.ref x, .ref a] (upd (upd H dx (.own x)) x (.ins C dx [])) (fun v H2 => v = .non ∧ Q (.ref x) H2) E := by
  obtain ⟨a', xs, sts, cs, W, e, sa, sv, sok, lm, l4, kz, q⟩ := h
  cases e
  have s0 : Same H (upd (upd H dx (.own x)) x (.ins C dx [])) := fun b o e => by
    rw [upd_ne (ne_of_none e hx), upd_ne (ne_of_none e hdx)]
    exact e
  refine ⟨x, dx, a, xs, sts, cs, W, rfl, upd_same, sa.same s0, Paired.mapP sv fun _ _ z => SsAt.same s0 z, sok, lm, l4, kz, fun l out H' nl ox ro ns iff kp => ⟨rfl, ?_⟩⟩
  have s1 : Same H H' := fun b o e => kp b o (ne_of_none e hx) (s0 b o e)
  exact q x l H' (fun n => inLB out n) hx (Same.free s0 nl) s1 ⟨dx, out, ox, ro, ns, fun _ => rfl⟩ iff
theorem line_read0 {H : Hp} {dT : Addr} {Q : VK} {E : XK} (hT : ∀ H, SqT K H dT []) (h : ∀ (x : Addr) (H' : Hp), H x = none → Same H H' → LnS C ⟨[0], 38⟩ H' x (fun _ => false) → Q (.ref x) H') (x dx : Addr) (hx : H x = none) (hdx : H dx = none) (ne : dx ≠ x) :
    spInit K C [.ref x, .ref dT] (upd (upd H dx (.own x)) x (.ins C dx [])) (fun v H2 => v = .non ∧ Q (.ref x) H2) E := by
  refine line_read ⟨dT, [], [], [0], 0, rfl, .inr ⟨hT H, rfl⟩, .nil, (fun s hs => nomatch hs), (fun s hs => nomatch hs), Nat.zero_le _, ok0 (by decide), fun x l H' S nx nl s1 ln iff => ?_⟩ x dx hx hdx ne
  refine h x H' nx s1 (LnS.mono (by decide) (ln.s.cong fun n => ?_))
  have z : ¬ S n = true := fun z => by
    obtain ⟨s, hs, _⟩ := (iff n).mp z
    exact nomatch hs
  exact Bool.eq_false_iff.mpr z
section
variable {X : Cx} {p pos : Pos} {e : Expr} {es : List Expr} {t : TA} {dT : Addr}
/-- Line(stretches) -/
theorem pe_line (M : MkL X.prog X.w X.K X.mg X.base C dT) (T : ClsT X.K X.mg C) (hr : Room 13 X.A) (ha : PA X (e :: es) t) (hg : Gl X "Line" := by rfl) (he : starEach (e :: es) X.env = (false, eval e X.env) :: starEach es X.env := by rfl)
    (hpl : (backTo pos (starEach es X.env)).any (·.1) = false := by rfl) :
    PE X (.Call (.Name "Line" p) (e :: es) [] pos) (tMake C (spInit X.K C) [] E0 t) := by
  obtain ⟨f, fd, mk, b, _, F⟩ := M.ex
  exact pe_make mk F hr hg T.mgC b .nil pass0 ha (by decide) he hpl
/-- Line() -/
theorem pe_line0 (M : MkL X.prog X.w X.K X.mg X.base C dT) (T : ClsT X.K X.mg C) (hr : Room 13 X.A) (hg : Gl X "Line" := by rfl) :
    PE X (.Call (.Name "Line" p) [] [] pos) (tMake C (spInit X.K C) [.ref dT] E0 tNil) := by
  obtain ⟨f, fd, mk, _, ⟨ds, b, v⟩, F⟩ := M.ex
  exact pe_make0 mk F hr hg T.mgC b v pass0 (by decide)
end
/-! ### line_of_rows, check_line -/
def spLor (C : Addr) : Sp := fun vs H Q _ => ∃ (a : Addr) (rs : List Rw) (W : Zn), vs = [.ref a] ∧ RowsAt H a rs ∧ NtS W 12 rs ∧ W.Ok 12 ∧ ∀ (x : Addr) (H' : Hp), H x = none → Same H H' → LnS C W H' x (inLB rs) → Q (.ref x) H'
theorem scLor : FnScope ["rows", "line"] ["rows"] (defScope (top 93)) := ⟨rfl, rfl, rfl, by decide +kernel, rfl, by decide +kernel, by decide +kernel⟩
theorem ok_lor {f dT : Addr} {fd : FuncData} (F : Fun K "line_of_rows" "line_of_rows" (top 93) f fd) (T : ClsT K mg C) (M : MkL P w K mg base C dT) (LI : Fn P w K mg base 2 "limited" ["rows"] spLim) : FnOk P w K mg base CX0 14 f fd ["rows"] (spLor C) := by
  refine F.ok scLor (fun vs H Q E h => ?_) (fun cdv A outer s H vs Q E hr h => ?_)
  · obtain ⟨a, rs, W, rfl, _⟩ := h
    rfl
  · obtain ⟨a, rs, W, rfl, ra, ns, Wb, q⟩ := h
    have nd := scLor.nd
    refine ⟨_, pss_cons (ps_set (i := 1) nd rfl (.inl rfl) (pe_line0 M T hr))
      (pss_cons (ps_fld (pv 1) (pe_fn LI (hr.mono (by decide)) (pa_cons (pv 0) pa_nil)) rfl) (pss_one (ps_ret (pv 1)))), ?_⟩
    refine seqV (Good := fun σ2 H2 => ∃ (x dx l : Addr), H x = none ∧ Same H H2 ∧ H2 x = some (.ins C dx (fldR l)) ∧ σ2 = [some (.ref a), some (.ref x)]) ?_ ?_
    · intro nx hnx x dx hx hdx ne
      refine line_read0 (K := K) (C := C) (Q := fun v H2 => nx [some (.ref a), some v] H2) M.dt (fun x H' nx' s' ln => ?_) x dx hx hdx ne
      obtain ⟨dx', l, rs', ox, _⟩ := ln
      exact hnx _ _ ⟨x, dx', l, nx', s', ox, rfl⟩
    rintro _ H2 ⟨x, dx, l, nx, s2, ox, rfl⟩
    have few := ns.few
    refine ⟨_, rfl, a, rs, rfl, ra.same s2, nts_2520 Wb ns, by have cl := Wb.cl; omega, fun l3 H3 n3 s3 ro3 => ?_⟩
    have ox3 := s3 _ _ ox
    refine ⟨_, rfl, x, C, dx, _, rfl, ox3, T.isc.cl, T.nR, (by show 1 < 1000; decide), ?_⟩
    refine ⟨_, rfl, ?_⟩
    rw [fldR_put]
    exact q x _ nx (same_at nx (s2.trans s3)) ⟨dx, l3, rs, upd_same, rowsAt_ins ro3 ox3, ns, fun _ => rfl⟩
def spCl (C : Addr) : Sp := fun vs H Q _ => ∃ (x dx : Addr) (fs : List (Str × V)), vs = [.ref x] ∧ H x = some (.ins C dx fs) ∧ Q .non H
theorem scCl : FnScope ["line"] ["line"] (defScope (top 92)) := ⟨rfl, rfl, rfl, by decide +kernel, rfl, by decide +kernel, by decide +kernel⟩
theorem ok_cl {f : Addr} {fd : FuncData} (F : Fun K "check_line" "check_line" (top 92) f fd) (n : Nm mg) (T : ClsT K mg C) : FnOk P w K mg base CX0 1 f fd ["line"] (spCl C) := by
  refine F.ok scCl (fun vs H Q E h => ?_) (fun cdv A outer s H vs Q E hr h => ?_)
  · obtain ⟨x, dx, fs, rfl, _⟩ := h
    rfl
  · obtain ⟨x, dx, fs, rfl, hx, q⟩ := h
    refine ⟨_, pss_one (ps_if (pt_not (pt_val (pe_callB call_isi (by rfl) n.isi (by decide +kernel) (pa_cons (pv 0) (pa_cons (pe_glob (v := .ref C) (by rfl) T.mgC rfl) pa_nil))))) pss_never pss_nil), ?_⟩
    exact ⟨_, rfl, _, _, _, _, true, rfl, .own C, ty_line T hx, T.isc.me, true, rfl, iteF q⟩
def spCn : Sp := fun vs H Q _ => ∃ i : Int, vs = [.int i] ∧ Q .non H
theorem scCn : FnScope ["number"] ["number"] (defScope (top 15)) := ⟨rfl, rfl, rfl, by decide +kernel, rfl, by decide +kernel, by decide +kernel⟩
theorem ok_cn {f : Addr} {fd : FuncData} (F : Fun K "check_number" "check_number" (top 15) f fd) (GI : Fn P w K mg base 1 "is_integer" ["value"] spIsInt) : FnOk P w K mg base CX0 2 f fd ["number"] spCn := by
  refine F.ok scCn (fun vs H Q E h => ?_) (fun cdv A outer s H vs Q E hr h => ?_)
  · obtain ⟨i, rfl, _⟩ := h
    rfl
  · obtain ⟨i, rfl, q⟩ := h
    refine ⟨_, pss_one (ps_if (pt_not (pt_val (pe_fn GI hr (pa_cons (pv 0) pa_nil)))) pss_never pss_nil), ?_⟩
    exact ⟨_, rfl, i, rfl, true, rfl, iteF q⟩
end
end L2.K14
end

section
set_option Elab.async false
set_option linter.all false
set_option maxRecDepth 100000
set_option maxHeartbeats 1000000
namespace L2.K14
open PySem PySem.Spec PyProof.Rows L2.Gd L2.Ln
/-! ### the methods of a Line -/
structure PrH (P : Program) (w : World) (K : PySem.W.Frag) (mg : Str → Option Value) (base : Heap) (C : Addr) (x : Str) (sp : Sp) : Prop where
  ex : ∃ p g fd, PropOf K C x p g ∧ Binds K fd ["self"] [] ∧ FnOk P w K mg base CX0 1 g fd ["self"] sp
theorem pe_prH {X : Cx} {C : Addr} {x : Str} {sp : Sp} {e : Expr} {te : TE} {pos : Pos} (G : PrH X.prog X.w X.K X.mg X.base C x sp) (T : ClsT X.K X.mg C) (hr : Room 2 X.A) (he : PE X e te)
    (hab : attributeBase e x X.env (eval e X.env) = eval e X.env := by rfl) : PE X (.Attribute e x pos) (tProp C sp [] E0 te) := by
  obtain ⟨p, g, fd, hp, b, F⟩ := G.ex
  exact pe_prop he T.isc.cl hp F hr b .nil pass0 hab
structure MeH (P : Program) (w : World) (K : PySem.W.Frag) (mg : Str → Option Value) (base : Heap) (C : Addr) (x : Str) (k : Nat) (ps : List Str) (sp : Sp) : Prop where
  ex : ∃ f fd, Meth K C x f ∧ Binds K fd ps [] ∧ FnOk P w K mg base CX0 k f fd ps sp
section
variable {X : Cx} {C : Addr} {x : Str} {k : Nat} {ps : List Str} {sp : Sp} {o e : Expr} {es : List Expr} {ta : TE} {t : TA} {apos pos : Pos}
theorem pe_mH0 {pl : Sem Bool} (M : MeH X.prog X.w X.K X.mg X.base C x k ps sp) (T : ClsT X.K X.mg C) (hr : Room k X.A) (he : PE X o ta)
    (ht : eval (.Call (.Attribute o x apos) [] [] pos) X.env = (do
      let ov ← eval o X.env
      standAt apos.atName
      let (f, first) ← holding [ov] (getMethod ov x pl)
      callWith pos f first (backTo pos (starEach [] X.env)) (backToKw pos (keywordEach [] X.env))) := by rfl) :
    PE X (.Call (.Attribute o x apos) [] [] pos) (tMeth C x sp [] E0 ta tNil) := by
  obtain ⟨f, fd, hm, b, F⟩ := M.ex
  exact pe_meth0 he T.isc.cl hm F hr b .nil pass0 ht
theorem pe_mH {pl : Sem Bool} (M : MeH X.prog X.w X.K X.mg X.base C x k ps sp) (T : ClsT X.K X.mg C) (hr : Room k X.A) (he : PE X o ta) (ha : PA X (e :: es) t)
    (hst : starEach (e :: es) X.env = (false, eval e X.env) :: starEach es X.env := by rfl) (hpl : (backTo pos (starEach es X.env)).any (·.1) = false := by rfl)
    (ht : eval (.Call (.Attribute o x apos) (e :: es) [] pos) X.env = (do
      let ov ← eval o X.env
      standAt apos.atName
      let (f, first) ← holding [ov] (getMethod ov x pl)
      callWith pos f first (backTo pos (starEach (e :: es) X.env)) (backToKw pos (keywordEach [] X.env))) := by rfl) :
    PE X (.Call (.Attribute o x apos) (e :: es) [] pos) (tMeth C x sp [] E0 ta t) := by
  obtain ⟨f, fd, hm, b, F⟩ := M.ex
  exact pe_meth he T.isc.cl hm F hr b .nil pass0 ha hst hpl ht
end
section
variable {P : Program} {w : World} {K : PySem.W.Frag} {mg : Str → Option Value} {base : Heap} {C : Addr}
def spRows (C : Addr) : Sp := fun vs H Q _ => ∃ (x dx l : Addr) (us : List V), vs = [.ref x] ∧ H x = some (.ins C dx (fldR l)) ∧ H l = some (.lst us) ∧ ∀ p, H p = none → Q (.ref p) (upd H p (.lst us))
theorem scRows : FnScope ["self"] ["self"] (defScope (cLine 5)) := ⟨rfl, rfl, rfl, by decide +kernel, rfl, by decide +kernel, by decide +kernel⟩
theorem ok_rows {f : Addr} {fd : FuncData} (F : Fun K "rows" "Line.rows" (cLine 5) f fd) (n : Nm mg) (T : ClsT K mg C) : FnOk P w K mg base CX0 1 f fd ["self"] (spRows C) := by
  refine F.ok scRows (fun vs H Q E h => ?_) (fun cdv A outer s H vs Q E hr h => ?_)
  · obtain ⟨x, dx, l, us, rfl, _⟩ := h
    rfl
  · obtain ⟨x, dx, l, us, rfl, ox, hl, q⟩ := h
    refine ⟨_, pss_one (ps_ret (pe_callTy call_list_of (by rfl) n.list (by decide +kernel) (pa_cons (pe_fld (pv 0) rfl) pa_nil))), ?_⟩
    exact ⟨_, rfl, x, C, dx, _, _, rfl, ox, T.isc.cl, T.nR, fldR_get _, l, us, rfl, .inl (.inl (.inl hl)), q⟩
/-- two Lines made one, by a word -/
def spEq (C : Addr) : Sp := fun vs H Q _ => ∃ (x y : Addr) (W : Zn) (S T : Int → Bool), vs = [.ref x, .ref y] ∧ LnS C W H x S ∧ LnS C W H y T ∧ W.Ok 12 ∧ ∀ (c : Bool) (H' : Hp), Same H H' → (c = true ↔ ∀ n, S n = T n) → Q (.bl c) H'
theorem scEq : FnScope ["self", "other"] ["self", "other"] (defScope (cLine 10)) := ⟨rfl, rfl, rfl, by decide +kernel, rfl, by decide +kernel, by decide +kernel⟩
theorem ok_eq {f : Addr} {fd : FuncData} (F : Fun K "__eq__" "Line.__eq__" (cLine 10) f fd) (n : Nm mg) (T : ClsT K mg C) (SM : Fn P w K mg base 6 "are_same" ["one", "two"] spSm) (RW : MeH P w K mg base C "rows" 1 ["self"] (spRows C)) : FnOk P w K mg base CX0 7 f fd ["self", "other"] (spEq C) := by
  refine F.ok scEq (fun vs H Q E h => ?_) (fun cdv A outer s H vs Q E hr h => ?_)
  · obtain ⟨x, y, W, S, S', rfl, _⟩ := h
    rfl
  · obtain ⟨x, y, W, S, S', rfl, ⟨dx, l, rs, ox, ra, na, e⟩, ⟨dy, l', rs', oy, ⟨us, hl, rv⟩, na', e'⟩, Wb, q⟩ := h
    have r1 := hr.mono (k := 6) (j := 1) (by decide)
    refine ⟨_, pss_cons (ps_if (pt_not (pt_val (pe_callB call_isi (by rfl) n.isi (by decide +kernel) (pa_cons (pv 1) (pa_cons (pe_glob (v := .ref C) (by rfl) T.mgC rfl) pa_nil))))) pss_never pss_nil)
      (pss_one (ps_ret (pe_fn SM hr (pa_cons (pe_fld (pv 0) rfl) (pa_cons (pe_mH0 RW T r1 (pv 1)) pa_nil))))), ?_⟩
    refine ⟨_, rfl, _, _, _, _, true, rfl, .own C, ty_line T oy, T.isc.me, true, rfl, iteF ?_⟩
    refine ⟨_, rfl, x, C, dx, _, _, rfl, ox, T.isc.cl, T.nR, fldR_get _, ?_⟩
    refine ⟨_, rfl, y, dy, _, rfl, oy, fldR_no _ (by decide +kernel), y, dy, l', us, rfl, oy, hl, fun p hp => ?_⟩
    have s1 := same_upd (o := .lst us) hp
    refine ⟨l, p, rs, rs', W, 12, rfl, ⟨ra.same s1, ⟨us, upd_same, RowsV.same s1 rv⟩, na, na', Wb⟩, fun c H' s2 iff => ?_⟩
    refine q c H' (s1.trans s2) (iff.trans ⟨fun z n => ?_, fun z n => ?_⟩)
    · rw [← e n, ← e' n]
      exact z n
    · rw [e n, e' n]
      exact z n
end
end L2.K14
end

section
set_option Elab.async false
set_option linter.all false
set_option maxRecDepth 100000
set_option maxHeartbeats 1000000
namespace L2.K14
open PySem PySem.Spec PyProof.Rows L2.Gd L2.Ln
/-! ### is_empty, has, other, part -/
section
variable {P : Program} {w : World} {K : PySem.W.Frag} {mg : Str → Option Value} {base : Heap} {C : Addr}
def spEm (C : Addr) : Sp := fun vs H Q _ => ∃ (x : Addr) (W : Zn) (S : Int → Bool), vs = [.ref x] ∧ LnS C W H x S ∧ ∀ c : Bool, (c = true ↔ ∀ n, S n = false) → Q (.bl c) H
theorem scEm : FnScope ["self"] ["self"] (defScope (cLine 4)) := ⟨rfl, rfl, rfl, by decide +kernel, rfl, by decide +kernel, by decide +kernel⟩
theorem ok_em {f : Addr} {fd : FuncData} (F : Fun K "is_empty" "Line.is_empty" (cLine 4) f fd) (n : Nm mg) (T : ClsT K mg C) : FnOk P w K mg base CX0 1 f fd ["self"] (spEm C) := by
  refine F.ok scEm (fun vs H Q E h => ?_) (fun cdv A outer s H vs Q E hr h => ?_)
  · obtain ⟨x, W, S, rfl, _⟩ := h
    rfl
  · obtain ⟨x, W, S, rfl, ⟨dx, l, rs, ox, ⟨us, hl, rv⟩, na, e⟩, q⟩ := h
    have lus := Paired.length rv
    refine ⟨_, pss_one (ps_ret (pe_cmpR op_eq (pe_callB call_len_seq (by rfl) n.len PySem.boot_len (pa_cons (pe_fld (pv 0) rfl) pa_nil)) pe_int (nomark _))), ?_⟩
    refine ⟨_, rfl, x, C, dx, _, _, rfl, ox, T.isc.cl, T.nR, fldR_get _, l, us, rfl, .inl (.inl (.inl hl)), rfl, ?_⟩
    refine q (decide (V.int (us.length : Int) = V.int 0)) ?_
    rw [decide_eq_true_eq, V.int.injEq]
    have e0 : (us.length : Int) = 0 ↔ rs = [] := by
      rw [← List.length_eq_zero_iff]
      omega
    rw [e0, nts_nil na]
    constructor
    · intro z n
      rw [← e n]
      exact z n
    · intro z n
      rw [e n]
      exact z n
def spHs (C : Addr) : Sp := fun vs H Q _ => ∃ (x : Addr) (i : Int) (W : Zn) (S : Int → Bool), vs = [.ref x, .int i] ∧ LnS C W H x S ∧ W.Ok 12 ∧ Q (.bl (S i)) H
theorem scHs : FnScope ["self", "number"] ["self", "number"] (defScope (cLine 6)) := ⟨rfl, rfl, rfl, by decide +kernel, rfl, by decide +kernel, by decide +kernel⟩
theorem ok_hs {f : Addr} {fd : FuncData} (F : Fun K "has" "Line.has" (cLine 6) f fd) (T : ClsT K mg C) (CN : Fn P w K mg base 2 "check_number" ["number"] spCn) (HN : Fn P w K mg base 2 "has_number" ["rows", "number"] spHas) : FnOk P w K mg base CX0 3 f fd ["self", "number"] (spHs C) := by
  refine F.ok scHs (fun vs H Q E h => ?_) (fun cdv A outer s H vs Q E hr h => ?_)
  · obtain ⟨x, i, W, S, rfl, _⟩ := h
    rfl
  · obtain ⟨x, i, W, S, rfl, ⟨dx, l, rs, ox, ra, na, e⟩, Wk, q⟩ := h
    have few := na.few
    have cl := Wk.cl
    refine ⟨_, pss_cons (ps_expr (pe_fn CN hr (pa_cons (pv 1) pa_nil))) (pss_one (ps_ret (pe_fn HN hr (pa_cons (pe_fld (pv 0) rfl) (pa_cons (pv 1) pa_nil))))), ?_⟩
    refine ⟨_, rfl, i, rfl, ?_⟩
    rw [← e i] at q
    exact ⟨_, rfl, x, C, dx, _, _, rfl, ox, T.isc.cl, T.nR, fldR_get _, _, rfl, l, rs, i, rfl, ra, na.ln.nt.so, fun r hr => (na.ln.nt.nt r hr).ok, by omega, q⟩
end
end L2.K14
end

section
set_option Elab.async false
set_option linter.all false
set_option maxRecDepth 100000
set_option maxHeartbeats 4000000
namespace L2.K14
open PySem PySem.Spec PyProof.Rows L2.Gd L2.Ln
theorem mapE {α β : Type} (f : α → β) (ds : List α) : ds.filterMap (fun d => some (f d)) = ds.map f := by rw [List.filterMap_eq_map']
theorem bls_of : ∀ {zs : List V} {bs : List Bool}, Paired (fun v b => v = V.bl b) zs bs → zs = bs.map V.bl
  | _, _, .nil => rfl
  | _, _, .cons h t => by rw [h, bls_of t]; rfl
/-! ### the pot -/
section
variable {P : Program} {w : World} {K : PySem.W.Frag} {mg : Str → Option Value} {base : Heap}
def PotAt (H : Hp) (p : Addr) : Prop := ∃ a b : Int, H p = some (.lst [.int a, .int b]) ∧ 0 ≤ a ∧ 0 ≤ b ∧ b < 2147483587
def spPot (K : PySem.W.Frag) : Sp := fun vs H Q _ => ∃ (s : Addr) (k : Nat) (ns : List Int), vs = [.ref s, .int k] ∧ k ≤ 1 ∧ SqL K H s (ns.map V.int) ∧ (ns.length ≤ 100000) ∧
  ∀ p H', H p = none → Same H H' → PotAt H' p → Q (.ref p) H'
theorem scPot : FnScope ["_law_script", "_law_k", "_law_cell"] ["_law_script", "_law_k"] (defScope (top 95)) := ⟨rfl, rfl, rfl, by decide +kernel, rfl, by decide +kernel, by decide +kernel⟩
theorem cutV_take (xs : List V) {i : Nat} (h : i ≤ xs.length) : cutV xs none (some (i : Int)) = xs.take i := by
  have e0 : HT.sIx xs.length 0 none = 0 := by simp [HT.sIx]
  have e1 : HT.sIx xs.length xs.length (some (i : Int)) = i := by
    simp only [HT.sIx]
    split <;> omega
  unfold cutV
  rw [e0, e1, List.drop_zero, Nat.sub_zero]
theorem cut1 : ∀ ns : List Int, cutV (ns.map V.int) none (some 1) = (ns.take 1).map V.int
  | [] => by simp [cutV]
  | n :: r => by
    have := cutV_take ((n :: r).map V.int) (i := 1) (by simp)
    rw [List.map_take]
    exact this
def rInt1 : List V → Hp → VK → Prop := fun xs H Q => (∃ i, xs = [V.int i] ∧ Q (.int i) H) ∨ ∃ k, xs = [V.bl k] ∧ Q (.int (if k then 1 else 0)) H
def tailPot : TE := tLst (tCons (tCB (fun xs H Q => ∃ i j, xs = [V.int i, V.int j] ∧ Q (.int (if j > i then j else i)) H) (tCons (tC (.int 0)) (tCons (tOp (rI0 fun i j => .int (i - j)) (tVar 2) (tOp (rI CPow fun i j => .int (i ^ j.toNat)) (tC (.int 10)) (tC (.int 18)))) tNil)))
  (tCons (tOp (rI0 fun i j => .int (i + j)) (tOp (rI (fun _ j => 0 < j) fun i j => .int (i % j)) (tOp (rI CMul fun i j => .int (i * j)) (tCB rInt1 (tCons (tOp (rI0 fun i j => .int (i + j)) (tOp (rI (fun _ j => 0 < j) fun i j => .int (i % j)) (tCB rInt1 (tCons (tVar 2) tNil)) (tC (.int 2147483549))) (tC (.int 109))) tNil))
    (tOp (rI CPow fun i j => .int (i ^ j.toNat)) (tOp (rI0 fun i j => .int (i + j)) (tOp (rI CMul fun i j => .int (i * j)) (tC (.int 2)) (tVar 1)) (tC (.int 23))) (tC (.int 3)))) (tC (.int 2147483477))) (tC (.int 1))) tNil))
theorem ok_pot {f : Addr} {fd : FuncData} (F : Fun K "_law_pot" "_law_pot" (top 95) f fd) (n : Nm mg) (hsum : mg "sum" = none) : FnOk P w K mg base CX0 1 f fd ["_law_script", "_law_k"] (spPot K) := by
  refine F.ok scPot (fun vs H Q E h => ?_) (fun cdv A outer s H vs Q E hr h => ?_)
  · obtain ⟨s, k, ns, rfl, _⟩ := h
    rfl
  · obtain ⟨s, k, ns, rfl, k1, hs, hz, q⟩ := h
    have N := scPot.nd
    refine ⟨_, pss_cons (ps_set (i := 2) N rfl (.inl rfl) (pe_op op_add (pe_op op_add (pe_op op_mul pe_int (pv 1)) pe_int) (pe_op op_mod (pe_callB (cr_sum rfl) (by rfl) hsum (by decide +kernel) (pa_cons (pe_slice sl_list (pv 0) po_none (po_some pe_int)) pa_nil)) pe_int)))
      (pss_cons (ps_if (pt_cmpR op_lt (pv 1) (pe_callB call_len_seq (by rfl) n.len PySem.boot_len (pa_cons (pv 0) pa_nil)) (nomark _))
        (pss_one (ps_set (i := 2) N rfl (.inl rfl) (pe_callB call_abs (by rfl) n.abs (by decide +kernel) (pa_cons (pe_ix ix_list (pv 0) (pv 1) (fun _ _ => rfl)) pa_nil)))) pss_nil)
      (pss_one (ps_ret (pe_lst (pa_cons (pe_callB (call_max2 rfl) (by rfl) n.max (by decide +kernel) (pa_cons pe_int (pa_cons (pe_op op_sub (pv 2) (pe_op op_pow pe_int pe_int)) pa_nil)))
        (pa_cons (pe_op op_add (pe_op op_mod (pe_op op_mul (pe_callTy call_int1 (by rfl) n.int (by decide +kernel) (pa_cons (pe_op op_add (pe_op op_mod (pe_callTy call_int1 (by rfl) n.int (by decide +kernel) (pa_cons (pv 2) pa_nil)) pe_int) pe_int) pa_nil)) (pe_op op_pow (pe_op op_add (pe_op op_mul pe_int (pv 1)) pe_int) pe_int)) pe_int) pe_int) pa_nil)))))), ?_⟩
    have tail : ∀ (c : Int) (H2 : Hp), Same H H2 → tailPot [some (.ref s), some (.int k), some (.int c)] H2 Q := by
      intro c H2 s2
      refine ⟨_, rfl, _, _, rfl, rfl, ⟨by decide, by decide, by decide⟩, _, _, rfl, rfl, _, _, rfl, ?_⟩
      refine ⟨_, rfl, .inl ⟨_, rfl, _, _, rfl, rfl, (by show (0 : Int) < 2147483549; decide), _, _, rfl, rfl, .inl ⟨_, rfl, ?_⟩⟩⟩
      have pr : CMul 2 (k : Int) := .inl (by decide)
      have pc : CPow ((2 : Int) * (k : Int) + 23) 3 := by
        rcases (show k = 0 ∨ k = 1 by omega) with rfl | rfl <;> exact ⟨by decide, by decide, by decide⟩
      have pm : CMul (c % 2147483549 + 109) (((2 : Int) * (k : Int) + 23) ^ (3 : Int).toNat) := by
        rcases (show k = 0 ∨ k = 1 by omega) with rfl | rfl <;> exact .inr (by decide)
      refine ⟨_, rfl, _, _, rfl, rfl, pr, _, _, rfl, rfl, _, _, rfl, rfl, pc, _, _, rfl, rfl, pm, _, _, rfl, rfl, (by show (0 : Int) < 2147483477; decide), _, _, rfl, rfl, (by show 2 ≤ sizeLine; decide), fun p hp => ?_⟩
      have g1 := Int.emod_nonneg ((c % 2147483549 + 109) * ((2 : Int) * (k : Int) + 23) ^ (3 : Int).toNat) (b := 2147483477) (by decide)
      have g2 := Int.emod_lt_of_pos ((c % 2147483549 + 109) * ((2 : Int) * (k : Int) + 23) ^ (3 : Int).toNat) (b := 2147483477) (by decide)
      refine q p _ (s2.free hp) (s2.trans (same_upd hp)) ⟨_, _, upd_same, ?_, ?_, ?_⟩
      · split <;> omega
      · omega
      · omega
    refine ⟨_, rfl, _, _, rfl, rfl, .inl (by decide), _, _, rfl, rfl, _, rfl, 1, rfl, s, _, rfl, hs, fun p0 hp0 => ?_⟩
    have s0 := same_upd (o := .lst (cutV (ns.map V.int) none (some 1))) hp0
    refine ⟨p0, ns.take 1, rfl, .inl (.inl (by rw [upd_same, cut1])), _, _, rfl, rfl, (by show (0 : Int) < 1000003; decide), _, _, rfl, rfl, ?_⟩
    by_cases hk : k < ns.length
    all_goals
      refine ⟨_, rfl, _, rfl, s, _, rfl, .inl (s0.seq hs), _, _, rfl, rfl, decide ((k : Int) < (ns.map V.int).length), rfl, ?_⟩
      rw [List.length_map]
    · rw [decide_eq_true (by omega)]
      refine iteT ?_
      refine ⟨_, rfl, _, rfl, s, _, _, _, rfl, rfl, s0.seq hs, atI_nat (j := k) (by rw [List.getElem?_map, List.getElem?_eq_getElem hk]; rfl), _, rfl, ?_⟩
      exact tail _ _ s0
    · rw [decide_eq_false (by omega)]
      refine iteF ?_
      exact tail _ _ s0
/-! ### a digit of the pot -/
theorem PotAt.same {H H' : Hp} {p : Addr} (s : Same H H') (h : PotAt H p) : PotAt H' p := let ⟨a, b, e, r⟩ := h; ⟨a, b, s _ _ e, r⟩
def spDraw : Sp := fun vs H Q _ => ∃ (p : Addr) (n : Int), vs = [.ref p, .int n] ∧ PotAt H p ∧ 1 ≤ n ∧ n < 1000000 ∧ ∀ d H', 0 ≤ d → d < n → PotAt H' p → ButD p H H' → Q (.int d) H'
theorem scDra : FnScope ["_law_pot_here", "_law_many", "_law_digit"] ["_law_pot_here", "_law_many"] (defScope (top 96)) := ⟨rfl, rfl, rfl, by decide +kernel, rfl, by decide +kernel, by decide +kernel⟩
theorem ok_draw {f : Addr} {fd : FuncData} (F : Fun K "_law_draw" "_law_draw" (top 96) f fd) (n : Nm mg) : FnOk P w K mg base CX0 1 f fd ["_law_pot_here", "_law_many"] spDraw := by
  refine F.ok scDra (fun vs H Q E h => ?_) (fun cdv A outer s H vs Q E hr h => ?_)
  · obtain ⟨p, m, rfl, _⟩ := h
    rfl
  · obtain ⟨p, m, rfl, ⟨a, b, hp, a0, b0, bu⟩, m1, mu, q⟩ := h
    have N := scDra.nd
    refine ⟨_, pss_cons (ps_if (pt_cmpR op_gt (pe_ix ix_list (pv 0) pe_int (fun _ _ => rfl)) pe_int (nomark _))
        (pss_cons (ps_asg (pe_callB call_divmod (by rfl) n.divmod (by decide +kernel) (pa_cons (pe_ix ix_list (pv 0) pe_int (fun _ _ => rfl)) (pa_cons (pv 1) pa_nil)))
            (pg_tup rfl (pgs_cons (pg_sub (pv 0) pe_int set_list) (pgs_cons (pg_name (i := 2) N rfl (.inl rfl)) pgs_nil))))
          (pss_one (ps_ret (pv 2)))) pss_nil)
      (pss_cons (ps_asg (pe_op op_mod (pe_callTy call_int1 (by rfl) n.int (by decide +kernel) (pa_cons (pe_op op_add (pe_op op_mul (pe_ix ix_list (pv 0) pe_int (fun _ _ => rfl)) pe_int) pe_int) pa_nil)) pe_int) (pg_sub (pv 0) pe_int set_list))
      (pss_one (ps_ret (pe_op op_mod (pe_callTy call_int1 (by rfl) n.int (by decide +kernel) (pa_cons (pe_op op_fdiv (pe_op op_mod (pe_callTy call_int1 (by rfl) n.int (by decide +kernel) (pa_cons
        (pe_op op_mul (pe_ix ix_list (pv 0) pe_int (fun _ _ => rfl)) (pe_ix ix_list (pv 0) pe_int (fun _ _ => rfl))) pa_nil)) pe_int) pe_int) pa_nil)) (pv 1))))), ?_⟩
    refine ⟨_, rfl, p, _, _, _, rfl, rfl, .inl (.inl hp), rfl, _, _, rfl, rfl, decide (a > 0), rfl, ?_⟩
    by_cases ha : a > 0
    · rw [decide_eq_true ha]
      refine iteT ?_
      refine ⟨_, rfl, p, _, _, _, rfl, rfl, .inl (.inl hp), rfl, _, rfl, _, _, rfl, ⟨by omega, by omega⟩, fun t ht => ?_⟩
      have hpt : upd H t (.tup [.int (a / m), .int (a % m)]) p = some (.lst [.int a, .int b]) := same_upd ht _ _ hp
      refine ⟨t, _, rfl, .inl (.inl upd_same), rfl, ?_⟩
      refine ⟨_, _, rfl, _, rfl, p, _, _, 0, rfl, rfl, hpt, rfl, _, _, rfl, rfl, ?_⟩
      refine ⟨_, rfl, q _ _ (Int.emod_nonneg _ (by omega)) (Int.emod_lt_of_pos _ (by omega)) ⟨_, _, upd_same, Int.ediv_nonneg a0 (by omega), b0, bu⟩ ?_⟩
      intro c o ne e
      rw [upd_ne ne]
      exact same_upd ht _ _ e
    · rw [decide_eq_false ha]
      refine iteF ?_
      refine ⟨_, rfl, p, _, _, _, rfl, rfl, .inl (.inl hp), rfl, _, _, rfl, rfl, .inr (by decide), _, _, rfl, rfl, .inl ⟨_, rfl, _, _, rfl, rfl, (by show (0 : Int) < 2147483587; decide), ?_⟩⟩
      refine ⟨_, rfl, p, _, _, 1, rfl, rfl, hp, rfl, ?_⟩
      have c0 : 0 ≤ (b * 48271 + 16411) % 2147483587 := by omega
      have cu : (b * 48271 + 16411) % 2147483587 < 2147483587 := by omega
      have hc : upd H p (.lst ([V.int a, V.int b].set 1 ((fun i j => V.int (i % j)) (b * 48271 + 16411) 2147483587))) p = some (.lst [.int a, .int ((b * 48271 + 16411) % 2147483587)]) := upd_same
      refine ⟨_, rfl, p, _, _, _, rfl, rfl, .inl (.inl hc), rfl, _, rfl, p, _, _, _, rfl, rfl, .inl (.inl hc), rfl, _, _, rfl, rfl, .inl ⟨by omega, by omega⟩, ?_⟩
      refine .inl ⟨_, rfl, _, _, rfl, rfl, (by show (0 : Int) < 2147483549; decide), _, _, rfl, rfl, ⟨by decide, by decide⟩, .inl ⟨_, rfl, _, rfl, _, _, rfl, rfl, (by show (0 : Int) < m; omega), ?_⟩⟩
      refine q _ _ (Int.emod_nonneg _ (by omega)) (Int.emod_lt_of_pos _ (by omega)) ⟨_, _, hc, a0, c0, cu⟩ ?_
      intro k o ne e
      rw [upd_ne ne]
      exact e
theorem ButD.refl {D : Addr} {H : Hp} : ButD D H H := fun _ _ _ e => e
theorem ButD.trans {D : Addr} {H1 H2 H3 : Hp} (a : ButD D H1 H2) (b : ButD D H2 H3) : ButD D H1 H3 := fun c o ne e => b c o ne (a c o ne e)
theorem Same.but {D : Addr} {H1 H2 : Hp} (a : Same H1 H2) : ButD D H1 H2 := fun c o _ e => a c o e
/-- tuples stay, the pot is a list -/
theorem pot_ne {H : Hp} {p t : Addr} {xs : List V} (hp : PotAt H p) (ht : H t = some (.tup xs)) : t ≠ p := by
  rintro rfl
  obtain ⟨a, b, e, _⟩ := hp
  rw [ht] at e
  exact nomatch e
def spPick : Sp := fun vs H Q _ => ∃ (p a : Addr) (xs : List V), vs = [.ref p, .ref a] ∧ PotAt H p ∧ H a = some (.lst xs) ∧ a ≠ p ∧ 0 < xs.length ∧ xs.length ≤ 1000 ∧ ∀ x H', x ∈ xs → PotAt H' p → ButD p H H' → Q x H'
theorem scPick : FnScope ["_law_pot_here", "_law_some"] ["_law_pot_here", "_law_some"] (defScope (top 97)) := ⟨rfl, rfl, rfl, by decide +kernel, rfl, by decide +kernel, by decide +kernel⟩
theorem ok_pick {f : Addr} {fd : FuncData} (F : Fun K "_law_pick" "_law_pick" (top 97) f fd) (n : Nm mg) (GD : Fn P w K mg base 1 "_law_draw" ["_law_pot_here", "_law_many"] spDraw) : FnOk P w K mg base CX0 2 f fd ["_law_pot_here", "_law_some"] spPick := by
  refine F.ok scPick (fun vs H Q E h => ?_) (fun cdv A outer s H vs Q E hr h => ?_)
  · obtain ⟨p, a, xs, rfl, _⟩ := h
    rfl
  · obtain ⟨p, a, xs, rfl, hp, ha, nap, x0, x1, q⟩ := h
    refine ⟨_, pss_one (ps_ret (pe_ix ix_list (pv 1) (pe_fn GD hr (pa_cons (pv 0) (pa_cons (pe_callB call_len_seq (by rfl) n.len PySem.boot_len (pa_cons (pv 1) pa_nil)) pa_nil))) (fun _ _ => rfl))), ?_⟩
    refine ⟨_, rfl, _, rfl, _, rfl, a, xs, rfl, .inl (.inl (.inl ha)), p, (xs.length : Int), rfl, hp, by omega, by omega, fun d H1 d0 d1 hp1 b1 => ?_⟩
    obtain ⟨k, rfl⟩ : ∃ k : Nat, d = k := ⟨d.toNat, by omega⟩
    have hk : k < xs.length := by omega
    exact ⟨a, xs, _, _, rfl, rfl, .inl (.inl (b1 _ _ nap ha)), atI_nat (List.getElem?_eq_getElem hk), q _ H1 (List.getElem_mem hk) hp1 b1⟩
end
end L2.K14
end

section
set_option Elab.async false
set_option linter.all false
set_option maxRecDepth 100000
set_option maxHeartbeats 2000000
namespace L2.K14
open PySem PySem.Spec PyProof.Rows L2.Gd L2.Ln
/-! ### what is drawn -/
theorem hu65 {k : Nat} {A : Around} (hr : Room k A) : A.units + 65 < _root_.PySem.cLine := by
  have := hr.un
  omega
theorem dps_ints {K : PySem.W.Frag} {H : Hp} : ∀ ns : List Int, DpAll K H (ns.map V.int) (ns.map PyData.int)
  | [] => .nil
  | n :: r => .cons (.int n) (dps_ints r)
theorem ints_lay : ∀ ns : List Int, PyData.canLayAll0 (ns.map PyData.int) = true
  | [] => by simp [PyData.canLayAll0]
  | x :: r => by simp [PyData.canLayAll0, PyData.canLay0, ints_lay r]
theorem ints_dep : ∀ ns : List Int, PyData.depthAll (ns.map PyData.int) = 0
  | [] => by simp [PyData.depthAll]
  | x :: r => by simp [PyData.depthAll, PyData.depth, ints_dep r]
theorem ints_shaped (ns : List Int) : SeqAt.shaped (.list (ns.map PyData.int)) = true := by
  show (PyData.canLay0 (.list (ns.map PyData.int)) && decide (PyData.depth (.list (ns.map PyData.int)) ≤ 64)) = true
  rw [Bool.and_eq_true]
  refine ⟨by simp only [PyData.canLay0]; exact ints_lay ns, decide_eq_true ?_⟩
  simp only [PyData.depth, ints_dep]
  decide
theorem ints_nil (ns : List Int) : PyData.eqv (.list (ns.map PyData.int)) (.list []) = decide (ns = []) := by
  cases ns with
  | nil => simp [PyData.eqv, PyData.eqvAll]
  | cons x r => simp [PyData.eqv, PyData.eqvAll]
theorem in_ints (i : Int) (ns : List Int) : inV (.int i) (ns.map V.int) = decide (i ∈ ns) := by
  unfold inV
  rw [List.any_map, Bool.eq_iff_iff, List.any_eq_true, decide_eq_true_eq]
  constructor
  · rintro ⟨x, hx, e⟩
    have e : (x == i) = true := e
    rw [← beq_iff_eq.mp e]
    exact hx
  · intro h
    exact ⟨i, h, show (i == i) = true by simp⟩
theorem flat_ints : ∀ ns : List Int, (ns.map V.int).all flatV = true
  | [] => rfl
  | _ :: r => by
    rw [List.map_cons, List.all_cons, flat_ints r]
    rfl
theorem _root_.L2.Gd.ButD.trans {D : Addr} {H1 H2 H3 : Hp} (a : ButD D H1 H2) (b : ButD D H2 H3) : ButD D H1 H3 := fun c o ne e => b c o ne (a c o ne e)
theorem butD_at {p D : Addr} {H H2 : Hp} {o : HO} (nl : H D = none) (b : ButD p H H2) : ButD p H (upd H2 D o) := fun c u ne e => by
  rw [upd_ne (ne_of_none e nl)]
  exact b c u ne e
theorem PotAt.ne {H : Hp} {p D : Addr} (h : PotAt H p) (hD : H D = none) : p ≠ D := by
  rintro rfl
  obtain ⟨_, _, e, _⟩ := h
  rw [hD] at e
  exact nomatch e
theorem PotAt.put {H : Hp} {p D : Addr} {o : HO} (h : PotAt H p) (ne : p ≠ D) : PotAt (upd H D o) p := by
  obtain ⟨a, b, e, r⟩ := h
  exact ⟨a, b, by rw [upd_ne ne]; exact e, r⟩
/-- a stretch apart from the pot -/
def SsP (p : Addr) (H : Hp) (v : V) (s : Sst) : Prop := ∃ t l, v = .ref t ∧ l ≠ p ∧ H t = some (.tup [oI s.lo, oI s.hi, .int s.p, .ref l]) ∧ H l = some (.lst (s.xs.map V.int))
theorem SsP.at_ {p : Addr} {H : Hp} {v : V} {s : Sst} (h : SsP p H v s) : SsAt H v s := let ⟨t, l, e, _, ht, hl⟩ := h; ⟨t, l, e, ht, .inl hl⟩
theorem SsP.same {p : Addr} {H H' : Hp} {v : V} {s : Sst} (e : Same H H') (h : SsP p H v s) : SsP p H' v s := let ⟨t, l, e1, n, ht, hl⟩ := h; ⟨t, l, e1, n, e _ _ ht, e _ _ hl⟩
theorem SsP.pot {p : Addr} {H H' : Hp} {v : V} {s : Sst} (hp : PotAt H p) (b : ButD p H H') (h : SsP p H v s) : SsP p H' v s := let ⟨t, l, e1, n, ht, hl⟩ := h; ⟨t, l, e1, n, b _ _ (pot_ne hp ht) ht, b _ _ n hl⟩
def Refs (zs : List V) : Prop := ∀ v ∈ zs, ∃ a : Addr, v = .ref a
theorem SsP.put {p D : Addr} {H : Hp} {v : V} {s : Sst} {zs : List V} {o : HO} (hD : H D = some (.lst zs)) (rz : Refs zs) (ok : s.Ok) (h : SsP p H v s) : SsP p (upd H D o) v s := by
  obtain ⟨t, l, e1, n, ht, hl⟩ := h
  have ne : l ≠ D := by
    rintro rfl
    rw [hD] at hl
    have e : zs = s.xs.map V.int := by
      injection hl with hl
      injection hl
    obtain ⟨x, r, ex⟩ := List.exists_cons_of_ne_nil ok.rs.ne
    obtain ⟨a, ea⟩ := rz (V.int x) (by rw [e, ex]; exact List.mem_cons_self)
    exact nomatch ea
  refine ⟨t, l, e1, n, by rw [upd_ne (fun z => by rw [z, hD] at ht; exact nomatch ht)]; exact ht, by rw [upd_ne ne]; exact hl⟩
/-- what is known of all that is drawn -/
structure DrOk (s : Sst) : Prop where
  ok : s.Ok
  lo : ∀ l, s.lo = some l → -8 ≤ l ∧ l ≤ 8
  hi : ∀ h, s.hi = some h → -8 ≤ h ∧ h ≤ 8
  d : s.p ∣ 12
theorem DrOk.lm {s : Sst} (h : DrOk s) : Lm ⟨[0], 8⟩ 12 s.row :=
  ⟨fun l e => ⟨0, List.mem_singleton.mpr rfl, by show (0 : Int) - 8 ≤ l; have := h.lo l e; omega, by show l ≤ (0 : Int) + 8; have := h.lo l e; omega⟩,
   fun l e => ⟨0, List.mem_singleton.mpr rfl, by show (0 : Int) - 8 ≤ l; have := h.hi l e; omega, by show l ≤ (0 : Int) + 8; have := h.hi l e; omega⟩, .inl h.d⟩
/-- .. as drawn -/
structure Dr6 (s : Sst) : Prop extends DrOk s where
  p6 : s.p ≤ 4
theorem refs_nil : Refs [] := fun _ h => nomatch h
theorem refs_snoc {zs : List V} {a : Addr} (h : Refs zs) : Refs (zs ++ [.ref a]) := fun v hv => by
  rcases List.mem_append.mp hv with z | z
  · exact h v z
  · exact ⟨a, List.mem_singleton.mp z⟩
def spStr : Sp := fun vs H Q _ => ∃ p : Addr, vs = [.ref p] ∧ PotAt H p ∧ ∀ (t : Addr) (s : Sst) (H' : Hp), PotAt H' p → ButD p H H' → SsP p H' (.ref t) s → Dr6 s → Q (.ref t) H'
abbrev NStr : List Str := ["_law_pot_here", "_law_period", "_law_rests", "_law_ends", "_law_way", "_law_rest"]
theorem scStr : FnScope NStr ["_law_pot_here"] (defScope (top 98)) := ⟨rfl, rfl, rfl, by decide +kernel, rfl, by decide +kernel, by decide +kernel⟩
section
variable {P : Program} {w : World} {K : PySem.W.Frag} {mg : Str → Option Value} {base : Heap}
theorem ok_str {f : Addr} {fd : FuncData} (F : Fun K "_law_stretch" "_law_stretch" (top 98) f fd) (n : Nm mg) (GD : Fn P w K mg base 1 "_law_draw" ["_law_pot_here", "_law_many"] spDraw) : FnOk P w K mg base CX0 2 f fd ["_law_pot_here"] spStr := by
  refine F.ok scStr (fun vs H Q E h => ?_) (fun cdv A outer s H vs Q E hr h => ?_)
  · obtain ⟨p, rfl, _⟩ := h
    rfl
  · obtain ⟨p, rfl, hp, q⟩ := h
    have N := scStr.nd
    have sl := sizeLine_eq
    refine ⟨_, pss_cons (ps_set (i := 1) N rfl (.inl rfl) (pe_op op_add pe_int (pe_fn GD hr (pa_cons (pv 0) (pa_cons pe_int pa_nil)))))
      (pss_cons (ps_setLc (i := 2) (own := [("_law_rest", 5)]) (g := gName 5) (by rfl) N rfl rfl (sw_true rfl rfl rfl (by decide +kernel)) (pi_range1 (by rfl) n.range (pa_cons (pv 1) pa_nil)) (blkOk_by (N := NStr) (sc := defScope (top 98)) (by decide +kernel)) (fun _ _ _ _ _ => pg_name (i := 5) N rfl (.inl rfl))
        (fun _ _ _ _ _ => pts_one (pt_cmpR op_eq (pe_fn GD hr (pa_cons (pv 0) (pa_cons pe_int pa_nil))) pe_int (nomark _))) (fun _ _ _ _ _ => pv 5))
      (pss_cons (ps_set (i := 2) N rfl (.inl rfl) (pe_ifExp (pt_cmpR (op_neD hr.units) (pv 2) (pe_lst pa_nil) (nomark _)) (pv 2) (pe_lst (pa_cons (pe_fn GD hr (pa_cons (pv 0) (pa_cons (pv 1) pa_nil))) pa_nil))))
      (pss_cons (ps_par (i := 3) (j := 4) rfl N rfl rfl (by decide) rfl rfl (pa_cons (pe_callB cr_sortedI (by rfl) n.sorted (by decide +kernel) (pa_cons (pe_lst (pa_cons (pe_op op_sub (pe_fn GD hr (pa_cons (pv 0) (pa_cons pe_int pa_nil))) pe_int) (pa_cons (pe_op op_sub (pe_fn GD hr (pa_cons (pv 0) (pa_cons pe_int pa_nil))) pe_int) pa_nil))) pa_nil))
          (pa_cons (pe_fn GD hr (pa_cons (pv 0) (pa_cons pe_int pa_nil))) pa_nil)) (by rfl))
      (pss_cons (ps_if (pt_cmpR op_gt (pv 4) pe_int (nomark _)) (pss_one (ps_ret (pe_tup (pa_cons (pe_ix ix_list (pv 3) (pe_op op_sub (pv 4) pe_int) (fun _ _ => rfl)) (pa_cons (pe_ix ix_list (pv 3) (pe_op op_sub (pv 4) pe_int) (fun _ _ => rfl)) (pa_cons pe_int (pa_cons (pe_lst (pa_cons pe_int pa_nil)) pa_nil))))))) pss_nil)
      (pss_one (ps_ret (pe_tup (pa_cons (pe_ifExp (pt_cmpR op_in_seq (pv 4) (pe_tup (pa_cons pe_int (pa_cons pe_int pa_nil))) (by rfl)) pe_non (pe_ix ix_list (pv 3) pe_int (fun _ _ => rfl)))
        (pa_cons (pe_ifExp (pt_cmpR op_in_seq (pv 4) (pe_tup (pa_cons pe_int (pa_cons pe_int pa_nil))) (by rfl)) pe_non (pe_ix ix_list (pv 3) pe_int (fun _ _ => rfl))) (pa_cons (pv 1) (pa_cons (pv 2) pa_nil))))))))))), ?_⟩
    refine seqV (Good := fun σ2 H2 => ∃ k : Nat, 1 ≤ k ∧ k ≤ 4 ∧ PotAt H2 p ∧ ButD p H H2 ∧ σ2 = [some (.ref p), some (.int (k : Nat)), none, none, none, none]) ?_ ?_
    · intro nx hnx
      refine ⟨_, rfl, p, 4, rfl, hp, by decide, by decide, fun d H2 d0 d1 hp2 b2 => ?_⟩
      refine ⟨_, _, rfl, rfl, hnx _ _ ⟨(1 + d).toNat, by omega, by omega, hp2, b2, ?_⟩⟩
      rw [Int.toNat_of_nonneg (by omega)]
      rfl
    rintro _ H1 ⟨k, k1, k6, hp1, b1, rfl⟩
    -- rests
    refine seqV (Good := fun σ2 H2 => ∃ (l : Addr) (ns : List Int), l ≠ p ∧ H2 l = some (.lst (ns.map V.int)) ∧ ns.Pairwise (· < ·) ∧ (∀ x ∈ ns, 0 ≤ x ∧ x < (k : Int)) ∧ ns.length ≤ k ∧ PotAt H2 p ∧ ButD p H1 H2 ∧ σ2 = [some (.ref p), some (.int (k : Nat)), some (.ref l), none, none, none]) ?_ ?_
    · intro nx hnx
      refine ⟨_, rfl, k, rfl, by omega, by omega, fun D hD => ?_⟩
      have pD := hp1.ne hD
      refine lc_range (lo := 0) (n := ((k : Nat) : Int).toNat) (fun i H2 => ∃ ns : List Int, H2 D = some (.lst (ns.map V.int)) ∧ ns.Pairwise (· < ·) ∧ (∀ x ∈ ns, 0 ≤ x ∧ x < (i : Int)) ∧ ns.length ≤ i ∧ PotAt H2 p ∧ ButD p H1 H2) ⟨[], upd_same, .nil, (fun x h => nomatch h), Nat.le_refl _, hp1.put pD, butD_at hD ButD.refl⟩ ?_ ?_
      · rintro i H2 hi ⟨ns, hD2, asc, inb, nl, hp2, b2⟩
        refine ⟨rfl, _, rfl, p, 2, rfl, hp2, by decide, by decide, fun d H3 d0 d1 hp3 b3 => ⟨rfl, decide (V.int d = V.int 0), rfl, ?_⟩⟩
        have hD3 := b3 _ _ pD.symm hD2
        by_cases c : V.int d = V.int 0
        · rw [decide_eq_true c]
          refine iteT ⟨_, rfl, ns.map V.int, hD3, by rw [List.length_map, sl]; omega, ns ++ [(0 : Int) + (i : Int)], by rw [upd_same, List.map_append]; rfl, ?_, fun x hx => ?_, by rw [List.length_append]; show ns.length + 1 ≤ _; omega, hp3.put pD, butD_at hD (b2.trans b3)⟩
          · refine List.pairwise_append.mpr ⟨asc, List.pairwise_singleton _ _, fun x hx y hy => ?_⟩
            obtain rfl := List.mem_singleton.mp hy
            have := (inb x hx).2
            omega
          · rcases List.mem_append.mp hx with z | z
            · have := inb x z
              omega
            · obtain rfl := List.mem_singleton.mp z
              omega
        · rw [decide_eq_false c]
          exact iteF ⟨ns, hD3, asc, fun x hx => by have := inb x hx; omega, by omega, hp3, b2.trans b3⟩
      · rintro H2 ⟨ns, hD2, asc, inb, nl, hp2, b2⟩
        rw [Int.toNat_natCast] at inb nl
        exact hnx _ _ ⟨D, ns, pD.symm, hD2, asc, inb, nl, hp2, b2, rfl⟩
    rintro _ H2 ⟨l, ns, lp, hl, asc, inb, nl, hp2, b2, rfl⟩
    -- one at least
    refine seqV (Good := fun σ2 H3 => ∃ (l : Addr) (ns : List Int), l ≠ p ∧ H3 l = some (.lst (ns.map V.int)) ∧ RsOk k ns ∧ PotAt H3 p ∧ ButD p H2 H3 ∧ σ2 = [some (.ref p), some (.int (k : Nat)), some (.ref l), none, none, none]) ?_ ?_
    · intro nx hnx
      refine ⟨_, rfl, (by show 0 ≤ sizeLine; decide), fun e he => ?_⟩
      have s3 := same_upd (o := .lst []) he
      refine ⟨_, .list [], .lst (.inl (.inl (s3 _ _ hl))) (dps_ints _), .lst (.inl (.inl upd_same)) .nil, ints_shaped _, by decide +kernel, !decide (ns = []), congrArg (fun b => V.bl (!b)) (ints_nil _), ?_⟩
      by_cases c : ns = []
      · rw [decide_eq_true c]
        refine iteF ⟨_, rfl, _, rfl, p, (k : Int), rfl, hp2.same s3, by omega, by omega, fun d H3 d0 d1 hp3 b3 => ⟨(by show 1 ≤ sizeLine; decide), fun o ho => ?_⟩⟩
        exact hnx _ _ ⟨o, [d], (hp3.ne ho).symm, upd_same, ⟨List.cons_ne_nil _ _, List.pairwise_singleton _ _, fun x hx => by obtain rfl := List.mem_singleton.mp hx; exact ⟨d0, d1⟩, (by show 1 ≤ 10000; decide)⟩, hp3.put (hp3.ne ho), fun b u ne z => by rw [upd_ne (ne_of_none (b3 _ _ ne (s3 _ _ z)) ho)]; exact b3 _ _ ne (s3 _ _ z), rfl⟩
      · rw [decide_eq_false c]
        exact iteT ⟨_, rfl, hnx _ _ ⟨l, ns, lp, s3 _ _ hl, ⟨c, asc, inb, by omega⟩, hp2.same s3, Same.but s3, rfl⟩⟩
    rintro _ H3 ⟨l3, ns3, lp3, hl3, rsok, hp3, b3, rfl⟩
    -- ends, way
    refine seqV (Good := fun σ2 H4 => ∃ (e : Addr) (x y z : Int), H4 e = some (.lst [.int x, .int y]) ∧ -8 ≤ x ∧ x ≤ y ∧ y ≤ 8 ∧ 0 ≤ z ∧ z < 7 ∧ PotAt H4 p ∧ ButD p H3 H4 ∧ σ2 = [some (.ref p), some (.int (k : Nat)), some (.ref l3), some (.ref e), some (.int z), none]) ?_ ?_
    · intro nx hnx
      refine ⟨_, rfl, p, 17, rfl, hp3, by decide, by decide, fun d H5 d0 d1 hp5 b5 => ⟨_, _, rfl, rfl, ?_⟩⟩
      refine ⟨_, rfl, p, 17, rfl, hp5, by decide, by decide, fun d' H6 d0' d1' hp6 b6 => ⟨_, _, rfl, rfl, (by show 2 ≤ sizeLine; decide), fun o ho => ?_⟩⟩
      have po := hp6.ne ho
      refine ⟨o, [d - 8, d' - 8], rfl, .inl (.inl upd_same), fun ns' o2 pm so ho2 => ?_⟩
      have hp7 := hp6.put (o := .lst [V.int (d - 8), V.int (d' - 8)]) po
      have po2 := hp7.ne ho2
      obtain ⟨x, y, rfl⟩ : ∃ x y, ns' = [x, y] := by
        have l2 := pm.length_eq
        match ns', l2 with
        | [x, y], _ => exact ⟨x, y, rfl⟩
      have mx : x ∈ [d - 8, d' - 8] := pm.subset (by simp)
      have my : y ∈ [d - 8, d' - 8] := pm.subset (by simp)
      have xy : x ≤ y := by
        have := (List.pairwise_cons.mp so).1 y (by simp)
        exact this
      simp only [List.mem_cons, List.not_mem_nil, or_false] at mx my
      refine ⟨_, rfl, p, 7, rfl, hp7.put po2, by decide, by decide, fun z H8 z0 z1 hp8 b8 => ?_⟩
      have b78 : ButD p H6 H8 := fun b u ne e => b8 _ _ ne (by rw [upd_ne (ne_of_none (same_upd ho _ _ e) ho2)]; exact same_upd ho _ _ e)
      exact ⟨_, _, rfl, hnx _ _ ⟨o2, x, y, z, b8 _ _ po2.symm upd_same, by omega, xy, by omega, z0, z1, hp8, b5.trans (b6.trans b78), rfl⟩⟩
    rintro _ H4 ⟨e, x, y, z, he, x0, xy, y1, z0, z7, hp4, b4, rfl⟩
    by_cases zb : z > 4
    · have one : ∀ v : Int, -8 ≤ v → v ≤ 8 → 1 ≤ sizeLine ∧ ∀ o, H4 o = none → 4 ≤ sizeLine ∧ ∀ u, upd H4 o (.lst [V.int 0]) u = none → Q (.ref u) (upd (upd H4 o (.lst [V.int 0])) u (.tup [.int v, .int v, .int 1, .ref o])) := fun v v0 v1 => ⟨by decide, fun o ho => ⟨by decide, fun u hu => by
        have so := same_upd (o := .lst [V.int 0]) ho
        have su := same_upd (o := .tup [V.int v, .int v, .int 1, .ref o]) hu
        have po := hp4.ne ho
        refine q u ⟨some v, some v, 1, [0]⟩ _ (hp4.same (so.trans su)) (b1.trans (b2.trans (b3.trans (b4.trans (Same.but (so.trans su)))))) ⟨u, o, rfl, po.symm, upd_same, su _ _ upd_same⟩ ⟨⟨⟨(by show 0 < 1; decide), (by show 1 ≤ 2520; decide), ⟨List.cons_ne_nil _ _, List.pairwise_singleton _ _, fun a ha => ?_, (by show 1 ≤ 10000; decide)⟩, fun a b ea eb => ?_⟩, fun a ea => ?_, fun a ea => ?_, Nat.one_dvd 12⟩, (by show 1 ≤ 4; decide)⟩
        · rw [List.mem_singleton.mp ha]
          exact ⟨Int.le_refl 0, (by show (0 : Int) < 1; decide)⟩
        · cases ea
          cases eb
          exact Int.le_refl _
        · cases ea
          omega
        · cases ea
          omega⟩⟩
      refine ⟨_, rfl, _, _, rfl, rfl, true, congrArg V.bl (decide_eq_true zb), iteT ?_⟩
      rcases (show z = 5 ∨ z = 6 by omega) with rfl | rfl
      · exact ⟨_, rfl, _, rfl, _, _, rfl, rfl, e, _, _, _, rfl, rfl, .inl (.inl he), rfl, _, rfl, _, rfl, _, _, rfl, rfl, e, _, _, _, rfl, rfl, .inl (.inl he), rfl, one x (by omega) (by omega)⟩
      · exact ⟨_, rfl, _, rfl, _, _, rfl, rfl, e, _, _, _, rfl, rfl, .inl (.inl he), rfl, _, rfl, _, rfl, _, _, rfl, rfl, e, _, _, _, rfl, rfl, .inl (.inl he), rfl, one y (by omega) (by omega)⟩
    refine ⟨_, rfl, _, _, rfl, rfl, false, congrArg V.bl (decide_eq_false zb), iteF ?_⟩
    have fin : ∀ (lo hi : Option Int) (H5 : Hp), Same H4 H5 → (∀ v, lo = some v → v = x) → (∀ v, hi = some v → v = y) → (4 : Nat) ≤ sizeLine ∧ ∀ o, H5 o = none → Q (.ref o) (upd H5 o (.tup [oI lo, oI hi, .int (k : Nat), .ref l3])) := by
      intro lo hi H5 s5 hlo hhi
      refine ⟨by show 4 ≤ sizeLine; decide, fun o ho => ?_⟩
      have s6 := same_upd (o := .tup [oI lo, oI hi, .int (k : Nat), .ref l3]) ho
      have s46 := s5.trans s6
      have bb : ButD p H (upd H5 o (.tup [oI lo, oI hi, .int (k : Nat), .ref l3])) := b1.trans (b2.trans (b3.trans (b4.trans (Same.but s46))))
      refine q o ⟨lo, hi, k, ns3⟩ _ (hp4.same s46) bb ⟨o, l3, rfl, lp3, upd_same, s46 _ _ (b4 _ _ lp3 hl3)⟩ ⟨⟨⟨k1, by show k ≤ 2520; omega, rsok, fun a b ea eb => ?_⟩, fun a ea => ?_, fun a ea => ?_, ?_⟩, k6⟩
      · have := hlo a ea
        have := hhi b eb
        omega
      · have := hlo a ea
        omega
      · have := hhi a ea
        omega
      · show k ∣ 12
        rcases (show k = 1 ∨ k = 2 ∨ k = 3 ∨ k = 4 by omega) with rfl | rfl | rfl | rfl <;> decide
    refine ⟨_, rfl, (by show 2 ≤ sizeLine; decide), fun t1 ht1 => ?_⟩
    have s5 := same_upd (o := .tup [V.int 0, V.int 2]) ht1
    refine ⟨t1, _, rfl, .inr (.inl (.inl upd_same)), rfl, rfl, inV (.int z) [.int 0, .int 2], rfl, ?_⟩
    cases c1 : inV (.int z) [.int 0, .int 2] with
    | true =>
      refine iteT ⟨_, rfl, (by show 2 ≤ sizeLine; decide), fun t2 ht2 => ?_⟩
      have s6 := s5.trans (same_upd (o := .tup [V.int 1, V.int 2]) ht2)
      refine ⟨t2, _, rfl, .inr (.inl (.inl upd_same)), rfl, rfl, inV (.int z) [.int 1, .int 2], rfl, ?_⟩
      cases c2 : inV (.int z) [.int 1, .int 2] with
      | true => exact iteT ⟨_, rfl, _, rfl, fin none none _ s6 (fun v e => nomatch e) fun v e => nomatch e⟩
      | false => exact iteF ⟨_, rfl, e, _, _, _, rfl, rfl, .inl (.inl (s6 _ _ he)), rfl, _, rfl, _, rfl, fin none (some y) _ s6 (fun v e => nomatch e) fun v e => (Option.some.inj e).symm⟩
    | false =>
      refine iteF ⟨_, rfl, e, _, _, _, rfl, rfl, .inl (.inl (s5 _ _ he)), rfl, _, rfl, (by show 2 ≤ sizeLine; decide), fun t2 ht2 => ?_⟩
      have s6 := s5.trans (same_upd (o := .tup [V.int 1, V.int 2]) ht2)
      refine ⟨t2, _, rfl, .inr (.inl (.inl upd_same)), rfl, rfl, inV (.int z) [.int 1, .int 2], rfl, ?_⟩
      cases c2 : inV (.int z) [.int 1, .int 2] with
      | true => exact iteT ⟨_, rfl, _, rfl, fin (some x) none _ s6 (fun v e => (Option.some.inj e).symm) fun v e => nomatch e⟩
      | false => exact iteF ⟨_, rfl, e, _, _, _, rfl, rfl, .inl (.inl (s6 _ _ he)), rfl, _, rfl, _, rfl, fin (some x) (some y) _ s6 (fun v e => (Option.some.inj e).symm) fun v e => (Option.some.inj e).symm⟩
/-! ### some of them -/
/-- a list of drawn stretches -/
def ToldAt (p : Addr) (H : Hp) (l : Addr) (sts : List Sst) : Prop := ∃ xs, H l = some (.lst xs) ∧ Refs xs ∧ Paired (SsP p H) xs sts
structure TdOk (sts : List Sst) : Prop where
  ok : ∀ s ∈ sts, Dr6 s
  len : sts.length ≤ 3
theorem TdOk.dr {sts : List Sst} (h : TdOk sts) : ∀ s ∈ sts, DrOk s := fun s hs => (h.ok s hs).toDrOk
theorem told_ne {p : Addr} {H : Hp} {l : Addr} {xs : List V} (hp : PotAt H p) (hl : H l = some (.lst xs)) (rx : Refs xs) : l ≠ p := by
  rintro rfl
  obtain ⟨a, b, e, _⟩ := hp
  rw [hl] at e
  have e : xs = [.int a, .int b] := by
    injection e with e
    injection e
  obtain ⟨c, ec⟩ := rx (.int a) (by rw [e]; exact List.mem_cons_self)
  exact nomatch ec
theorem ToldAt.pot {p : Addr} {H H' : Hp} {l : Addr} {sts : List Sst} (hp : PotAt H p) (b : ButD p H H') (h : ToldAt p H l sts) : ToldAt p H' l sts := let ⟨xs, hl, rx, pa⟩ := h; ⟨xs, b _ _ (told_ne hp hl rx) hl, rx, Paired.mapP pa fun _ _ z => z.pot hp b⟩
theorem ToldAt.same {p : Addr} {H H' : Hp} {l : Addr} {sts : List Sst} (e : Same H H') (h : ToldAt p H l sts) : ToldAt p H' l sts := let ⟨xs, hl, rx, pa⟩ := h; ⟨xs, e _ _ hl, rx, Paired.mapP pa fun _ _ z => z.same e⟩
def spTo : Sp := fun vs H Q _ => ∃ (p : Addr), vs = [.ref p, .int 3] ∧ PotAt H p ∧ ∀ (l : Addr) (sts : List Sst) (H' : Hp), H l = none → PotAt H' p → ButD p H H' → ToldAt p H' l sts → TdOk sts → Q (.ref l) H'
abbrev NTo : List Str := ["_law_pot_here", "_law_most", "_law_turn"]
theorem scTo : FnScope NTo ["_law_pot_here", "_law_most"] (defScope (top 99)) := ⟨rfl, rfl, rfl, by decide +kernel, rfl, by decide +kernel, by decide +kernel⟩
theorem ok_to {f : Addr} {fd : FuncData} (F : Fun K "_law_told" "_law_told" (top 99) f fd) (n : Nm mg) (GD : Fn P w K mg base 1 "_law_draw" ["_law_pot_here", "_law_many"] spDraw) (GS : Fn P w K mg base 2 "_law_stretch" ["_law_pot_here"] spStr) : FnOk P w K mg base CX0 3 f fd ["_law_pot_here", "_law_most"] spTo := by
  refine F.ok scTo (fun vs H Q E h => ?_) (fun cdv A outer s H vs Q E hr h => ?_)
  · obtain ⟨p, rfl, _⟩ := h
    rfl
  · obtain ⟨p, rfl, hp, q⟩ := h
    have N := scTo.nd
    have sl := sizeLine_eq
    refine ⟨_, pss_one (ps_ret (pe_lc (own := [("_law_turn", 2)]) (g := gName 2) (tt := tYes) rfl N (pi_range1 (by rfl) n.range (pa_cons (pe_fn GD (hr.mono (by decide)) (pa_cons (pv 0) (pa_cons (pe_op op_add (pv 1) pe_int) pa_nil))) pa_nil)) (blkOk_by (N := NTo) (sc := defScope (top 99)) (by decide +kernel))
      (fun _ _ _ _ _ => pg_name (i := 2) N rfl (.inl rfl)) (fun _ _ _ _ _ => pts_nil) (fun _ _ _ _ _ => pe_fn GS hr (pa_cons (pv 0) pa_nil)))), ?_⟩
    refine ⟨_, rfl, _, rfl, _, _, rfl, rfl, p, 4, rfl, hp, by decide, by decide, fun d H1 d0 d1 hp1 b1 => ⟨d, rfl, by omega, by omega, fun D hD => ?_⟩⟩
    have pD := hp1.ne hD
    refine lc_range (lo := 0) (n := d.toNat) (fun i H2 => ∃ (zs : List V) (sts : List Sst), H2 D = some (.lst zs) ∧ Refs zs ∧ Paired (SsP p H2) zs sts ∧ (∀ s ∈ sts, Dr6 s) ∧ sts.length = i ∧ PotAt H2 p ∧ ButD p H1 H2) ⟨[], [], upd_same, refs_nil, .nil, (fun s h => nomatch h), rfl, hp1.put pD, butD_at hD ButD.refl⟩ ?_ ?_
    · rintro i H2 hi ⟨zs, sts, hD2, rz, pz, ok, sl4, hp2, b2⟩
      have zl := Paired.length pz
      refine ⟨rfl, yes_ite ⟨_, rfl, p, rfl, hp2, fun t s H3 hp3 b3 sp ds => ?_⟩⟩
      have hD3 := b3 _ _ pD.symm hD2
      refine ⟨zs, hD3, by rw [sl]; omega, zs ++ [.ref t], sts ++ [s], upd_same, refs_snoc rz, ?_, fun s' hs' => ?_, by rw [List.length_append, sl4]; rfl, hp3.put pD, butD_at hD (b2.trans b3)⟩
      · refine pair_app ?_ (.cons (SsP.put hD3 rz ds.ok sp) .nil)
        have : ∀ {us : List V} {ss : List Sst}, Paired (SsP p H2) us ss → (∀ s ∈ ss, Dr6 s) → Paired (SsP p (upd H3 D (.lst (zs ++ [.ref t])))) us ss := by
          intro us ss h
          induction h with
          | nil => intro _; exact .nil
          | cons a _ ih =>
            intro k
            exact .cons (SsP.put hD3 rz (k _ List.mem_cons_self).ok (a.pot hp2 b3)) (ih fun s hs => k s (List.mem_cons_of_mem _ hs))
        exact this pz ok
      · rcases List.mem_append.mp hs' with z | z
        · exact ok s' z
        · rw [List.mem_singleton.mp z]
          exact ds
    · rintro H2 ⟨zs, sts, hD2, rz, pz, ok, sl4, hp2, b2⟩
      have nl : H D = none := by
        cases e : H D with
        | none => rfl
        | some u =>
          rw [b1 _ _ pD.symm e] at hD
          exact nomatch hD
      exact q D sts H2 nl hp2 (b1.trans b2) ⟨zs, hD2, rz, pz⟩ ⟨ok, by omega⟩
end
end L2.K14
end

section
set_option Elab.async false
set_option linter.all false
set_option maxRecDepth 100000
set_option maxHeartbeats 2000000
/-! repr of data of any kind -/
namespace L2.Gd
open PySem PySem.Spec PyProof.Rows
section
variable {X : Cx}
theorem call_reprAny (hg : X.A.guards = some []) (hu : X.A.units + 64 < cLine) :
    CallR X (.builtin "repr") (fun xs H Q => ∃ x d, xs = [x] ∧ Dp X.K H x d ∧ Showy d ∧ Q (.str d.shown) H) := by
  rintro pins s σ H xs us Q I r ⟨x, d, rfl, hd, sh, q⟩
  obtain ⟨u, rfl, ru⟩ := vals1 r
  cases hd with
  | non =>
    obtain rfl := ru
    exact PySem.P.repr_of_none ⟨.str _, H, I.tok _, ⟨_, rfl⟩, q⟩
  | bl b =>
    obtain rfl := ru
    refine PySem.P.repr_of_bool ⟨.str _, H, I.tok _, ⟨_, rfl⟩, ?_⟩
    cases b <;> exact q
  | int i =>
    obtain ⟨t, rfl⟩ := ru
    have hz : i.natAbs.log2 < 1920 := by
      have := sh.1
      simpa only [PyData.showable, decide_eq_true_eq] using this
    exact PySem.P.repr_of_int hz ⟨.str _, H, I.tok _, ⟨_, rfl⟩, q⟩
  | str z =>
    obtain ⟨t, rfl⟩ := ru
    have hz := sh.2.2.2
    exact PySem.P.repr_of_str ⟨.str _, H, I.tok _, ⟨_, rfl⟩, q⟩ (by simpa only [PyData.shown] using hz)
  | lst h t => exact call_reprD hg hu pins s σ H _ _ Q I (.cons ru .nil) ⟨_, _, rfl, .lst h t, sh, q⟩
  | tup h t => exact call_reprD hg hu pins s σ H _ _ Q I (.cons ru .nil) ⟨_, _, rfl, .tup h t, sh, q⟩
end
end L2.Gd
namespace L2.Gd
open PySem PySem.Spec PyProof.Rows
/-- a dict of ints by ints -/
def dI (ps : List (Int × Int)) : List (Key × V) := ps.map fun p => (.inl p.1, .int p.2)
def dP (ps : List (Int × Int)) : PyData := .dict (ps.map fun p => (.int p.1, .int p.2))
theorem reads_ints {h : Heap} {P : Program} {w : World} : ∀ (ps : List (Int × Int)) (es : List DictEntry) (vs : List (Key × Value)), KV (dI ps) vs → Pairs (mixKind P w) es vs →
    ReadsAll h (es.map (·.key)) (ps.map fun p => PyData.int p.1) [] ∧ ReadsAll h (es.map (·.val)) (ps.map fun p => PyData.int p.2) []
  | [], es, vs, kv, pr => by
    cases kv
    cases pr
    exact ⟨.nil, .nil⟩
  | p :: ps, es, vs, kv, pr => by
    cases kv with
    | cons k1 k2 =>
      cases pr with
      | cons e1 e2 e3 =>
        obtain ⟨ke, kr⟩ := k1
        obtain ⟨a, b⟩ := reads_ints (h := h) ps _ _ k2 e3
        obtain ⟨t, ev⟩ := kr
        have e1' : keyIs _ _ = true := e1
        rw [← ke] at e1'
        rcases keyIs_shape e1' with ⟨i, u, h1, h2⟩ | ⟨x, u, h1, h2⟩
        · cases h1
          refine ⟨?_, ?_⟩
          · rw [List.map_cons, List.map_cons, h2]
            exact ReadsAll.cons (as := []) (bs := []) (.int _ _) a
          · rw [List.map_cons, List.map_cons, e2, ev]
            exact ReadsAll.cons (as := []) (bs := []) (.int _ _) b
        · exact nomatch h1
section
variable {X : Cx}
/-- repr of such -/
theorem call_reprDI (hg : X.A.guards = some []) (hu : X.A.units + 64 < cLine) :
    CallR X (.builtin "repr") (fun xs H Q => ∃ a ps, xs = [.ref a] ∧ H a = some (.dK (dI ps)) ∧ (dP ps).showable = true ∧ (dP ps).depth ≤ 20 ∧ (dP ps).shown.length ≤ sizeLine ∧ Q (.str (dP ps).shown) H) := by
  rintro pins s σ H xs us Q I r ⟨a, ps, rfl, ha, h1, h2, h3, q⟩
  rw [Vals.ref1 r]
  obtain ⟨hz, ns, vs, kv, o, es, ep, ho, ex, hd, _, prs, _⟩ := (show ObjOk X.prog X.w H s.heap a (.dK (dI ps)) from I.hok a _ ha)
  obtain ⟨r1, r2⟩ := reads_ints (h := s.heap) ps _ _ kv prs
  have rd : Reads s.heap (.ref a) (dP ps) (a :: [] ++ []) := .dict ho ex.1 hd (by rw [List.map_map]; exact r1) (by rw [List.map_map]; exact r2)
  refine repr_of_reads' rd h1 (fun _ hm => ?_) hg (by omega) (fun _ _ q => q) ?_ h3
  · have e : sysModules = a := by simpa using hm
    rw [e] at ns
    simp at ns
  · intro h' u tk k
    exact ⟨.str _, H, I.kept k, ⟨_, rfl⟩, q⟩
end
end L2.Gd
end

section
set_option Elab.async false
set_option linter.all false
set_option maxRecDepth 100000
set_option maxHeartbeats 2000000
namespace L2.K14
open PySem PySem.Spec PyProof.Rows L2.Gd L2.Ln
/-! ### the law's own look -/
/-- the numbers that stretches tell -/
def tellB (sts : List Sst) (n : Int) : Bool := sts.any fun s => s.row.inB n
theorem tell_iff (sts : List Sst) (n : Int) : tellB sts n = true ↔ inSs sts n := by
  unfold tellB inSs
  rw [List.any_eq_true]
  constructor
  · rintro ⟨s, hs, e⟩
    exact ⟨s, hs, inB_iff.mp e⟩
  · rintro ⟨s, hs, e⟩
    exact ⟨s, hs, inB_iff.mpr e⟩
/-- far numbers come again by 12 -/
structure Tame (S : Int → Bool) : Prop where
  up : ∀ n : Int, 9 ≤ n → S (n + 12) = S n
  dn : ∀ n : Int, n ≤ -9 → S (n - 12) = S n
theorem Tame.op {S T : Int → Bool} (f : Bool → Bool → Bool) (h : Tame S) (k : Tame T) : Tame fun n => f (S n) (T n) := ⟨fun n e => by
  show f (S (n + 12)) (T (n + 12)) = f (S n) (T n)
  rw [h.up n e, k.up n e], fun n e => by
  show f (S (n - 12)) (T (n - 12)) = f (S n) (T n)
  rw [h.dn n e, k.dn n e]⟩
theorem Tame.not {S : Int → Bool} (h : Tame S) : Tame fun n => !S n := ⟨fun n e => by
  show (!S (n + 12)) = !S n
  rw [h.up n e], fun n e => by
  show (!S (n - 12)) = !S n
  rw [h.dn n e]⟩
theorem Tame.ups {S : Int → Bool} (h : Tame S) {n : Int} (e : 9 ≤ n) (k : Nat) : S (n + 12 * k) = S n := by
  induction k with
  | zero => rw [show n + 12 * ((0 : Nat) : Int) = n by omega]
  | succ k ih => rw [show n + 12 * ((k + 1 : Nat) : Int) = n + 12 * k + 12 by omega, h.up _ (by omega), ih]
theorem Tame.dns {S : Int → Bool} (h : Tame S) {n : Int} (e : n ≤ -9) (k : Nat) : S (n - 12 * k) = S n := by
  induction k with
  | zero => rw [show n - 12 * ((0 : Nat) : Int) = n by omega]
  | succ k ih => rw [show n - 12 * ((k + 1 : Nat) : Int) = n - 12 * k - 12 by omega, h.dn _ (by omega), ih]
theorem pat_12 {p b : Nat} (d : p ∣ 12) (n : Int) : pat p b (n + 12) = pat p b n := by
  obtain ⟨k, e⟩ := d
  have : ((12 : Nat) : Int) = (k : Int) * p := by rw [e, Int.natCast_mul, Int.mul_comm]
  rw [show n + 12 = n + ((12 : Nat) : Int) by omega, this, pat_add]
theorem row_tame {s : Sst} (d : DrOk s) : Tame s.row.inB := by
  have lo : ∀ l, s.row.lo = some l → -8 ≤ l ∧ l ≤ 8 := d.lo
  have hi : ∀ l, s.row.hi = some l → -8 ≤ l ∧ l ≤ 8 := d.hi
  have glo : ∀ n m : Int, (8 < n ∧ 8 < m) ∨ (n < -8 ∧ m < -8) → geB s.row.lo n = geB s.row.lo m := fun n m z => by
    cases e : s.row.lo with
    | none => rfl
    | some l =>
      have := lo l e
      show decide (l ≤ n) = decide (l ≤ m)
      apply decide_eq_decide.mpr
      omega
  have ghi : ∀ n m : Int, (8 < n ∧ 8 < m) ∨ (n < -8 ∧ m < -8) → leB s.row.hi n = leB s.row.hi m := fun n m z => by
    cases e : s.row.hi with
    | none => rfl
    | some l =>
      have := hi l e
      show decide (n ≤ l) = decide (m ≤ l)
      apply decide_eq_decide.mpr
      omega
  have far : ∀ n m : Int, ((8 < n ∧ 8 < m) ∨ (n < -8 ∧ m < -8)) → m = n + 12 → s.row.inB m = s.row.inB n := fun n m z e => by
    unfold Rw.inB
    rw [glo m n (by omega), ghi m n (by omega)]
    by_cases c : s.row.lo = none ∨ s.row.hi = none
    · rw [e, pat_12 (show s.row.p ∣ 12 from d.d)]
    · have c1 : s.row.lo ≠ none := fun z => c (.inl z)
      have c2 : s.row.hi ≠ none := fun z => c (.inr z)
      obtain ⟨l, el⟩ := Option.ne_none_iff_exists'.mp c1
      obtain ⟨h, eh⟩ := Option.ne_none_iff_exists'.mp c2
      have b1 := lo l el
      have b2 := hi h eh
      rw [el, eh]
      have : (geB (some l) n && leB (some h) n) = false := by
        show (decide (l ≤ n) && decide (n ≤ h)) = false
        rw [Bool.and_eq_false_iff, decide_eq_false_iff_not, decide_eq_false_iff_not]
        omega
      rw [this, Bool.false_and, Bool.false_and]
  exact ⟨fun n e => far n (n + 12) (by omega) rfl, fun n e => (far (n - 12) n (by omega) (by omega)).symm⟩
theorem tell_tame {sts : List Sst} (h : ∀ s ∈ sts, DrOk s) : Tame (tellB sts) := by
  induction sts with
  | nil => exact ⟨fun _ _ => rfl, fun _ _ => rfl⟩
  | cons s r ih =>
    have a := row_tame (h s List.mem_cons_self)
    have b := ih fun x hx => h x (List.mem_cons_of_mem _ hx)
    exact a.op (· || ·) b
/-- a row of truths -/
def rowB (S : Int → Bool) : List Bool := (rgI (-32) 65).map S
def RowB (H : Hp) (a : Addr) (S : Int → Bool) : Prop := H a = some (.lst ((rowB S).map V.bl))
theorem rowB_len (S : Int → Bool) : (rowB S).length = 65 := by
  unfold rowB
  rw [List.length_map, rgI_len]
theorem rowB_at (S : Int → Bool) {k : Nat} (h : k < 65) : (rowB S)[k]? = some (S (-32 + (k : Int))) := by
  unfold rowB rgI
  rw [List.getElem?_map, List.getElem?_map, List.getElem?_range h]
  rfl
theorem rowB_congr {S T : Int → Bool} (h : ∀ n, S n = T n) : rowB S = rowB T := by
  have : S = T := funext h
  rw [this]
theorem row_ne {H : Hp} {p a : Addr} {bs : List Bool} (hp : PotAt H p) (h : H a = some (.lst (bs.map V.bl))) : a ≠ p := by
  rintro rfl
  obtain ⟨x, y, e, _⟩ := hp
  rw [h] at e
  have e : bs.map V.bl = [.int x, .int y] := by
    injection e with e
    injection e
  cases bs with
  | nil => exact nomatch e
  | cons b r =>
    rw [List.map_cons] at e
    exact nomatch (List.cons.inj e).1
def spInn : Sp := fun vs H Q _ => ∃ (v : V) (s : Sst) (i : Int), vs = [v, .int i] ∧ SsAt H v s ∧ s.Ok ∧ Q (.bl (s.row.inB i)) H
abbrev NInn : List Str := ["_law_stretch_here", "_law_number", "_law_low", "_law_high", "_law_period", "_law_rests"]
theorem scInn : FnScope NInn ["_law_stretch_here", "_law_number"] (defScope (top 100)) := ⟨rfl, rfl, rfl, by decide +kernel, rfl, by decide +kernel, by decide +kernel⟩
def spRow : Sp := fun vs H Q _ => ∃ (a : Addr) (xs : List V) (sts : List Sst), vs = [.ref a] ∧ H a = some (.lst xs) ∧ Paired (SsAt H) xs sts ∧ TdOk sts ∧ ∀ (l : Addr) (H' : Hp), H l = none → Same H H' → RowB H' l (tellB sts) → Q (.ref l) H'
abbrev NRow : List Str := ["_law_told_here", "_law_number", "_law_stretch_here"]
theorem scRow : FnScope NRow ["_law_told_here"] (defScope (top 101)) := ⟨rfl, rfl, rfl, by decide +kernel, rfl, by decide +kernel, by decide +kernel⟩
/-- the scope of the outer comprehension -/
def scRowP : Scope := { kind := .function, names := [(".0", .local), ("_law_number", .cell), ("any", .globalImplicit), ("_law_told_here", .cell)], isGenerator := false, isCoroutine := false }
def spAt : Sp := fun vs H Q _ => ∃ (a : Addr) (S : Int → Bool) (i : Int), vs = [.ref a, .int i] ∧ RowB H a S ∧ Tame S ∧ Q (.bl (S i)) H
theorem scAt : FnScope ["_law_row_here", "_law_number"] ["_law_row_here", "_law_number"] (defScope (top 102)) := ⟨rfl, rfl, rfl, by decide +kernel, rfl, by decide +kernel, by decide +kernel⟩
def rIs : R2 := fun x y H Q => y = .non ∧ Q (.bl (decide (x = .non))) H
theorem ge_read {σ : L2.St} {H : Hp} {Q : VK} {lo : Option Int} {i : Int} (h2 : σ[2]? = some (some (oI lo))) (h1 : σ[1]? = some (some (.int i))) (q : Q (.bl (geB lo i)) H) : tOrV (tOp rIs (tVar 2) (tC .non)) (tOp (rI0 fun i j => .bl (decide (j ≤ i))) (tVar 1) (tVar 2)) σ H Q := by
  cases lo with
  | none => exact ⟨_, h2, rfl, true, by simp [oI], iteT q⟩
  | some l => exact ⟨_, h2, rfl, false, by simp [oI], iteF ⟨_, h1, _, h2, i, l, rfl, rfl, q⟩⟩
theorem le_read {σ : L2.St} {H : Hp} {Q : VK} {hi : Option Int} {i : Int} (h2 : σ[3]? = some (some (oI hi))) (h1 : σ[1]? = some (some (.int i))) (q : Q (.bl (leB hi i)) H) : tOrV (tOp rIs (tVar 3) (tC .non)) (tOp (rI0 fun i j => .bl (decide (i ≤ j))) (tVar 1) (tVar 3)) σ H Q := by
  cases hi with
  | none => exact ⟨_, h2, rfl, true, by simp [oI], iteT q⟩
  | some l => exact ⟨_, h2, rfl, false, by simp [oI], iteF ⟨_, h1, _, h2, i, l, rfl, rfl, q⟩⟩
section
variable {P : Program} {w : World} {K : PySem.W.Frag} {mg : Str → Option Value} {base : Heap}
theorem ok_inn {f : Addr} {fd : FuncData} (F : Fun K "_law_in" "_law_in" (top 100) f fd) (n : Nm mg) : FnOk P w K mg base CX0 1 f fd ["_law_stretch_here", "_law_number"] spInn := by
  refine F.ok scInn (fun vs H Q E h => ?_) (fun cdv A outer s H vs Q E hr h => ?_)
  · obtain ⟨v, s, i, rfl, _⟩ := h
    rfl
  · obtain ⟨v, s, i, rfl, ⟨t, l, rfl, ht, hl⟩, ok, q⟩ := h
    have nd := scInn.nd
    have p0 := ok.p0
    refine ⟨_, pss_cons (ps_asg (pv 0) (pg_tup rfl (pgs_cons (pg_name (i := 2) nd rfl (.inl rfl)) (pgs_cons (pg_name (i := 3) nd rfl (.inl rfl)) (pgs_cons (pg_name (i := 4) nd rfl (.inl rfl)) (pgs_cons (pg_name (i := 5) nd rfl (.inl rfl)) pgs_nil))))))
      (pss_one (ps_ret (pe_and (pe_or (pe_cmpR op_isN (pv 2) pe_non (nomark _)) (pe_one (pe_cmpR op_ge (pv 1) (pv 2) (nomark _)))) (pe_and (pe_or (pe_cmpR op_isN (pv 3) pe_non (nomark _)) (pe_one (pe_cmpR op_le (pv 1) (pv 3) (nomark _))))
        (pe_one (pe_cmpR op_in_seq (pe_op op_mod (pe_callTy call_int1 (by rfl) n.int (by decide +kernel) (pa_cons (pv 1) pa_nil)) (pv 4)) (pv 5) (by rfl))))))), ?_⟩
    refine seqV (Good := fun σ2 H2 => H = H2 ∧ σ2 = [some (.ref t), some (.int i), some (oI s.lo), some (oI s.hi), some (.int s.p), some (.ref l)]) (fun nx hnx => ⟨_, rfl, t, _, rfl, .inl (.inl ht), rfl, _, _, rfl, _, _, rfl, _, _, rfl, _, _, rfl, rfl, hnx _ _ ⟨rfl, rfl⟩⟩) ?_
    rintro _ _ ⟨rfl, rfl⟩
    have ep : pat s.p (maskN s.xs 0) i = decide (i % (s.p : Int) ∈ s.xs) := mask_pat p0 ok.rs.b i
    have q : Q (.bl (geB s.lo i && leB s.hi i && pat s.p (maskN s.xs 0) i)) H := q
    rw [ep] at q
    refine ge_read rfl rfl ⟨geB s.lo i, rfl, ?_⟩
    cases e1 : geB s.lo i with
    | false =>
      rw [e1, Bool.false_and, Bool.false_and] at q
      exact iteF q
    | true =>
      rw [e1, Bool.true_and] at q
      refine iteT (le_read rfl rfl ⟨leB s.hi i, rfl, ?_⟩)
      cases e2 : leB s.hi i with
      | false =>
        rw [e2, Bool.false_and] at q
        exact iteF q
      | true =>
        rw [e2, Bool.true_and, ← in_ints] at q
        exact iteT ⟨_, rfl, .inl ⟨_, rfl, _, rfl, _, _, rfl, rfl, (by show (0 : Int) < s.p; omega), _, rfl, l, _, rfl, hl.elim (fun z => .inl (.inl (.inl z))) (fun z => .inr (.inl (.inl z))), rfl, flat_ints _, q⟩⟩
theorem ok_row {f : Addr} {fd : FuncData} (F : Fun K "_law_row" "_law_row" (top 101) f fd) (n : Nm mg) (GI : Fn P w K mg base 1 "_law_in" ["_law_stretch_here", "_law_number"] spInn) : FnOk P w K mg base CX0 2 f fd ["_law_told_here"] spRow := by
  refine F.ok scRow (fun vs H Q E h => ?_) (fun cdv A outer s H vs Q E hr h => ?_)
  · obtain ⟨a, xs, sts, rfl, _⟩ := h
    rfl
  · obtain ⟨a, xs, sts, rfl, ha, sv, td, q⟩ := h
    have nd := scRow.nd
    have sl := sizeLine_eq
    have lx := Paired.length sv
    have l4 := td.len
    refine ⟨_, pss_one (ps_ret (pe_lc (own := [("_law_number", 1)]) (g := gName 1) (tt := tYes) rfl nd (pi_range2 (by rfl) n.range (pa_cons (pe_un un_neg pe_int) (pa_cons pe_int pa_nil))) (blkOk_by (N := NRow) (sc := defScope (top 101)) (by decide +kernel))
      (fun _ _ _ _ _ => pg_name (i := 1) nd rfl (.inr rfl)) (fun _ _ _ _ _ => pts_nil)
      (fun _ _ _ _ _ => pe_callB (r := rAny K) (cr_any rfl) (by rfl) n.any (by decide +kernel) (pa_cons (pe_lc (wi := iList K (tVar 0)) (own := [("_law_stretch_here", 2)]) (g := gName 2) (tt := tYes) rfl nd (pi_list (pv 0)) (blkOk_by (N := NRow) (sc := scRowP) (by decide +kernel))
        (fun _ _ _ _ _ => pg_name (i := 2) nd rfl (.inl rfl)) (fun _ _ _ _ _ => pts_nil) (fun _ _ _ _ _ => pe_fn GI hr (pa_cons (pv 2) (pa_cons (pv 1) pa_nil)))) pa_nil)))), ?_⟩
    refine ⟨_, rfl, -32, 33, rfl, ⟨by decide, by decide, by decide, by decide⟩, fun D hD => ?_⟩
    refine lc_mapRL (lo := -32) (n := 65) (G := fun _ v b => v = V.bl b) (f := fun i => some (tellB sts i)) (fun _ _ _ _ _ _ z => z) (by omega) ?_ ?_
    · rintro x i H2 A B he rfl b ⟨zs, hz⟩ hA hB
      have s2 := b.new hD
      have ha2 := s2 _ _ ha
      refine ⟨rfl, yes_ite ?_⟩
      refine ⟨_, rfl, a, rfl, ⟨_, .inl (.inl ha2)⟩, fun D2 hD2 => ?_⟩
      refine lc_mapL (es := sts) (F := fun H v s => SsAt H v s) (G := fun _ v b => v = V.bl b) (f := fun s => some (s.row.inB i)) (fun _ _ _ _ _ _ z => z) ha2 hD2 (by omega) (Paired.mapP sv fun _ _ z => SsAt.same s2 z) ?_ ?_
      · rintro y s H3 A3 B3 hs sy b3 ⟨us, hu⟩ hA3 hB3
        refine ⟨rfl, yes_ite ⟨_, rfl, _, rfl, y, s, i, rfl, SsAt.same (b3.new hD2) sy, (td.ok s hs).ok, hA3 _ _ H3 rfl (fun _ _ z => z) rfl⟩⟩
      · intro us H3 h1 h2 h3
        rw [mapE] at h2
        rw [bls_of h2] at h1
        refine ⟨D2, _, rfl, .inl (.inl h1), hA (tellB sts i) _ H3 rfl (fun c o e => h3.new hD2 c o e) ?_⟩
        rw [List.any_map]
        rfl
    · intro ys H2 h1 h2 h3
      rw [mapE] at h2
      rw [bls_of h2] at h1
      exact q D H2 hD (h3.new hD) h1
theorem ok_at {f : Addr} {fd : FuncData} (F : Fun K "_law_at" "_law_at" (top 102) f fd) (n : Nm mg) : FnOk P w K mg base CX0 1 f fd ["_law_row_here", "_law_number"] spAt := by
  refine F.ok scAt (fun vs H Q E h => ?_) (fun cdv A outer s H vs Q E hr h => ?_)
  · obtain ⟨a, S, i, rfl, _⟩ := h
    rfl
  · obtain ⟨a, S, i, rfl, ha, tm, q⟩ := h
    have nd := scAt.nd
    refine ⟨_, pss_cons (ps_if (pt_cmpR op_gt (pv 1) pe_int (nomark _)) (pss_one (ps_set (i := 1) nd rfl (.inl rfl) (pe_op op_add pe_int (pe_op op_mod (pe_callTy call_int1 (by rfl) n.int (by decide +kernel) (pa_cons (pe_op op_sub (pv 1) pe_int) pa_nil)) pe_int)))) pss_nil)
      (pss_cons (ps_if (pt_cmpR op_lt (pv 1) (pe_un un_neg pe_int) (nomark _)) (pss_one (ps_set (i := 1) nd rfl (.inl rfl) (pe_op op_sub (pe_un un_neg pe_int) (pe_op op_mod (pe_callTy call_int1 (by rfl) n.int (by decide +kernel) (pa_cons (pe_op op_sub (pe_un un_neg pe_int) (pv 1)) pa_nil)) pe_int)))) pss_nil)
      (pss_one (ps_ret (pe_ix ix_list (pv 0) (pe_op op_add (pv 1) pe_int) (fun _ _ => rfl))))), ?_⟩
    refine seqV (Good := fun σ2 H2 => ∃ j : Int, j ≤ 32 ∧ S j = S i ∧ H = H2 ∧ σ2 = [some (.ref a), some (.int j)]) ?_ ?_
    · intro nx hnx
      refine ⟨_, rfl, _, _, rfl, rfl, decide (32 < i), rfl, ?_⟩
      by_cases c : 32 < i
      · rw [decide_eq_true c]
        refine iteT ⟨_, rfl, _, _, rfl, rfl, .inl ⟨_, rfl, _, _, rfl, rfl, (by show (0 : Int) < 12; decide), _, _, rfl, rfl, hnx _ _ ⟨21 + (i - 21) % 12, by omega, ?_, rfl, rfl⟩⟩⟩
        have := tm.ups (n := 21 + (i - 21) % 12) (by omega) ((i - 21) / 12).toNat
        rw [show 21 + (i - 21) % 12 + 12 * (((i - 21) / 12).toNat : Int) = i by omega] at this
        exact this.symm
      · rw [decide_eq_false c]
        exact iteF (hnx _ _ ⟨i, by omega, rfl, rfl, rfl⟩)
    rintro _ _ ⟨j, j1, ej, rfl, rfl⟩
    refine seqV (Good := fun σ2 H2 => ∃ k : Int, -32 ≤ k ∧ k ≤ 32 ∧ S k = S i ∧ H = H2 ∧ σ2 = [some (.ref a), some (.int k)]) ?_ ?_
    · intro nx hnx
      refine ⟨_, rfl, _, rfl, _, _, rfl, rfl, decide (j < -32), rfl, ?_⟩
      by_cases c : j < -32
      · rw [decide_eq_true c]
        refine iteT ⟨_, rfl, _, rfl, _, rfl, _, _, rfl, rfl, .inl ⟨_, rfl, _, _, rfl, rfl, (by show (0 : Int) < 12; decide), _, _, rfl, rfl, hnx _ _ ⟨-21 - (-21 - j) % 12, by omega, by omega, ?_, rfl, rfl⟩⟩⟩
        rw [← ej]
        have := tm.dns (n := -21 - (-21 - j) % 12) (by omega) ((-21 - j) / 12).toNat
        rw [show -21 - (-21 - j) % 12 - 12 * (((-21 - j) / 12).toNat : Int) = j by omega] at this
        exact this.symm
      · rw [decide_eq_false c]
        exact iteF (hnx _ _ ⟨j, by omega, j1, ej, rfl, rfl⟩)
    rintro _ _ ⟨k, k0, k1, ek, rfl, rfl⟩
    have kk : (k + 32) = (((k + 32).toNat : Nat) : Int) := by omega
    have at_ : atI ((rowB S).map V.bl) (k + 32) = some (.bl (S k)) := by
      rw [kk]
      refine atI_nat ?_
      rw [List.getElem?_map, rowB_at S (by omega), show (-32 : Int) + ((k + 32).toNat : Nat) = k by omega]
      rfl
    rw [← ek] at q
    exact ⟨_, rfl, _, rfl, _, _, rfl, rfl, a, _, _, _, rfl, rfl, .inl (.inl ha), at_, q⟩
end
end L2.K14
end

section
set_option Elab.async false
set_option linter.all false
set_option maxRecDepth 100000
set_option maxHeartbeats 2000000
namespace L2.K14
open PySem PySem.Spec PyProof.Rows L2.Gd L2.Ln
/-- plain data that is small: at most n in weight -/
structure Sml (d : PyData) (n : Nat) : Prop where
  lay : d.canLay0 = true
  sh : d.showable = true
  hd : d.hasDict = false
  is : d.intsShort 13 = true
  we : d.weight ≤ n
structure SmlAll (ds : List PyData) (n : Nat) : Prop where
  lay : PyData.canLayAll0 ds = true
  sh : PyData.showableAll ds = true
  hd : PyData.hasDictAll ds = false
  is : PyData.intsShortAll 13 ds = true
  we : PyData.weightAll ds ≤ n
theorem SmlAll.nil : SmlAll [] 0 := ⟨by simp [PyData.canLayAll0], by simp [PyData.showableAll], by simp [PyData.hasDictAll], by simp [PyData.intsShortAll], by simp [PyData.weightAll]⟩
theorem SmlAll.cons {d : PyData} {ds : List PyData} {n m : Nat} (a : Sml d n) (b : SmlAll ds m) : SmlAll (d :: ds) (n + 1 + m) :=
  ⟨by simp [PyData.canLayAll0, a.lay, b.lay], by simp [PyData.showableAll, a.sh, b.sh], by simp [PyData.hasDictAll, a.hd, b.hd], by simp [PyData.intsShortAll, a.is, b.is],
    by simp only [PyData.weightAll]; have := a.we; have := b.we; omega⟩
theorem SmlAll.lst {ds : List PyData} {n : Nat} (a : SmlAll ds n) : Sml (.list ds) n :=
  ⟨by simp only [PyData.canLay0, a.lay], by simp only [PyData.showable, a.sh], by simp only [PyData.hasDict, a.hd], by simp only [PyData.intsShort, a.is], by simp only [PyData.weight]; exact a.we⟩
theorem Sml.bool (b : Bool) : Sml (.bool b) 0 := ⟨by simp [PyData.canLay0], by simp [PyData.showable], by simp [PyData.hasDict], by simp [PyData.intsShort], by simp [PyData.weight]⟩
theorem Sml.short {d : PyData} {n : Nat} (a : Sml d n) (hn : n ≤ 100000) (hd : d.depth ≤ 20) : d.shown.length ≤ 15728653 := by
  have l : PyData.layable0 d = true := by
    show (PyData.canLay0 d && decide (PyData.depth d ≤ 64) && decide (PyData.weight d ≤ 2 ^ 20)) = true
    rw [a.lay, decide_eq_true (by omega : d.depth ≤ 64), decide_eq_true]
    · rfl
    · have := a.we
      have e : (2 : Nat) ^ 20 = 1048576 := by decide
      omega
  exact shown_le13 l a.is
theorem Sml.showy {d : PyData} {n : Nat} (a : Sml d n) (hn : n ≤ 100000) (hd : d.depth ≤ 20) : Showy d := by
  refine ⟨a.sh, a.hd, hd, ?_⟩
  have := a.short hn hd
  rw [sizeLine_eq]
  omega
theorem dps_bls {K : PySem.W.Frag} {H : Hp} : ∀ bs : List Bool, DpAll K H (bs.map V.bl) (bs.map PyData.bool)
  | [] => .nil
  | b :: r => .cons (.bl b) (dps_bls r)
theorem sml_bls : ∀ bs : List Bool, SmlAll (bs.map PyData.bool) bs.length
  | [] => .nil
  | b :: r => by
    have a := SmlAll.cons (Sml.bool b) (sml_bls r)
    rw [show 0 + 1 + r.length = (b :: r).length by rw [List.length_cons]; omega] at a
    exact a
theorem bls_dep : ∀ bs : List Bool, PyData.depthAll (bs.map PyData.bool) = 0
  | [] => by simp [PyData.depthAll]
  | x :: r => by simp [PyData.depthAll, PyData.depth, bls_dep r]
theorem bls_showy {bs : List Bool} (h : bs.length ≤ 1000) : Showy (.list (bs.map PyData.bool)) := by
  refine (sml_bls bs).lst.showy (by omega) ?_
  simp only [PyData.depth, bls_dep]
  decide
theorem LnS.ne {C : Addr} {W : Zn} {H : Hp} {p x : Addr} {S : Int → Bool} (hp : PotAt H p) (h : LnS C W H x S) : ∃ (dx l : Addr) (rs : List Rw), H x = some (.ins C dx (fldR l)) ∧ x ≠ p ∧ l ≠ p ∧ RowsAt H l rs ∧ NtS W 12 rs ∧ ∀ n, inLB rs n = S n := by
  obtain ⟨dx, l, rs, ox, ⟨us, hl, rv⟩, na, e⟩ := h
  obtain ⟨a, b, ep, hb⟩ := hp
  refine ⟨dx, l, rs, ox, ?_, ?_, ⟨us, hl, rv⟩, na, e⟩
  · rintro rfl
    rw [ox] at ep
    exact nomatch ep
  · rintro rfl
    rw [hl] at ep
    have eu : us = [.int a, .int b] := by
      injection ep with ep
      injection ep
    rw [eu] at rv
    cases rv with
    | cons h _ =>
      obtain ⟨t, et, _⟩ := h
      exact nomatch et
theorem LnS.pot {C : Addr} {W : Zn} {H H' : Hp} {p x : Addr} {S : Int → Bool} (hp : PotAt H p) (b : ButD p H H') (h : LnS C W H x S) : LnS C W H' x S := by
  obtain ⟨dx, l, rs, ox, xp, lp, ⟨us, hl, rv⟩, na, e⟩ := LnS.ne hp h
  exact ⟨dx, l, rs, b _ _ xp ox, ⟨us, b _ _ lp hl, Paired.mapP rv fun _ _ ⟨t, et, ht⟩ => ⟨t, et, b _ _ (pot_ne hp ht) ht⟩⟩, na, e⟩
theorem RowB.pot {H H' : Hp} {p a : Addr} {S : Int → Bool} (hp : PotAt H p) (b : ButD p H H') (h : RowB H a S) : RowB H' a S := b _ _ (row_ne hp h) h
theorem RowB.same {H H' : Hp} {a : Addr} {S : Int → Bool} (s : Same H H') (h : RowB H a S) : RowB H' a S := s _ _ h
/-- a def called by its name, where nothing is being shown -/
structure FnGd (P : Program) (w : World) (K : PySem.W.Frag) (mg : Str → Option Value) (base : Heap) (k : Nat) (x : Str) (ps : List Str) (sp : Sp) : Prop where
  ex : ∃ f fd, mg x = some (.ref f) ∧ PySem.W.keepIn K (.ref f) = true ∧ Binds K fd ps [] ∧ FnG P w K mg base k f fd ps sp
theorem pe_fnG {X : Cx} {k : Nat} {x : Str} {ps : List Str} {sp : Sp} {e : Expr} {es : List Expr} {t : TA} {p pos : Pos}
    (F : FnGd X.prog X.w X.K X.mg X.base k x ps sp) (hg : X.A.guards = some []) (hr : Room k X.A) (ha : PA X (e :: es) t) (gl : Gl X x := by rfl) (hdb : (x == ("__debug__" : Str)) = false := by decide)
    (he : starEach (e :: es) X.env = (false, eval e X.env) :: starEach es X.env := by rfl)
    (hpl : (backTo pos (starEach es X.env)).any (·.1) = false := by rfl) :
    PE X (.Call (.Name x p) (e :: es) [] pos) (tCall sp [] E0 t) := by
  obtain ⟨f, fd, m, kp, b, G⟩ := F.ex
  exact pe_callG G hg hr gl m kp b ha hdb he hpl
theorem paired_bl : ∀ bs : List Bool, Paired (fun v b => v = V.bl b) (bs.map V.bl) bs
  | [] => .nil
  | b :: r => .cons rfl (paired_bl r)
end L2.K14
end

section
set_option Elab.async false
set_option linter.all false
set_option maxRecDepth 100000
set_option maxHeartbeats 4000000
namespace L2.K14
open PySem PySem.Spec PyProof.Rows L2.Gd L2.Ln
/-! ### the numbers that are asked -/
def spLk : Sp := fun vs H Q _ => ∃ (p : Addr), vs = [.ref p] ∧ PotAt H p ∧ ∀ (l : Addr) (ns : List Int) (H' : Hp), H l = none → PotAt H' p → ButD p H H' → H' l = some (.lst (ns.map V.int)) → ns.length ≤ 400 → Q (.ref l) H'
abbrev NLk : List Str := ["_law_pot_here", "_law_far", "_law_step"]
theorem scLk : FnScope NLk ["_law_pot_here"] (defScope (top 105)) := ⟨rfl, rfl, rfl, by decide +kernel, rfl, by decide +kernel, by decide +kernel⟩
section
variable {P : Program} {w : World} {K : PySem.W.Frag} {mg : Str → Option Value} {base : Heap} {C : Addr}
theorem rgV_map (a : Int) (n : Nat) : rgV a (a + n) = (rgI a n).map V.int := by
  unfold rgV rgI
  rw [List.map_map, show (a + (n : Int) - a).toNat = n by omega]
  rfl
theorem ok_lk {f : Addr} {fd : FuncData} (F : Fun K "_law_looked" "_law_looked" (top 105) f fd) (n : Nm mg) (GD : Fn P w K mg base 1 "_law_draw" ["_law_pot_here", "_law_many"] spDraw) : FnOk P w K mg base CX0 2 f fd ["_law_pot_here"] spLk := by
  refine F.ok scLk (fun vs H Q E h => ?_) (fun cdv A outer s H vs Q E hr h => ?_)
  · obtain ⟨p, rfl, _⟩ := h
    rfl
  · obtain ⟨p, rfl, hp, q⟩ := h
    have N := scLk.nd
    have sl := sizeLine_eq
    refine ⟨_, pss_cons (ps_set (i := 1) N rfl (.inr rfl) (pe_op op_add (pe_op op_mul (pe_op op_pow pe_int pe_int) (pe_op op_add pe_int (pe_fn GD hr (pa_cons (pv 0) (pa_cons pe_int pa_nil))))) (pe_fn GD hr (pa_cons (pv 0) (pa_cons pe_int pa_nil)))))
      (pss_one (ps_ret (pe_op op_cat (pe_op op_cat (pe_listRg rfl (by rfl) n.list (prg_2 (by rfl) n.range (pe_un un_neg pe_int) pe_int))
        (pe_lc (own := [("_law_step", 2)]) (g := gName 2) (tt := tYes) rfl N (pi_range1 (by rfl) n.range (pa_cons pe_int pa_nil)) (blkOk_by (N := NLk) (sc := defScope (top 105)) (by decide +kernel)) (fun _ _ _ _ _ => pg_name (i := 2) N rfl (.inl rfl)) (fun _ _ _ _ _ => pts_nil) (fun _ _ _ _ _ => pe_op op_add (pv 1) (pv 2))))
        (pe_lc (own := [("_law_step", 2)]) (g := gName 2) (tt := tYes) rfl N (pi_range1 (by rfl) n.range (pa_cons pe_int pa_nil)) (blkOk_by (N := NLk) (sc := defScope (top 105)) (by decide +kernel)) (fun _ _ _ _ _ => pg_name (i := 2) N rfl (.inl rfl)) (fun _ _ _ _ _ => pts_nil) (fun _ _ _ _ _ => pe_op op_sub (pe_op op_sub pe_int (pv 1)) (pv 2)))))), ?_⟩
    refine seqV (Good := fun σ2 H2 => ∃ k : Int, PotAt H2 p ∧ ButD p H H2 ∧ σ2 = [some (.ref p), some (.int k), none]) ?_ ?_
    · intro nx hnx
      refine ⟨_, _, rfl, rfl, ⟨by decide, by decide, by decide⟩, _, rfl, p, 9, rfl, hp, by decide, by decide, fun d H2 d0 d1 hp2 b2 => ?_⟩
      refine ⟨_, _, rfl, rfl, _, _, rfl, rfl, .inr ⟨by omega, by omega⟩, _, rfl, p, 12, rfl, hp2, by decide, by decide, fun e H3 e0 e1 hp3 b3 => ?_⟩
      exact ⟨_, _, rfl, rfl, hnx _ _ ⟨_, hp3, b2.trans b3, rfl⟩⟩
    rintro _ H2 ⟨k, hp2, b2, rfl⟩
    refine ⟨_, rfl, _, _, rfl, rfl, ⟨by decide, by decide, by decide, by decide, by decide⟩, fun l1 hl1 => ?_⟩
    have s3 := same_upd (o := .lst (rgV (-45) 46)) hl1
    refine ⟨5, rfl, by decide, by decide, fun D hD => ?_⟩
    refine lc_mapR (lo := 0) (n := 5) (G := fun _ v b => v = V.int b) (f := fun i => some (k + i)) (fun _ _ _ _ _ _ z => z) (by omega) ?_ ?_
    · rintro x i H4 A B he rfl b ⟨zs, hz⟩ hA hB
      exact ⟨rfl, yes_ite ⟨_, rfl, _, rfl, _, _, rfl, rfl, hA (k + i) _ H4 rfl (fun _ _ z => z) rfl⟩⟩
    · intro zs H4 h1 h2 h3
      rw [mapE] at h2
      rw [ints_of h2] at h1
      have s4 := s3.trans (h3.new hD)
      have e1 : rgV (-45) 46 = (rgI (-45) 91).map V.int := rgV_map (-45) 91
      refine ⟨l1, D, _, _, rfl, rfl, h3.new hD _ _ upd_same, h1, by rw [sl, e1, List.length_map, List.length_map, List.length_map, rgI_len, rgI_len]; decide, fun l2 hl2 => ?_⟩
      have s5 := s4.trans (same_upd (o := .lst (rgV (-45) 46 ++ ((rgI 0 5).map fun i => k + i).map V.int)) hl2)
      refine ⟨5, rfl, by decide, by decide, fun D2 hD2 => ?_⟩
      refine lc_mapR (lo := 0) (n := 5) (G := fun _ v b => v = V.int b) (f := fun i => some (0 - k - i)) (fun _ _ _ _ _ _ z => z) (by omega) ?_ ?_
      · rintro x i H6 A B he rfl b ⟨zs, hz⟩ hA hB
        exact ⟨rfl, yes_ite ⟨_, rfl, _, _, rfl, rfl, _, rfl, _, _, rfl, rfl, hA (0 - k - i) _ H6 rfl (fun _ _ z => z) rfl⟩⟩
      · intro zs2 H6 h4 h5 h6
        rw [mapE] at h5
        rw [ints_of h5] at h4
        have s6 := s5.trans (h6.new hD2)
        refine ⟨l2, D2, _, _, rfl, rfl, h6.new hD2 _ _ upd_same, h4, by rw [sl, e1, List.length_append, List.length_map, List.length_map, List.length_map, List.length_map, List.length_map, rgI_len, rgI_len]; decide, fun l3 hl3 => ?_⟩
        have s7 := s6.trans (same_upd (o := .lst (rgV (-45) 46 ++ ((rgI 0 5).map fun i => k + i).map V.int ++ ((rgI 0 5).map fun i => 0 - k - i).map V.int)) hl3)
        have pl3 : p ≠ l3 := (hp2.same s6).ne hl3
        have nl : H l3 = none := by
          cases e : H l3 with
          | none => rfl
          | some u =>
            have := s6 _ _ (b2 _ _ pl3.symm e)
            rw [hl3] at this
            exact nomatch this
        refine q l3 (rgI (-45) 91 ++ ((rgI 0 5).map fun i => k + i) ++ (rgI 0 5).map fun i => 0 - k - i) _ nl (hp2.same s7) (b2.trans (Same.but s7)) ?_ ?_
        · rw [upd_same, e1, List.map_append, List.map_append]
        · rw [List.length_append, List.length_append, List.length_map, List.length_map, rgI_len, rgI_len]
          decide
end
end L2.K14
end

section
set_option Elab.async false
set_option linter.all false
set_option maxRecDepth 100000
set_option maxHeartbeats 2000000
namespace L2.K14
open PySem PySem.Spec PyProof.Rows L2.Gd L2.Ln
theorem same_refl {H : Hp} : Same H H := fun _ _ e => e
/-! ### expressions that make Lines -/
/-- te gives a Line with the numbers S, wherever what stands in H stands -/
def Gl (C : Addr) (te : TE) (σ : L2.St) (H : Hp) (W : Zn) (S : Int → Bool) : Prop := ∀ H1, Same H H1 → ∀ Q : VK, (∀ (x : Addr) (H2 : Hp), Same H1 H2 → LnS C W H2 x S → Q (.ref x) H2) → te σ H1 Q
/-- te gives a row of the truths S -/
def Gr (te : TE) (σ : L2.St) (H : Hp) (S : Int → Bool) : Prop := ∀ H1, Same H H1 → ∀ Q : VK, (∀ (x : Addr) (H2 : Hp), Same H1 H2 → RowB H2 x S → Q (.ref x) H2) → te σ H1 Q
def rBinO (C : Addr) (sp : Sp) : R2 := fun x y H Q => ∃ (a b dx dy : Addr) (fs gs : List (Str × V)), x = .ref a ∧ y = .ref b ∧ H a = some (.ins C dx fs) ∧ H b = some (.ins C dy gs) ∧ sp [.ref a, .ref b] H (fun v H' => (∃ k, v = .ref k) ∧ Q v H') E0
def rEqO (C : Addr) (sp : Sp) : R2 := fun x y H Q => ∃ (a b dx dy : Addr) (fs gs : List (Str × V)), x = .ref a ∧ y = .ref b ∧ H a = some (.ins C dx fs) ∧ H b = some (.ins C dy gs) ∧ sp [.ref a, .ref b] H (fun v H' => (∃ k, v = .bl k) ∧ Q v H') E0
def rNeO (C : Addr) (sp : Sp) : R2 := fun x y H Q => ∃ (a b dx dy : Addr) (fs gs : List (Str × V)), x = .ref a ∧ y = .ref b ∧ H a = some (.ins C dx fs) ∧ H b = some (.ins C dy gs) ∧ sp [.ref a, .ref b] H (fun v H' => ∃ k, v = .bl k ∧ Q (.bl (!k)) H') E0
structure OpH (P : Program) (w : World) (K : PySem.W.Frag) (mg : Str → Option Value) (base : Heap) (C : Addr) (op : Operator) (sp : Sp) : Prop where
  ex : ∃ f fd, Binds K fd ["self", "other"] [] ∧ FnOk P w K mg base CX0 15 f fd ["self", "other"] sp ∧ PySem.W.selfFirst K C = true ∧ PySem.W.findIn K (.ref C) (PySem.dunder op.info.2) = some (some (.ref f)) ∧ PySem.W.isFn K (.ref f) = true
structure EqH (P : Program) (w : World) (K : PySem.W.Frag) (mg : Str → Option Value) (base : Heap) (C : Addr) (sp : Sp) : Prop where
  ex : ∃ f fd N, Binds K fd ["self", "other"] [] ∧ FnOk P w K mg base CX0 7 f fd ["self", "other"] sp ∧ PySem.W.findIn K (.ref C) "__eq__" = some (some (.ref f)) ∧ PySem.W.isFn K (.ref f) = true ∧ NeC K C f N
structure CmH (P : Program) (w : World) (K : PySem.W.Frag) (mg : Str → Option Value) (base : Heap) (C : Addr) (m : Str) (k : Nat) (sp : Sp) : Prop where
  ex : ∃ mc p g, ClX.CRead K C mc ∧ ClX.CMet K C mc m p g ∧ FnR P w K mg base CX0 k g sp
section
variable {X : Cx} {C : Addr}
theorem op_own {op : Operator} {sp : Sp} (O : OpH X.prog X.w X.K X.mg X.base C op sp) (hr : Room 15 X.A) : OpR X (binaryOp op) (rBinO C sp) := by
  obtain ⟨f, fd, hb, F, hc, hs, hf⟩ := O.ex
  exact op_binOwn hr F hb hc hs hf
theorem op_eqH {sp : Sp} (O : EqH X.prog X.w X.K X.mg X.base C sp) (hr : Room 7 X.A) : OpR X (compareOp .Eq) (rEqO C sp) := by
  obtain ⟨f, fd, N, hb, F, hs, hf, c⟩ := O.ex
  exact op_eqOwn hr F hb hs hf
theorem op_neH {sp : Sp} (O : EqH X.prog X.w X.K X.mg X.base C sp) (hr : Room 8 X.A) : OpR X (compareOp .NotEq) (rNeO C sp) := by
  obtain ⟨f, fd, N, hb, F, hs, hf, c⟩ := O.ex
  exact op_neOwn hr F hb c
end
section
variable {C : Addr} {ta tb : TE} {σ : L2.St} {H : Hp} {W W' : Zn} {S T : Int → Bool}
theorem Gl.mono (le : W.Sub W') (h : Gl C ta σ H W S) : Gl C ta σ H W' S := fun H1 s1 Q q => h H1 s1 Q fun x H2 s2 l => q x H2 s2 (l.sub le)
theorem Gl.cong (e : ∀ n, S n = T n) (h : Gl C ta σ H W S) : Gl C ta σ H W T := fun H1 s1 Q q => h H1 s1 Q fun x H2 s2 l => q x H2 s2 (l.cong e)
theorem gl_var {i : Nat} {x : Addr} (e : σ[i]? = some (some (.ref x))) (l : LnS C W H x S) : Gl C (tVar i) σ H W S := fun H1 s1 Q q => ⟨_, e, q x H1 same_refl (l.same s1)⟩
theorem gl_new {K : PySem.W.Frag} {dT : Addr} (hT : ∀ H, SqT K H dT []) : Gl C (tMake C (spInit K C) [.ref dT] E0 tNil) σ H ⟨[0], 38⟩ (fun _ => false) := by
  intro H1 s1 Q q x dx hx hdx ne
  exact line_read0 (K := K) (C := C) (Q := Q) hT (fun x H' nx s' ln => q x H' s' ln) x dx hx hdx ne
theorem gl_eq (Wb : W.Ok 12) (ha : Gl C ta σ H W S) (hb : Gl C tb σ H W T) (e : ∀ n, S n = T n) (H1 : Hp) (s1 : Same H H1) (Q : VK) (q : ∀ H2, Same H1 H2 → Q (.bl true) H2) : tOp (rEqO C (spEq C)) ta tb σ H1 Q := by
  refine ha H1 s1 _ fun x H2 s2 lx => hb H2 (s1.trans s2) _ fun y H3 s3 ly => ?_
  have lx3 := lx.same s3
  obtain ⟨dx, fs, ox⟩ := lx3.ob
  obtain ⟨dy, gs, oy⟩ := ly.ob
  refine ⟨x, y, dx, dy, fs, gs, rfl, rfl, ox, oy, x, y, W, S, T, rfl, lx3, ly, Wb, fun c H' s4 iff => ⟨⟨c, rfl⟩, ?_⟩⟩
  rw [iff.mpr e]
  exact q H' (s2.trans (s3.trans s4))
theorem gl_ne (Wb : W.Ok 12) (ha : Gl C ta σ H W S) (hb : Gl C tb σ H W T) (e : ∀ n, S n = T n) (H1 : Hp) (s1 : Same H H1) (Q : VK) (q : ∀ H2, Same H1 H2 → Q (.bl false) H2) : tOp (rNeO C (spEq C)) ta tb σ H1 Q := by
  refine ha H1 s1 _ fun x H2 s2 lx => hb H2 (s1.trans s2) _ fun y H3 s3 ly => ?_
  have lx3 := lx.same s3
  obtain ⟨dx, fs, ox⟩ := lx3.ob
  obtain ⟨dy, gs, oy⟩ := ly.ob
  refine ⟨x, y, dx, dy, fs, gs, rfl, rfl, ox, oy, x, y, W, S, T, rfl, lx3, ly, Wb, fun c H' s4 iff => ⟨c, rfl, ?_⟩⟩
  rw [iff.mpr e]
  exact q H' (s2.trans (s3.trans s4))
theorem gr_var {i : Nat} {x : Addr} (e : σ[i]? = some (some (.ref x))) (l : RowB H x S) : Gr (tVar i) σ H S := fun H1 s1 Q q => ⟨_, e, q x H1 same_refl (l.same s1)⟩
end
end L2.K14
end

section
set_option Elab.async false
set_option linter.all false
set_option maxRecDepth 100000
set_option maxHeartbeats 4000000
namespace L2.K14
open PySem PySem.Spec PyProof.Rows L2.Gd L2.Ln
/-! ### sums, as the law's own look tells them -/
noncomputable def sumB (S T : Int → Bool) (n : Int) : Bool := @decide (∃ a b, S a = true ∧ T b = true ∧ a + b = n) (Classical.propDecidable _)
theorem sumB_iff {S T : Int → Bool} {n : Int} : sumB S T n = true ↔ ∃ a b, S a = true ∧ T b = true ∧ a + b = n := by
  unfold sumB
  exact @decide_eq_true_iff _ (Classical.propDecidable _)
theorem sumB_of {S T U : Int → Bool} (h : ∀ n, U n = true ↔ ∃ a b, S a = true ∧ T b = true ∧ a + b = n) (n : Int) : U n = sumB S T n := by
  rw [Bool.eq_iff_iff, h, sumB_iff]
theorem sumB_comm (S T : Int → Bool) (n : Int) : sumB S T n = sumB T S n := by
  rw [Bool.eq_iff_iff, sumB_iff, sumB_iff]
  exact ⟨fun ⟨a, b, h, k, e⟩ => ⟨b, a, k, h, by omega⟩, fun ⟨a, b, h, k, e⟩ => ⟨b, a, k, h, by omega⟩⟩
theorem sumB_dif {S T U : Int → Bool} (h : ∀ n, U n = true ↔ ∃ a b, S a = true ∧ T b = true ∧ a - b = n) (n : Int) : U n = sumB S (fun n => T (-n)) n := by
  rw [Bool.eq_iff_iff, h, sumB_iff]
  exact ⟨fun ⟨a, b, h, k, e⟩ => ⟨a, -b, h, by rw [Int.neg_neg]; exact k, by omega⟩, fun ⟨a, b, h, k, e⟩ => ⟨a, -b, h, k, by omega⟩⟩
theorem sumB_neg (S T : Int → Bool) (n : Int) : sumB S (fun n => T (-n)) (-n) = sumB T (fun n => S (-n)) n := by
  rw [Bool.eq_iff_iff, sumB_iff, sumB_iff]
  exact ⟨fun ⟨a, b, h, k, e⟩ => ⟨-b, -a, k, by rw [Int.neg_neg]; exact h, by omega⟩, fun ⟨a, b, h, k, e⟩ => ⟨-b, -a, k, by rw [Int.neg_neg]; exact h, by omega⟩⟩
theorem Tame.rev {S : Int → Bool} (h : Tame S) : Tame fun n => S (-n) := ⟨fun n e => by
  show S (-(n + 12)) = S (-n)
  rw [show -(n + 12) = -n - 12 by omega, h.dn (-n) (by omega)], fun n e => by
  show S (-(n - 12)) = S (-n)
  rw [show -(n - 12) = -n + 12 by omega, h.up (-n) (by omega)]⟩
/-- one of the two is near -/
theorem near_one {S T : Int → Bool} (hS : Tame S) (hT : Tame T) : ∀ (k : Nat) (a b : Int), a.natAbs ≤ k → S a = true → T b = true → ∃ c, -21 ≤ c ∧ c ≤ 21 ∧ ((S c = true ∧ T (a + b - c) = true) ∨ (T c = true ∧ S (a + b - c) = true)) := by
  intro k
  induction k with
  | zero =>
    intro a b h ha hb
    exact ⟨a, by omega, by omega, .inl ⟨ha, by rw [show a + b - a = b by omega]; exact hb⟩⟩
  | succ k ih =>
    intro a b h ha hb
    by_cases c1 : -21 ≤ a ∧ a ≤ 21
    · exact ⟨a, c1.1, c1.2, .inl ⟨ha, by rw [show a + b - a = b by omega]; exact hb⟩⟩
    by_cases c2 : -21 ≤ b ∧ b ≤ 21
    · exact ⟨b, c2.1, c2.2, .inr ⟨hb, by rw [show a + b - b = a by omega]; exact ha⟩⟩
    by_cases c3 : 0 ≤ a
    · have h1 : S (a - 12) = true := by
        have := hS.up (a - 12) (by omega)
        rw [show a - 12 + 12 = a by omega] at this
        rw [← this]
        exact ha
      have h2 : T (b + 12) = true := by
        by_cases c4 : 0 ≤ b
        · rw [hT.up b (by omega)]
          exact hb
        · have := hT.dn (b + 12) (by omega)
          rw [show b + 12 - 12 = b by omega] at this
          rw [← this]
          exact hb
      obtain ⟨c, l, u, e⟩ := ih (a - 12) (b + 12) (by omega) h1 h2
      rw [show a - 12 + (b + 12) = a + b by omega] at e
      exact ⟨c, l, u, e⟩
    · have h1 : S (a + 12) = true := by
        have := hS.dn (a + 12) (by omega)
        rw [show a + 12 - 12 = a by omega] at this
        rw [← this]
        exact ha
      have h2 : T (b - 12) = true := by
        by_cases c4 : 0 ≤ b
        · have := hT.up (b - 12) (by omega)
          rw [show b - 12 + 12 = b by omega] at this
          rw [← this]
          exact hb
        · rw [hT.dn b (by omega)]
          exact hb
      obtain ⟨c, l, u, e⟩ := ih (a + 12) (b - 12) (by omega) h1 h2
      rw [show a + 12 + (b - 12) = a + b by omega] at e
      exact ⟨c, l, u, e⟩
theorem sum_near {S T : Int → Bool} (hS : Tame S) (hT : Tame T) (n : Int) : sumB S T n = true ↔ ∃ c, -21 ≤ c ∧ c ≤ 21 ∧ ((S c = true ∧ T (n - c) = true) ∨ (T c = true ∧ S (n - c) = true)) := by
  rw [sumB_iff]
  constructor
  · rintro ⟨a, b, ha, hb, rfl⟩
    exact near_one hS hT _ a b (Nat.le_refl _) ha hb
  · rintro ⟨c, _, _, ⟨h, k⟩ | ⟨h, k⟩⟩
    · exact ⟨c, n - c, h, k, by omega⟩
    · exact ⟨n - c, c, k, h, by omega⟩
def spIsm : Sp := fun vs H Q _ => ∃ (a b : Addr) (S T : Int → Bool) (n : Int), vs = [.ref a, .ref b, .int n] ∧ RowB H a S ∧ RowB H b T ∧ Tame S ∧ Tame T ∧ Q (.bl (sumB S T n)) H
abbrev NIsm : List Str := ["_law_one", "_law_other", "_law_number", "_law_near"]
theorem scIsm : FnScope NIsm ["_law_one", "_law_other", "_law_number"] (defScope (top 103)) := ⟨rfl, rfl, rfl, by decide +kernel, rfl, by decide +kernel, by decide +kernel⟩
def spTrn : Sp := fun vs H Q _ => ∃ (a : Addr) (S : Int → Bool), vs = [.ref a] ∧ RowB H a S ∧ ∀ (o : Addr) (H' : Hp), H o = none → Same H H' → RowB H' o (fun n => S (-n)) → Q (.ref o) H'
theorem scTrn : FnScope ["_law_row_here"] ["_law_row_here"] (defScope (top 104)) := ⟨rfl, rfl, rfl, by decide +kernel, rfl, by decide +kernel, by decide +kernel⟩
theorem rowB_rev (S : Int → Bool) : (rowB S).reverse = rowB fun n => S (-n) := by
  refine List.ext_getElem? fun i => ?_
  by_cases c : i < 65
  · rw [List.getElem?_reverse (by rw [rowB_len]; exact c), rowB_len, rowB_at S (by omega), rowB_at _ c]
    congr 2
    omega
  · rw [List.getElem?_eq_none (by rw [List.length_reverse, rowB_len]; omega), List.getElem?_eq_none (by rw [rowB_len]; omega)]
section
variable {P : Program} {w : World} {K : PySem.W.Frag} {mg : Str → Option Value} {base : Heap} {C : Addr}
theorem ok_trn {f : Addr} {fd : FuncData} (F : Fun K "_law_turned" "_law_turned" (top 104) f fd) : FnOk P w K mg base CX0 1 f fd ["_law_row_here"] spTrn := by
  refine F.ok scTrn (fun vs H Q E h => ?_) (fun cdv A outer s H vs Q E hr h => ?_)
  · obtain ⟨a, S, rfl, _⟩ := h
    rfl
  · obtain ⟨a, S, rfl, ha, q⟩ := h
    refine ⟨_, pss_one (ps_ret (pe_revL (pv 0))), ?_⟩
    refine ⟨_, rfl, a, _, rfl, .inl (.inl ha), fun o ho => ?_⟩
    refine q o _ ho (same_upd ho) ?_
    show upd H o _ o = _
    rw [upd_same, ← List.map_reverse, rowB_rev]
theorem ok_ism {f : Addr} {fd : FuncData} (F : Fun K "_law_is_sum" "_law_is_sum" (top 103) f fd) (n : Nm mg) (AT : Fn P w K mg base 1 "_law_at" ["_law_row_here", "_law_number"] spAt) : FnOk P w K mg base CX0 2 f fd ["_law_one", "_law_other", "_law_number"] spIsm := by
  refine F.ok scIsm (fun vs H Q E h => ?_) (fun cdv A outer s H vs Q E hr h => ?_)
  · obtain ⟨a, b, S, S', i, rfl, _⟩ := h
    rfl
  · obtain ⟨a, b, S, S', i, rfl, ha, hb, tS, tT, q⟩ := h
    have N := scIsm.nd
    refine ⟨_, pss_cons (ps_for PassesOwn.never rfl (pi_range2 (by rfl) n.range (pa_cons (pe_un un_neg pe_int) (pa_cons pe_int pa_nil))) (pg_name (i := 3) N rfl (.inl rfl))
        (pss_cons (ps_if (pw_and (pt_val (pe_ix ix_list (pv 0) (pe_op op_add (pv 3) pe_int) (fun _ _ => rfl))) (pw_and1 (pt_val (pe_fn AT hr (pa_cons (pv 1) (pa_cons (pe_op op_sub (pv 2) (pv 3)) pa_nil)))))).pt (pss_one (ps_ret pe_bl)) pss_nil)
        (pss_one (ps_if (pw_and (pt_val (pe_ix ix_list (pv 1) (pe_op op_add (pv 3) pe_int) (fun _ _ => rfl))) (pw_and1 (pt_val (pe_fn AT hr (pa_cons (pv 0) (pa_cons (pe_op op_sub (pv 2) (pv 3)) pa_nil)))))).pt (pss_one (ps_ret pe_bl)) pss_nil))))
      (pss_one (ps_ret pe_bl)), ?_⟩
    have at_ : ∀ (U : Int → Bool) (j : Nat), j < 43 → atI ((rowB U).map V.bl) (-21 + (j : Int) + 32) = some (.bl (U (-21 + (j : Int)))) := fun U j hj => by
      rw [show -21 + (j : Int) + 32 = ((j + 11 : Nat) : Int) by omega]
      refine atI_nat ?_
      rw [List.getElem?_map, rowB_at U (by omega), show (-32 : Int) + ((j + 11 : Nat) : Int) = -21 + (j : Int) by omega]
      rfl
    refine seqV (Good := fun σ2 H2 => H = H2 ∧ sumB S S' i = false) ?_ ?_
    · intro nx hnx
      refine ⟨_, rfl, -21, 22, rfl, ⟨by decide, by decide, by decide, by decide⟩, for_range (lo := -21) (n := 43) (fun j σ H2 => ∃ y, H = H2 ∧ (∀ c : Int, -21 ≤ c → c < -21 + (j : Int) → ¬ ((S c = true ∧ S' (i - c) = true) ∨ (S' c = true ∧ S (i - c) = true))) ∧ σ = [some (.ref a), some (.ref b), some (.int i), y])
        ⟨none, rfl, fun c h1 h2 => by omega, rfl⟩ ?_ ?_⟩
      · rintro j σ H2 hj ⟨y, rfl, no, rfl⟩
        refine gn ?_
        have yes : ((S (-21 + (j : Int)) = true ∧ S' (i - (-21 + (j : Int))) = true) ∨ (S' (-21 + (j : Int)) = true ∧ S (i - (-21 + (j : Int))) = true)) → Q (.bl true) H := fun h => by
          have := (sum_near tS tT i).mpr ⟨_, by omega, by omega, h⟩
          rw [this] at q
          exact q
        refine seqV (Good := fun σ2 H2 => H = H2 ∧ ¬ (S (-21 + (j : Int)) = true ∧ S' (i - (-21 + (j : Int))) = true) ∧ σ2 = [some (.ref a), some (.ref b), some (.int i), some (.int (-21 + (j : Int)))]) ?_ ?_
        · intro nx2 hnx2
          refine ⟨_, rfl, _, rfl, _, _, rfl, rfl, a, _, _, _, rfl, rfl, .inl (.inl ha), at_ S j hj, S (-21 + (j : Int)), rfl, ?_⟩
          cases e1 : S (-21 + (j : Int)) with
          | false => exact iteF (iteF (hnx2 _ _ ⟨rfl, fun z => (by rw [e1] at z; exact nomatch z.1), rfl⟩))
          | true =>
            refine iteT ⟨_, rfl, _, rfl, _, rfl, _, _, rfl, rfl, b, S', _, rfl, hb, tT, S' (i - (-21 + (j : Int))), rfl, ?_⟩
            cases e2 : S' (i - (-21 + (j : Int))) with
            | false => exact iteF (hnx2 _ _ ⟨rfl, fun z => (by rw [e2] at z; exact nomatch z.2), rfl⟩)
            | true => exact iteT (yes (.inl ⟨e1, e2⟩))
        rintro _ _ ⟨rfl, no1, rfl⟩
        refine ⟨_, rfl, _, rfl, _, _, rfl, rfl, b, _, _, _, rfl, rfl, .inl (.inl hb), at_ S' j hj, S' (-21 + (j : Int)), rfl, ?_⟩
        have done : ¬ (S' (-21 + (j : Int)) = true ∧ S (i - (-21 + (j : Int))) = true) → ∀ c : Int, -21 ≤ c → c < -21 + ((j + 1 : Nat) : Int) → ¬ ((S c = true ∧ S' (i - c) = true) ∨ (S' c = true ∧ S (i - c) = true)) := fun no2 c h1 h2 => by
          by_cases e : c = -21 + (j : Int)
          · subst e
            exact fun z => z.elim no1 no2
          · exact no c h1 (by omega)
        cases e1 : S' (-21 + (j : Int)) with
        | false => exact iteF (iteF ⟨_, rfl, done fun z => (by rw [e1] at z; exact nomatch z.1), rfl⟩)
        | true =>
          refine iteT ⟨_, rfl, _, rfl, _, rfl, _, _, rfl, rfl, a, S, _, rfl, ha, tS, S (i - (-21 + (j : Int))), rfl, ?_⟩
          cases e2 : S (i - (-21 + (j : Int))) with
          | false => exact iteF ⟨_, rfl, done fun z => (by rw [e2] at z; exact nomatch z.2), rfl⟩
          | true => exact iteT (yes (.inr ⟨e1, e2⟩))
      · rintro σ H2 ⟨y, rfl, no, rfl⟩
        refine hnx _ _ ⟨rfl, ?_⟩
        cases e : sumB S S' i with
        | false => rfl
        | true =>
          obtain ⟨c, c1, c2, h⟩ := (sum_near tS tT i).mp e
          exact (no c c1 (by omega) h).elim
    rintro _ _ ⟨rfl, e⟩
    rw [e] at q
    exact q
end
end L2.K14
end

section
set_option Elab.async false
set_option linter.all false
set_option maxRecDepth 100000
/-! int(t, 2) of a text of 0 and 1 -/
namespace L2
open PySem PySem.Spec PyProof.Rows
namespace Bn
open PySem.NumText PySem.Calls
def IsB (c : Nat) : Prop := c = 48 ∨ c = 49
def binNum (l : List Nat) : Nat := l.foldl (fun a c => a * 2 + (c - 48)) 0
theorem isHex {c : Nat} (h : IsB c) : Hx.IsHex c := by
  unfold IsB at h
  unfold Hx.IsHex
  omega
theorem digit_b {c : Nat} (h : IsB c) : digit? c = some (c - 48) := by
  rw [Hx.digit_hex (isHex h)]
  congr 1
  unfold IsB at h
  unfold Hx.hv
  rw [if_pos (by omega)]
theorem step_b {ds : Array Nat} {b : Bool} {c : Nat} (h : IsB c) : PySem.NumText.step 2 (ds, b) c = some (ds.push (c - 48), true) := by
  unfold PySem.NumText.step
  have h' := h
  unfold IsB at h
  rw [if_neg (by rw [beq_iff_eq]; omega), digit_b h']
  exact if_pos (by omega)
theorem foldl_b : ∀ (cs : List Nat) (ds : Array Nat), (∀ c ∈ cs, IsB c) → cs.foldlM (PySem.NumText.step 2) (ds, true) = some (cs.foldl (fun acc c => acc.push (c - 48)) ds, true)
  | [], _, _ => rfl
  | c :: cs, ds, h => by
    rw [List.foldlM_cons, step_b (h c (List.mem_cons_self ..))]
    show cs.foldlM (PySem.NumText.step 2) (ds.push (c - 48), true) = _
    exact foldl_b cs (ds.push (c - 48)) fun d hd => h d (List.mem_cons_of_mem _ hd)
theorem digits_b {cs : List Nat} (h : ∀ c ∈ cs, IsB c) (hne : cs ≠ []) : digits? 2 cs = some (cs.foldl (fun acc c => acc.push (c - 48)) #[]) := by
  cases cs with
  | nil => exact absurd rfl hne
  | cons c cs =>
    unfold digits?
    rw [List.foldlM_cons, step_b (h c (List.mem_cons_self ..))]
    show (cs.foldlM (PySem.NumText.step 2) ((#[] : Array Nat).push (c - 48), true)).bind _ = _
    rw [foldl_b cs _ fun d hd => h d (List.mem_cons_of_mem _ hd)]
    rfl
theorem push_b : ∀ (cs : List Nat) (ds : Array Nat), (cs.foldl (fun acc c => acc.push (c - 48)) ds).foldl (fun acc d => acc * 2 + d) 0 = cs.foldl (fun a c => a * 2 + (c - 48)) (ds.foldl (fun acc d => acc * 2 + d) 0)
  | [], _ => rfl
  | c :: cs, ds => by
    rw [List.foldl_cons, push_b cs (ds.push (c - 48)), List.foldl_cons]
    congr 1
    simp
theorem dropB {cs : List Nat} (h : ∀ c ∈ cs, IsB c) : cs.dropWhile blank = cs := Hx.dropB fun c hc => isHex (h c hc)
theorem signB {cs : List Nat} (h : ∀ c ∈ cs, IsB c) : sign cs = (false, cs) := Hx.signH fun c hc => isHex (h c hc)
theorem basedB : ∀ {cs : List Nat}, (∀ c ∈ cs, IsB c) → based 2 cs = (2, false, cs)
  | [], _ => rfl
  | [a], h => by
    rcases h a (List.mem_cons_self ..) with rfl | rfl
    · rfl
    · rfl
  | a :: c :: r, h => by
    have hc := h c (List.mem_cons_of_mem _ (List.mem_cons_self ..))
    rcases h a (List.mem_cons_self ..) with rfl | rfl
    · rcases hc with rfl | rfl
      · rfl
      · rfl
    · rfl
theorem read_b {cs : List Nat} (h : ∀ c ∈ cs, IsB c) (hne : cs ≠ []) : (int_private% "readNumeral") 0 2 cs = (int_private% "Numeral.value") ((binNum cs : Nat) : Int) := by
  have hr : ∀ c ∈ cs.reverse, IsB c := fun c hc => h c (List.mem_reverse.mp hc)
  refine (readNumeral_eq 0 2 cs).trans ?_
  rw [dropB h, signB h]
  show judge 0 false (based 2 cs).1 (based 2 cs).2.1 (digits? (based 2 cs).1 (((based 2 cs).2.2.reverse.dropWhile blank).reverse)) = _
  rw [basedB h]
  show judge 0 false 2 false (digits? 2 ((cs.reverse.dropWhile blank).reverse)) = _
  rw [dropB hr, List.reverse_reverse, digits_b h hne]
  show (int_private% "Numeral.value") (((cs.foldl (fun acc c => acc.push (c - 48)) (#[] : Array Nat)).foldl (fun acc d => acc * 2 + d) 0 : Nat) : Int) = _
  have z : (#[] : Array Nat).foldl (fun acc d => acc * 2 + d) 0 = 0 := by first | rfl | simp
  rw [push_b, z] <;> rfl
set_option maxHeartbeats 4000000 in
theorem gives_b {x : PySem.Str} {u t : Tok} (hl : x.length ≤ 640) (h : ∀ c ∈ x.cps.toList, IsB c) (hne : x.cps.toList ≠ []) :
    Gives (Builtin.«int.__new__» ⟨[.type "int", .str x u, .int 2 t], []⟩) (.int ((binNum x.cps.toList : Nat) : Int)) :=
  .of_wp fun M A E s Q hQ => by
    obtain ⟨hp, g, d, tk, os⟩ := s
    have f1 := F.conv_sub_int
    have f2 := F.madeHere_int
    have f6 : typeOf (.str x u) = pure (.type "str") := rfl
    obtain ⟨e1, e2⟩ := Hx.seen_hex fun c hc => isHex (h c hc)
    have hs : (numSeenOf x).length ≤ 640 := by
      rw [e2, Array.length_toList]
      exact hl
    have hr : (int_private% "readNumeral") 0 2 (numSeenOf x) = (int_private% "Numeral.value") ((binNum x.cps.toList : Nat) : Int) := by
      rw [e2]
      exact read_b h hne
    have ha : ((numSeenOf x).length == (numTextOf x).length) = true := by
      rw [e1, e2]
      exact beq_self_eq_true _
    have hk := Hx.Hid.mk (And.intro hs (And.intro hr ha))
    clear hs hr ha e1 e2 hl hne h
    repeat (any_goals (first
      | assumption
      | ((with_reducible show wpAny _ _ ((int_private% "intFromText") _ _ _) _ _ _); refine Hx.wp_textB hk.out.1 hk.out.2.1 hk.out.2.2 ?_)
      | wp_step))
    all_goals first | exact ⟨_, rfl, hQ⟩ | skip
theorem call_b {prog : Program} {w : World} {A : Around} {E : Value → Shared → Prop} {s : Shared} {Q : Value → Shared → Prop} {x : PySem.Str} {u t : Tok} (hl : x.length ≤ 640) (h : ∀ c ∈ x.cps.toList, IsB c) (hne : x.cps.toList ≠ [])
    (hQ : Q (.int ((binNum x.cps.toList : Nat) : Int) s.toks) { s with toks := s.toks + 1 }) : wpAny (model prog w) A (call (.type "int") [.str x u, .int 2 t]) Q E s :=
  callType_new F.called_int F.newNe_int (Hx.typeCall_int_2 _ _) (Hx.newCall_int_2 _ _) (fun obj => F.initArgs_range_2 obj _ _) F.entry_int_new (gives_b hl h hne).meets (show (Made.int ((binNum x.cps.toList : Nat) : Int)).post _ s from ⟨rfl, hQ⟩)
end Bn
/-- int(t, 2) -/
def rIntB : List V → Hp → VK → Prop := fun xs H Q => ∃ x : PySem.Str, xs = [.str x, .int 2] ∧ x.cps.toList ≠ [] ∧ x.length ≤ 640 ∧ (∀ c ∈ x.cps.toList, Bn.IsB c) ∧ Q (.int ((Bn.binNum x.cps.toList : Nat) : Int)) H
theorem call_int_b {X : Cx} : CallR X (.type "int") rIntB := by
  intro pins s σ H xs us Q I r h
  obtain ⟨x, rfl, hne, hl, hx, q⟩ := h
  obtain ⟨u, w', rfl, r1, r2⟩ := vals2 r
  obtain ⟨t1, rfl⟩ := r1
  obtain ⟨t2, rfl⟩ := r2
  exact Bn.call_b hl hx hne ⟨.int ((Bn.binNum x.cps.toList : Nat) : Int), H, I.tok _, ⟨_, rfl⟩, q⟩
/-! how often one sign stands in a text -/
namespace Bn
open Builtin Builtin.Str StrLaws
end Bn
end L2
end

section
set_option Elab.async false
set_option linter.all false
set_option maxRecDepth 100000
set_option maxHeartbeats 2000000
/-! f"{n:b}" of a number that is not below 0 -/
namespace PyProof.Rows
open PySem Builtin Float
def bitL (n : Nat) : List Nat := (Nat.toDigits 2 n).map Char.toNat
def bitT (n : Nat) : Str := ⟨(bitL n).toArray⟩
def specB : FormatSpec := { align := 62, type := some 98 }
theorem parse_b : parseFormatSpec ("b" : Str).cps.toList "int" 62 = .ok specB := by kernel_rfl
theorem bitT_length (n : Nat) : (bitT n).length = (Nat.toDigits 2 n).length := by
  show (bitL n).toArray.size = _
  unfold bitL
  rw [List.size_toArray, List.length_map]
section
variable {prog : Program} {w : World} {A : Around} {E : Value → Shared → Prop} {s : Shared}
theorem mkStr_to {x y : Str} {Q : Value → Shared → Prop} (e : x = y) (hy : y.length ≤ sizeLine) (h : Q (.str y s.toks) { s with toks := s.toks + 1 }) : wpAny (model prog w) A (mkStr x) Q E s := by
  subst e
  exact wpAny_mkStr h hy
set_option maxRecDepth 100000 in
theorem formatField_bin {n : Nat} {t : Tok} {Q : Value → Shared → Prop} (hl : (Nat.toDigits 2 n).length ≤ sizeLine)
    (h : Q (.str (bitT n) (s.toks + 1)) { s with toks := s.toks + 1 + 1 }) :
    wpAny (model prog w) A (formatField (.int (n : Int) t) ("b" : Str)) Q E s := by
  have hne : (("b" : Str).length == 0) = false := by decide +kernel
  have hasc : ((("b" : Str).cps.toList.drop 1).any (· ≥ 128) || (("b" : Str).cps.getD 0 0 ≥ 128 && !([60, 62, 61, 94] : List Nat).contains (("b" : Str).cps.getD 1 0))) = false := by decide +kernel
  have hlen : (bitT n).length ≤ sizeLine := by rw [bitT_length]; exact hl
  show wpAny _ _ (holding [.int (n : Int) t] (pyFormat (.int (n : Int) t) ("b" : Str))) Q E s
  refine wpAny_holding ?_
  unfold pyFormat
  refine wpAny_bind (wpAny_mkStr ?_ (by rw [sizeLine_eq]; decide +kernel))
  refine wpAny_bind (m := callSpecial? (.int (n : Int) t) (Str.ofString "__format__") [.str ("b" : Str) s.toks]) (wpAny_callSpecial?_slot (name := Str.ofString "__format__") (typeIs_int _ (n : Int) t) slot_int_format ?_)
  refine wpAny_call (codeAny_call_builtin slot_int_format.plain entry_int_format (slot_int_format.check _ _ _ _ _ _ _ _ (typeIs_int _ (n : Int) t) (args_int_format _ _) ?_))
  unfold Builtin.«int.__format__»
  simp only [selfAndOne, noKeywords, Int.intOfSelf, asInt?, asStr?, List.isEmpty_nil, if_true, pure_bind, bind_pure, bind_assoc, hne, hasc, Bool.false_eq_true, if_false,
    show (Value.str ("b" : Str) s.toks == Value.none) = false from rfl]
  refine wpAny_bind (wpAny_typeNameOf (T := "str") (typeIs_str _ _ _) (by decide) fun _ => ?_)
  refine wpAny_bind (wpAny_typeNameOfCut_int ?_)
  simp only [parse_b]
  show wpAny _ _ (if _ then _ else _) _ _ _
  rw [if_pos (by decide +kernel)]
  show wpAny _ _ (retStr _) _ _ _
  unfold retStr
  refine wpAny_bind (mkStr_to (y := bitT n) ?_ hlen (wpAny_pure ?_))
  · have nn : decide ((n : Int) < 0) = false := decide_eq_false (by omega)
    have ab : ((n : Int)).natAbs = n := Int.natAbs_natCast n
    rw [nn, ab]
    have al : specB.alt = false := rfl
    have ty : specB.type = some 98 := rfl
    simp only [al, ty, Bool.false_eq_true, if_false, Option.getD_some, show ((98 : Nat) == 88) = false by decide, show ((2 : Nat) == 10) = false by decide]
    conv => lhs; whnf
    have hne2 : (List.map Char.toNat (Nat.toDigits 2 n)).isEmpty = false := by
      rw [List.isEmpty_map]
      cases hd : Nat.toDigits 2 n with
      | nil => exact absurd hd (by
          have := Nat.length_toDigits_pos (b := 2) (n := n)
          intro z
          rw [z] at this
          exact absurd this (by decide))
      | cons a r => rfl
    have w0 : specB.width = none := rfl
    have g0 : specB.grouping = none := rfl
    have s0 : specB.sign = none := rfl
    have fa : (specB.fill == 48 && specB.align == 61) = false := by decide
    simp only [w0, g0, s0, fa, hne2, Bool.false_eq_true, if_false, List.length_nil, Int.toNat_zero, Nat.zero_sub, List.replicate_zero, List.nil_append, List.append_nil]
    have pz : ∀ m : Nat, ((-1 : Int) - (((0 : Nat) : Int) + ((0 : Nat) : Int) + ((0 : Nat) : Int)) - (m : Int)).toNat = 0 := fun m => by omega
    rw [pz]
    rfl
  · dsimp only
    exact wpAny_bind (wpAny_isInstance (typeIs_str _ _ _) isSubtype_str_str (wpAny_pure h))
end
end PyProof.Rows
namespace PyProof.Rows
open PySem
def revL (n : Nat) : List Nat := (bitL n).reverse
def bitC (b : Bool) : Nat := if b then 49 else 48
theorem revL_small {n : Nat} (h : n < 2) : revL n = [bitC (n.testBit 0)] := by
  unfold revL bitL
  rw [Nat.toDigits_of_lt_base h]
  have : n = 0 ∨ n = 1 := by omega
  rcases this with rfl | rfl <;> rfl
theorem revL_step {n : Nat} (h : 2 ≤ n) : revL n = bitC (n.testBit 0) :: revL (n / 2) := by
  unfold revL bitL
  rw [Nat.toDigits_of_base_le (by decide) h, List.map_append, List.reverse_append]
  show [(n % 2).digitChar.toNat].reverse ++ _ = _
  have e : (n % 2).digitChar.toNat = bitC (n.testBit 0) := by
    rw [Nat.testBit_zero]
    have : n % 2 = 0 ∨ n % 2 = 1 := by omega
    rcases this with z | z <;> rw [z] <;> rfl
  rw [e]
  rfl
theorem revL_at : ∀ (n k : Nat), (∀ c, (revL n)[k]? = some c → c = bitC (n.testBit k)) ∧ ((revL n).length ≤ k → n.testBit k = false) := by
  intro n
  induction n using Nat.strongRecOn with
  | _ n ih =>
    intro k
    by_cases h : n < 2
    · rw [revL_small h]
      cases k with
      | zero => exact ⟨fun c e => (Option.some.inj e).symm, fun z => absurd z (by simp)⟩
      | succ k =>
        refine ⟨fun c e => (nomatch e), fun _ => ?_⟩
        rw [Nat.testBit_succ, show n / 2 = 0 by omega]
        exact Nat.zero_testBit k
    · rw [revL_step (by omega)]
      cases k with
      | zero => exact ⟨fun c e => (Option.some.inj e).symm, fun z => absurd z (by simp)⟩
      | succ k =>
        obtain ⟨h1, h2⟩ := ih (n / 2) (by omega) k
        rw [Nat.testBit_succ]
        refine ⟨fun c e => h1 c e, fun z => h2 ?_⟩
        rw [List.length_cons] at z
        omega
theorem revL_length (n : Nat) : (revL n).length = (bitT n).length := by
  unfold revL
  rw [List.length_reverse]
  rfl
/-- the positions of the ones, rising -/
def onesL (n : Nat) : List Nat := (List.range (revL n).length).filter n.testBit
theorem mem_onesL {n k : Nat} : k ∈ onesL n ↔ n.testBit k = true := by
  unfold onesL
  rw [List.mem_filter, List.mem_range]
  refine ⟨fun h => h.2, fun h => ⟨Nat.lt_of_not_le fun z => ?_, h⟩⟩
  rw [(revL_at n k).2 z] at h
  exact nomatch h
theorem revL_len_le {n m : Nat} (h : n < 2 ^ m) (hm : 0 < m) : (revL n).length ≤ m := by
  unfold revL bitL
  rw [List.length_reverse, List.length_map]
  exact (Nat.length_toDigits_le_iff (by decide) hm).mpr h
/-- the same below any bound of the number -/
theorem onesL_range {n m : Nat} (h : n < 2 ^ m) : onesL n = (List.range m).filter n.testBit := by
  have key : ∀ j, (List.range ((revL n).length + j)).filter n.testBit = onesL n := by
    intro j
    induction j with
    | zero => rfl
    | succ j ih =>
      rw [← Nat.add_assoc, List.range_succ, List.filter_append, ih]
      have z := (revL_at n ((revL n).length + j)).2 (Nat.le_add_right _ _)
      simp [z]
  by_cases hm : 0 < m
  · have := revL_len_le h hm
    rw [← key (m - (revL n).length), show (revL n).length + (m - (revL n).length) = m by omega]
  · obtain rfl : m = 0 := by omega
    obtain rfl : n = 0 := by simpa using h
    decide
end PyProof.Rows
namespace L2
open PySem PySem.Spec PyProof.Rows
section
variable {X : Cx}
/-- {x:b} of a number that is not below 0 -/
def tFmtB (te : TE) : TE := fun σ H Q => te σ H fun x H1 => ∃ n : Nat, x = .int n ∧ (revL n).length ≤ sizeLine ∧ Q (.str (bitT n)) H1
theorem pe_fmtB {e : Expr} {te : TE} {k : Nat} {p1 p2 pos : Pos} (he : PE X e te) : PE X (.FormattedValue e (-1) (some (.JoinedStr [.Constant (.str "b") k p1] p2)) pos) (tFmtB te) := by
  refine ⟨fun pins s σ H Q I h => ?_⟩
  refine wpAny_FormattedValue_spec (thn (he.run pins s σ H _ I h) fun v s1 hv => ?_)
  obtain ⟨x, H1, I1, r1, n, rfl, hz, q⟩ := hv
  obtain ⟨t, rfl⟩ := r1
  refine wpAny_JoinedStr_one (wpAny_Constant_str ?_)
  refine ⟨_, _, rfl, ?_⟩
  exact formatField_bin (by rw [← bitT_length, ← revL_length]; exact hz) ⟨.str (bitT n), H1, (I1.tok _).tok _, ⟨_, rfl⟩, q⟩
end
end L2
end

section
set_option Elab.async false
set_option linter.all false
set_option maxRecDepth 100000
set_option maxHeartbeats 2000000
/-! s[::-1] of a text; enumerate of a text -/
namespace L2.Gd
open PySem PySem.Spec PyProof.Rows
open Builtin Builtin.Str
def revS (z : Str) : Str := ⟨z.cps.toList.reverse.toArray⟩
theorem revS_ix (n : Nat) : strSliceIndices none none (-1) n = (List.range n).reverse := by
  have e : strSliceIndices none none (-1) n = sliceRange ((n : Int) - 1) (-1) (-1) := rfl
  rw [e, PySem.W.krv_sliceRange, PySem.W.krv_range]
theorem revS_cut (z : Str) : (⟨((strSliceIndices none none (-1) z.length).filterMap (z.cps[·]?)).toArray⟩ : Str) = revS z := by
  rw [revS_ix]
  unfold revS
  rw [List.filterMap_reverse]
  have : (List.range z.length).filterMap (z.cps[·]?) = z.cps.toList := PySem.W.krv_all z.cps
  rw [this]
def tRevS (te : TE) : TE := fun σ H Q => te σ H fun x H1 => ∃ z, x = .str z ∧ z.length ≤ sizeLine ∧ Q (.str (revS z)) H1
theorem pe_revS {X : Cx} {e : Expr} {te : TE} {k : Nat} {p1 p2 p3 pos : Pos} (he : PE X e te) : PE X (.Subscript e (.Slice none none (some (.UnaryOp .USub (.Constant (.int 1) k p1) p2)) p3) pos) (tRevS te) := by
  refine ⟨fun pins s σ H Q I h => ?_⟩
  refine Subscript_ (thn (he.run pins s σ H _ I h) fun v s1 ⟨x, H1, I1, r1, q1⟩ => ?_)
  obtain ⟨z, ex, hz, q⟩ := q1
  subst ex
  obtain ⟨t, rfl⟩ := r1
  have hst : PO X (some (.UnaryOp .USub (.Constant (.int 1) k p1) p2)) (tPart (tUn (rU fun i => .int (-i)) (tC (.int 1)))) := po_some (pe_un un_neg pe_int)
  refine wpAny_Slice (thn (po_none.run pins s1 σ H1 (fun o H2 => o = none ∧ H2 = H1) I1 ⟨rfl, rfl⟩) fun vl s2 ⟨l, H2, I2, pl, el, e2⟩ => ?_)
  subst el e2
  refine thn (po_none.run pins s2 σ H2 (fun o H3 => o = none ∧ H3 = H2) I2 ⟨rfl, rfl⟩) fun vu s3 ⟨u, H3, I3, pu, eu, e3⟩ => ?_
  subst eu e3
  refine thn (hst.run pins s3 σ H3 (fun o H4 => o = some (-1) ∧ H4 = H3) I3 ⟨1, rfl, -1, rfl, rfl, rfl⟩) fun vs s4 ⟨o, H4, I4, ps, eo, e4⟩ => ?_
  subst eo e4
  have I5 : Inv X pins σ H4 { s4 with heap := s4.heap.push { cls := .type "slice", data := .fields #[vl, vu, vs] } } := I4.kept (t' := s4.toks) fun b ob q => Heap.get?_push_of_some _ q
  obtain ⟨l', rfl, el⟩ := IsPart.raw pl
  obtain ⟨u', rfl, eu⟩ := IsPart.raw pu
  obtain ⟨st', rfl, es⟩ := IsPart.raw ps
  show wpAny (model X.prog X.w) X.A (subscriptTail e (.Slice none none (some (.UnaryOp .USub (.Constant (.int 1) k p1) p2)) p3) (.str z t) (.ref s4.heap.objs.size)) (EP X pins σ Q) X.xe { s4 with heap := s4.heap.push { cls := .type "slice", data := .fields #[partValue l', partValue u', partValue st'] } }
  refine tail_any (ops := [.ref s4.heap.objs.size, .str z t]) (typeIs_str _ _ _) (F.slot_str_getitem.lookup) ?_ (by with_unfolding_all rfl)
  refine wpAny_getItem_str_slice (l := l') (u := u') (st := st') ⟨_, Heap.get?_push_size _ rfl, rfl, rfl⟩ (by rw [es]; rfl) ?_
  have e1 : slicePicked z l' u' st' = strSliceIndices none none (-1) z.length := by
    unfold slicePicked
    rw [el, eu, es]
    rfl
  have hl : (revS z).length ≤ sizeLine := by
    show (z.cps.toList.reverse.toArray).size ≤ sizeLine
    rw [List.size_toArray, List.length_reverse, Array.length_toList]
    exact hz
  unfold sliceMade
  rw [e1, es, revS_cut]
  show Made.post (if ((-1 : Int) == 1 && _) = true then _ else _) _ _
  rw [if_neg (fun h => absurd (Bool.and_eq_true_iff.mp h).1 (by decide))]
  exact ⟨hl, .str _, _, I5.tok _, ⟨_, rfl⟩, q⟩
/-! ### enumerate of a text -/
def IteS (x : Str) : It where
  go := fun i _ => i < x.cps.size
  yld := fun i H v H' => ∃ T c, v = .ref T ∧ H T = none ∧ H' = upd H T (.tup [.int (i : Nat), .str ⟨#[c]⟩]) ∧ x.cps[i]? = some c
  stop := fun i _ => x.cps.size ≤ i
theorem drawsS {prog : Program} {w : World} {A : Around} (hh : A.handled = none) (I : Addr) (x : Str) (t : Tok) :
    Draws prog w A I [I] x.cps.size (fun i v => ∃ c u, x.cps[i]? = some c ∧ v = .str ⟨#[c]⟩ u) (fun i h => h.IsStrIter I (strIterType x) x t i) := by
  unfold strIterType
  by_cases h : x.cps.all (· < 128) = true
  · rw [if_pos h]
    exact Draws.strAscii hh I x t
  · rw [if_neg h]
    exact Draws.strWide hh I x t
theorem turn_enumS {P : Program} {w : World} {K : PySem.W.Frag} {elts : List Expr} {kk : Nat} {tpos : Pos} (x : Str) (t : Tok) (e I : Addr) :
    Turn P w K (.Tuple elts kk tpos) (IteS x) [e, I] e (fun i h => (∃ old, IsEnum h e I ((i : Nat) : Int) old) ∧ h.IsStrIter I (strIterType x) x t i ∧ i ≤ x.cps.size ∧ e ≠ I) where
  mem := List.mem_cons_self
  obj := by
    rintro i h ⟨⟨old, he⟩, ⟨o, ho, hc, hd⟩, _⟩ b hb
    rcases List.mem_cons.mp hb with rfl | hb
    · exact ⟨_, he, fun v q => nomatch q⟩
    · obtain rfl := List.mem_singleton.mp hb
      exact ⟨o, ho, fun v q => by rw [hd] at q; exact nomatch q⟩
  keep := by
    rintro i h h' ⟨⟨old, he⟩, ⟨o, ho, r⟩, le, ne⟩ k
    exact ⟨⟨old, k e (by simp) _ he⟩, ⟨o, k I (by simp) _ ho, r⟩, le, ne⟩
  item := by
    rintro X hP hw hK hc i pins s σ H E J hf ⟨⟨old, he⟩, it, lei, ne⟩ lt
    subst hP hw hK
    have lt : i < x.cps.size := lt
    have le : e < s.heap.objs.size := Heap.lt_size he
    have li : I < s.heap.objs.size := let ⟨_, q, _⟩ := it; Heap.lt_size q
    refine wpAny_pyNext_enum_itemD (drawsS (A := X.A.in1) (J.ok.hd hc) I x t) he it lt ne (by simpa using ne) ?_
    intro u h1 tk ⟨c, ut, hcx, hu⟩ out it1 tup1 z1 k1
    subst hu
    refine ⟨_, rfl, wpAny_letOwnedTupleGo_enum (s := { s with heap := h1, toks := tk + 1 }) out ?_⟩
    intro h2 he2 sb
    have tup2 : h2.get? s.heap.objs.size = some { cls := .type "tuple", data := .seq #[.int i tk, .str ⟨#[c]⟩ ut] } := (sb.2 _ (Nat.ne_of_gt le)).trans tup1
    have new : ObjOk X.prog X.w (upd H s.heap.objs.size (.tup [.int (i : Nat), .str ⟨#[c]⟩])) h2 s.heap.objs.size (.tup [.int (i : Nat), .str ⟨#[c]⟩]) :=
      ⟨by show 2 ≤ sizeLine; decide, [.int i tk, .str ⟨#[c]⟩ ut], .cons ⟨_, rfl⟩ (.cons ⟨_, rfl⟩ .nil), ⟨_, tup2, rfl, _, rfl⟩⟩
    have J1 : Inv X pins σ (upd H s.heap.objs.size (.tup [.int (i : Nat), .str ⟨#[c]⟩])) { s with heap := h2, toks := tk + 1 } := by
      refine J.turnedNew (ch := [e, I]) (fun b o hb q => ?_) hf (Nat.le_refl _) new
      have b1 : b ≠ e := fun z => hb (by simp [z])
      have b2 : b ≠ I := fun z => hb (by simp [z])
      exact (sb.2 b b1).trans (k1 b o b1 b2 q)
    refine ⟨.ref s.heap.objs.size, _, J1, rfl, ⟨_, c, rfl, J.hok.fresh (Nat.le_refl _), rfl, hcx⟩, ⟨⟨.str ⟨#[c]⟩ ut, ?_⟩, ?_, lt, ne⟩, ?_⟩
    · rw [show ((i + 1 : Nat) : Int) = (i : Int) + 1 by omega]
      exact he2
    · obtain ⟨o, ho, r⟩ := it1
      exact ⟨o, (sb.2 I (Ne.symm ne)).trans ho, r⟩
    · intro b hb
      have lb : b < s.heap.objs.size := by
        rcases List.mem_cons.mp hb with rfl | q
        · exact le
        · obtain rfl := List.mem_singleton.mp q
          exact li
      rw [upd_ne (Nat.ne_of_lt lb)]
      exact (hf b hb).1
  done := by
    rintro X hP hw hK hc i pins s σ H E J hf ⟨⟨old, he⟩, it, lei, ne⟩ hx
    subst hP hw hK
    have hx : x.cps.size ≤ i := hx
    obtain rfl : i = x.cps.size := by omega
    obtain ⟨f0, f1, f2, f3, f4, f5⟩ := hf I (by simp)
    refine wpAny_pyNext_enum_endD (drawsS (A := X.A.in1) (J.ok.hd hc) I x t) he it ?_
    intro h1 eb
    exact ⟨rfl, J.turned (t' := s.toks) (fun b o hb q => eb b o hb q) f0 f1 f3 f4 f5⟩
  self := by
    rintro A i s Q E ⟨⟨_, he⟩, _⟩ h
    exact wpAny_pyIter_enum he h
def iEnumS (ta : TA) : TI := fun σ H R => ta σ H fun vs H1 => ∃ x, vs = [.str x] ∧ R (IteS x) H1
theorem pi_enumS {X : Cx} {e : Expr} {ta : TA} {p pos tpos : Pos} {elts : List Expr} {kk : Nat} (hg : Gl X "enumerate") (hm : X.mg "enumerate" = none) (ha : PA X [e] ta)
    (hs : starEach [e] X.env = [(false, eval e X.env)] := by rfl) :
    PI X (.Tuple elts kk tpos) (.Call (.Name "enumerate" p) [e] [] pos) (iEnumS ta) := by
  constructor
  intro pins s σ H R J h
  refine Call_ (ld_blt J hg hm boot_enumerate (PyProof.Rows.callWith_type1 (thn (ha.run pos pins s σ H _ J h) ?_) hs rfl))
  rintro us s1 ⟨vs, H1, J1, r1, x, rfl, q⟩
  cases r1 with
  | cons r rr =>
    cases rr
    obtain ⟨t, rfl⟩ := r
    have fp : ∀ b ∈ [s1.heap.objs.size + 1, s1.heap.objs.size], FpOk X pins H1 b := by
      intro b hb
      have le : s1.heap.objs.size ≤ b := by
        rcases List.mem_cons.mp hb with rfl | q
        · omega
        · obtain rfl := List.mem_singleton.mp q
          exact Nat.le_refl _
      exact J1.fpOk le (J1.hok.fresh le)
    refine call_enumerate_str ?_
    intro h' he it z k
    exact wpAny_pyIter_enum he ⟨_, _, _, _, H1, rfl, J1.kept (t' := s1.toks) k, turn_enumS x t (s1.heap.objs.size + 1) s1.heap.objs.size,
      ⟨⟨.none, he⟩, it, Nat.zero_le _, Nat.succ_ne_self _⟩, fp, q⟩
end L2.Gd
end

section
set_option Elab.async false
set_option linter.all false
set_option maxRecDepth 100000
set_option maxHeartbeats 1000000
/-! bits as a text: its ones, the text turned round -/
namespace L2.Bt
open PySem Builtin Builtin.Str StrLaws PyProof.Rows L2.Gd L2.Ln
theorem occ_cnt (x : PySem.Str) (c limit : Nat) : ∀ (cs : List Nat) (a : Nat) (st : Array Nat × Nat), x.cps.toList.drop a = cs → st.snd ≤ a → st.fst.size + cs.length < limit →
    (forIn (List.range' a (cs.length + 1)) st (occBody x ⟨#[c]⟩ x.length limit)).run.fst.size = st.fst.size + cs.countP (· == c)
  | [], a, st, e, h1, h2 => by
    have no : ¬ (a + (⟨#[c]⟩ : PySem.Str).length ≤ x.length ∧ subAt x ⟨#[c]⟩ a = true) := fun z => by
      have z := (subAt_one x c a).mp z
      have := congrArg (fun l => l[0]?) e
      rw [List.getElem?_drop, Nat.add_zero, z] at this
      exact nomatch this
    rw [show List.range' a (([] : List Nat).length + 1) = a :: List.range' (a + 1) 0 from rfl, List.forIn_cons]
    unfold occBody
    rw [if_neg fun z => no ⟨z.1.2, z.2⟩]
    rfl
  | d :: cs, a, st, e, h1, h2 => by
    have e0 : x.cps.toList[a]? = some d := by
      have := congrArg (fun l => l[0]?) e
      rwa [List.getElem?_drop, Nat.add_zero] at this
    have e1 : x.cps.toList.drop (a + 1) = cs := by
      rw [← List.drop_drop, e]
      rfl
    rw [List.length_cons] at h2
    rw [show List.range' a ((d :: cs).length + 1) = a :: List.range' (a + 1) (cs.length + 1) from rfl, List.forIn_cons, List.countP_cons]
    unfold occBody
    by_cases k : d = c
    · subst k
      have yes := (subAt_one x d a).mpr e0
      rw [if_pos ⟨⟨⟨by omega, h1⟩, yes.1⟩, yes.2⟩]
      have := occ_cnt x d limit cs (a + 1) (st.fst.push a, a + (⟨#[d]⟩ : PySem.Str).length) e1 (Nat.le_refl _) (by show (st.fst.push a).size + _ < _; rw [Array.size_push]; omega)
      have this : (forIn (List.range' (a + 1) (cs.length + 1)) (st.fst.push a, a + (⟨#[d]⟩ : PySem.Str).length) (occBody x ⟨#[d]⟩ x.length limit)).run.fst.size = (st.fst.push a).size + _ := this
      rw [Array.size_push] at this
      refine Eq.trans this ?_
      rw [if_pos (beq_self_eq_true d)]
      omega
    · rw [if_neg fun z => k (by
        have := (subAt_one x c a).mp ⟨z.1.2, z.2⟩
        rw [e0] at this
        exact Option.some.inj this)]
      refine (occ_cnt x c limit cs (a + 1) (st.fst, st.snd) e1 (by show st.snd ≤ a + 1; omega) (by show st.fst.size + _ < _; omega)).trans ?_
      rw [if_neg fun z => k (beq_iff_eq.mp z)]
      rfl
theorem count_one (x : PySem.Str) (c : Nat) : Txt.count x ⟨#[c]⟩ = ((x.cps.toList.countP (· == c) : Nat) : Int) := by
  unfold Txt.count
  rw [occ_eq, Array.length_toList]
  have e : x.length + 1 - 0 = x.cps.toList.length + 1 := by
    rw [Array.length_toList]
    rfl
  have := occ_cnt x c (x.length + 1) x.cps.toList 0 (#[], 0) rfl (Nat.le_refl _) (by
    rw [Array.length_toList]
    show 0 + x.length < x.length + 1
    omega)
  rw [e, this]
  congr 1
  show 0 + _ = _
  omega
/-- the signs of n, the lowest first, m of them -/
def sgL (n m : Nat) : List Nat := (List.range m).map fun i => bitC (n.testBit i)
theorem revL_sg (n : Nat) : revL n = sgL n (revL n).length := by
  apply List.ext_getElem?
  intro i
  unfold sgL
  rw [List.getElem?_map]
  by_cases h : i < (revL n).length
  · rw [List.getElem?_range h, List.getElem?_eq_getElem h]
    exact congrArg some ((revL_at n i).1 _ (List.getElem?_eq_getElem h))
  · rw [List.getElem?_eq_none (by omega), List.getElem?_eq_none (by rw [List.length_range]; omega)]
    rfl
theorem sg_succ (n m : Nat) : sgL n (m + 1) = sgL n m ++ [bitC (n.testBit m)] := by
  unfold sgL
  rw [List.range_succ, List.map_append]
  rfl
theorem sg_len (n m : Nat) : (sgL n m).length = m := by
  unfold sgL
  rw [List.length_map, List.length_range]
theorem sg_more (n m k : Nat) (h : ∀ i, m ≤ i → n.testBit i = false) : sgL n (m + k) = sgL n m ++ List.replicate k 48 := by
  induction k with
  | zero => simp
  | succ k ih =>
    rw [← Nat.add_assoc, sg_succ, ih, h _ (by omega), List.append_assoc, List.replicate_succ']
    rfl
/-- the text turned round, filled up before -/
theorem back_text {n m : Nat} (h : n < 2 ^ m) (m0 : 0 < m) : (revS (Txt.zfill (bitT n) (m : Int))).cps.toList = sgL n m := by
  have le := revL_len_le h m0
  have ll : (bitT n).length = (revL n).length := (revL_length n).symm
  have big : sgL n m = revL n ++ List.replicate (m - (revL n).length) 48 := by
    have := sg_more n (revL n).length (m - (revL n).length) (revL_at n · |>.2)
    rw [show (revL n).length + (m - (revL n).length) = m by omega] at this
    rw [this, ← revL_sg]
  have rv : ∀ z : PySem.Str, (revS z).cps.toList = z.cps.toList.reverse := fun z => rfl
  rw [rv, big]
  unfold Txt.zfill
  by_cases c : (m : Int) ≤ ((bitT n).length : Int)
  · rw [if_pos c, show m - (revL n).length = 0 by omega, List.replicate_zero, List.append_nil]
    rfl
  · rw [if_neg c, Int.toNat_natCast, ll]
    have pos : 0 < (revL n).length := by
      unfold revL bitL
      rw [List.length_reverse, List.length_map]
      exact Nat.length_toDigits_pos
    have fst : ∀ d, (bitT n).cps[0]? = some d → d = 48 ∨ d = 49 := fun d e => by
      have e : (bitL n)[0]? = some d := by
        have e2 : (bitT n).cps = (bitL n).toArray := rfl
        rw [e2, List.getElem?_toArray] at e
        exact e
      have hm : d ∈ revL n := List.mem_reverse.mpr (List.mem_of_getElem? e)
      obtain ⟨i, hi⟩ := List.getElem?_of_mem hm
      rw [(revL_at n i).1 d hi]
      cases n.testBit i
      · exact .inl rfl
      · exact .inr rfl
    have pd : zfilled (bitT n) (m - (revL n).length) = padded (bitT n) (m - (revL n).length) 0 48 := by
      unfold zfilled
      split
      · rename_i e
        rcases fst _ e with z | z <;> exact absurd z (by decide)
      · rename_i e
        rcases fst _ e with z | z <;> exact absurd z (by decide)
      · rfl
    rw [pd]
    unfold padded
    show (Array.replicate (m - (revL n).length) 48 ++ (bitT n).cps ++ Array.replicate 0 48).toList.reverse = _
    rw [Array.toList_append, Array.toList_append, Array.toList_replicate, Array.toList_replicate, List.replicate_zero, List.append_nil, List.reverse_append, List.reverse_replicate]
    rfl
/-- .. read as a number -/
def backN (n m : Nat) : Nat := Bn.binNum (sgL n m)
theorem backN_succ (n m : Nat) : backN n (m + 1) = 2 * backN n m + (n.testBit m).toNat := by
  unfold backN
  rw [sg_succ]
  unfold Bn.binNum
  rw [List.foldl_append]
  show List.foldl _ 0 (sgL n m) * 2 + (bitC (n.testBit m) - 48) = _
  rw [Nat.mul_comm]
  cases n.testBit m <;> rfl
theorem backN_bit (n : Nat) : ∀ m, backN n m < 2 ^ m ∧ ∀ j, j < m → (backN n m).testBit j = n.testBit (m - 1 - j)
  | 0 => ⟨by show 0 < 1; decide, fun j h => absurd h (by omega)⟩
  | m + 1 => by
    obtain ⟨h1, h2⟩ := backN_bit n m
    rw [backN_succ]
    have t2 : (n.testBit m).toNat < 2 := by cases n.testBit m <;> decide
    refine ⟨by rw [Nat.pow_succ]; omega, fun j hj => ?_⟩
    cases j with
    | zero =>
      rw [Nat.testBit_zero, show m + 1 - 1 - 0 = m by omega, Nat.mul_add_mod]
      cases n.testBit m <;> rfl
    | succ j =>
      rw [Nat.testBit_succ, show (2 * backN n m + (n.testBit m).toNat) / 2 = backN n m by omega, h2 j (by omega)]
      congr 1
      omega
theorem sg_is {n m : Nat} : ∀ c ∈ sgL n m, Bn.IsB c := fun c hc => by
  unfold sgL at hc
  obtain ⟨i, _, e⟩ := List.mem_map.mp hc
  rw [← e]
  cases n.testBit i
  · exact .inl rfl
  · exact .inr rfl
/-- the pattern turned round -/
theorem back_pat {p b : Nat} (p0 : 0 < p) (hb : b < 2 ^ p) (n : Int) : pat p (turnN (backN b p) p 1) n = pat p b (-n) := by
  obtain ⟨h1, h2⟩ := backN_bit b p
  rw [turn_pat p0 h1]
  have e := Int.emod_add_mul_ediv (n - 1) p
  have g0 := Int.emod_nonneg (n - 1) (show (p : Int) ≠ 0 by omega)
  have g1 := mod_lt' p0 (n - 1)
  have l1 : pat p (backN b p) (n - 1) = (backN b p).testBit ((n - 1) % (p : Int)).toNat := rfl
  rw [l1, h2 _ g1]
  have ei : (((n - 1) % (p : Int)).toNat : Int) = (n - 1) % p := Int.toNat_of_nonneg g0
  generalize ((n - 1) % (p : Int)).toNat = i at ei g1 ⊢
  have : -n = ((p - 1 - i : Nat) : Int) + (-((n - 1) / p) - 1) * p := by
    rw [Int.sub_mul, Int.neg_mul, Int.mul_comm ((n - 1) / (p : Int)), Int.one_mul]
    omega
  rw [this, pat_add, pat_nat (by omega)]
end L2.Bt
end

section
set_option Elab.async false
set_option linter.all false
set_option maxRecDepth 100000
set_option maxHeartbeats 1000000
namespace L2.K14
open PySem PySem.Spec PyProof.Rows L2.Gd L2.Ln L2.Bt
/-! ### bits as texts -/
section
variable {P : Program} {w : World} {K : PySem.W.Frag} {mg : Str → Option Value} {base : Heap}
theorem rev_len {n m : Nat} (h : n < 2 ^ m) : (revL n).length ≤ m + 1 := revL_len_le (Nat.lt_of_lt_of_le h (Nat.pow_le_pow_right (by decide) (Nat.le_succ m))) (Nat.succ_pos m)
def spBk : Sp := fun vs H Q _ => ∃ n m : Nat, vs = [.int n, .int m] ∧ n < 2 ^ m ∧ 0 < m ∧ m ≤ 640 ∧ Q (.int ((backN n m : Nat) : Int)) H
theorem scBk : FnScope ["bits", "many"] ["bits", "many"] (defScope (top 24)) := ⟨rfl, rfl, rfl, by decide +kernel, rfl, by decide +kernel, by decide +kernel⟩
theorem zf_len {n m : Nat} (h : n < 2 ^ m) (m0 : 0 < m) : (revS (Txt.zfill (bitT n) (m : Int))).length = m := by
  have := congrArg List.length (back_text h m0)
  rw [sg_len, Array.length_toList] at this
  exact this
theorem ok_bk {f : Addr} {fd : FuncData} (F : Fun K "backwards" "backwards" (top 24) f fd) (n : Nm mg) : FnOk P w K mg base CX0 1 f fd ["bits", "many"] spBk := by
  refine F.ok scBk (fun vs H Q E h => ?_) (fun cdv A outer s H vs Q E hr h => ?_)
  · obtain ⟨n, m, rfl, _⟩ := h
    rfl
  · obtain ⟨b, m, rfl, hb, m0, hm, q⟩ := h
    have sl := sizeLine_eq
    have rl := rev_len hb
    have bt := back_text hb m0
    have zl := zf_len hb m0
    have zl2 : (Txt.zfill (bitT b) (m : Int)).length ≤ sizeLine := by
      have e : (revS (Txt.zfill (bitT b) (m : Int))).length = (Txt.zfill (bitT b) (m : Int)).length := by
        show (List.toArray _).size = _
        rw [List.size_toArray, List.length_reverse, Array.length_toList]
        rfl
      omega
    have pad : PadOk (m : Int) = true := by
      unfold PadOk fitsSsize
      unfold Builtin.Str.tooLong
      simp
      omega
    refine ⟨_, pss_one (ps_ret (pe_callTy call_int_b (by rfl) n.int (by decide +kernel) (pa_cons (pe_revS (pe_bm PySem.F.plainAttrs_str PySem.F.slot_str_zfill PySem.F.type_str_zfill mt_zfill (pe_joined1 (pe_fmtB (pv 0))) (pa_cons (pv 1) pa_nil))) (pa_cons pe_int pa_nil)))), ?_⟩
    refine ⟨_, rfl, b, rfl, by omega, rfl, _, rfl, _, _, rfl, rfl, pad, _, rfl, zl2, _, rfl, ?_, by omega, ?_, ?_⟩
    · rw [bt]
      intro z
      have := congrArg List.length z
      rw [sg_len] at this
      exact absurd this (by show ¬ m = 0; omega)
    · rw [bt]
      exact sg_is
    · rw [bt]
      exact q
/-- the pattern of the numbers' opposites -/
def spMr : Sp := fun vs H Q _ => ∃ p b : Nat, vs = [.int b, .int p] ∧ b < 2 ^ p ∧ 0 < p ∧ p ≤ 640 ∧ ∀ b' : Nat, b' < 2 ^ p → (∀ n, pat p b' n = pat p b (-n)) → Q (.int b') H
theorem scMr : FnScope ["bits", "step"] ["bits", "step"] (defScope (top 25)) := ⟨rfl, rfl, rfl, by decide +kernel, rfl, by decide +kernel, by decide +kernel⟩
theorem ok_mr {f : Addr} {fd : FuncData} (F : Fun K "mirrored_rests" "mirrored_rests" (top 25) f fd) (TU : Fn P w K mg base 2 "turned" ["bits", "step", "by"] spTu) (BK : Fn P w K mg base 1 "backwards" ["bits", "many"] spBk) : FnOk P w K mg base CX0 3 f fd ["bits", "step"] spMr := by
  refine F.ok scMr (fun vs H Q E h => ?_) (fun cdv A outer s H vs Q E hr h => ?_)
  · obtain ⟨p, b, rfl, _⟩ := h
    rfl
  · obtain ⟨p, b, rfl, hb, p0, pm, q⟩ := h
    refine ⟨_, pss_one (ps_ret (pe_fn TU hr (pa_cons (pe_fn BK (hr.mono (k := 2) (j := 1) (by decide)) (pa_cons (pv 0) (pa_cons (pv 1) pa_nil))) (pa_cons (pv 1) (pa_cons pe_int pa_nil))))), ?_⟩
    exact ⟨_, rfl, _, rfl, b, p, rfl, hb, p0, pm, _, rfl, backN b p, p, 1, rfl, p0, by omega, (backN_bit b p).1, q _ (turn_lt _ _ _) fun n => back_pat p0 hb n⟩
end
end L2.K14
end

section
set_option Elab.async false
set_option linter.all false
set_option maxRecDepth 100000
set_option maxHeartbeats 1000000
namespace L2.K14
open PySem PySem.Spec PyProof.Rows L2.Gd L2.Ln L2.Bt
theorem prd_mem {α β : Type} {R : α → β → Prop} : ∀ {xs : List α} {ys : List β}, Paired R xs ys → ∀ y ∈ ys, ∃ x ∈ xs, R x y
  | _, _, .cons r t, y, hy => by
    rcases List.mem_cons.mp hy with rfl | z
    · exact ⟨_, List.mem_cons_self, r⟩
    · obtain ⟨x, hx, k⟩ := prd_mem t y z
      exact ⟨x, List.mem_cons_of_mem _ hx, k⟩
theorem prd_meml {α β : Type} {R : α → β → Prop} : ∀ {xs : List α} {ys : List β}, Paired R xs ys → ∀ x ∈ xs, ∃ y ∈ ys, R x y
  | _, _, .cons r t, y, hy => by
    rcases List.mem_cons.mp hy with rfl | z
    · exact ⟨_, List.mem_cons_self, r⟩
    · obtain ⟨x, hx, k⟩ := prd_meml t y z
      exact ⟨x, List.mem_cons_of_mem _ hx, k⟩
theorem prd_rev {α β : Type} {R : α → β → Prop} : ∀ {xs : List α} {ys : List β}, Paired R xs ys → Paired R xs.reverse ys.reverse
  | _, _, .nil => .nil
  | _, _, .cons h t => by
    rw [List.reverse_cons, List.reverse_cons]
    exact pair_app (prd_rev t) (.cons h .nil)
theorem prd_pw {α β : Type} {R : α → β → Prop} {S : α → α → Prop} {T : β → β → Prop} (st : ∀ a b c d, R a c → R b d → S a b → T c d) : ∀ {xs : List α} {ys : List β}, Paired R xs ys → xs.Pairwise S → ys.Pairwise T
  | _, _, .nil, _ => .nil
  | _, _, .cons r t, h => by
    obtain ⟨h1, h2⟩ := List.pairwise_cons.mp h
    refine List.pairwise_cons.mpr ⟨fun y hy => ?_, prd_pw st t h2⟩
    obtain ⟨x, hx, k⟩ := prd_mem t y hy
    exact st _ _ _ _ r k (h1 x hx)
/-! ### the opposites -/
def negO : Option Int → Option Int
  | some i => some (0 - i)
  | none => none
structure Mir (r r' : Rw) : Prop where
  lo : r'.lo = negO r.hi
  hi : r'.hi = negO r.lo
  p : r'.p = r.p
  bl : r'.b < 2 ^ r'.p
  pt : ∀ n, pat r'.p r'.b n = pat r.p r.b (-n)
theorem negO_some {o : Option Int} {i : Int} (h : negO o = some i) : o = some (-i) := by
  cases o with
  | none => exact nomatch h
  | some x =>
    have : 0 - x = i := Option.some.inj h
    rw [show x = -i by omega]
theorem negO_none {o : Option Int} (h : negO o = none) : o = none := by
  cases o with
  | none => rfl
  | some x => exact nomatch h
theorem negO_ge {o : Option Int} {n : Int} : Ge (negO o) n ↔ Le o (-n) := by
  cases o with
  | none => exact ⟨fun _ => le_none _, fun _ => ge_none _⟩
  | some x =>
    show Ge (some (0 - x)) n ↔ _
    rw [ge_some, le_some]
    omega
theorem negO_le {o : Option Int} {n : Int} : Le (negO o) n ↔ Ge o (-n) := by
  cases o with
  | none => exact ⟨fun _ => ge_none _, fun _ => le_none _⟩
  | some x =>
    show Le (some (0 - x)) n ↔ _
    rw [ge_some, le_some]
    omega
theorem mir_in {r r' : Rw} (m : Mir r r') (n : Int) : r'.In n ↔ r.In (-n) := by
  unfold Rw.In
  rw [m.lo, m.hi, m.pt, negO_ge, negO_le]
  exact ⟨fun ⟨a, b, c⟩ => ⟨b, a, c⟩, fun ⟨a, b, c⟩ => ⟨b, a, c⟩⟩
theorem mir_nt {r r' : Rw} (m : Mir r r') (h : Nt r) (ex : ∃ n, r.In n) : Nt r' := by
  refine ⟨⟨by rw [m.p]; exact h.ok.p0, m.bl, fun l x e1 e2 => ?_⟩, fun l e => ?_, fun x e => ?_, fun z => ?_, fun k k0 pk => ?_, fun l x e1 e2 => ?_⟩
  · rw [m.lo] at e1
    rw [m.hi] at e2
    have := h.ok.le _ _ (negO_some e2) (negO_some e1)
    omega
  · rw [m.lo] at e
    exact (mir_in m l).mpr (h.him _ (negO_some e))
  · rw [m.hi] at e
    exact (mir_in m x).mpr (h.lom _ (negO_some e))
  · obtain ⟨n, hn⟩ := ex
    have hn := hn.2.2
    have e := m.pt (-n)
    rw [Int.neg_neg, hn, z, pat_zero] at e
    exact nomatch e
  · rw [m.p]
    refine h.mn k k0 fun n => ?_
    have e := pk (-n - k)
    rw [show -n - (k : Int) + k = -n by omega, m.pt, m.pt, Int.neg_neg, show -(-n - (k : Int)) = n + k by omega] at e
    exact e.symm
  · rw [m.lo] at e1
    rw [m.hi] at e2
    have := h.fin _ _ (negO_some e2) (negO_some e1)
    rw [m.p]
    omega
def _root_.L2.Ln.Zn.mi (Z : Zn) : Zn := ⟨Z.cs.map (0 - ·), Z.w⟩
theorem mi_ok {Z : Zn} {L : Nat} (h : Z.Ok L) : Z.mi.Ok L := by
  refine ⟨h.wb, h.L0, h.Lb, fun c hc d hd => ?_, by show (Z.cs.map (0 - ·)).length ≤ 6; rw [List.length_map]; exact h.cl⟩
  obtain ⟨c', hc', rfl⟩ := List.mem_map.mp hc
  obtain ⟨d', hd', rfl⟩ := List.mem_map.mp hd
  have := h.far c' hc' d' hd'
  omega
theorem mi_near {Z : Zn} {c e : Int} (h : Z.near c (-e)) : Z.mi.near (0 - c) e := by
  obtain ⟨a, b⟩ := h
  refine ⟨?_, ?_⟩
  · show 0 - c - Z.w ≤ e
    omega
  · show e ≤ 0 - c + Z.w
    omega
theorem mi_mem {Z : Zn} {c : Int} (h : c ∈ Z.cs) : 0 - c ∈ Z.mi.cs := List.mem_map.mpr ⟨c, h, rfl⟩
theorem mir_lm {r r' : Rw} {Z : Zn} {L : Nat} (m : Mir r r') (h : Lm Z L r) : Lm Z.mi L r' := by
  refine ⟨fun l e => ?_, fun l e => ?_, ?_⟩
  · rw [m.lo] at e
    obtain ⟨c, hc, n⟩ := h.h _ (negO_some e)
    exact ⟨0 - c, mi_mem hc, mi_near n⟩
  · rw [m.hi] at e
    obtain ⟨c, hc, n⟩ := h.l _ (negO_some e)
    exact ⟨0 - c, mi_mem hc, mi_near n⟩
  · rw [m.p]
    refine h.pd.imp id fun ⟨c, hc, l, x, e1, e2, n1, n2⟩ => ⟨0 - c, mi_mem hc, 0 - x, 0 - l, by rw [m.lo, e2]; rfl, by rw [m.hi, e1]; rfl, mi_near ?_, mi_near ?_⟩
    · rw [show -(0 - x) = x by omega]
      exact n2
    · rw [show -(0 - l) = l by omega]
      exact n1
theorem mir_bef {r r' s s' : Rw} (m : Mir r r') (k : Mir s s') (b : Bef s r) : Bef r' s' := by
  obtain ⟨h, l, e1, e2, lt⟩ := b
  exact ⟨0 - l, 0 - h, by rw [m.hi, e2]; rfl, by rw [k.lo, e1]; rfl, by omega⟩
theorem mir_rows {Z : Zn} {rs out : List Rw} (h : NtS Z 12 rs) (p : Paired Mir rs.reverse out) : NtS Z.mi 12 out ∧ ∀ n, inLB out n = inLB rs (-n) := by
  have len := Paired.length p
  rw [List.length_reverse] at len
  refine ⟨⟨⟨⟨fun r' hr => ?_, ?_⟩, fun r' hr => ?_⟩, by have := h.few; show out.length ≤ 2 * (Z.cs.map (0 - ·)).length + 1; rw [List.length_map]; omega⟩, fun n => inLB_eq ?_⟩
  · obtain ⟨r, hr, m⟩ := prd_mem p r' hr
    have nt := h.ln.nt.nt r (List.mem_reverse.mp hr)
    exact mir_nt m nt (nt_ex nt)
  · refine prd_pw (R := Mir) (S := fun r s => Bef s r) (fun a b c d m k z => mir_bef m k z) p ?_
    exact List.pairwise_reverse.mpr h.ln.nt.so
  · obtain ⟨r, hr, m⟩ := prd_mem p r' hr
    exact mir_lm m (h.ln.lm r (List.mem_reverse.mp hr))
  · rw [inLB_iff]
    constructor
    · rintro ⟨r', hr', im⟩
      obtain ⟨r, hr, m⟩ := prd_mem p r' hr'
      exact ⟨r, List.mem_reverse.mp hr, (mir_in m n).mp im⟩
    · rintro ⟨r, hr, im⟩
      obtain ⟨r', hr', m⟩ := prd_meml p r (List.mem_reverse.mpr hr)
      exact ⟨r', hr', (mir_in m n).mpr im⟩
def spMw : Sp := fun vs H Q _ => ∃ (v : V) (r : Rw), vs = [v] ∧ RowV H v r ∧ r.Ok ∧ r.p ≤ 640 ∧ ∀ (o : Addr) (r' : Rw) (H' : Hp), H o = none → Same H H' → RowV H' (.ref o) r' → Mir r r' → Q (.ref o) H'
abbrev NMw : List Str := ["row", "low", "high", "step", "bits"]
theorem scMw : FnScope NMw ["row"] (defScope (top 76)) := ⟨rfl, rfl, rfl, by decide +kernel, rfl, by decide +kernel, by decide +kernel⟩
def spMs : Sp := fun vs H Q _ => ∃ (a : Addr) (rs : List Rw), vs = [.ref a] ∧ RowsAt H a rs ∧ (∀ r ∈ rs, r.Ok) ∧ (∀ r ∈ rs, r.p ≤ 640) ∧ rs.length ≤ 1000 ∧ ∀ (l : Addr) (out : List Rw) (H' : Hp), H l = none → Same H H' → RowsAt H' l out → Paired Mir rs.reverse out → Q (.ref l) H'
abbrev NMs : List Str := ["rows", "row"]
theorem scMs : FnScope NMs ["rows"] (defScope (top 77)) := ⟨rfl, rfl, rfl, by decide +kernel, rfl, by decide +kernel, by decide +kernel⟩
section
variable {P : Program} {w : World} {K : PySem.W.Frag} {mg : Str → Option Value} {base : Heap}
theorem ok_mw {f : Addr} {fd : FuncData} (F : Fun K "mirrored_row" "mirrored_row" (top 76) f fd) (MR : Fn P w K mg base 3 "mirrored_rests" ["bits", "step"] spMr) : FnOk P w K mg base CX0 4 f fd ["row"] spMw := by
  refine F.ok scMw (fun vs H Q E h => ?_) (fun cdv A outer s H vs Q E hr h => ?_)
  · obtain ⟨v, r, rfl, _⟩ := h
    rfl
  · obtain ⟨v, r, rfl, ⟨t, rfl, ht⟩, ok, pm, q⟩ := h
    have nd := scMw.nd
    have p0 := ok.p0
    have bl := ok.bl
    refine ⟨_, pss_cons (ps_asg (pv 0) (pg_tup rfl (pgs_cons (pg_name (i := 1) nd rfl (.inl rfl)) (pgs_cons (pg_name (i := 2) nd rfl (.inl rfl)) (pgs_cons (pg_name (i := 3) nd rfl (.inl rfl)) (pgs_cons (pg_name (i := 4) nd rfl (.inl rfl)) pgs_nil))))))
      (pss_one (ps_ret (pe_tup (pa_cons (pe_ifExp (pt_cmp (pc_isN (pv 2))) pe_non (pe_op op_sub pe_int (pv 2))) (pa_cons (pe_ifExp (pt_cmp (pc_isN (pv 1))) pe_non (pe_op op_sub pe_int (pv 1))) (pa_cons (pv 3) (pa_cons (pe_fn MR hr (pa_cons (pv 4) (pa_cons (pv 3) pa_nil))) pa_nil))))))), ?_⟩
    refine seqV (Good := fun σ2 H2 => H = H2 ∧ σ2 = [some (.ref t), some (oI r.lo), some (oI r.hi), some (.int r.p), some (.int r.b)]) (fun nx hnx => ⟨_, rfl, t, _, rfl, .inl (.inl ht), rfl, _, _, rfl, _, _, rfl, _, _, rfl, _, _, rfl, rfl, hnx _ _ ⟨rfl, rfl⟩⟩) ?_
    rintro _ _ ⟨rfl, rfl⟩
    have fin : ∀ (x y : V), x = oI (negO r.hi) → y = oI (negO r.lo) → ∀ b', b' < 2 ^ r.p → (∀ n, pat r.p b' n = pat r.p r.b (-n)) → ∀ t', H t' = none → Q (.ref t') (upd H t' (.tup [x, y, .int r.p, .int (b' : Nat)])) := by
      rintro x y rfl rfl b' hb' hp t' ht'
      exact q t' ⟨negO r.hi, negO r.lo, r.p, b'⟩ _ ht' (same_upd ht') ⟨t', rfl, upd_same⟩ ⟨rfl, rfl, rfl, hb', hp⟩
    cases eh : r.hi with
    | none =>
      rw [eh] at fin
      cases el : r.lo with
      | none =>
        rw [el] at fin
        exact ⟨_, rfl, true, rfl, iteT ⟨_, rfl, true, rfl, iteT ⟨_, rfl, _, rfl, _, rfl, r.p, r.b, rfl, bl, p0, pm, fun b' hb' hp => ⟨(by show 4 ≤ sizeLine; decide), fun t' ht' => fin _ _ rfl rfl b' hb' hp t' ht'⟩⟩⟩⟩
      | some l =>
        rw [el] at fin
        exact ⟨_, rfl, true, rfl, iteT ⟨_, rfl, false, rfl, iteF ⟨_, rfl, _, _, rfl, rfl, _, rfl, _, rfl, _, rfl, r.p, r.b, rfl, bl, p0, pm, fun b' hb' hp => ⟨(by show 4 ≤ sizeLine; decide), fun t' ht' => fin _ _ rfl rfl b' hb' hp t' ht'⟩⟩⟩⟩
    | some x =>
      rw [eh] at fin
      cases el : r.lo with
      | none =>
        rw [el] at fin
        exact ⟨_, rfl, false, rfl, iteF ⟨_, rfl, _, _, rfl, rfl, _, rfl, true, rfl, iteT ⟨_, rfl, _, rfl, _, rfl, r.p, r.b, rfl, bl, p0, pm, fun b' hb' hp => ⟨(by show 4 ≤ sizeLine; decide), fun t' ht' => fin _ _ rfl rfl b' hb' hp t' ht'⟩⟩⟩⟩
      | some l =>
        rw [el] at fin
        exact ⟨_, rfl, false, rfl, iteF ⟨_, rfl, _, _, rfl, rfl, _, rfl, false, rfl, iteF ⟨_, rfl, _, _, rfl, rfl, _, rfl, _, rfl, _, rfl, r.p, r.b, rfl, bl, p0, pm, fun b' hb' hp => ⟨(by show 4 ≤ sizeLine; decide), fun t' ht' => fin _ _ rfl rfl b' hb' hp t' ht'⟩⟩⟩⟩
theorem ok_ms {f : Addr} {fd : FuncData} (F : Fun K "mirrored_rows" "mirrored_rows" (top 77) f fd) (MW : Fn P w K mg base 4 "mirrored_row" ["row"] spMw) : FnOk P w K mg base CX0 5 f fd ["rows"] spMs := by
  refine F.ok scMs (fun vs H Q E h => ?_) (fun cdv A outer s H vs Q E hr h => ?_)
  · obtain ⟨a, rs, rfl, _⟩ := h
    rfl
  · obtain ⟨a, rs, rfl, ⟨us, ha, rv⟩, ok, pm, rl, q⟩ := h
    have nd := scMs.nd
    have sl := sizeLine_eq
    have lus := Paired.length rv
    refine ⟨_, pss_one (ps_ret (pe_lc (own := [("row", 1)]) (g := gName 1) (tt := tYes) rfl nd (pi_list (pe_revL (pv 0))) (blkOk_by (N := NMs) (sc := defScope (top 77)) (by decide +kernel))
      (fun _ _ _ _ _ => pg_name (i := 1) nd rfl (.inl rfl)) (fun _ _ _ _ _ => pts_nil) (fun _ _ _ _ _ => pe_fn MW hr (pa_cons (pv 1) pa_nil)))), ?_⟩
    refine ⟨_, rfl, a, us, rfl, .inl (.inl ha), fun r hr1 => ?_⟩
    have s1 := same_upd (o := .lst us.reverse) hr1
    have hlr : upd H r (.lst us.reverse) r = some (.lst us.reverse) := upd_same
    have rv1 : RowsV (upd H r (.lst us.reverse)) us.reverse rs.reverse := prd_rev (rv.same s1)
    generalize upd H r (.lst us.reverse) = H1 at *
    refine ⟨r, rfl, ⟨_, .inl (.inl hlr)⟩, fun D hD => ?_⟩
    refine lc_list (xs := us.reverse) (fun i H2 => ∃ (zs : List V) (out : List Rw), Same H1 H2 ∧ H2 D = some (.lst zs) ∧ RowsV H2 zs out ∧ Paired Mir (rs.reverse.take i) out) ⟨[], [], same_upd hD, upd_same, .nil, .nil⟩ (fun i H2 _ ⟨_, _, s2, _⟩ => .inl (.inl (s2 _ _ hlr))) ?_ ?_
    · rintro i v H2 hv ⟨zs, out, s2, hD2, zv, mv⟩
      obtain ⟨x, ex, t, rfl, ht⟩ := rowsV_at rv1 hv
      have xm := List.mem_reverse.mp (List.mem_of_getElem? ex)
      have il := (List.getElem?_eq_some_iff.mp hv).1
      rw [List.length_reverse] at il
      have zl := Paired.length zv
      have ml := Paired.length mv
      rw [List.length_take] at ml
      refine ⟨rfl, yes_ite ?_⟩
      refine ⟨_, rfl, .ref t, x, rfl, ⟨t, rfl, s2 _ _ ht⟩, ok x xm, pm x xm, fun o x' H3 n3 s3 ho mi => ?_⟩
      have hD3 := s3 _ _ hD2
      have oD : o ≠ D := (ne_of_none hD2 n3).symm
      obtain ⟨o', e, ho'⟩ := ho
      cases e
      refine ⟨zs, hD3, by rw [sl]; omega, zs ++ [.ref o], out ++ [x'], same_at hD (s2.trans s3), upd_same, rowsV_app (rowsV_put (zv.same s3) hD3) (.cons ⟨o, rfl, by rw [upd_ne oD]; exact ho'⟩ .nil), ?_⟩
      rw [List.take_succ, ex]
      exact pair_app mv (.cons mi .nil)
    · rintro H2 ⟨zs, out, s2, hD2, zv, mv⟩
      have e : us.reverse.length = rs.reverse.length := by rw [List.length_reverse, List.length_reverse]; omega
      rw [e, List.take_length] at mv
      exact q D out H2 (Same.free s1 hD) (s1.trans s2) ⟨zs, hD2, zv⟩ mv
theorem per_640 {Z : Zn} {rs : List Rw} (k : 2 * Z.w + 1 ≤ 640) (h : NtS Z 12 rs) : ∀ r ∈ rs, r.p ≤ 640 := by
  intro r hr
  have n := h.ln.nt.nt r hr
  rcases (h.ln.lm r hr).pd with d | ⟨c, _, l, x, e1, e2, ⟨a1, a2⟩, b1, b2⟩
  · have := Nat.le_of_dvd (by decide) d
    omega
  · have := n.fin l x e1 e2
    omega
def spMrr (C : Addr) : Sp := fun vs H Q _ => ∃ (x : Addr) (Z : Zn) (S : Int → Bool), vs = [.ref x] ∧ LnS C Z H x S ∧ Z.Ok 12 ∧ 2 * Z.w + 1 ≤ 640 ∧ ∀ (z : Addr) (H' : Hp), H z = none → Same H H' → LnS C Z.mi H' z (fun n => S (-n)) → Q (.ref z) H'
theorem scMrr : FnScope ["self"] ["self"] (defScope (cLine 13)) := ⟨rfl, rfl, rfl, by decide +kernel, rfl, by decide +kernel, by decide +kernel⟩
theorem ok_mrr {C : Addr} {f : Addr} {fd : FuncData} (F : Fun K "mirrored" "Line.mirrored" (cLine 13) f fd) (T : ClsT K mg C) (LR : Fn P w K mg base 14 "line_of_rows" ["rows"] (spLor C)) (MS : Fn P w K mg base 5 "mirrored_rows" ["rows"] spMs) : FnOk P w K mg base CX0 15 f fd ["self"] (spMrr C) := by
  refine F.ok scMrr (fun vs H Q E h => ?_) (fun cdv A outer s H vs Q E hr h => ?_)
  · obtain ⟨x, Z, S, rfl, _⟩ := h
    rfl
  · obtain ⟨x, Z, S, rfl, ⟨dx, l, rs, ox, ra, na, e⟩, Zk, Wb, q⟩ := h
    have few := na.few
    have cl := Zk.cl
    refine ⟨_, pss_one (ps_ret (pe_fn LR hr (pa_cons (pe_fn MS (hr.mono (by decide)) (pa_cons (pe_fld (pv 0) rfl) pa_nil)) pa_nil))), ?_⟩
    refine ⟨_, rfl, x, C, dx, _, _, rfl, ox, T.isc.cl, T.nR, fldR_get _, l, rs, rfl, ra, fun r hr => (na.ln.nt.nt r hr).ok, per_640 Wb na, by omega, fun l2 out H2 n2 s2 ro pr => ?_⟩
    obtain ⟨no, iff⟩ := mir_rows na pr
    refine ⟨l2, out, Z.mi, rfl, ro, no, mi_ok Zk, fun z H3 nz s3 ln => ?_⟩
    exact q z H3 (Same.free s2 nz) (s2.trans s3) (ln.cong fun n => by rw [iff n, e])
end
end L2.K14
end

section
set_option Elab.async false
set_option linter.all false
set_option maxRecDepth 100000
set_option maxHeartbeats 1000000
namespace L2.K14
open PySem PySem.Spec PyProof.Rows L2.Gd L2.Ln
/-! ### least, greatest -/
def LeastB (S : Int → Bool) : Option Int → Prop
  | some l => S l = true ∧ ∀ n, S n = true → l ≤ n
  | none => ∀ n, S n = true → ∃ m, m < n ∧ S m = true
def GrB (S : Int → Bool) : Option Int → Prop
  | some h => S h = true ∧ ∀ n, S n = true → n ≤ h
  | none => ∀ n, S n = true → ∃ m, n < m ∧ S m = true
theorem least_eq {S : Int → Bool} : ∀ {a b : Option Int}, LeastB S a → LeastB S b → a = b
  | none, none, _, _ => rfl
  | some a, none, h, k => by
    obtain ⟨m, hm, e⟩ := k a h.1
    have := h.2 m e
    omega
  | none, some b, k, h => by
    obtain ⟨m, hm, e⟩ := k b h.1
    have := h.2 m e
    omega
  | some a, some b, h, k => by
    have := h.2 b k.1
    have := k.2 a h.1
    congr 1
    omega
theorem gr_eq {S : Int → Bool} : ∀ {a b : Option Int}, GrB S a → GrB S b → a = b
  | none, none, _, _ => rfl
  | some a, none, h, k => by
    obtain ⟨m, hm, e⟩ := k a h.1
    have := h.2 m e
    omega
  | none, some b, k, h => by
    obtain ⟨m, hm, e⟩ := k b h.1
    have := h.2 m e
    omega
  | some a, some b, h, k => by
    have := h.2 b k.1
    have := k.2 a h.1
    congr 1
    omega
theorem ix_in {rs : List Rw} {n : Int} {k : Nat} {r : Rw} (e : rs[k]? = some r) (h : r.In n) : inLB rs n = true := inLB_iff.mpr ⟨r, List.mem_of_getElem? e, h⟩
theorem per_down {p b : Nat} (p0 : 0 < p) (x n : Int) : ∃ m, m < n ∧ m ≤ x ∧ pat p b m = pat p b x := by
  obtain ⟨k, hk⟩ : ∃ k : Nat, k = (x - n).toNat + 1 := ⟨_, rfl⟩
  have h1 : k ≤ k * p := Nat.le_mul_of_pos_right k p0
  refine ⟨x + (-(k : Int)) * p, ?_, ?_, pat_add _ _⟩
  · have e : (-(k : Int)) * p = -((k * p : Nat) : Int) := by rw [Int.neg_mul, Int.natCast_mul]
    rw [e]
    omega
  · have e : (-(k : Int)) * p = -((k * p : Nat) : Int) := by rw [Int.neg_mul, Int.natCast_mul]
    rw [e]
    omega
theorem per_up {p b : Nat} (p0 : 0 < p) (x n : Int) : ∃ m, n < m ∧ x ≤ m ∧ pat p b m = pat p b x := by
  obtain ⟨k, hk⟩ : ∃ k : Nat, k = (n - x).toNat + 1 := ⟨_, rfl⟩
  have h1 : k ≤ k * p := Nat.le_mul_of_pos_right k p0
  refine ⟨x + (k : Int) * p, ?_, ?_, pat_add _ _⟩
  · have e : (k : Int) * p = ((k * p : Nat) : Int) := by rw [Int.natCast_mul]
    rw [e]
    omega
  · have e : (k : Int) * p = ((k * p : Nat) : Int) := by rw [Int.natCast_mul]
    rw [e]
    omega
theorem least_nil : LeastB (inLB []) none := fun n e => nomatch e
theorem gr_nil : GrB (inLB []) none := fun n e => nomatch e
theorem least_rows {r : Rw} {rs : List Rw} (so : (r :: rs).Pairwise Bef) (nt : ∀ s ∈ r :: rs, Nt s) : LeastB (inLB (r :: rs)) r.lo := by
  have rn := nt r List.mem_cons_self
  cases el : r.lo with
  | some l =>
    refine ⟨ix_in (k := 0) rfl (rn.lom l el), fun n hn => ?_⟩
    obtain ⟨s, hs, im⟩ := inLB_iff.mp hn
    rcases List.mem_cons.mp hs with rfl | z
    · exact im.1 l el
    · obtain ⟨h, l2, e1, e2, lt⟩ := (List.pairwise_cons.mp so).1 s z
      have := rn.ok.le l h el e1
      have := im.1 l2 e2
      omega
  | none =>
    intro n _
    obtain ⟨x, hx⟩ := nt_ex rn
    obtain ⟨m, m1, m2, m3⟩ := per_down (b := r.b) rn.ok.p0 x n
    exact ⟨m, m1, ix_in (k := 0) rfl ⟨by rw [el]; exact ge_none m, fun h e => by have := hx.2.1 h e; omega, by rw [m3]; exact hx.2.2⟩⟩
theorem gr_rows {r : Rw} {rs : List Rw} (so : (rs ++ [r]).Pairwise Bef) (nt : ∀ s ∈ rs ++ [r], Nt s) : GrB (inLB (rs ++ [r])) r.hi := by
  have rm : r ∈ rs ++ [r] := List.mem_append.mpr (.inr (List.mem_singleton.mpr rfl))
  have rn := nt r rm
  cases el : r.hi with
  | some l =>
    refine ⟨inLB_iff.mpr ⟨r, rm, rn.him l el⟩, fun n hn => ?_⟩
    obtain ⟨s, hs, im⟩ := inLB_iff.mp hn
    rcases List.mem_append.mp hs with z | z
    · obtain ⟨h, l2, e1, e2, lt⟩ := (List.pairwise_append.mp so).2.2 s z r (List.mem_singleton.mpr rfl)
      have := rn.ok.le l2 l e2 el
      have := im.2.1 h e1
      omega
    · obtain rfl := List.mem_singleton.mp z
      exact im.2.1 l el
  | none =>
    intro n _
    obtain ⟨x, hx⟩ := nt_ex rn
    obtain ⟨m, m1, m2, m3⟩ := per_up (b := r.b) rn.ok.p0 x n
    exact ⟨m, m1, inLB_iff.mpr ⟨r, rm, fun h e => by have := hx.1 h e; omega, by rw [el]; exact le_none m, by rw [m3]; exact hx.2.2⟩⟩
theorem rows_last {H : Hp} {us : List V} {rs : List Rw} (rv : RowsV H us rs) (ne : rs ≠ []) : ∃ (us' : List V) (rs' : List Rw) (t : Addr) (r : Rw), us = us' ++ [.ref t] ∧ rs = rs' ++ [r] ∧ H t = some (.tup (Rvs r)) := by
  have rv2 := prd_rev rv
  cases e1 : rs.reverse with
  | nil => exact absurd (List.reverse_eq_nil_iff.mp e1) ne
  | cons r rest =>
    rw [e1] at rv2
    cases e2 : us.reverse with
    | nil => rw [e2] at rv2; exact nomatch rv2
    | cons v vs =>
      rw [e2] at rv2
      cases rv2 with
      | cons a b =>
        obtain ⟨t, rfl, ht⟩ := a
        refine ⟨vs.reverse, rest.reverse, t, r, ?_, ?_, ht⟩
        · have := congrArg List.reverse e2
          rwa [List.reverse_reverse, List.reverse_cons] at this
        · have := congrArg List.reverse e1
          rwa [List.reverse_reverse, List.reverse_cons] at this
def spLe (C : Addr) : Sp := fun vs H Q _ => ∃ (x : Addr) (W : Zn) (S : Int → Bool), vs = [.ref x] ∧ LnS C W H x S ∧ ∀ o, LeastB S o → Q (oI o) H
theorem scLe : FnScope ["self"] ["self"] (defScope (cLine 17)) := ⟨rfl, rfl, rfl, by decide +kernel, rfl, by decide +kernel, by decide +kernel⟩
def spGr (C : Addr) : Sp := fun vs H Q _ => ∃ (x : Addr) (W : Zn) (S : Int → Bool), vs = [.ref x] ∧ LnS C W H x S ∧ ∀ o, GrB S o → Q (oI o) H
theorem scGr : FnScope ["self"] ["self"] (defScope (cLine 18)) := ⟨rfl, rfl, rfl, by decide +kernel, rfl, by decide +kernel, by decide +kernel⟩
section
variable {P : Program} {w : World} {K : PySem.W.Frag} {mg : Str → Option Value} {base : Heap} {C : Addr}
theorem ok_le {f : Addr} {fd : FuncData} (F : Fun K "least" "Line.least" (cLine 17) f fd) (n : Nm mg) (T : ClsT K mg C) : FnOk P w K mg base CX0 1 f fd ["self"] (spLe C) := by
  refine F.ok scLe (fun vs H Q E h => ?_) (fun cdv A outer s H vs Q E hr h => ?_)
  · obtain ⟨x, W, S, rfl, _⟩ := h
    rfl
  · obtain ⟨x, W, S, rfl, ⟨dx, l, rs, ox, ⟨us, hl, rv⟩, na, e⟩, q⟩ := h
    obtain rfl : S = inLB rs := funext fun n => (e n).symm
    refine ⟨_, pss_one (ps_ret (pe_ifExp (pt_cmpR op_gt (pe_callB call_len_seq (by rfl) n.len PySem.boot_len (pa_cons (pe_fld (pv 0) rfl) pa_nil)) pe_int (nomark _)) (pe_ix ix_tup (pe_ix ix_list (pe_fld (pv 0) rfl) pe_int (fun _ _ => rfl)) pe_int (fun _ _ => rfl)) pe_non)), ?_⟩
    refine ⟨_, rfl, x, C, dx, _, _, rfl, ox, T.isc.cl, T.nR, fldR_get _, l, us, rfl, .inl (.inl (.inl hl)), _, _, rfl, rfl, decide ((us.length : Int) > 0), rfl, ?_⟩
    cases rv with
    | nil => exact iteF (q none least_nil)
    | cons a b =>
      obtain ⟨t, rfl, ht⟩ := a
      have q := q _ (least_rows na.ln.nt.so na.ln.nt.nt)
      rw [decide_eq_true (by rw [List.length_cons]; omega)]
      exact iteT ⟨_, rfl, x, C, dx, _, _, rfl, ox, T.isc.cl, T.nR, fldR_get _, l, _, _, _, rfl, rfl, .inl (.inl hl), atI_nat (j := 0) (by rfl), t, _, _, _, rfl, rfl, .inl (.inl ht), rfl, q⟩
theorem ok_gr {f : Addr} {fd : FuncData} (F : Fun K "greatest" "Line.greatest" (cLine 18) f fd) (n : Nm mg) (T : ClsT K mg C) : FnOk P w K mg base CX0 1 f fd ["self"] (spGr C) := by
  refine F.ok scGr (fun vs H Q E h => ?_) (fun cdv A outer s H vs Q E hr h => ?_)
  · obtain ⟨x, W, S, rfl, _⟩ := h
    rfl
  · obtain ⟨x, W, S, rfl, ⟨dx, l, rs, ox, ⟨us, hl, rv⟩, na, e⟩, q⟩ := h
    obtain rfl : S = inLB rs := funext fun n => (e n).symm
    refine ⟨_, pss_one (ps_ret (pe_ifExp (pt_cmpR op_gt (pe_callB call_len_seq (by rfl) n.len PySem.boot_len (pa_cons (pe_fld (pv 0) rfl) pa_nil)) pe_int (nomark _)) (pe_ix ix_tup (pe_ix ix_list (pe_fld (pv 0) rfl) (pe_un un_neg pe_int) (fun _ _ => rfl)) pe_int (fun _ _ => rfl)) pe_non)), ?_⟩
    refine ⟨_, rfl, x, C, dx, _, _, rfl, ox, T.isc.cl, T.nR, fldR_get _, l, us, rfl, .inl (.inl (.inl hl)), _, _, rfl, rfl, decide ((us.length : Int) > 0), rfl, ?_⟩
    have lus := Paired.length rv
    by_cases c : rs = []
    · subst c
      rw [decide_eq_false (by rw [lus]; decide)]
      exact iteF (q none gr_nil)
    · obtain ⟨us', rs', t, r, rfl, rfl, ht⟩ := rows_last rv c
      have q := q _ (gr_rows na.ln.nt.so na.ln.nt.nt)
      rw [decide_eq_true (by rw [List.length_append]; show ((us'.length + 1 : Nat) : Int) > 0; omega)]
      exact iteT ⟨_, rfl, x, C, dx, _, _, rfl, ox, T.isc.cl, T.nR, fldR_get _, _, rfl, l, _, _, _, rfl, rfl, .inl (.inl hl), atI_last _ _, t, _, _, _, rfl, rfl, .inl (.inl ht), rfl, q⟩
end
end L2.K14
end

section
set_option Elab.async false
set_option linter.all false
set_option maxRecDepth 100000
set_option maxHeartbeats 4000000
namespace L2.K14
open PySem PySem.Spec PyProof.Rows L2.Gd
section
variable {P : Program} {w : World} {K : PySem.W.Frag} {mg : Str → Option Value} {base : Heap}
theorem iN_len (l : List Nat) : (iN l).length = l.length := List.length_map _
theorem iN_app (a b : List Nat) : iN (a ++ b) = iN a ++ iN b := List.map_append
/-! ### ones -/
def spOnes : Sp := fun vs H Q _ => ∃ n : Nat, vs = [.int n] ∧ n < 2 ^ 1000000 ∧ ∀ p H', H p = none → Same H H' → H' p = some (.lst (iN (onesL n))) → Q (.ref p) H'
def NOn : List Str := ["bits", "k", "sign"]
theorem scOn : FnScope NOn ["bits"] (defScope (top 21)) := ⟨rfl, rfl, rfl, by decide +kernel, rfl, by decide +kernel, by decide +kernel⟩
theorem bitT_cps (n : Nat) : (revS (bitT n)).cps = (revL n).toArray := by
  show ((bitL n).toArray.toList.reverse).toArray = _
  rfl
theorem rev_at {n i c : Nat} (h : (revS (bitT n)).cps[i]? = some c) : c = bitC (n.testBit i) := by
  rw [bitT_cps, List.getElem?_toArray] at h
  exact (revL_at n i).1 c h
theorem bitC_one (b : Bool) : decide (V.str ⟨#[bitC b]⟩ = V.str ("1" : Str)) = b := by
  cases b
  · exact decide_eq_false (fun z => by
      have := congrArg (fun v => match v with | V.str s => s.cps.toList | _ => []) z
      exact absurd this (by decide +kernel))
  · exact decide_eq_true (by decide +kernel)
theorem ok_ones {f : Addr} {fd : FuncData} (F : Fun K "ones" "ones" (top 21) f fd) (n : Nm mg) : FnOk P w K mg base CX0 1 f fd ["bits"] spOnes := by
  refine F.ok scOn (fun vs H Q E h => ?_) (fun cdv A outer s H vs Q E hr h => ?_)
  · obtain ⟨m, rfl, _⟩ := h
    rfl
  · obtain ⟨m, rfl, hm, q⟩ := h
    have N := scOn.nd
    have len : (revL m).length ≤ 1000000 := revL_len_le hm (by decide)
    have sz : (bitT m).length ≤ sizeLine := by
      rw [← revL_length, sizeLine_eq]
      omega
    refine ⟨_, pss_one (ps_ret (pe_lc (own := [("k", 1), ("sign", 2)]) (g := gTup K 2 (gCons (gName 1) (gCons (gName 2) gNil))) rfl N (pi_enumS (by rfl) n.enumerate (pa_cons (pe_revS (pe_joined1 (pe_fmtB (pv 0)))) pa_nil))
        (blkOk_by (N := NOn) (sc := defScope (top 21)) (by decide +kernel))
        (fun _ _ _ _ _ => pg_tup rfl (pgs_cons (pg_name (i := 1) N rfl (.inl rfl)) (pgs_cons (pg_name (i := 2) N rfl (.inl rfl)) pgs_nil)))
        (fun _ _ _ _ _ => pts_one (pt_cmpR op_eq (pv 2) pe_str (nomark _))) (fun _ _ _ _ _ => pv 1))), ?_⟩
    refine ⟨_, rfl, m, rfl, (by rw [sizeLine_eq]; omega), bitT m, rfl, sz, revS (bitT m), rfl, fun D hD => ?_⟩
    have cz : (revS (bitT m)).cps.size = (revL m).length := by rw [bitT_cps, List.size_toArray]
    refine lc_gen (n := (revL m).length) (fun i H3 => ButD D H H3 ∧ H3 D = some (.lst (iN ((List.range i).filter m.testBit)))) ⟨.start, upd_same⟩ ?_ ?_
    · rintro H3 ⟨b3, h3⟩
      exact ⟨(by show (revS (bitT m)).cps.size ≤ _; omega), q D H3 hD (b3.new hD) h3⟩
    · rintro i H3 hi ⟨b3, h3⟩
      refine ⟨(by show i < (revS (bitT m)).cps.size; omega), ?_⟩
      rintro x H' ⟨T, c, rfl, hT, rfl, hc⟩
      have s4 : Same H3 (upd H3 T (.tup [.int (i : Nat), .str ⟨#[c]⟩])) := same_upd hT
      obtain rfl := rev_at hc
      refine ⟨T, _, rfl, .inl (.inl upd_same), rfl, _, _, rfl, _, _, rfl, rfl, rfl, _, rfl, rfl, _, congrArg V.bl (bitC_one (m.testBit i)), ?_⟩
      have b4 : ButD D H (upd H3 T (.tup [.int (i : Nat), .str ⟨#[bitC (m.testBit i)]⟩])) := b3.more s4
      have rs : (List.range (i + 1)).filter m.testBit = (List.range i).filter m.testBit ++ (if m.testBit i = true then [i] else []) := by
        rw [List.range_succ, List.filter_append]
        congr 1
        cases hb : m.testBit i <;> simp [hb]
      cases hb : m.testBit i with
      | true =>
        rw [hb, if_pos rfl] at rs
        rw [hb] at s4 b4
        refine iteT ⟨_, rfl, _, s4 _ _ h3, ?_, b4.put, ?_⟩
        · rw [iN_len, sizeLine_eq]
          have := List.length_filter_le m.testBit (List.range i)
          rw [List.length_range] at this
          omega
        · rw [upd_same, rs, iN_app]
          rfl
      | false =>
        rw [hb, if_neg (by decide), List.append_nil] at rs
        rw [hb] at s4 b4
        exact iteF ⟨b4, by rw [rs]; exact s4 _ _ h3⟩
end
end L2.K14
end

section
set_option Elab.async false
set_option linter.all false
set_option maxHeartbeats 400000
/-! sums of two rows -/
namespace L2.Ln
theorem bez (m n : Nat) : ∃ x y : Int, x * m + y * n = (Nat.gcd m n : Nat) := by
  induction m, n using Nat.gcd.induction with
  | H0 n => exact ⟨0, 1, by rw [Nat.gcd_zero_left]; omega⟩
  | H1 m n h ih =>
    obtain ⟨x, y, e⟩ := ih
    refine ⟨y - x * ((n / m : Nat) : Int), x, ?_⟩
    rw [Nat.gcd_rec m n, ← e]
    have d : ((n : Nat) : Int) = ((n % m : Nat) : Int) + (m : Int) * ((n / m : Nat) : Int) := by
      rw [← Int.natCast_mul, ← Int.natCast_add, Nat.mod_add_div]
    generalize ((n % m : Nat) : Int) = r at d ⊢
    generalize ((n / m : Nat) : Int) = t at d ⊢
    rw [d, Int.mul_add, Int.sub_mul, Int.mul_comm (m : Int) t, ← Int.mul_assoc]
    omega
theorem crt {p q : Nat} {a c : Int} (h : ((Nat.gcd p q : Nat) : Int) ∣ c - a) : ∃ x : Int, (p : Int) ∣ x - a ∧ (q : Int) ∣ x - c := by
  obtain ⟨k, hk⟩ := h
  obtain ⟨u, v, e⟩ := bez p q
  refine ⟨a + u * k * p, ⟨u * k, by rw [Int.mul_comm (p : Int)]; omega⟩, ⟨-(v * k), ?_⟩⟩
  rw [← e, Int.add_mul] at hk
  have e1 : u * k * (p : Int) = u * p * k := by rw [Int.mul_assoc, Int.mul_comm k, ← Int.mul_assoc]
  have e2 : (q : Int) * -(v * k) = -(v * q * k) := by rw [Int.mul_neg, Int.mul_comm (q : Int), Int.mul_assoc, Int.mul_comm k, ← Int.mul_assoc]
  rw [e1, e2]
  omega
theorem pat_dvd {p b : Nat} {x y : Int} (h : (p : Int) ∣ x - y) : pat p b x = pat p b y := by
  obtain ⟨k, e⟩ := h
  have : x = y + k * p := by rw [Int.mul_comm]; omega
  rw [this, pat_add]
/-- one of each lcm of numbers -/
theorem crt_in {p q : Nat} (p0 : 0 < p) (q0 : 0 < q) {a c : Int} (h : ((Nat.gcd p q : Nat) : Int) ∣ c - a) (l : Int) : ∃ x : Int, l ≤ x ∧ x < l + (Nat.lcm p q : Nat) ∧ (p : Int) ∣ x - a ∧ (q : Int) ∣ x - c := by
  obtain ⟨x0, h1, h2⟩ := crt h
  have m0 : 0 < Nat.lcm p q := Nat.lcm_pos p0 q0
  have g0 := Int.emod_nonneg (x0 - l) (show ((Nat.lcm p q : Nat) : Int) ≠ 0 by omega)
  have g1 := Int.emod_lt_of_pos (x0 - l) (show (0 : Int) < ((Nat.lcm p q : Nat) : Int) by omega)
  have e := Int.emod_add_mul_ediv (x0 - l) ((Nat.lcm p q : Nat) : Int)
  have d1 : (p : Int) ∣ ((Nat.lcm p q : Nat) : Int) * ((x0 - l) / ((Nat.lcm p q : Nat) : Int)) := Int.dvd_trans (Int.natCast_dvd_natCast.mpr (Nat.dvd_lcm_left p q)) (Int.dvd_mul_right _ _)
  have d2 : (q : Int) ∣ ((Nat.lcm p q : Nat) : Int) * ((x0 - l) / ((Nat.lcm p q : Nat) : Int)) := Int.dvd_trans (Int.natCast_dvd_natCast.mpr (Nat.dvd_lcm_right p q)) (Int.dvd_mul_right _ _)
  refine ⟨l + (x0 - l) % ((Nat.lcm p q : Nat) : Int), by omega, by omega, ?_, ?_⟩
  · have := Int.dvd_sub h1 d1
    rwa [show x0 - a - ((Nat.lcm p q : Nat) : Int) * ((x0 - l) / ((Nat.lcm p q : Nat) : Int)) = l + (x0 - l) % ((Nat.lcm p q : Nat) : Int) - a by omega] at this
  · have := Int.dvd_sub h2 d2
    rwa [show x0 - c - ((Nat.lcm p q : Nat) : Int) * ((x0 - l) / ((Nat.lcm p q : Nat) : Int)) = l + (x0 - l) % ((Nat.lcm p q : Nat) : Int) - c by omega] at this
/-! ends, some of which may be missing -/
def maxO : Option Int → Option Int → Option Int
  | none, o => o
  | o, none => o
  | some a, some b => some (max a b)
def minO : Option Int → Option Int → Option Int
  | none, o => o
  | o, none => o
  | some a, some b => some (min a b)
theorem maxO_ge {a b : Option Int} {x : Int} (h : Ge (maxO a b) x) : Ge a x ∧ Ge b x := by
  cases a with
  | none => exact ⟨ge_none _, h⟩
  | some a =>
    cases b with
    | none => exact ⟨h, ge_none _⟩
    | some b =>
      have := ge_some.mp h
      exact ⟨ge_some.mpr (by omega), ge_some.mpr (by omega)⟩
theorem maxO_or {a b : Option Int} {x : Int} (h : maxO a b = some x) : a = some x ∨ b = some x := by
  cases a with
  | none => exact .inr h
  | some a =>
    cases b with
    | none => exact .inl h
    | some b =>
      have h : max a b = x := Option.some.inj h
      rcases Int.le_total a b with c | c
      · exact .inr (by rw [← h, Int.max_eq_right c])
      · exact .inl (by rw [← h, Int.max_eq_left c])
theorem minO_le {a b : Option Int} {x : Int} (h : Le (minO a b) x) : Le a x ∧ Le b x := by
  cases a with
  | none => exact ⟨le_none _, h⟩
  | some a =>
    cases b with
    | none => exact ⟨h, le_none _⟩
    | some b =>
      have := le_some.mp h
      exact ⟨le_some.mpr (by omega), le_some.mpr (by omega)⟩
theorem minO_or {a b : Option Int} {x : Int} (h : minO a b = some x) : a = some x ∨ b = some x := by
  cases a with
  | none => exact .inr h
  | some a =>
    cases b with
    | none => exact .inl h
    | some b =>
      have h : min a b = x := Option.some.inj h
      rcases Int.le_total a b with c | c
      · exact .inl (by rw [← h, Int.min_eq_left c])
      · exact .inr (by rw [← h, Int.min_eq_right c])
/-- a number with two rests between ends that are far enough from one another -/
theorem crt_ends {p q : Nat} (p0 : 0 < p) (q0 : 0 < q) {a c : Int} (h : ((Nat.gcd p q : Nat) : Int) ∣ c - a) (lo hi : Option Int) (w : ∀ l u, lo = some l → hi = some u → l + (Nat.lcm p q : Nat) ≤ u + 1) : ∃ x : Int, Ge lo x ∧ Le hi x ∧ (p : Int) ∣ x - a ∧ (q : Int) ∣ x - c := by
  cases lo with
  | some l =>
    obtain ⟨x, g1, g2, d1, d2⟩ := crt_in p0 q0 h l
    refine ⟨x, ge_some.mpr g1, fun u e => ?_, d1, d2⟩
    have := w l u rfl e
    omega
  | none =>
    cases hi with
    | none =>
      obtain ⟨x, d1, d2⟩ := crt h
      exact ⟨x, ge_none _, le_none _, d1, d2⟩
    | some u =>
      obtain ⟨x, g1, g2, d1, d2⟩ := crt_in p0 q0 h (u + 1 - (Nat.lcm p q : Nat))
      exact ⟨x, ge_none _, le_some.mpr (by omega), d1, d2⟩
/-- the sums -/
def SumIn (r s : Rw) (n : Int) : Prop := ∃ x y, r.In x ∧ s.In y ∧ x + y = n
theorem sum_comm {r s : Rw} {n : Int} (h : SumIn r s n) : SumIn s r n := let ⟨x, y, a, b, e⟩ := h; ⟨y, x, b, a, by omega⟩
def subO (n : Int) : Option Int → Option Int
  | some a => some (n - a)
  | none => none
theorem subO_some {n x : Int} {o : Option Int} (h : subO n o = some x) : o = some (n - x) := by
  cases o with
  | none => exact nomatch h
  | some a =>
    have : n - a = x := Option.some.inj h
    rw [show a = n - x by omega]
theorem subO_ge {n x : Int} {o : Option Int} (h : Le (subO n o) x) : Ge o (n - x) := by
  cases o with
  | none => exact ge_none _
  | some a =>
    have := le_some.mp h
    exact ge_some.mpr (by omega)
theorem subO_le {n x : Int} {o : Option Int} (h : Ge (subO n o) x) : Le o (n - x) := by
  cases o with
  | none => exact le_none _
  | some a =>
    have := ge_some.mp h
    exact le_some.mpr (by omega)
/-- two long rows: far enough from the ends of the sums, they go by rests -/
theorem sum_gcd {r s : Rw} (p0 : 0 < r.p) (q0 : 0 < s.p) {z : Int} (hz : (Nat.lcm r.p s.p : Nat) ≤ z + 1)
    (lr : ∀ l u, r.lo = some l → r.hi = some u → l + (Nat.lcm r.p s.p : Nat) ≤ u + 1) (ls : ∀ l u, s.lo = some l → s.hi = some u → l + (Nat.lcm r.p s.p : Nat) ≤ u + 1)
    {n : Int} (g1 : ∀ a b, r.lo = some a → s.lo = some b → a + b + z ≤ n) (g2 : ∀ a b, r.hi = some a → s.hi = some b → n ≤ a + b - z)
    {x y : Int} (hx : pat r.p r.b x = true) (hy : pat s.p s.b y = true) (hm : ((Nat.gcd r.p s.p : Nat) : Int) ∣ n - (x + y)) : SumIn r s n := by
  obtain ⟨t, gl, gh, d1, d2⟩ := crt_ends (p := r.p) (q := s.p) p0 q0 (a := x) (c := n - y) (by rwa [show n - y - x = n - (x + y) by omega]) (maxO r.lo (subO n s.hi)) (minO r.hi (subO n s.lo)) (by
    intro l u el eu
    rcases maxO_or el with el | el <;> rcases minO_or eu with eu | eu
    · exact lr l u el eu
    · have := g1 _ _ el (subO_some eu)
      omega
    · have := g2 _ _ eu (subO_some el)
      omega
    · have := ls _ _ (subO_some eu) (subO_some el)
      omega)
  obtain ⟨a1, a2⟩ := maxO_ge gl
  obtain ⟨b1, b2⟩ := minO_le gh
  refine ⟨t, n - t, ⟨a1, b1, ?_⟩, ⟨subO_ge b2, subO_le a2, ?_⟩, by omega⟩
  · rw [pat_dvd d1, hx]
  · have : (s.p : Int) ∣ n - t - y := by
      have := Int.dvd_neg.mpr d2
      rwa [show -(t - (n - y)) = n - t - y by omega] at this
    rw [pat_dvd this, hy]
/-- a short row and a longer one -/
theorem sum_short {r s : Rw} {l u : Int} (rl : r.lo = some l) (ru : r.hi = some u)
    {n : Int} (g1 : ∀ b, s.lo = some b → u + b ≤ n) (g2 : ∀ b, s.hi = some b → n ≤ l + b)
    {x y : Int} (hx : r.In x) (hy : pat s.p s.b y = true) (hm : (s.p : Int) ∣ n - (x + y)) : SumIn r s n := by
  have x1 := hx.1 l rl
  have x2 := hx.2.1 u ru
  refine ⟨x, n - x, hx, ⟨fun b e => ?_, fun b e => ?_, ?_⟩, by omega⟩
  · have := g1 b e
    omega
  · have := g2 b e
    omega
  · rw [pat_dvd (show (s.p : Int) ∣ n - x - y by rwa [show n - x - y = n - (x + y) by omega]), hy]
/-- a row that is as long as its period has each of its rests -/
theorem has_rest {r : Rw} (p0 : 0 < r.p) (f : ∀ l h, r.lo = some l → r.hi = some h → (r.p : Int) ≤ h - l + 1) {x : Int} (hx : pat r.p r.b x = true) : ∃ y, r.In y ∧ (r.p : Int) ∣ y - x := by
  obtain ⟨y, g, h, d, _⟩ := crt_ends (p := r.p) (q := r.p) p0 p0 (a := x) (c := x) (by rw [Int.sub_self]; exact Int.dvd_zero _) r.lo r.hi (fun l u el eu => by
    rw [Nat.lcm_self]
    have := f l u el eu
    omega)
  exact ⟨y, ⟨g, h, by rw [pat_dvd d, hx]⟩, d⟩
end L2.Ln
end

section
set_option Elab.async false
set_option linter.all false
set_option maxHeartbeats 400000
/-! the masks of sums -/
namespace L2.Ln
/-- w has the sums of a bit of u and a bit of v, below m (or all of them) -/
structure SumsAt (u v : Nat) (w : Nat) : Prop where
  h : ∀ i, w.testBit i = true ↔ ∃ a b, u.testBit a = true ∧ v.testBit b = true ∧ a + b = i
/-- some of u's bits taken already: those of the list -/
def SumsOf (as : List Nat) (v w : Nat) : Prop := ∀ i, w.testBit i = true ↔ ∃ a ∈ as, ∃ b, v.testBit b = true ∧ a + b = i
theorem sumsOf_nil (v : Nat) : SumsOf [] v 0 := fun i => ⟨fun h => (by rw [Nat.zero_testBit] at h; exact absurd h (by decide)), fun ⟨_, h, _⟩ => nomatch h⟩
theorem sumsOf_snoc {as : List Nat} {v w a : Nat} (h : SumsOf as v w) : SumsOf (as ++ [a]) v (w ||| (v <<< a)) := fun i => by
  rw [Nat.testBit_or, Bool.or_eq_true, h i, Nat.testBit_shiftLeft, Bool.and_eq_true, decide_eq_true_iff]
  constructor
  · rintro (⟨x, hx, b, hb, e⟩ | ⟨g, hb⟩)
    · exact ⟨x, List.mem_append_left _ hx, b, hb, e⟩
    · exact ⟨a, List.mem_append_right _ (List.mem_singleton.mpr rfl), i - a, hb, by omega⟩
  · rintro ⟨x, hx, b, hb, e⟩
    rcases List.mem_append.mp hx with hx | hx
    · exact .inl ⟨x, hx, b, hb, e⟩
    · rw [List.mem_singleton.mp hx] at e
      exact .inr ⟨by omega, by rw [show i - a = b by omega]; exact hb⟩
theorem sumsOf_all {as : List Nat} {u v w : Nat} (h : SumsOf as v w) (e : ∀ a, a ∈ as ↔ u.testBit a = true) : SumsAt u v w := ⟨fun i => (h i).trans
  ⟨fun ⟨a, ha, b, hb, z⟩ => ⟨a, b, (e a).mp ha, hb, z⟩, fun ⟨a, b, ha, hb, z⟩ => ⟨a, (e a).mpr ha, b, hb, z⟩⟩⟩
theorem SumsAt.lt {u v w m k : Nat} (h : SumsAt u v w) (hu : u < 2 ^ m) (hv : v < 2 ^ k) : w < 2 ^ (m + k) := lt_of_bits fun i hi => by
  cases c : w.testBit i with
  | false => rfl
  | true =>
    obtain ⟨a, b, ha, hb, e⟩ := (h.h i).mp c
    have := bit_lt ha hu
    have := bit_lt hb hv
    omega
/-- the rests by the step of the bits -/
def FoldAt (step bits out : Nat) : Prop := out < 2 ^ step ∧ ∀ i, i < step → (out.testBit i = true ↔ ∃ j, bits.testBit j = true ∧ j % step = i)
structure FoI (step bits have_ now : Nat) : Prop where
  d : ∃ k, have_ = step * 2 ^ k
  l : now < 2 ^ have_
  h : ∀ i, i < step → ((∃ j, now.testBit j = true ∧ j % step = i) ↔ ∃ j, bits.testBit j = true ∧ j % step = i)
theorem foI_0 {step bits k : Nat} (l : bits < 2 ^ (step * 2 ^ k)) : FoI step bits (step * 2 ^ k) bits := ⟨⟨k, rfl⟩, l, fun _ _ => Iff.rfl⟩
theorem foI_half {step have_ : Nat} (k : Nat) (e : have_ = step * 2 ^ k) (c : step < have_) : ∃ j, have_ / 2 = step * 2 ^ j ∧ have_ = have_ / 2 + have_ / 2 := by
  cases k with
  | zero =>
    rw [Nat.pow_zero, Nat.mul_one] at e
    omega
  | succ j =>
    have : have_ = step * 2 ^ j + step * 2 ^ j := by rw [e, Nat.pow_succ, ← Nat.mul_assoc]; omega
    exact ⟨j, by omega, by omega⟩
theorem foI_S {step bits have_ now : Nat} (s : FoI step bits have_ now) (c : step < have_) : FoI step bits (have_ / 2) ((now &&& (2 ^ (have_ / 2) - 1)) ||| (now >>> (have_ / 2))) := by
  obtain ⟨k, e⟩ := s.d
  obtain ⟨j, e1, e2⟩ := foI_half k e c
  generalize have_ / 2 = h2 at *
  refine ⟨⟨j, e1⟩, lt_of_bits fun i hi => ?_, fun i hi => ?_⟩
  · rw [Nat.testBit_or, bit_ge and_full hi, Nat.testBit_shiftRight, bit_ge s.l (by omega), Bool.or_false]
  · rw [← s.h i hi]
    have md : ∀ t, (h2 + t) % step = t % step := fun t => by rw [e1, Nat.mul_comm, Nat.add_comm, Nat.add_mul_mod_self_right]
    constructor
    · rintro ⟨t, ht, em⟩
      rw [Nat.testBit_or, Bool.or_eq_true] at ht
      rcases ht with ht | ht
      · rw [Nat.testBit_and, Bool.and_eq_true] at ht
        exact ⟨t, ht.1, em⟩
      · rw [Nat.testBit_shiftRight] at ht
        exact ⟨h2 + t, ht, by rw [md, em]⟩
    · rintro ⟨t, ht, em⟩
      by_cases c2 : t < h2
      · exact ⟨t, by rw [Nat.testBit_or, and_full_bit c2, ht, Bool.true_or], em⟩
      · refine ⟨t - h2, ?_, ?_⟩
        · rw [Nat.testBit_or, Nat.testBit_shiftRight, show h2 + (t - h2) = t by omega, ht, Bool.or_true]
        · rw [← md, show h2 + (t - h2) = t by omega, em]
theorem foI_end {step bits now : Nat} (s : FoI step bits step now) : FoldAt step bits now := ⟨s.l, fun i hi => by
  rw [← s.h i hi]
  constructor
  · intro h
    exact ⟨i, h, Nat.mod_eq_of_lt hi⟩
  · rintro ⟨t, ht, em⟩
    have := bit_lt ht s.l
    rw [Nat.mod_eq_of_lt this] at em
    exact em ▸ ht⟩
/-- a mask's rests: as a pattern -/
theorem fold_pat {p b step out : Nat} (p0 : 0 < p) (hb : b < 2 ^ p) (d : step ∣ p) (s0 : 0 < step) (f : FoldAt step b out) (n : Int) : pat step out n = true ↔ ∃ x, pat p b x = true ∧ (step : Int) ∣ n - x := by
  have m := mod_lt' s0 n
  have e := Int.emod_add_mul_ediv n step
  have g0 := Int.emod_nonneg n (show (step : Int) ≠ 0 by omega)
  have ei : ((n % (step : Int)).toNat : Int) = n % step := Int.toNat_of_nonneg g0
  show out.testBit _ = true ↔ _
  rw [f.2 _ m]
  constructor
  · rintro ⟨j, hj, ej⟩
    have jp := bit_lt hj hb
    refine ⟨j, by rw [pat_nat jp]; exact hj, ?_⟩
    refine ⟨n / step - ((j / step : Nat) : Int), ?_⟩
    have dj := Nat.mod_add_div j step
    rw [ej] at dj
    have dj2 : (j : Int) = n % step + step * ((j / step : Nat) : Int) := by rw [← ei, ← Int.natCast_mul, ← Int.natCast_add, dj]
    rw [Int.mul_sub]
    omega
  · rintro ⟨x, hx, dx⟩
    refine ⟨(x % (p : Int)).toNat, hx, ?_⟩
    have h1 : ((x % (p : Int)).toNat : Int) = x % p := Int.toNat_of_nonneg (Int.emod_nonneg x (show (p : Int) ≠ 0 by omega))
    have h2 : (((x % (p : Int)).toNat % step : Nat) : Int) = x % (p : Int) % (step : Int) := by rw [Int.natCast_emod, h1]
    rw [Int.emod_emod_of_dvd x (Int.natCast_dvd_natCast.mpr d)] at h2
    have h3 : n % (step : Int) = x % (step : Int) := Int.emod_eq_emod_iff_emod_sub_eq_zero.mpr (Int.emod_eq_zero_of_dvd dx)
    omega
/-- .. of a sum of masks -/
theorem fold_sum {step u v w out : Nat} (s0 : 0 < step) (hu : u < 2 ^ step) (hv : v < 2 ^ step) (s : SumsAt u v w) (f : FoldAt step w out) (n : Int) : pat step out n = true ↔ ∃ x y, pat step u x = true ∧ pat step v y = true ∧ (step : Int) ∣ n - (x + y) := by
  have m := mod_lt' s0 n
  have e := Int.emod_add_mul_ediv n step
  have g0 := Int.emod_nonneg n (show (step : Int) ≠ 0 by omega)
  have ei : ((n % (step : Int)).toNat : Int) = n % step := Int.toNat_of_nonneg g0
  show out.testBit _ = true ↔ _
  rw [f.2 _ m]
  constructor
  · rintro ⟨j, hj, ej⟩
    obtain ⟨a, b, ha, hb, ab⟩ := (s.h j).mp hj
    refine ⟨a, b, by rw [pat_nat (bit_lt ha hu)]; exact ha, by rw [pat_nat (bit_lt hb hv)]; exact hb, n / step - ((j / step : Nat) : Int), ?_⟩
    have dj := Nat.mod_add_div j step
    rw [ej] at dj
    have dj2 : (j : Int) = n % step + step * ((j / step : Nat) : Int) := by rw [← ei, ← Int.natCast_mul, ← Int.natCast_add, dj]
    rw [Int.mul_sub]
    omega
  · rintro ⟨x, y, hx, hy, dx⟩
    refine ⟨(x % (step : Int)).toNat + (y % (step : Int)).toNat, (s.h _).mpr ⟨_, _, hx, hy, rfl⟩, ?_⟩
    have h1 : ((x % (step : Int)).toNat : Int) = x % step := Int.toNat_of_nonneg (Int.emod_nonneg x (show (step : Int) ≠ 0 by omega))
    have h1' : ((y % (step : Int)).toNat : Int) = y % step := Int.toNat_of_nonneg (Int.emod_nonneg y (show (step : Int) ≠ 0 by omega))
    have h2 : ((((x % (step : Int)).toNat + (y % (step : Int)).toNat) % step : Nat) : Int) = (x % (step : Int) + y % (step : Int)) % (step : Int) := by rw [Int.natCast_emod, Int.natCast_add, h1, h1']
    rw [← Int.add_emod] at h2
    have h3 : n % (step : Int) = (x + y) % (step : Int) := Int.emod_eq_emod_iff_emod_sub_eq_zero.mpr (Int.emod_eq_zero_of_dvd dx)
    omega
/-! the low zone -/
/-- the first m sums of r and s, from the ends lo, lo' on -/
structure LsAt (r s : Rw) (lo lo' : Int) (m w : Nat) : Prop where
  l : w < 2 ^ m
  h : ∀ i, i < m → (w.testBit i = true ↔ ∃ a b : Nat, a + b = i ∧ pat r.p r.b (lo + a) = true ∧ pat s.p s.b (lo' + b) = true)
theorem LsAt.comm {r s : Rw} {lo lo' : Int} {m w : Nat} (h : LsAt r s lo lo' m w) : LsAt s r lo' lo m w := ⟨h.l, fun i hi => (h.h i hi).trans ⟨fun ⟨a, b, e, x, y⟩ => ⟨b, a, by omega, y, x⟩, fun ⟨a, b, e, x, y⟩ => ⟨b, a, by omega, y, x⟩⟩⟩
/-- the loop's: the sums, moved by less than n steps -/
structure StI (step u v m n out : Nat) : Prop where
  l : out < 2 ^ m
  h : ∀ i, i < m → (out.testBit i = true ↔ ∃ k a b, k < n ∧ u.testBit a = true ∧ v.testBit b = true ∧ a + b + k * step = i)
theorem stI_0 {step u v m w : Nat} (s : SumsAt u v w) : StI step u v m 1 (w &&& (2 ^ m - 1)) := ⟨and_full, fun i hi => by
  rw [and_full_bit hi, s.h i]
  constructor
  · rintro ⟨a, b, ha, hb, e⟩
    exact ⟨0, a, b, by decide, ha, hb, by omega⟩
  · rintro ⟨k, a, b, hk, ha, hb, e⟩
    obtain rfl : k = 0 := by omega
    exact ⟨a, b, ha, hb, by omega⟩⟩
theorem stI_S {step u v m n out : Nat} (s : StI step u v m n out) : StI step u v m (n + n) ((out ||| (out <<< (step * n))) &&& (2 ^ m - 1)) := ⟨and_full, fun i hi => by
  rw [and_full_bit hi, Nat.testBit_or, Bool.or_eq_true, s.h i hi, Nat.testBit_shiftLeft, Bool.and_eq_true, decide_eq_true_iff]
  constructor
  · rintro (⟨k, a, b, hk, ha, hb, e⟩ | ⟨g, h⟩)
    · exact ⟨k, a, b, by omega, ha, hb, e⟩
    · obtain ⟨k, a, b, hk, ha, hb, e⟩ := (s.h _ (by omega)).mp h
      refine ⟨k + n, a, b, by omega, ha, hb, ?_⟩
      rw [Nat.add_mul, Nat.mul_comm n step]
      omega
  · rintro ⟨k, a, b, hk, ha, hb, e⟩
    by_cases c : k < n
    · exact .inl ⟨k, a, b, c, ha, hb, e⟩
    · have e2 : k * step = (k - n) * step + step * n := by
        rw [Nat.mul_comm step n, ← Nat.add_mul, Nat.sub_add_cancel (by omega)]
      exact .inr ⟨by omega, (s.h _ (by omega)).mpr ⟨k - n, a, b, by omega, ha, hb, by omega⟩⟩⟩
/-- the short window of one, the whole of the other -/
theorem lsAt_of {r s : Rw} {lo lo' : Int} {m n u v out : Nat} (p0 : 0 < r.p) (hu : WinAt r.p r.b lo (min r.p m) u) (hv : WinAt s.p s.b lo' m v) (st : StI r.p u v m n out) (le : m ≤ r.p * n) : LsAt r s lo lo' m out := ⟨st.l, fun i hi => by
  rw [st.h i hi]
  constructor
  · rintro ⟨k, a, b, hk, ha, hb, e⟩
    have a1 := bit_lt ha hu.l
    have b1 := bit_lt hb hv.l
    rw [hu.h a a1] at ha
    rw [hv.h b b1] at hb
    refine ⟨a + k * r.p, b, by omega, ?_, hb⟩
    rw [show lo + ((a + k * r.p : Nat) : Int) = lo + a + (k : Int) * r.p by rw [Int.natCast_add, Int.natCast_mul]; omega, pat_add]
    exact ha
  · rintro ⟨a, b, e, ha, hb⟩
    have dm := Nat.mod_add_div a r.p
    have ml := Nat.mod_lt a p0
    have kl : a / r.p * r.p = r.p * (a / r.p) := Nat.mul_comm _ _
    have ha' : pat r.p r.b (lo + ((a % r.p : Nat) : Int)) = true := by
      rw [← ha]
      have : lo + (a : Int) = lo + ((a % r.p : Nat) : Int) + ((a / r.p : Nat) : Int) * r.p := by
        have : (a : Int) = ((a % r.p + r.p * (a / r.p) : Nat) : Int) := by rw [dm]
        rw [this, Int.natCast_add, Int.natCast_mul, Int.mul_comm (r.p : Int)]
        omega
      rw [this, pat_add]
    refine ⟨a / r.p, a % r.p, b, ?_, ?_, ?_, by omega⟩
    · apply Classical.byContradiction
      intro z
      have : r.p * n ≤ r.p * (a / r.p) := Nat.mul_le_mul_left _ (by omega)
      omega
    · rw [hu.h _ (by omega)]
      exact ha'
    · rw [hv.h _ (by omega)]
      exact hb⟩
/-- the low zone's row -/
theorem low_in {r s : Rw} {l l' : Int} {m w : Nat} (m0 : 0 < m) (h : LsAt r s l l' m w) (rl : r.lo = some l) (sl : s.lo = some l') (rh : ∀ u, r.hi = some u → l + m ≤ u + 1) (sh : ∀ u, s.hi = some u → l' + m ≤ u + 1) (n : Int) :
    (⟨some (l + l'), some (l + l' + m - 1), m, turnN w m (l + l')⟩ : Rw).In n ↔ SumIn r s n ∧ n < l + l' + m := by
  have pp : pat m (turnN w m (l + l')) n = pat m w (n - (l + l')) := turn_pat m0 h.l _ _
  constructor
  · rintro ⟨g1, g2, g3⟩
    have g1 := ge_some.mp g1
    have g2 := le_some.mp g2
    have g3 : pat m (turnN w m (l + l')) n = true := g3
    obtain ⟨i, ei⟩ : ∃ i : Nat, n = l + l' + i := ⟨(n - (l + l')).toNat, by omega⟩
    have im : i < m := by omega
    rw [pp, ei, show l + l' + (i : Int) - (l + l') = (i : Int) by omega, pat_nat im, h.h i im] at g3
    obtain ⟨a, b, e, ha, hb⟩ := g3
    refine ⟨⟨l + a, l' + b, ⟨?_, fun u hu => ?_, ha⟩, ⟨?_, fun u hu => ?_, hb⟩, by omega⟩, by omega⟩
    · rw [rl]
      exact ge_some.mpr (by omega)
    · have := rh u hu
      omega
    · rw [sl]
      exact ge_some.mpr (by omega)
    · have := sh u hu
      omega
  · rintro ⟨⟨x, y, hx, hy, e⟩, lt⟩
    have x1 := hx.1 l rl
    have y1 := hy.1 l' sl
    refine ⟨ge_some.mpr (by omega), le_some.mpr (by omega), ?_⟩
    show pat m (turnN w m (l + l')) n = true
    obtain ⟨a, ea⟩ : ∃ a : Nat, x = l + a := ⟨(x - l).toNat, by omega⟩
    obtain ⟨b, eb⟩ : ∃ b : Nat, y = l' + b := ⟨(y - l').toNat, by omega⟩
    rw [pp, show n - (l + l') = ((a + b : Nat) : Int) by omega, pat_nat (by omega), h.h _ (by omega)]
    exact ⟨a, b, rfl, ea ▸ hx.2.2, eb ▸ hy.2.2⟩
end L2.Ln
end

section
set_option Elab.async false
set_option linter.all false
set_option maxHeartbeats 800000
/-! the sums of two rows: three rows -/
namespace L2.Ln
/-- the row that is not longer comes first; how wide the zones at the ends are, and by which step the sums go between -/
structure ZoneAt (r s : Rw) (step z : Nat) : Prop where
  sh : ∀ l u, s.lo = some l → s.hi = some u → ∃ l' u', r.lo = some l' ∧ r.hi = some u' ∧ u' - l' ≤ u - l
  ab : (∃ l u, r.lo = some l ∧ r.hi = some u ∧ u - l + 1 ≤ (Nat.lcm r.p s.p : Nat) ∧ step = s.p ∧ (z : Int) = u - l) ∨
    ((∀ l u, r.lo = some l → r.hi = some u → (Nat.lcm r.p s.p : Nat) < u - l + 1) ∧ step = Nat.gcd r.p s.p ∧ z + 1 = Nat.lcm r.p s.p)
def addO (k : Int) : Option Int → Option Int → Option Int
  | some a, some b => some (a + b + k)
  | _, _ => none
theorem addO_some {k x : Int} {o o' : Option Int} (h : addO k o o' = some x) : ∃ a b, o = some a ∧ o' = some b ∧ x = a + b + k := by
  cases o with
  | none => exact nomatch h
  | some a =>
    cases o' with
    | none => exact nomatch h
    | some b => exact ⟨a, b, rfl, rfl, (Option.some.inj h).symm⟩
structure MidZ (r s : Rw) (step z : Nat) (m : Rw) : Prop where
  lo : m.lo = addO z r.lo s.lo
  hi : m.hi = addO (-z) r.hi s.hi
  p : m.p = step
  bl : m.b < 2 ^ step
  h : ∀ n, pat step m.b n = true ↔ ∃ x y, r.In x ∧ s.In y ∧ (step : Int) ∣ n - (x + y)
inductive LowZ (r s : Rw) (z : Nat) : List Rw → Prop
  | none (h : z = 0 ∨ r.lo = none ∨ s.lo = none) : LowZ r s z []
  | some {l l' : Int} {w : Nat} (z0 : 0 < z) (rl : r.lo = some l) (sl : s.lo = some l') (h : LsAt r s l l' z w) : LowZ r s z [⟨some (l + l'), some (l + l' + z - 1), z, turnN w z (l + l')⟩]
/-- the last m sums -/
structure HsAt (r s : Rw) (hi hi' : Int) (m w : Nat) : Prop where
  l : w < 2 ^ m
  h : ∀ i, i < m → (w.testBit i = true ↔ ∃ a b : Nat, a + b = m - 1 - i ∧ pat r.p r.b (hi - a) = true ∧ pat s.p s.b (hi' - b) = true)
inductive HighZ (r s : Rw) (z : Nat) : List Rw → Prop
  | none (h : z = 0 ∨ r.hi = none ∨ s.hi = none) : HighZ r s z []
  | some {l l' : Int} {w : Nat} (z0 : 0 < z) (rl : r.hi = some l) (sl : s.hi = some l') (h : HsAt r s l l' z w) : HighZ r s z [⟨some (l + l' - z + 1), some (l + l' - z + 1 + z - 1), z, turnN w z (l + l' - z + 1)⟩]
theorem high_in {r s : Rw} {l l' : Int} {m w : Nat} (m0 : 0 < m) (h : HsAt r s l l' m w) (rl : r.hi = some l) (sl : s.hi = some l') (rh : ∀ u, r.lo = some u → u + m ≤ l + 1) (sh : ∀ u, s.lo = some u → u + m ≤ l' + 1) (n : Int) :
    (⟨some (l + l' - m + 1), some (l + l' - m + 1 + m - 1), m, turnN w m (l + l' - m + 1)⟩ : Rw).In n ↔ SumIn r s n ∧ l + l' - m < n := by
  have pp : pat m (turnN w m (l + l' - m + 1)) n = pat m w (n - (l + l' - m + 1)) := turn_pat m0 h.l _ _
  constructor
  · rintro ⟨g1, g2, g3⟩
    have g1 := ge_some.mp g1
    have g2 := le_some.mp g2
    have g3 : pat m (turnN w m (l + l' - m + 1)) n = true := g3
    obtain ⟨i, ei⟩ : ∃ i : Nat, n = l + l' - m + 1 + i := ⟨(n - (l + l' - m + 1)).toNat, by omega⟩
    have im : i < m := by omega
    rw [pp, ei, show l + l' - m + 1 + (i : Int) - (l + l' - m + 1) = (i : Int) by omega, pat_nat im, h.h i im] at g3
    obtain ⟨a, b, e, ha, hb⟩ := g3
    refine ⟨⟨l - a, l' - b, ⟨fun u hu => ?_, ?_, ha⟩, ⟨fun u hu => ?_, ?_, hb⟩, by omega⟩, by omega⟩
    · have := rh u hu
      omega
    · rw [rl]
      exact le_some.mpr (by omega)
    · have := sh u hu
      omega
    · rw [sl]
      exact le_some.mpr (by omega)
  · rintro ⟨⟨x, y, hx, hy, e⟩, lt⟩
    have x1 := hx.2.1 l rl
    have y1 := hy.2.1 l' sl
    refine ⟨ge_some.mpr (by omega), le_some.mpr (by omega), ?_⟩
    show pat m (turnN w m (l + l' - m + 1)) n = true
    obtain ⟨a, ea⟩ : ∃ a : Nat, x = l - a := ⟨(l - x).toNat, by omega⟩
    obtain ⟨b, eb⟩ : ∃ b : Nat, y = l' - b := ⟨(l' - y).toNat, by omega⟩
    rw [pp, show n - (l + l' - m + 1) = ((m - 1 - (a + b) : Nat) : Int) by omega, pat_nat (by omega), h.h _ (by omega)]
    exact ⟨a, b, by omega, ea ▸ hx.2.2, eb ▸ hy.2.2⟩
section
variable {r s m : Rw} {step z : Nat}
theorem zone_r (p0 : 0 < r.p) (q0 : 0 < s.p) (k : ZoneAt r s step z) {l u : Int} (e1 : r.lo = some l) (e2 : r.hi = some u) : l + z ≤ u := by
  have := Nat.lcm_pos p0 q0
  rcases k.ab with ⟨l', u', f1, f2, _, _, ez⟩ | ⟨a, _, ez⟩
  · rw [f1] at e1
    rw [f2] at e2
    cases e1
    cases e2
    omega
  · have := a l u e1 e2
    omega
theorem zone_s (p0 : 0 < r.p) (q0 : 0 < s.p) (k : ZoneAt r s step z) {l u : Int} (e1 : s.lo = some l) (e2 : s.hi = some u) : l + z ≤ u := by
  obtain ⟨l', u', f1, f2, le⟩ := k.sh l u e1 e2
  have := zone_r p0 q0 k f1 f2
  omega
theorem zone_step (p0 : 0 < r.p) (q0 : 0 < s.p) (k : ZoneAt r s step z) : 0 < step := by
  rcases k.ab with ⟨l', u', f1, f2, _, e, ez⟩ | ⟨a, e, ez⟩
  · rw [e]
    exact q0
  · rw [e]
    exact Nat.gcd_pos_of_pos_left _ p0
theorem mid_in (p0 : 0 < r.p) (q0 : 0 < s.p) (k : ZoneAt r s step z) (mz : MidZ r s step z m) (n : Int) : m.In n ↔ SumIn r s n ∧ Ge m.lo n ∧ Le m.hi n := by
  constructor
  · rintro ⟨g1, g2, g3⟩
    refine ⟨?_, g1, g2⟩
    rw [mz.p] at g3
    obtain ⟨x, y, hx, hy, d⟩ := (mz.h n).mp g3
    have lo1 : ∀ a b, r.lo = some a → s.lo = some b → a + b + z ≤ n := fun a b ea eb => g1 _ (by rw [mz.lo, ea, eb]; rfl)
    have hi1 : ∀ a b, r.hi = some a → s.hi = some b → n ≤ a + b - z := fun a b ea eb => g2 _ (by rw [mz.hi, ea, eb]; rfl)
    rcases k.ab with ⟨l, u, f1, f2, le, e, ez⟩ | ⟨a, e, ez⟩
    · refine sum_short f1 f2 (fun b eb => ?_) (fun b eb => ?_) hx hy.2.2 (e ▸ d)
      · have := lo1 l b f1 eb
        omega
      · have := hi1 u b f2 eb
        omega
    · refine sum_gcd p0 q0 (z := z) (by omega) (fun l u e1 e2 => ?_) (fun l u e1 e2 => ?_) lo1 hi1 hx.2.2 hy.2.2 (e ▸ d)
      · have := a l u e1 e2
        omega
      · obtain ⟨l', u', f1, f2, le⟩ := k.sh l u e1 e2
        have := a l' u' f1 f2
        omega
  · rintro ⟨⟨x, y, hx, hy, e⟩, g1, g2⟩
    refine ⟨g1, g2, ?_⟩
    rw [mz.p]
    exact (mz.h n).mpr ⟨x, y, hx, hy, ⟨0, by omega⟩⟩
/-- all three -/
theorem sums3 {ls hs : List Rw} (p0 : 0 < r.p) (q0 : 0 < s.p) (k : ZoneAt r s step z) (mz : MidZ r s step z m) (lz : LowZ r s z ls) (hz : HighZ r s z hs) (n : Int) : InL (ls ++ [m] ++ hs) n ↔ SumIn r s n := by
  have ml : InL (ls ++ [m] ++ hs) n ↔ InL ls n ∨ m.In n ∨ InL hs n := by
    unfold InL
    constructor
    · rintro ⟨x, hx, hn⟩
      rcases List.mem_append.mp hx with hx | hx
      · rcases List.mem_append.mp hx with hx | hx
        · exact .inl ⟨x, hx, hn⟩
        · rw [List.mem_singleton.mp hx] at hn
          exact .inr (.inl hn)
      · exact .inr (.inr ⟨x, hx, hn⟩)
    · rintro (⟨x, hx, hn⟩ | hn | ⟨x, hx, hn⟩)
      · exact ⟨x, by simp [hx], hn⟩
      · exact ⟨m, by simp, hn⟩
      · exact ⟨x, by simp [hx], hn⟩
  have zr := fun l u => zone_r p0 q0 k (l := l) (u := u)
  have zs := fun l u => zone_s p0 q0 k (l := l) (u := u)
  have lin : ∀ x, x ∈ ls → (x.In n → SumIn r s n) := by
    intro x hx hn
    cases lz with
    | none h => exact nomatch hx
    | some z0 rl sl h =>
      rw [List.mem_singleton.mp hx] at hn
      exact ((low_in z0 h rl sl (fun u e => by have := zr _ _ rl e; omega) (fun u e => by have := zs _ _ sl e; omega) n).mp hn).1
  have hin : ∀ x, x ∈ hs → (x.In n → SumIn r s n) := by
    intro x hx hn
    cases hz with
    | none h => exact nomatch hx
    | some z0 rl sl h =>
      rw [List.mem_singleton.mp hx] at hn
      exact ((high_in z0 h rl sl (fun u e => by have := zr _ _ e rl; omega) (fun u e => by have := zs _ _ e sl; omega) n).mp hn).1
  rw [ml]
  constructor
  · rintro (⟨x, hx, hn⟩ | hn | ⟨x, hx, hn⟩)
    · exact lin x hx hn
    · exact ((mid_in p0 q0 k mz n).mp hn).1
    · exact hin x hx hn
  · intro hs'
    obtain ⟨x, y, hx, hy, e⟩ := id hs'
    by_cases c1 : Ge m.lo n
    · by_cases c2 : Le m.hi n
      · exact .inr (.inl ((mid_in p0 q0 k mz n).mpr ⟨hs', c1, c2⟩))
      · refine .inr (.inr ?_)
        -- above the middle
        cases eh : m.hi with
        | none =>
          rw [eh] at c2
          exact absurd (le_none _) c2
        | some u =>
          rw [eh, le_some] at c2
          obtain ⟨a, b, ea, eb, eu⟩ := addO_some (mz.hi.symm.trans eh)
          have x1 := hx.2.1 a ea
          have y1 := hy.2.1 b eb
          cases hz with
          | none h =>
            rcases h with h | h | h
            · omega
            · rw [ea] at h
              exact nomatch h
            · rw [eb] at h
              exact nomatch h
          | some z0 rl sl h =>
            rw [ea] at rl
            rw [eb] at sl
            cases rl
            cases sl
            exact ⟨_, List.mem_singleton.mpr rfl, (high_in z0 h ea eb (fun u e => by have := zr _ _ e ea; omega) (fun u e => by have := zs _ _ e eb; omega) n).mpr ⟨hs', by omega⟩⟩
    · refine .inl ?_
      cases eh : m.lo with
      | none =>
        rw [eh] at c1
        exact absurd (ge_none _) c1
      | some u =>
        rw [eh, ge_some] at c1
        obtain ⟨a, b, ea, eb, eu⟩ := addO_some (mz.lo.symm.trans eh)
        have x1 := hx.1 a ea
        have y1 := hy.1 b eb
        cases lz with
        | none h =>
          rcases h with h | h | h
          · omega
          · rw [ea] at h
            exact nomatch h
          · rw [eb] at h
            exact nomatch h
        | some z0 rl sl h =>
          rw [ea] at rl
          rw [eb] at sl
          cases rl
          cases sl
          exact ⟨_, List.mem_singleton.mpr rfl, (low_in z0 h ea eb (fun u e => by have := zr _ _ ea e; omega) (fun u e => by have := zs _ _ eb e; omega) n).mpr ⟨hs', by omega⟩⟩
theorem mid_le (p0 : 0 < r.p) (q0 : 0 < s.p) (k : ZoneAt r s step z) (mz : MidZ r s step z m) {l u : Int} (e1 : m.lo = some l) (e2 : m.hi = some u) : l ≤ u := by
  obtain ⟨a, b, ea, eb, el⟩ := addO_some (mz.lo.symm.trans e1)
  obtain ⟨c, d, ec, ed, eu⟩ := addO_some (mz.hi.symm.trans e2)
  obtain ⟨l', u', f1, f2, le⟩ := k.sh _ _ eb ed
  have h1 := zone_r p0 q0 k ea ec
  have h2 := zone_s p0 q0 k eb ed
  omega
theorem sums3_ok {ls hs : List Rw} (p0 : 0 < r.p) (q0 : 0 < s.p) (k : ZoneAt r s step z) (mz : MidZ r s step z m) (lz : LowZ r s z ls) (hz : HighZ r s z hs) : ∀ x ∈ ls ++ [m] ++ hs, x.Ok := by
  intro x hx
  rcases List.mem_append.mp hx with hx | hx
  · rcases List.mem_append.mp hx with hx | hx
    · cases lz with
      | none h => exact nomatch hx
      | some z0 rl sl h =>
        rw [List.mem_singleton.mp hx]
        exact ⟨z0, turn_lt _ _ _, fun a b e1 e2 => by cases e1; cases e2; omega⟩
    · rw [List.mem_singleton.mp hx]
      exact ⟨by rw [mz.p]; exact zone_step p0 q0 k, by rw [mz.p]; exact mz.bl, fun a b e1 e2 => mid_le p0 q0 k mz e1 e2⟩
  · cases hz with
    | none h => exact nomatch hx
    | some z0 rl sl h =>
      rw [List.mem_singleton.mp hx]
      exact ⟨z0, turn_lt _ _ _, fun a b e1 e2 => by cases e1; cases e2; omega⟩
theorem sums3_bef {ls hs : List Rw} (p0 : 0 < r.p) (q0 : 0 < s.p) (k : ZoneAt r s step z) (mz : MidZ r s step z m) (lz : LowZ r s z ls) (hz : HighZ r s z hs) : (ls ++ [m] ++ hs).Pairwise Bef := by
  have lm : ∀ x ∈ ls, Bef x m := by
    intro x hx
    cases lz with
    | none h => exact nomatch hx
    | some z0 rl sl h =>
      rw [List.mem_singleton.mp hx]
      exact ⟨_, _, rfl, by rw [mz.lo, rl, sl]; rfl, by omega⟩
  have mh : ∀ x ∈ hs, Bef m x := by
    intro x hx
    cases hz with
    | none h => exact nomatch hx
    | some z0 rl sl h =>
      rw [List.mem_singleton.mp hx]
      exact ⟨_, _, by rw [mz.hi, rl, sl]; rfl, rfl, by omega⟩
  refine List.pairwise_append.mpr ⟨List.pairwise_append.mpr ⟨?_, List.pairwise_singleton _ _, fun x hx y hy => by rw [List.mem_singleton.mp hy]; exact lm x hx⟩, ?_, fun x hx y hy => ?_⟩
  · cases lz with
    | none h => exact .nil
    | some z0 rl sl h => exact List.pairwise_singleton _ _
  · cases hz with
    | none h => exact .nil
    | some z0 rl sl h => exact List.pairwise_singleton _ _
  · rcases List.mem_append.mp hx with hx | hx
    · obtain ⟨h1, l1, e1, e2, lt⟩ := lm x hx
      obtain ⟨h2, l2, e3, e4, lt2⟩ := mh y hy
      have := mid_le p0 q0 k mz e2 e3
      exact ⟨h1, l2, e1, e4, by omega⟩
    · rw [List.mem_singleton.mp hx]
      exact mh y hy
/-! near which centres -/
/-- Z has the sums of what lies near Z1's and Z2's centres -/
structure ZSum (Z1 Z2 Z : Zn) (L : Nat) (zb : Nat) : Prop where
  k1 : Z1.Ok L
  k2 : Z2.Ok L
  c : ∀ c ∈ Z1.cs, ∀ d ∈ Z2.cs, c + d ∈ Z.cs
  w : Z1.w + Z2.w + zb ≤ Z.w
  b0 : L ≤ zb
  b1 : 2 * Z1.w ≤ zb
  b2 : 2 * Z2.w ≤ zb
theorem zone_le {Z1 Z2 Z : Zn} {L zb : Nat} (g : ZSum Z1 Z2 Z L zb) (nr : Nt r) (ns : Nt s) (m1 : Lm Z1 L r) (m2 : Lm Z2 L s) (k : ZoneAt r s step z) : z ≤ zb := by
  have b0 := g.b0
  have b1 := g.b1
  have b2 := g.b2
  have rn : ∀ c, Cl Z1 c r → z ≤ zb := by
    rintro c ⟨l, u, e1, e2, ⟨_, _⟩, _, _⟩
    have := zone_r nr.ok.p0 ns.ok.p0 k e1 e2
    omega
  rcases m1.pd with d1 | ⟨c, hc, cl⟩
  · rcases m2.pd with d2 | ⟨c, hc, l, u, e1, e2, ⟨_, _⟩, _, _⟩
    · have dl : Nat.lcm r.p s.p ≤ L := Nat.le_of_dvd g.k1.L0 (Nat.lcm_dvd d1 d2)
      rcases k.ab with ⟨l, u, f1, f2, le, e, ez⟩ | ⟨a, e, ez⟩ <;> omega
    · have := zone_s nr.ok.p0 ns.ok.p0 k e1 e2
      omega
  · exact rn c cl
theorem low_near {Z1 Z2 Z : Zn} {L zb : Nat} (g : ZSum Z1 Z2 Z L zb) {a b x : Int} {c d : Int} (n1 : Z1.near c a) (n2 : Z2.near d b) (h1 : a + b - zb ≤ x) (h2 : x ≤ a + b + zb) : Z.near (c + d) x := by
  have := g.w
  obtain ⟨_, _⟩ := n1
  obtain ⟨_, _⟩ := n2
  exact ⟨by omega, by omega⟩
theorem sums3_lm {Z1 Z2 Z : Zn} {L zb : Nat} {ls hs : List Rw} (g : ZSum Z1 Z2 Z L zb) (nr : Nt r) (ns : Nt s) (m1 : Lm Z1 L r) (m2 : Lm Z2 L s) (k : ZoneAt r s step z) (mz : MidZ r s step z m) (lz : LowZ r s z ls) (hz : HighZ r s z hs) : (∀ x ∈ ls ++ [m] ++ hs, Lm Z L x) ∧ ∀ x ∈ ls ++ [m] ++ hs, x.p ≤ 2520 + zb := by
  have zl := zone_le g nr ns m1 m2 k
  have p0 := nr.ok.p0
  have q0 := ns.ok.p0
  have pr := lm_p g.k1 nr m1
  have ps := lm_p g.k2 ns m2
  have mlm : Lm Z L m := by
    refine ⟨fun l e => ?_, fun l e => ?_, ?_⟩
    · obtain ⟨a, b, ea, eb, el⟩ := addO_some (mz.lo.symm.trans e)
      obtain ⟨c, hc, n1⟩ := m1.l a ea
      obtain ⟨d, hd, n2⟩ := m2.l b eb
      exact ⟨c + d, g.c c hc d hd, low_near g n1 n2 (by omega) (by omega)⟩
    · obtain ⟨a, b, ea, eb, el⟩ := addO_some (mz.hi.symm.trans e)
      obtain ⟨c, hc, n1⟩ := m1.h a ea
      obtain ⟨d, hd, n2⟩ := m2.h b eb
      exact ⟨c + d, g.c c hc d hd, low_near g n1 n2 (by omega) (by omega)⟩
    · -- the period, or both ends near one centre
      have both : ∀ c ∈ Z1.cs, Cl Z1 c r → ∀ d ∈ Z2.cs, Cl Z2 d s → ∃ c ∈ Z.cs, Cl Z c m := by
        rintro c hc ⟨l, u, e1, e2, n1, n2⟩ d hd ⟨l', u', e3, e4, n3, n4⟩
        exact ⟨c + d, g.c c hc d hd, l + l' + z, u + u' + -z, by rw [mz.lo, e1, e3]; rfl, by rw [mz.hi, e2, e4]; rfl, low_near g n1 n3 (by omega) (by omega), low_near g n2 n4 (by omega) (by omega)⟩
      rcases m2.pd with d2 | ⟨d, hd, cl2⟩
      · left
        rw [mz.p]
        rcases k.ab with ⟨l, u, f1, f2, le, e, ez⟩ | ⟨a, e, ez⟩
        · rw [e]
          exact d2
        · rw [e]
          exact Nat.dvd_trans (Nat.gcd_dvd_right _ _) d2
      · -- s is short, so is r
        obtain ⟨l', u', e3, e4, n3, n4⟩ := id cl2
        obtain ⟨l, u, e1, e2, le⟩ := k.sh l' u' e3 e4
        obtain ⟨_, _⟩ := n3
        obtain ⟨_, _⟩ := n4
        have wb := g.k2.wb
        have ru := nr.ok.le l u e1 e2
        obtain ⟨c, hc, cl1⟩ := lm_short g.k1 m1 e1 e2 ru (by omega)
        exact .inr (both c hc cl1 d hd cl2)
  have mp : m.p ≤ 2520 + zb := by
    rw [mz.p]
    rcases k.ab with ⟨l, u, f1, f2, le, e, ez⟩ | ⟨a, e, ez⟩
    · omega
    · have := Nat.le_of_dvd p0 (Nat.gcd_dvd_left r.p s.p)
      omega
  have two : ∀ (c d a b : Int) (w : Nat), c ∈ Z1.cs → d ∈ Z2.cs → Z.near (c + d) a → Z.near (c + d) b → Lm Z L ⟨some a, some b, z, w⟩ := fun c d a b w hc hd a1 a2 =>
    ⟨fun x e => by cases e; exact ⟨c + d, g.c c hc d hd, a1⟩, fun x e => by cases e; exact ⟨c + d, g.c c hc d hd, a2⟩, .inr ⟨c + d, g.c c hc d hd, a, b, rfl, rfl, a1, a2⟩⟩
  have llm : ∀ x ∈ ls, Lm Z L x ∧ x.p ≤ 2520 + zb := by
    intro x hx
    cases lz with
    | none h => exact nomatch hx
    | @some l l' w z0 rl sl h =>
      rw [List.mem_singleton.mp hx]
      obtain ⟨c, hc, n1⟩ := m1.l _ rl
      obtain ⟨d, hd, n2⟩ := m2.l _ sl
      exact ⟨two c d _ _ _ hc hd (low_near g n1 n2 (by omega) (by omega)) (low_near g n1 n2 (by omega) (by omega)), by show z ≤ _; omega⟩
  have hlm : ∀ x ∈ hs, Lm Z L x ∧ x.p ≤ 2520 + zb := by
    intro x hx
    cases hz with
    | none h => exact nomatch hx
    | @some l l' w z0 rl sl h =>
      rw [List.mem_singleton.mp hx]
      obtain ⟨c, hc, n1⟩ := m1.h _ rl
      obtain ⟨d, hd, n2⟩ := m2.h _ sl
      exact ⟨two c d _ _ _ hc hd (low_near g n1 n2 (by omega) (by omega)) (low_near g n1 n2 (by omega) (by omega)), by show z ≤ _; omega⟩
  have all : ∀ x ∈ ls ++ [m] ++ hs, Lm Z L x ∧ x.p ≤ 2520 + zb := by
    intro x hx
    rcases List.mem_append.mp hx with hx | hx
    · rcases List.mem_append.mp hx with hx | hx
      · exact llm x hx
      · rw [List.mem_singleton.mp hx]
        exact ⟨mlm, mp⟩
    · exact hlm x hx
  exact ⟨fun x hx => (all x hx).1, fun x hx => (all x hx).2⟩
end
end L2.Ln
end

section
set_option Elab.async false
set_option linter.all false
set_option maxRecDepth 100000
set_option maxHeartbeats 2000000
namespace L2.K14
open PySem PySem.Spec PyProof.Rows L2.Gd L2.Ln
/-! ### the rests of a mask; the sums of two masks -/
theorem lt_len (b : Nat) : b < 2 ^ lenN b := by
  by_cases h : b = 0
  · subst h
    exact Nat.two_pow_pos _
  · obtain ⟨k, e, _, up⟩ := len_top h
    rw [e]
    exact lt_of_bits fun i hi => up i (by omega)
section
variable {P : Program} {w : World} {K : PySem.W.Frag} {mg : Str → Option Value} {base : Heap}
def spMo1 : Sp := fun vs H Q _ => ∃ n m : Nat, vs = [.int n] ∧ n < 2 ^ m ∧ m ≤ 100000 ∧ ∀ c : Int, Q (.int c) H
theorem scMo1 : FnScope ["bits"] ["bits"] (defScope (top 22)) := ⟨rfl, rfl, rfl, by decide +kernel, rfl, by decide +kernel, by decide +kernel⟩
theorem ok_mo1 {f : Addr} {fd : FuncData} (F : Fun K "many_ones" "many_ones" (top 22) f fd) : FnOk P w K mg base CX0 1 f fd ["bits"] spMo1 := by
  refine F.ok scMo1 (fun vs H Q E h => ?_) (fun cdv A outer s H vs Q E hr h => ?_)
  · obtain ⟨n, m, rfl, _⟩ := h
    rfl
  · obtain ⟨n, m, rfl, hn, hm, q⟩ := h
    have sl := sizeLine_eq
    have rl := rev_len hn
    refine ⟨_, pss_one (ps_ret (pe_bm PySem.F.plainAttrs_str PySem.F.slot_str_count PySem.F.type_str_count mt_count (pe_joined1 (pe_fmtB (pv 0))) (pa_cons pe_str pa_nil))), ?_⟩
    exact ⟨_, rfl, n, rfl, by omega, rfl, _, _, rfl, rfl, q _⟩
def spFo : Sp := fun vs H Q _ => ∃ b p m : Nat, vs = [.int b, .int p] ∧ 0 < p ∧ p ≤ 100000 ∧ b < 2 ^ m ∧ m ≤ 100000 ∧ ∀ out : Nat, FoldAt p b out → Q (.int out) H
theorem scFo : FnScope ["bits", "step", "have"] ["bits", "step"] (defScope (top 26)) := ⟨rfl, rfl, rfl, by decide +kernel, rfl, by decide +kernel, by decide +kernel⟩
theorem ok_fo {f : Addr} {fd : FuncData} (F : Fun K "folded" "folded" (top 26) f fd) (FU : Fn P w K mg base 1 "full" ["many"] spFull) : FnOk P w K mg base CX0 2 f fd ["bits", "step"] spFo := by
  refine F.ok scFo (fun vs H Q E h => ?_) (fun cdv A outer s H vs Q E hr h => ?_)
  · obtain ⟨b, p, m, rfl, _⟩ := h
    rfl
  · obtain ⟨b, p, m, rfl, p0, pm, hb, hm, q⟩ := h
    have N := scFo.nd
    refine ⟨_, pss_cons (ps_set (i := 2) N rfl (.inl rfl) (pv 1))
      (pss_cons (ps_while PassesOwn.never (pt_cmpR op_lt (pv 2) (pe_bits (pv 0)) (nomark _))
        (pss_one (ps_set (i := 2) N rfl (.inl rfl) (pe_op op_add (pv 2) (pv 2)))))
      (pss_cons (ps_while PassesOwn.never (pt_cmpR op_gt (pv 2) (pv 1) (nomark _))
        (pss_cons (ps_set (i := 2) N rfl (.inl rfl) (pe_op op_fdiv (pv 2) pe_int))
        (pss_one (ps_set (i := 0) N rfl (.inl rfl) (pe_op op_or (pe_op op_and (pv 0) (pe_fn FU hr (pa_cons (pv 2) pa_nil))) (pe_op op_shr (pv 0) (pv 2)))))))
      (pss_one (ps_ret (pv 0))))), ?_⟩
    refine seqV (Good := fun σ2 H2 => H = H2 ∧ σ2 = [some (.int b), some (.int p), some (.int p)]) (fun nx hnx => ⟨_, rfl, hnx _ _ ⟨rfl, rfl⟩⟩) ?_
    rintro _ _ ⟨rfl, rfl⟩
    have ln := len_lt hb
    refine seqV (Good := fun σ2 H2 => ∃ k v : Nat, v = p * 2 ^ k ∧ v ≤ 200000 ∧ b < 2 ^ v ∧ H = H2 ∧ σ2 = [some (.int b), some (.int p), some (.int v)]) ?_ ?_
    · intro nx hnx
      refine ⟨fun k σ H2 => ∃ j v : Nat, k = 100000 - v ∧ v = p * 2 ^ j ∧ v ≤ 200000 ∧ H = H2 ∧ σ = [some (.int b), some (.int p), some (.int v)], ⟨_, 0, p, rfl, by rw [Nat.pow_zero, Nat.mul_one], by omega, rfl, rfl⟩, ?_⟩
      rintro k σ H2 ⟨j, v, rfl, ev, vm, rfl, rfl⟩
      have v0 : 0 < v := by rw [ev]; exact Nat.mul_pos p0 (Nat.two_pow_pos j)
      refine ⟨_, rfl, _, rfl, _, rfl, _, _, rfl, rfl, decide ((v : Int) < (Builtin.Int.intBits (b : Int) : Nat)), rfl, ?_⟩
      rw [len_nat]
      by_cases c : v < lenN b
      · rw [decide_eq_true (by omega)]
        refine iteT ⟨fun σ3 H3 => ∃ v' : Nat, v' = v + v ∧ H = H3 ∧ σ3 = [some (.int b), some (.int p), some (.int v')], fun σ3 H3 ⟨v', e1, e3, e4⟩ => ⟨100000 - v', by omega, j + 1, v', rfl, by rw [e1, ev, Nat.pow_succ, ← Nat.mul_assoc]; omega, by omega, e3, e4⟩, ?_⟩
        refine ⟨_, rfl, _, rfl, _, _, rfl, rfl, v + v, rfl, rfl, ?_⟩
        rw [show ((v + v : Nat) : Int) = (v : Int) + v by omega]
        rfl
      · rw [decide_eq_false (by omega)]
        refine iteF (hnx _ _ ⟨j, v, ev, vm, ?_, rfl, rfl⟩)
        exact Nat.lt_of_lt_of_le (lt_len b) (Nat.pow_le_pow_right (by decide) (by omega))
    rintro _ _ ⟨k, v, ev, vm, bv, rfl, rfl⟩
    refine ⟨fun z σ H2 => ∃ v bits : Nat, z = v ∧ v ≤ 200000 ∧ FoI p b v bits ∧ H = H2 ∧ σ = [some (.int bits), some (.int p), some (.int v)], ⟨_, v, b, rfl, vm, by rw [ev]; exact foI_0 (by rw [← ev]; exact bv), rfl, rfl⟩, ?_⟩
    rintro z σ H2 ⟨v, bits, ez, vm, fo, rfl, rfl⟩
    obtain ⟨j, ej⟩ := fo.d
    have pv_ : p ≤ v := by
      rw [ej]
      exact Nat.le_mul_of_pos_right p (Nat.two_pow_pos j)
    refine ⟨_, rfl, _, rfl, _, _, rfl, rfl, decide ((p : Int) < v), rfl, ?_⟩
    by_cases c : p < v
    · rw [decide_eq_true (by omega)]
      have fs := foI_S fo c
      obtain ⟨_, _, e2⟩ := foI_half j ej c
      have hv : (v : Int) / 2 = ((v / 2 : Nat) : Int) := by simp
      generalize hw : v / 2 = u at fs e2 hv
      refine iteT ⟨fun σ3 H3 => ∃ bits' : Nat, FoI p b u bits' ∧ H = H3 ∧ σ3 = [some (.int bits'), some (.int p), some (.int u)], fun σ3 H3 ⟨bits', e1, e3, e4⟩ => ⟨u, by omega, u, bits', rfl, by omega, e1, e3, e4⟩, ?_⟩
      refine seqV (Good := fun σ2 H2 => H = H2 ∧ σ2 = [some (.int bits), some (.int p), some (.int u)]) ?_ ?_
      · intro nx hnx
        rw [← hv] at hnx
        exact ⟨_, rfl, _, _, rfl, rfl, ⟨by omega, by decide⟩, hnx _ _ ⟨rfl, rfl⟩⟩
      rintro _ _ ⟨rfl, rfl⟩
      refine ⟨_, rfl, _, rfl, u, rfl, by omega, _, _, rfl, rfl, _, rfl, _, rfl, _, _, rfl, rfl, by omega, _, _, rfl, rfl, _, fs, rfl, ?_⟩
      rw [← or_nat, ← and_nat, ← shr_nat]
      rfl
    · rw [decide_eq_false (by omega)]
      have : v = p := by omega
      subst this
      exact iteF ⟨_, rfl, q bits (foI_end fo)⟩
def spSo : Sp := fun vs H Q _ => ∃ u v m k : Nat, vs = [.int u, .int v] ∧ u < 2 ^ m ∧ v < 2 ^ k ∧ m ≤ 100000 ∧ k ≤ 100000 ∧ ∀ (out : Nat) (H' : Hp), Same H H' → SumsAt u v out → Q (.int out) H'
abbrev NSo : List Str := ["bits", "others", "out", "far"]
theorem scSo : FnScope NSo ["bits", "others"] (defScope (top 27)) := ⟨rfl, rfl, rfl, by decide +kernel, rfl, by decide +kernel, by decide +kernel⟩
theorem ok_so {f : Addr} {fd : FuncData} (F : Fun K "sums_of" "sums_of" (top 27) f fd) (ON : Fn P w K mg base 1 "ones" ["bits"] spOnes) : FnOk P w K mg base CX0 2 f fd ["bits", "others"] spSo := by
  refine F.ok scSo (fun vs H Q E h => ?_) (fun cdv A outer s H vs Q E hr h => ?_)
  · obtain ⟨u, v, m, k, rfl, _⟩ := h
    rfl
  · obtain ⟨u, v, m, k, rfl, hu, hv, hm, hk, q⟩ := h
    have N := scSo.nd
    refine ⟨_, pss_cons (ps_set (i := 2) N rfl (.inl rfl) pe_int)
      (pss_cons (ps_for PassesOwn.never rfl (pi_list (pe_fn ON hr (pa_cons (pv 0) pa_nil))) (pg_name (i := 3) N rfl (.inl rfl))
        (pss_one (ps_set (i := 2) N rfl (.inl rfl) (pe_op op_or (pv 2) (pe_op op_shlW (pv 1) (pv 3))))))
      (pss_one (ps_ret (pv 2)))), ?_⟩
    refine ⟨_, rfl, u, rfl, Nat.lt_of_lt_of_le hu (Nat.pow_le_pow_right (by decide) (by omega)), fun o H1 no s1 ho => ?_⟩
    refine ⟨o, rfl, ⟨_, .inl (.inl ho)⟩, ?_⟩
    refine loop_of (n := (onesL u).length) (fun i σ H2 => ∃ (v3 : Option V) (x : Nat), σ = [some (.int u), some (.int v), some (.int x), v3] ∧ Same H1 H2 ∧ SumsOf ((onesL u).take i) v x)
      ⟨none, 0, rfl, (fun _ _ e => e), sumsOf_nil v⟩ ?_ ?_
    · rintro σ H2 ⟨v3, x, rfl, s2, hx⟩
      refine ⟨⟨_, .inl (.inl (s2 _ _ ho)), by rw [iN_len]; exact Nat.le_refl _⟩, ?_⟩
      rw [List.take_length] at hx
      exact ⟨_, rfl, q x H2 (s1.trans s2) (sumsOf_all hx fun a => mem_onesL)⟩
    · rintro i σ H2 hi ⟨v3, x, rfl, s2, hx⟩
      have hi2 : i < (iN (onesL u)).length := by rw [iN_len]; exact hi
      refine ⟨⟨_, _, .inl (.inl (s2 _ _ ho)), List.getElem?_eq_getElem hi2⟩, ?_⟩
      rintro y H3 ⟨rfl, hy⟩
      have hvi := hy _ (.inl (.inl (s2 _ _ ho)))
      obtain ⟨g, eg⟩ : ∃ g, (onesL u)[i]? = some g := ⟨_, List.getElem?_eq_getElem hi⟩
      have ey : y = .int (g : Nat) := by
        have : (iN (onesL u))[i]? = some (.int (g : Nat)) := by
          unfold iN
          rw [List.getElem?_map, eg]
          rfl
        rw [this] at hvi
        exact (Option.some.inj hvi).symm
      subst ey
      have gm : u.testBit g = true := mem_onesL.mp (List.mem_of_getElem? eg)
      have gl := bit_lt gm hu
      refine gn ?_
      refine ⟨_, rfl, _, rfl, _, rfl, _, _, rfl, rfl, cshl hv (by omega), _, _, rfl, rfl, ?_⟩
      refine ⟨some (.int (g : Nat)), x ||| (v <<< g), ?_, s2, ?_⟩
      · show [some (V.int u), some (V.int v), some (V.int (Builtin.bitOr (x : Int) ((v : Int) * 2 ^ ((g : Nat) : Int).toNat))), some (V.int (g : Nat))] = _
        rw [← or_nat, ← shl_nat]
      · rw [List.take_succ, eg]
        exact sumsOf_snoc hx
def spStg : Sp := fun vs H Q _ => ∃ p u v m k : Nat, vs = [.int p, .int u, .int v, .int m] ∧ 0 < p ∧ p ≤ 100000 ∧ m ≤ 100000 ∧ u < 2 ^ k ∧ k ≤ 100000 ∧ v < 2 ^ m ∧ ∀ (n out : Nat) (H' : Hp), Same H H' → StI p u v m n out → m ≤ p * n → Q (.int out) H'
abbrev NStg : List Str := ["step", "bits", "far", "many", "out", "back"]
theorem scStg : FnScope NStg ["step", "bits", "far", "many"] (defScope (top 78)) := ⟨rfl, rfl, rfl, by decide +kernel, rfl, by decide +kernel, by decide +kernel⟩
theorem ok_stg {f : Addr} {fd : FuncData} (F : Fun K "steps_together" "steps_together" (top 78) f fd) (FU : Fn P w K mg base 1 "full" ["many"] spFull) (SO : Fn P w K mg base 2 "sums_of" ["bits", "others"] spSo) : FnOk P w K mg base CX0 3 f fd ["step", "bits", "far", "many"] spStg := by
  refine F.ok scStg (fun vs H Q E h => ?_) (fun cdv A outer s H vs Q E hr h => ?_)
  · obtain ⟨p, u, v, m, k, rfl, _⟩ := h
    rfl
  · obtain ⟨p, u, v, m, k, rfl, p0, pm, mm, hu, hk, hv, q⟩ := h
    have N := scStg.nd
    have r1 := hr.mono (k := 2) (j := 1) (by decide)
    refine ⟨_, pss_cons (ps_par (i := 4) (j := 5) rfl N rfl rfl (by decide) rfl rfl (pa_cons (pe_op op_and (pe_fn SO hr (pa_cons (pv 1) (pa_cons (pv 2) pa_nil))) (pe_fn FU r1 (pa_cons (pv 3) pa_nil))) (pa_cons (pv 0) pa_nil)) (by rfl))
      (pss_cons (ps_while PassesOwn.never (pt_cmpR op_lt (pv 5) (pv 3) (nomark _))
        (pss_cons (ps_set (i := 4) N rfl (.inl rfl) (pe_op op_and (pe_op op_or (pv 4) (pe_op op_shlW (pv 4) (pv 5))) (pe_fn FU r1 (pa_cons (pv 3) pa_nil))))
        (pss_one (ps_set (i := 5) N rfl (.inl rfl) (pe_op op_add (pv 5) (pv 5))))))
      (pss_one (ps_ret (pv 4)))), ?_⟩
    refine seqV (Good := fun σ2 H2 => ∃ out : Nat, Same H H2 ∧ StI p u v m 1 out ∧ σ2 = [some (.int p), some (.int u), some (.int v), some (.int m), some (.int out), some (.int p)]) ?_ ?_
    · intro nx hnx
      refine ⟨_, rfl, _, rfl, u, v, k, m, rfl, hu, hv, hk, by omega, fun out H1 s1 so => ?_⟩
      have g := stI_0 (step := p) (m := m) so
      refine ⟨_, rfl, m, rfl, by omega, _, _, rfl, rfl, _, rfl, _, _, rfl, ?_⟩
      refine hnx _ _ ⟨_, s1, g, ?_⟩
      rw [← and_nat]
      rfl
    rintro _ H1 ⟨out, s1, g, rfl⟩
    refine ⟨fun z σ H2 => ∃ n v5 o : Nat, z = 100000 - v5 ∧ 0 < n ∧ v5 = p * n ∧ v5 ≤ 200000 ∧ StI p u v m n o ∧ H1 = H2 ∧ σ = [some (.int p), some (.int u), some (.int v), some (.int m), some (.int o), some (.int v5)], ⟨_, 1, p, out, rfl, by decide, by omega, by omega, g, rfl, rfl⟩, ?_⟩
    rintro z σ H2 ⟨n, v5, o, rfl, n0, e5, l5, g, rfl, rfl⟩
    have v0 : 0 < v5 := by rw [e5]; exact Nat.mul_pos p0 n0
    refine ⟨_, rfl, _, rfl, _, _, rfl, rfl, decide ((v5 : Int) < m), rfl, ?_⟩
    by_cases c : v5 < m
    · rw [decide_eq_true (by omega)]
      refine iteT ⟨fun σ3 H3 => ∃ o' : Nat, StI p u v m (n + n) o' ∧ H1 = H3 ∧ σ3 = [some (.int p), some (.int u), some (.int v), some (.int m), some (.int o'), some (.int (v5 + v5 : Nat))], fun σ3 H3 ⟨o', e1, e3, e4⟩ => ⟨100000 - (v5 + v5), by omega, n + n, v5 + v5, o', rfl, by omega, by rw [e5, Nat.mul_add], by omega, e1, e3, e4⟩, ?_⟩
      have gs := stI_S g
      rw [← e5] at gs
      refine seqV (Good := fun σ2 H2 => ∃ o' : Nat, StI p u v m (n + n) o' ∧ H1 = H2 ∧ σ2 = [some (.int p), some (.int u), some (.int v), some (.int m), some (.int o'), some (.int v5)]) ?_ ?_
      · intro nx hnx
        refine ⟨_, rfl, _, rfl, _, rfl, _, _, rfl, rfl, cshl g.l (by omega), _, _, rfl, rfl, _, rfl, m, rfl, by omega, _, _, rfl, rfl, hnx _ _ ⟨_, gs, rfl, ?_⟩⟩
        rw [← and_nat, ← or_nat, ← shl_nat]
        rfl
      rintro _ _ ⟨o', gs, rfl, rfl⟩
      refine ⟨_, rfl, _, rfl, _, _, rfl, rfl, o', gs, rfl, ?_⟩
      rw [show ((v5 + v5 : Nat) : Int) = (v5 : Int) + v5 by omega]
      rfl
    · rw [decide_eq_false (by omega)]
      exact iteF ⟨_, rfl, q n o H1 s1 g (by omega)⟩
end
end L2.K14
end

section
set_option Elab.async false
set_option linter.all false
set_option maxHeartbeats 400000
/-! the rests of a short row by another step -/
namespace L2.Ln
theorem emod_sub_dvd {k a b : Int} (k0 : k ≠ 0) (h : a % k = b % k) : k ∣ a - b := Int.dvd_of_emod_eq_zero (Int.emod_eq_emod_iff_emod_sub_eq_zero.mp h)
theorem dvd_emod {k a b : Int} (h : k ∣ a - b) : a % k = b % k := Int.emod_eq_emod_iff_emod_sub_eq_zero.mpr (Int.emod_eq_zero_of_dvd h)
theorem fold_short {r : Rw} {l u : Int} {m step w f1 f2 : Nat} (rl : r.lo = some l) (ru : r.hi = some u) (hm : (m : Int) = u - l + 1) (s0 : 0 < step) (hw : WinAt r.p r.b l m w) (h1 : FoldAt step w f1) (h2 : FoldAt step (f1 <<< (l % (step : Int)).toNat) f2) (n : Int) : pat step f2 n = true ↔ ∃ x, r.In x ∧ (step : Int) ∣ n - x := by
  have sz : (step : Int) ≠ 0 := by omega
  have mn := mod_lt' s0 n
  have ei : ((n % (step : Int)).toNat : Int) = n % step := Int.toNat_of_nonneg (Int.emod_nonneg n sz)
  have ek : ((l % (step : Int)).toNat : Int) = l % step := Int.toNat_of_nonneg (Int.emod_nonneg l sz)
  have ml := mod_lt' s0 l
  show f2.testBit _ = true ↔ _
  rw [h2.2 _ mn]
  generalize (l % (step : Int)).toNat = k at ek ml ⊢
  constructor
  · rintro ⟨j, hj, ej⟩
    rw [Nat.testBit_shiftLeft, Bool.and_eq_true, decide_eq_true_iff] at hj
    obtain ⟨jk, hf⟩ := hj
    have jl := bit_lt hf h1.1
    obtain ⟨t, ht, et⟩ := (h1.2 _ jl).mp hf
    have tm := bit_lt ht hw.l
    rw [hw.h t tm] at ht
    refine ⟨l + t, ⟨by rw [rl]; exact ge_some.mpr (by omega), by rw [ru]; exact le_some.mpr (by omega), ht⟩, emod_sub_dvd sz ?_⟩
    have e1 : ((j % step : Nat) : Int) = n % step := by rw [ej]; exact ei
    rw [Int.natCast_emod] at e1
    have e2 : (t : Int) % (step : Int) = ((j - k : Nat) : Int) := by rw [← Int.natCast_emod, et]
    rw [← e1, Int.add_emod, ← ek, e2, show (k : Int) + ((j - k : Nat) : Int) = (j : Int) by omega]
  · rintro ⟨x, hx, d⟩
    have x1 := hx.1 l rl
    have x2 := hx.2.1 u ru
    obtain ⟨t, et⟩ : ∃ t : Nat, x = l + t := ⟨(x - l).toNat, by omega⟩
    have tm : t < m := by omega
    have tb : w.testBit t = true := by
      rw [hw.h t tm, ← et]
      exact hx.2.2
    have tl := Nat.mod_lt t s0
    have f1b : f1.testBit (t % step) = true := (h1.2 _ tl).mpr ⟨t, tb, rfl⟩
    refine ⟨t % step + k, ?_, ?_⟩
    · rw [Nat.testBit_shiftLeft, Bool.and_eq_true, decide_eq_true_iff]
      exact ⟨by omega, by rw [show t % step + k - k = t % step by omega]; exact f1b⟩
    · have e1 := dvd_emod d
      have e2 : (((t % step + k) % step : Nat) : Int) = n % (step : Int) := by
        rw [Int.natCast_emod, Int.natCast_add, Int.natCast_emod, ek, Int.add_comm, ← Int.add_emod, ← et, e1]
      omega
/-- whose length is less -/
def shB : Option Int → Option Int → Bool
  | none, _ => false
  | some _, none => true
  | some a, some b => decide (a < b)
/-- where the second row is not shorter -/
theorem sh_of {r s : Rw} (h : ∀ l u, s.lo = some l → s.hi = some u → ∃ l' u', r.lo = some l' ∧ r.hi = some u' ∧ u' - l' ≤ u - l) {step z : Nat}
    (ab : (∃ l u, r.lo = some l ∧ r.hi = some u ∧ u - l + 1 ≤ (Nat.lcm r.p s.p : Nat) ∧ step = s.p ∧ (z : Int) = u - l) ∨
    ((∀ l u, r.lo = some l → r.hi = some u → (Nat.lcm r.p s.p : Nat) < u - l + 1) ∧ step = Nat.gcd r.p s.p ∧ z + 1 = Nat.lcm r.p s.p)) : ZoneAt r s step z := ⟨h, ab⟩
end L2.Ln
end

section
set_option Elab.async false
set_option linter.all false
set_option maxRecDepth 100000
set_option maxHeartbeats 2000000
namespace L2.K14
open PySem PySem.Spec PyProof.Rows L2.Gd L2.Ln L2.Bt
/-! ### the zones of the sums of two rows -/
theorem min_int (p m : Nat) : (if ((m : Nat) : Int) < (p : Int) then (m : Int) else (p : Int)) = ((min p m : Nat) : Int) := by
  by_cases c : (m : Int) < p
  · rw [if_pos c, Nat.min_eq_right (by omega)]
  · rw [if_neg c, Nat.min_eq_left (by omega)]
section
variable {P : Program} {w : World} {K : PySem.W.Frag} {mg : Str → Option Value} {base : Heap}
def spLos : Sp := fun vs H Q _ => ∃ (v1 v2 : V) (r s : Rw) (l l' : Int) (m : Nat), vs = [v1, v2, .int m] ∧ RowV H v1 r ∧ RowV H v2 s ∧ r.lo = some l ∧ s.lo = some l' ∧ r.Ok ∧ s.Ok ∧ r.p ≤ 2520 ∧ s.p ≤ 2520 ∧ m ≤ 20000 ∧ ∀ (x : Nat) (H' : Hp), Same H H' → LsAt r s l l' m x → Q (.int x) H'
abbrev NLos : List Str := ["one", "two", "many", "left", "right"]
theorem scLos : FnScope NLos ["one", "two", "many"] (defScope (top 79)) := ⟨rfl, rfl, rfl, by decide +kernel, rfl, by decide +kernel, by decide +kernel⟩
theorem ok_los {f : Addr} {fd : FuncData} (F : Fun K "lowest_sums" "lowest_sums" (top 79) f fd) (n : Nm mg) (MO : Fn P w K mg base 1 "many_ones" ["bits"] spMo1) (WI : Fn P w K mg base 3 "window" ["step", "bits", "low", "many"] spWi) (ST : Fn P w K mg base 3 "steps_together" ["step", "bits", "far", "many"] spStg) : FnOk P w K mg base CX0 4 f fd ["one", "two", "many"] spLos := by
  refine F.ok scLos (fun vs H Q E h => ?_) (fun cdv A outer s H vs Q E hr h => ?_)
  · obtain ⟨v1, v2, r, s, l, l', m, rfl, _⟩ := h
    rfl
  · obtain ⟨v1, v2, r, s, l, l', m, rfl, ⟨t1, rfl, h1⟩, ⟨t2, rfl, h2⟩, el, el', ok1, ok2, p1, p2, mm, q⟩ := h
    have N := scLos.nd
    have r1 := hr.mono (k := 3) (j := 1) (by decide)
    unfold Rvs at h1 h2
    rw [el] at h1
    rw [el'] at h2
    refine ⟨_, pss_cons (ps_set (i := 3) N rfl (.inl rfl) (pe_fn WI hr (pa_cons (pe_ix ix_tup (pv 0) pe_int (fun _ _ => rfl)) (pa_cons (pe_ix ix_tup (pv 0) pe_int (fun _ _ => rfl)) (pa_cons (pe_ix ix_tup (pv 0) pe_int (fun _ _ => rfl)) (pa_cons (pe_callB (call_min2 rfl) (by rfl) n.min (by decide +kernel) (pa_cons (pe_ix ix_tup (pv 0) pe_int (fun _ _ => rfl)) (pa_cons (pv 2) pa_nil))) pa_nil))))))
      (pss_cons (ps_set (i := 4) N rfl (.inl rfl) (pe_fn WI hr (pa_cons (pe_ix ix_tup (pv 1) pe_int (fun _ _ => rfl)) (pa_cons (pe_ix ix_tup (pv 1) pe_int (fun _ _ => rfl)) (pa_cons (pe_ix ix_tup (pv 1) pe_int (fun _ _ => rfl)) (pa_cons (pe_callB (call_min2 rfl) (by rfl) n.min (by decide +kernel) (pa_cons (pe_ix ix_tup (pv 1) pe_int (fun _ _ => rfl)) (pa_cons (pv 2) pa_nil))) pa_nil))))))
      (pss_cons (ps_if (pt_cmpR op_gt (pe_fn MO r1 (pa_cons (pv 3) pa_nil)) (pe_fn MO r1 (pa_cons (pv 4) pa_nil)) (nomark _))
        (pss_one (ps_ret (pe_fn ST hr (pa_cons (pe_ix ix_tup (pv 1) pe_int (fun _ _ => rfl)) (pa_cons (pv 4) (pa_cons (pe_fn WI hr (pa_cons (pe_ix ix_tup (pv 0) pe_int (fun _ _ => rfl)) (pa_cons (pe_ix ix_tup (pv 0) pe_int (fun _ _ => rfl)) (pa_cons (pe_ix ix_tup (pv 0) pe_int (fun _ _ => rfl)) (pa_cons (pv 2) pa_nil))))) (pa_cons (pv 2) pa_nil))))))) pss_nil)
      (pss_one (ps_ret (pe_fn ST hr (pa_cons (pe_ix ix_tup (pv 0) pe_int (fun _ _ => rfl)) (pa_cons (pv 3) (pa_cons (pe_fn WI hr (pa_cons (pe_ix ix_tup (pv 1) pe_int (fun _ _ => rfl)) (pa_cons (pe_ix ix_tup (pv 1) pe_int (fun _ _ => rfl)) (pa_cons (pe_ix ix_tup (pv 1) pe_int (fun _ _ => rfl)) (pa_cons (pv 2) pa_nil))))) (pa_cons (pv 2) pa_nil))))))))), ?_⟩
    have m1 := min_int r.p m
    have m2 := min_int s.p m
    refine seqV (Good := fun σ2 H2 => ∃ a : Nat, WinAt r.p r.b l (min r.p m) a ∧ H = H2 ∧ σ2 = [some (.ref t1), some (.ref t2), some (.int m), some (.int a), none]) ?_ ?_
    · intro nx hnx
      exact ⟨_, rfl, t1, _, _, _, rfl, rfl, .inl (.inl h1), rfl, _, rfl, t1, _, _, _, rfl, rfl, .inl (.inl h1), rfl, _, rfl, t1, _, _, _, rfl, rfl, .inl (.inl h1), rfl, _, rfl, t1, _, _, _, rfl, rfl, .inl (.inl h1), rfl, _, rfl, _, _, rfl, r.p, r.b, min r.p m, l, by rw [← m1]; rfl, ok1.p0, by omega, by omega, ok1.bl, fun a wa => hnx _ _ ⟨a, wa, rfl, rfl⟩⟩
    rintro _ _ ⟨a, wa, rfl, rfl⟩
    refine seqV (Good := fun σ2 H2 => ∃ b : Nat, WinAt s.p s.b l' (min s.p m) b ∧ H = H2 ∧ σ2 = [some (.ref t1), some (.ref t2), some (.int m), some (.int a), some (.int b)]) ?_ ?_
    · intro nx hnx
      exact ⟨_, rfl, t2, _, _, _, rfl, rfl, .inl (.inl h2), rfl, _, rfl, t2, _, _, _, rfl, rfl, .inl (.inl h2), rfl, _, rfl, t2, _, _, _, rfl, rfl, .inl (.inl h2), rfl, _, rfl, t2, _, _, _, rfl, rfl, .inl (.inl h2), rfl, _, rfl, _, _, rfl, s.p, s.b, min s.p m, l', by rw [← m2]; rfl, ok2.p0, by omega, by omega, ok2.bl, fun a wa => hnx _ _ ⟨a, wa, rfl, rfl⟩⟩
    rintro _ _ ⟨b, wb, rfl, rfl⟩
    refine ⟨_, rfl, a, min r.p m, rfl, wa.l, by omega, fun c1 => ⟨_, rfl, b, min s.p m, rfl, wb.l, by omega, fun c2 => ⟨_, _, rfl, rfl, decide (c2 < c1), rfl, ?_⟩⟩⟩
    by_cases c : c2 < c1
    · rw [decide_eq_true c]
      refine iteT ⟨_, rfl, t2, _, _, _, rfl, rfl, .inl (.inl h2), rfl, _, rfl, _, rfl, t1, _, _, _, rfl, rfl, .inl (.inl h1), rfl, _, rfl, t1, _, _, _, rfl, rfl, .inl (.inl h1), rfl, _, rfl, t1, _, _, _, rfl, rfl, .inl (.inl h1), rfl, _, rfl, r.p, r.b, m, l, rfl, ok1.p0, by omega, by omega, ok1.bl, fun v wv => ⟨_, rfl, s.p, b, v, m, min s.p m, rfl, ok2.p0, by omega, by omega, wb.l, by omega, wv.l, fun k out H' s' st le => q out H' s' (lsAt_of ok2.p0 wb wv st le).comm⟩⟩
    · rw [decide_eq_false c]
      refine iteF ⟨_, rfl, t1, _, _, _, rfl, rfl, .inl (.inl h1), rfl, _, rfl, _, rfl, t2, _, _, _, rfl, rfl, .inl (.inl h2), rfl, _, rfl, t2, _, _, _, rfl, rfl, .inl (.inl h2), rfl, _, rfl, t2, _, _, _, rfl, rfl, .inl (.inl h2), rfl, _, rfl, s.p, s.b, m, l', rfl, ok2.p0, by omega, by omega, ok2.bl, fun v wv => ⟨_, rfl, r.p, a, v, m, min r.p m, rfl, ok1.p0, by omega, by omega, wa.l, by omega, wv.l, fun k out H' s' st le => q out H' s' (lsAt_of ok1.p0 wa wv st le)⟩⟩
end
end L2.K14
end

section
set_option Elab.async false
set_option linter.all false
set_option maxRecDepth 100000
set_option maxHeartbeats 2000000
namespace L2.K14
open PySem PySem.Spec PyProof.Rows L2.Gd L2.Ln L2.Bt
theorem hs_of {r s r' s' : Rw} {h h' : Int} {z x : Nat} (m : Mir r r') (k : Mir s s') (a : LsAt r' s' (0 - h) (0 - h') z x) : HsAt r s h h' z (backN x z) := by
  refine ⟨(backN_bit x z).1, fun i hi => ?_⟩
  rw [(backN_bit x z).2 i hi, a.h _ (by omega)]
  have e : ∀ (t : Rw) (t' : Rw), Mir t t' → ∀ (g : Int) (c : Nat), pat t'.p t'.b (0 - g + c) = pat t.p t.b (g - c) := fun t t' mt g c => by
    rw [mt.pt]
    congr 1
    omega
  constructor
  · rintro ⟨c, d, e1, h1, h2⟩
    rw [e _ _ m] at h1
    rw [e _ _ k] at h2
    exact ⟨c, d, e1, h1, h2⟩
  · rintro ⟨c, d, e1, h1, h2⟩
    exact ⟨c, d, e1, by rw [e _ _ m]; exact h1, by rw [e _ _ k]; exact h2⟩
section
variable {P : Program} {w : World} {K : PySem.W.Frag} {mg : Str → Option Value} {base : Heap}
def spLwz : Sp := fun vs H Q _ => ∃ (v1 v2 : V) (r s : Rw) (z : Nat), vs = [v1, v2, .int z] ∧ RowV H v1 r ∧ RowV H v2 s ∧ r.Ok ∧ s.Ok ∧ r.p ≤ 2520 ∧ s.p ≤ 2520 ∧ z ≤ 20000 ∧ ∀ (a : Addr) (ls : List Rw) (H' : Hp), H a = none → Same H H' → RowsAt H' a ls → LowZ r s z ls → Q (.ref a) H'
theorem scLwz : FnScope ["one", "two", "many"] ["one", "two", "many"] (defScope (top 80)) := ⟨rfl, rfl, rfl, by decide +kernel, rfl, by decide +kernel, by decide +kernel⟩
theorem ok_lwz {f : Addr} {fd : FuncData} (F : Fun K "low_zone" "low_zone" (top 80) f fd) (LO : Fn P w K mg base 4 "lowest_sums" ["one", "two", "many"] spLos) (RB : Fn P w K mg base 3 "row_of_bits" ["low", "many", "bits"] spRb) : FnOk P w K mg base CX0 5 f fd ["one", "two", "many"] spLwz := by
  refine F.ok scLwz (fun vs H Q E h => ?_) (fun cdv A outer s H vs Q E hr h => ?_)
  · obtain ⟨v1, v2, r, s, z, rfl, _⟩ := h
    rfl
  · obtain ⟨v1, v2, r, s, z, rfl, ⟨t1, rfl, h1⟩, ⟨t2, rfl, h2⟩, ok1, ok2, p1, p2, zm, q⟩ := h
    have g1 := h1
    have g2 := h2
    unfold Rvs at h1 h2
    have r3 := hr.mono (k := 4) (j := 3) (by decide)
    refine ⟨_, pss_cons (ps_if (pw_or (pt_cmpR op_eq (pv 2) pe_int (nomark _)) (pw_or (pt_cmp (pc_isN (pe_ix ix_tup (pv 0) pe_int (fun _ _ => rfl)))) (pw_or1 (pt_cmp (pc_isN (pe_ix ix_tup (pv 1) pe_int (fun _ _ => rfl))))))).pt (pss_one (ps_ret (pe_lst pa_nil))) pss_nil)
      (pss_one (ps_ret (pe_lst (pa_cons (pe_fn RB r3 (pa_cons (pe_op op_add (pe_ix ix_tup (pv 0) pe_int (fun _ _ => rfl)) (pe_ix ix_tup (pv 1) pe_int (fun _ _ => rfl))) (pa_cons (pv 2) (pa_cons (pe_fn LO hr (pa_cons (pv 0) (pa_cons (pv 1) (pa_cons (pv 2) pa_nil)))) pa_nil)))) pa_nil)))), ?_⟩
    have none_ : ∀ (h : z = 0 ∨ r.lo = none ∨ s.lo = none), (0 : Nat) ≤ sizeLine ∧ ∀ a, H a = none → Q (.ref a) (upd H a (.lst [])) := fun h => ⟨Nat.zero_le _, fun a ha => q a [] _ ha (same_upd ha) ⟨[], upd_same, .nil⟩ (.none h)⟩
    refine ⟨_, rfl, rfl, decide (V.int (z : Int) = V.int 0), rfl, ?_⟩
    by_cases c : z = 0
    · rw [show decide (V.int (z : Int) = V.int 0) = true from decide_eq_true (by rw [c]; rfl)]
      exact iteT (iteT (none_ (.inl c)))
    rw [show decide (V.int (z : Int) = V.int 0) = false from decide_eq_false (fun e => c (by have := V.int.inj e; omega))]
    refine iteF ?_
    cases el : r.lo with
    | none =>
      rw [el] at h1
      exact ⟨_, rfl, t1, _, _, _, rfl, rfl, .inl (.inl h1), rfl, true, rfl, iteT (iteT (none_ (.inr (.inl el))))⟩
    | some l =>
      rw [el] at h1
      refine ⟨_, rfl, t1, _, _, _, rfl, rfl, .inl (.inl h1), rfl, false, rfl, iteF ?_⟩
      cases el' : s.lo with
      | none =>
        rw [el'] at h2
        exact ⟨_, rfl, t2, _, _, _, rfl, rfl, .inl (.inl h2), rfl, true, rfl, iteT (none_ (.inr (.inr el')))⟩
      | some l' =>
        rw [el'] at h2
        refine ⟨_, rfl, t2, _, _, _, rfl, rfl, .inl (.inl h2), rfl, false, rfl, iteF ?_⟩
        refine ⟨_, rfl, t1, _, _, _, rfl, rfl, .inl (.inl h1), rfl, _, rfl, t2, _, _, _, rfl, rfl, .inl (.inl h2), rfl, _, _, rfl, rfl, _, rfl, _, rfl, _, rfl, _, rfl, .ref t1, .ref t2, r, s, l, l', z, rfl, ⟨t1, rfl, g1⟩, ⟨t2, rfl, g2⟩, el, el', ok1, ok2, p1, p2, zm, fun x H1 s1 ls => ?_⟩
        refine ⟨l + l', z, x, rfl, by omega, by omega, ls.l, fun v H2 s2 rv => ⟨(by show 1 ≤ sizeLine; decide), fun a ha => ?_⟩⟩
        have s3 := same_upd (o := .lst [v]) ha
        exact q a _ _ ((s1.trans s2).free ha) (s1.trans (s2.trans s3)) ⟨[v], upd_same, .cons (rv.same s3) .nil⟩ (.some (by omega) el el' ls)
def spHiz : Sp := fun vs H Q _ => ∃ (v1 v2 : V) (r s : Rw) (z : Nat), vs = [v1, v2, .int z] ∧ RowV H v1 r ∧ RowV H v2 s ∧ r.Ok ∧ s.Ok ∧ r.p ≤ 640 ∧ s.p ≤ 640 ∧ z ≤ 640 ∧ ∀ (a : Addr) (hs : List Rw) (H' : Hp), H a = none → Same H H' → RowsAt H' a hs → HighZ r s z hs → Q (.ref a) H'
theorem scHiz : FnScope ["one", "two", "many", "bits"] ["one", "two", "many"] (defScope (top 81)) := ⟨rfl, rfl, rfl, by decide +kernel, rfl, by decide +kernel, by decide +kernel⟩
theorem mir_ok {r r' : Rw} (m : Mir r r') (ok : r.Ok) : r'.Ok := ⟨by rw [m.p]; exact ok.p0, m.bl, fun l x e1 e2 => by
  rw [m.lo] at e1
  rw [m.hi] at e2
  have := ok.le _ _ (negO_some e2) (negO_some e1)
  omega⟩
theorem ok_hiz {f : Addr} {fd : FuncData} (F : Fun K "high_zone" "high_zone" (top 81) f fd) (MW : Fn P w K mg base 4 "mirrored_row" ["row"] spMw) (LO : Fn P w K mg base 4 "lowest_sums" ["one", "two", "many"] spLos) (RB : Fn P w K mg base 3 "row_of_bits" ["low", "many", "bits"] spRb) (BK : Fn P w K mg base 1 "backwards" ["bits", "many"] spBk) : FnOk P w K mg base CX0 5 f fd ["one", "two", "many"] spHiz := by
  refine F.ok scHiz (fun vs H Q E h => ?_) (fun cdv A outer s H vs Q E hr h => ?_)
  · obtain ⟨v1, v2, r, s, z, rfl, _⟩ := h
    rfl
  · obtain ⟨v1, v2, r, s, z, rfl, ⟨t1, rfl, h1⟩, ⟨t2, rfl, h2⟩, ok1, ok2, p1, p2, zm, q⟩ := h
    have g1 := h1
    have g2 := h2
    unfold Rvs at h1 h2
    have N := scHiz.nd
    have r3 := hr.mono (k := 4) (j := 3) (by decide)
    have r1 := hr.mono (k := 4) (j := 1) (by decide)
    refine ⟨_, pss_cons (ps_if (pw_or (pt_cmpR op_eq (pv 2) pe_int (nomark _)) (pw_or (pt_cmp (pc_isN (pe_ix ix_tup (pv 0) pe_int (fun _ _ => rfl)))) (pw_or1 (pt_cmp (pc_isN (pe_ix ix_tup (pv 1) pe_int (fun _ _ => rfl))))))).pt (pss_one (ps_ret (pe_lst pa_nil))) pss_nil)
      (pss_cons (ps_set (i := 3) N rfl (.inl rfl) (pe_fn LO hr (pa_cons (pe_fn MW hr (pa_cons (pv 0) pa_nil)) (pa_cons (pe_fn MW hr (pa_cons (pv 1) pa_nil)) (pa_cons (pv 2) pa_nil)))))
      (pss_one (ps_ret (pe_lst (pa_cons (pe_fn RB r3 (pa_cons (pe_op op_add (pe_op op_sub (pe_op op_add (pe_ix ix_tup (pv 0) pe_int (fun _ _ => rfl)) (pe_ix ix_tup (pv 1) pe_int (fun _ _ => rfl))) (pv 2)) pe_int) (pa_cons (pv 2) (pa_cons (pe_fn BK r1 (pa_cons (pv 3) (pa_cons (pv 2) pa_nil))) pa_nil)))) pa_nil))))), ?_⟩
    have none_ : ∀ (h : z = 0 ∨ r.hi = none ∨ s.hi = none), (0 : Nat) ≤ sizeLine ∧ ∀ a, H a = none → Q (.ref a) (upd H a (.lst [])) := fun h => ⟨Nat.zero_le _, fun a ha => q a [] _ ha (same_upd ha) ⟨[], upd_same, .nil⟩ (.none h)⟩
    refine seqV (Good := fun σ2 H2 => ∃ l l' : Int, ¬ z = 0 ∧ r.hi = some l ∧ s.hi = some l' ∧ H = H2 ∧ σ2 = [some (.ref t1), some (.ref t2), some (.int z), none]) ?_ ?_
    · intro nx hnx
      refine ⟨_, rfl, rfl, decide (V.int (z : Int) = V.int 0), rfl, ?_⟩
      by_cases c : z = 0
      · rw [show decide (V.int (z : Int) = V.int 0) = true from decide_eq_true (by rw [c]; rfl)]
        exact iteT (iteT (none_ (.inl c)))
      rw [show decide (V.int (z : Int) = V.int 0) = false from decide_eq_false (fun e => c (by have := V.int.inj e; omega))]
      refine iteF ?_
      cases el : r.hi with
      | none =>
        rw [el] at h1
        exact ⟨_, rfl, t1, _, _, _, rfl, rfl, .inl (.inl h1), rfl, true, rfl, iteT (iteT (none_ (.inr (.inl el))))⟩
      | some l =>
        rw [el] at h1
        refine ⟨_, rfl, t1, _, _, _, rfl, rfl, .inl (.inl h1), rfl, false, rfl, iteF ?_⟩
        cases el' : s.hi with
        | none =>
          rw [el'] at h2
          exact ⟨_, rfl, t2, _, _, _, rfl, rfl, .inl (.inl h2), rfl, true, rfl, iteT (none_ (.inr (.inr el')))⟩
        | some l' =>
          rw [el'] at h2
          exact ⟨_, rfl, t2, _, _, _, rfl, rfl, .inl (.inl h2), rfl, false, rfl, iteF (hnx _ _ ⟨l, l', c, el, el', rfl, rfl⟩)⟩
    rintro _ _ ⟨l, l', c, el, el', rfl, rfl⟩
    rw [el] at h1
    rw [el'] at h2
    refine seqV (Good := fun σ2 H2 => ∃ x : Nat, Same H H2 ∧ HsAt r s l l' z (backN x z) ∧ x < 2 ^ z ∧ σ2 = [some (.ref t1), some (.ref t2), some (.int z), some (.int x)]) ?_ ?_
    · intro nx hnx
      refine ⟨_, rfl, .ref t1, r, rfl, ⟨t1, rfl, g1⟩, ok1, p1, fun o1 r' H1 n1 s1 rv1 m1 => ⟨_, rfl, .ref t2, s, rfl, ⟨t2, rfl, s1 _ _ g2⟩, ok2, p2, fun o2 s' H2 n2 s2 rv2 m2 => ?_⟩⟩
      refine ⟨_, rfl, .ref o1, .ref o2, r', s', 0 - l, 0 - l', z, rfl, rv1.same s2, rv2, by rw [m1.lo, el]; rfl, by rw [m2.lo, el']; rfl, mir_ok m1 ok1, mir_ok m2 ok2, by rw [m1.p]; omega, by rw [m2.p]; omega, by omega, fun x H3 s3 ls => ?_⟩
      exact hnx _ _ ⟨x, s1.trans (s2.trans s3), hs_of m1 m2 ls, ls.l, rfl⟩
    rintro _ H1 ⟨x, s1, hs, xl, rfl⟩
    have h11 := s1 _ _ h1
    have h12 := s1 _ _ h2
    refine ⟨_, rfl, t1, _, _, _, rfl, rfl, .inl (.inl h11), rfl, _, rfl, t2, _, _, _, rfl, rfl, .inl (.inl h12), rfl, _, _, rfl, rfl, _, rfl, _, _, rfl, rfl, _, _, rfl, rfl, _, rfl, _, rfl, _, rfl, x, z, rfl, xl, by omega, by omega, ?_⟩
    refine ⟨l + l' - z + 1, z, backN x z, rfl, by omega, by omega, hs.l, fun v H2 s2 rv => ⟨(by show 1 ≤ sizeLine; decide), fun a ha => ?_⟩⟩
    have s3 := same_upd (o := .lst [v]) ha
    exact q a _ _ ((s1.trans s2).free ha) (s1.trans (s2.trans s3)) ⟨[v], upd_same, .cons (rv.same s3) .nil⟩ (.some (by omega) el el' hs)
/-! ### the rests by a step -/
def spRby : Sp := fun vs H Q _ => ∃ (v : V) (r : Rw) (step : Nat), vs = [v, .int step] ∧ RowV H v r ∧ Nt r ∧ 0 < step ∧ step ≤ 2520 ∧ r.p ≤ 2520 ∧ (step ∣ r.p ∨ ∃ l u, r.lo = some l ∧ r.hi = some u ∧ u - l ≤ 20000) ∧ ∀ (out : Nat), out < 2 ^ step → (∀ n, pat step out n = true ↔ ∃ x, r.In x ∧ (step : Int) ∣ n - x) → Q (.int out) H
abbrev NRby : List Str := ["row", "step", "low", "high", "own", "bits", "many", "found"]
theorem scRby : FnScope NRby ["row", "step"] (defScope (top 83)) := ⟨rfl, rfl, rfl, by decide +kernel, rfl, by decide +kernel, by decide +kernel⟩
theorem ok_rby {f : Addr} {fd : FuncData} (F : Fun K "rests_by" "rests_by" (top 83) f fd) (FO : Fn P w K mg base 2 "folded" ["bits", "step"] spFo) (WI : Fn P w K mg base 3 "window" ["step", "bits", "low", "many"] spWi) : FnOk P w K mg base CX0 4 f fd ["row", "step"] spRby := by
  refine F.ok scRby (fun vs H Q E h => ?_) (fun cdv A outer s H vs Q E hr h => ?_)
  · obtain ⟨v, r, step, rfl, _⟩ := h
    rfl
  · obtain ⟨v, r, step, rfl, ⟨t, rfl, ht⟩, nt, s0, sm, pm, alt, q⟩ := h
    have N := scRby.nd
    have r2 := hr.mono (k := 3) (j := 2) (by decide)
    unfold Rvs at ht
    have p0 := nt.ok.p0
    have bl := nt.ok.bl
    refine ⟨_, pss_cons (ps_asg (pv 0) (pg_tup rfl (pgs_cons (pg_name (i := 2) N rfl (.inl rfl)) (pgs_cons (pg_name (i := 3) N rfl (.inl rfl)) (pgs_cons (pg_name (i := 4) N rfl (.inl rfl)) (pgs_cons (pg_name (i := 5) N rfl (.inl rfl)) pgs_nil))))))
      (pss_cons (ps_if (pt_cmpR op_eq (pe_op op_mod (pv 4) (pv 1)) pe_int (nomark _)) (pss_one (ps_ret (pe_fn FO r2 (pa_cons (pv 5) (pa_cons (pv 1) pa_nil))))) pss_nil)
      (pss_cons (ps_set (i := 6) N rfl (.inl rfl) (pe_op op_add (pe_op op_sub (pv 3) (pv 2)) pe_int))
      (pss_cons (ps_set (i := 7) N rfl (.inl rfl) (pe_fn FO r2 (pa_cons (pe_fn WI hr (pa_cons (pv 4) (pa_cons (pv 5) (pa_cons (pv 2) (pa_cons (pv 6) pa_nil))))) (pa_cons (pv 1) pa_nil))))
      (pss_one (ps_ret (pe_fn FO r2 (pa_cons (pe_op op_shlW (pv 7) (pe_op op_mod (pv 2) (pv 1))) (pa_cons (pv 1) pa_nil)))))))), ?_⟩
    refine seqV (Good := fun σ2 H2 => H = H2 ∧ σ2 = [some (.ref t), some (.int step), some (oI r.lo), some (oI r.hi), some (.int r.p), some (.int r.b), none, none]) (fun nx hnx => ⟨_, rfl, t, _, rfl, .inl (.inl ht), rfl, _, _, rfl, _, _, rfl, _, _, rfl, _, _, rfl, rfl, hnx _ _ ⟨rfl, rfl⟩⟩) ?_
    rintro _ _ ⟨rfl, rfl⟩
    refine seqV (Good := fun σ2 H2 => ¬ step ∣ r.p ∧ H = H2 ∧ σ2 = [some (.ref t), some (.int step), some (oI r.lo), some (oI r.hi), some (.int r.p), some (.int r.b), none, none]) ?_ ?_
    · intro nx hnx
      refine ⟨_, rfl, _, rfl, _, _, rfl, rfl, by omega, rfl, decide (V.int ((r.p : Int) % (step : Int)) = V.int 0), rfl, ?_⟩
      by_cases c : step ∣ r.p
      · have e : (r.p : Int) % (step : Int) = 0 := Int.emod_eq_zero_of_dvd (Int.natCast_dvd_natCast.mpr c)
        rw [show decide (V.int ((r.p : Int) % (step : Int)) = V.int 0) = true from decide_eq_true (by rw [e])]
        refine iteT ⟨_, rfl, _, rfl, r.b, step, r.p, rfl, s0, by omega, bl, by omega, fun out fo => q out fo.1 fun n => ?_⟩
        rw [fold_pat p0 bl c s0 fo n]
        constructor
        · rintro ⟨x, hx, d⟩
          obtain ⟨y, hy, dy⟩ := has_rest p0 nt.fin hx
          refine ⟨y, hy, ?_⟩
          have d2 : (step : Int) ∣ y - x := Int.dvd_trans (Int.natCast_dvd_natCast.mpr c) dy
          have := Int.dvd_sub d d2
          rwa [show n - x - (y - x) = n - y by omega] at this
        · rintro ⟨x, hx, d⟩
          exact ⟨x, hx.2.2, d⟩
      · have e : ¬ (r.p : Int) % (step : Int) = 0 := fun z => c (Int.natCast_dvd_natCast.mp (Int.dvd_of_emod_eq_zero z))
        rw [show decide (V.int ((r.p : Int) % (step : Int)) = V.int 0) = false from decide_eq_false (fun z => e (V.int.inj z))]
        exact iteF (hnx _ _ ⟨c, rfl, rfl⟩)
    rintro _ _ ⟨c, rfl, rfl⟩
    obtain ⟨l, u, el, eu, ul⟩ := alt.resolve_left c
    have lu := nt.ok.le l u el eu
    rw [el, eu]
    obtain ⟨m, em⟩ : ∃ m : Nat, (m : Int) = u - l + 1 := ⟨(u - l + 1).toNat, by omega⟩
    refine seqV (Good := fun σ2 H2 => H = H2 ∧ σ2 = [some (.ref t), some (.int step), some (.int l), some (.int u), some (.int r.p), some (.int r.b), some (.int m), none]) ?_ ?_
    · intro nx hnx
      rw [em] at hnx
      exact ⟨_, rfl, _, rfl, _, _, rfl, rfl, _, _, rfl, rfl, hnx _ _ ⟨rfl, rfl⟩⟩
    rintro _ _ ⟨rfl, rfl⟩
    refine seqV (Good := fun σ2 H2 => ∃ w f1 : Nat, WinAt r.p r.b l m w ∧ FoldAt step w f1 ∧ H = H2 ∧ σ2 = [some (.ref t), some (.int step), some (.int l), some (.int u), some (.int r.p), some (.int r.b), some (.int m), some (.int f1)]) ?_ ?_
    · intro nx hnx
      exact ⟨_, rfl, _, rfl, _, rfl, _, rfl, r.p, r.b, m, l, rfl, p0, by omega, by omega, bl, fun w hw => ⟨_, rfl, w, step, m, rfl, s0, by omega, hw.l, by omega, fun f1 h1 => hnx _ _ ⟨w, f1, hw, h1, rfl, rfl⟩⟩⟩
    rintro _ _ ⟨w, f1, hw, h1, rfl, rfl⟩
    have kl := mod_lt' s0 l
    have ek : l % (step : Int) = (((l % (step : Int)).toNat : Nat) : Int) := (Int.toNat_of_nonneg (Int.emod_nonneg l (by omega))).symm
    have fin := fun f2 => fold_short (f2 := f2) el eu em s0 hw h1
    generalize (l % (step : Int)).toNat = k at kl ek fin
    have lt2 : f1 <<< k < 2 ^ (step + k) := lt_of_bits fun i hi => by
      rw [Nat.testBit_shiftLeft]
      by_cases c2 : i ≥ k
      · rw [bit_ge h1.1 (by omega), Bool.and_false]
      · rw [decide_eq_false c2, Bool.false_and]
    refine ⟨_, rfl, _, rfl, _, rfl, _, _, rfl, rfl, by omega, ?_⟩
    show rI CShl (fun i j => V.int (i * 2 ^ j.toNat)) (V.int (f1 : Nat)) (V.int (l % (step : Int))) H _
    rw [ek]
    refine ⟨_, _, rfl, rfl, cshl h1.1 (by omega), _, rfl, f1 <<< k, step, step + k, by rw [← shl_nat]; rfl, s0, by omega, lt2, by omega, fun f2 h2 => q f2 h2.1 (fin f2 h2)⟩
end
end L2.K14
end

section
set_option Elab.async false
set_option linter.all false
set_option maxRecDepth 100000
set_option maxHeartbeats 2000000
namespace L2.K14
open PySem PySem.Spec PyProof.Rows L2.Gd L2.Ln L2.Bt
/-! ### the sums of two rows -/
theorem zstep_le {r s : Rw} {step z : Nat} (nr : Nt r) (h : ZoneAt r s step z) (p1 : r.p ≤ 2520) (p2 : s.p ≤ 2520) : step ≤ 2520 := by
  rcases h.ab with ⟨l, u, f1, f2, le, e, ez⟩ | ⟨a, e, ez⟩
  · omega
  · have := Nat.le_of_dvd nr.ok.p0 (Nat.gcd_dvd_left r.p s.p)
    omega
theorem shB_false {r s : Rw} (h : shB (lenO s.lo s.hi) (lenO r.lo r.hi) = false) : ∀ l u, s.lo = some l → s.hi = some u → ∃ l' u', r.lo = some l' ∧ r.hi = some u' ∧ u' - l' ≤ u - l := by
  intro l u e1 e2
  rw [e1, e2] at h
  cases e3 : r.lo with
  | none =>
    rw [e3] at h
    exact nomatch h
  | some l' =>
    cases e4 : r.hi with
    | none =>
      rw [e3, e4] at h
      exact nomatch h
    | some u' =>
      rw [e3, e4] at h
      have h : decide (u - l + 1 < u' - l' + 1) = false := h
      have := of_decide_eq_false h
      exact ⟨l', u', rfl, rfl, by omega⟩
theorem shB_true {r s : Rw} (h : shB (lenO s.lo s.hi) (lenO r.lo r.hi) = true) : ∀ l u, r.lo = some l → r.hi = some u → ∃ l' u', s.lo = some l' ∧ s.hi = some u' ∧ u' - l' ≤ u - l := by
  intro l u e1 e2
  rw [e1, e2] at h
  cases e3 : s.lo with
  | none =>
    rw [e3] at h
    exact nomatch h
  | some l' =>
    cases e4 : s.hi with
    | none =>
      rw [e3, e4] at h
      exact nomatch h
    | some u' =>
      rw [e3, e4] at h
      have h : decide (u' - l' + 1 < u - l + 1) = true := h
      have := of_decide_eq_true h
      exact ⟨l', u', rfl, rfl, by omega⟩
section
variable {P : Program} {w : World} {K : PySem.W.Frag} {mg : Str → Option Value} {base : Heap}
def spMid : Sp := fun vs H Q _ => ∃ (v1 v2 : V) (r s : Rw) (step z : Nat), vs = [v1, v2, .int step, .int z] ∧ RowV H v1 r ∧ RowV H v2 s ∧ Nt r ∧ Nt s ∧ ZoneAt r s step z ∧ r.p ≤ 2520 ∧ s.p ≤ 2520 ∧ z ≤ 20000 ∧ ∀ (o : Addr) (m : Rw) (H' : Hp), H o = none → Same H H' → RowV H' (.ref o) m → MidZ r s step z m → Q (.ref o) H'
abbrev NMid : List Str := ["one", "two", "step", "many", "left", "right", "low", "high"]
theorem scMid : FnScope NMid ["one", "two", "step", "many"] (defScope (top 82)) := ⟨rfl, rfl, rfl, by decide +kernel, rfl, by decide +kernel, by decide +kernel⟩
theorem ok_mid {f : Addr} {fd : FuncData} (F : Fun K "middle_row" "middle_row" (top 82) f fd) (RB : Fn P w K mg base 4 "rests_by" ["row", "step"] spRby) (SO : Fn P w K mg base 2 "sums_of" ["bits", "others"] spSo) (FO : Fn P w K mg base 2 "folded" ["bits", "step"] spFo) : FnOk P w K mg base CX0 5 f fd ["one", "two", "step", "many"] spMid := by
  refine F.ok scMid (fun vs H Q E h => ?_) (fun cdv A outer s H vs Q E hr h => ?_)
  · obtain ⟨v1, v2, r, s, step, z, rfl, _⟩ := h
    rfl
  · obtain ⟨v1, v2, r, s, step, z, rfl, ⟨t1, rfl, h1⟩, ⟨t2, rfl, h2⟩, n1, n2, zn, p1, p2, zm, q⟩ := h
    have g1 := h1
    have g2 := h2
    unfold Rvs at h1 h2
    have N := scMid.nd
    have r2 := hr.mono (k := 4) (j := 2) (by decide)
    have s0 := zone_step n1.ok.p0 n2.ok.p0 zn
    have sm := zstep_le n1 zn p1 p2
    refine ⟨_, pss_cons (ps_par (i := 4) (j := 5) rfl N rfl rfl (by decide) rfl rfl (pa_cons (pe_fn RB hr (pa_cons (pv 0) (pa_cons (pv 2) pa_nil))) (pa_cons (pe_fn RB hr (pa_cons (pv 1) (pa_cons (pv 2) pa_nil))) pa_nil)) (by rfl))
      (pss_cons (ps_set (i := 6) N rfl (.inl rfl) (pe_ifExp (pw_or (pt_cmp (pc_isN (pe_ix ix_tup (pv 0) pe_int (fun _ _ => rfl)))) (pw_or1 (pt_cmp (pc_isN (pe_ix ix_tup (pv 1) pe_int (fun _ _ => rfl)))))).pt pe_non (pe_op op_add (pe_op op_add (pe_ix ix_tup (pv 0) pe_int (fun _ _ => rfl)) (pe_ix ix_tup (pv 1) pe_int (fun _ _ => rfl))) (pv 3))))
      (pss_cons (ps_set (i := 7) N rfl (.inl rfl) (pe_ifExp (pw_or (pt_cmp (pc_isN (pe_ix ix_tup (pv 0) pe_int (fun _ _ => rfl)))) (pw_or1 (pt_cmp (pc_isN (pe_ix ix_tup (pv 1) pe_int (fun _ _ => rfl)))))).pt pe_non (pe_op op_sub (pe_op op_add (pe_ix ix_tup (pv 0) pe_int (fun _ _ => rfl)) (pe_ix ix_tup (pv 1) pe_int (fun _ _ => rfl))) (pv 3))))
      (pss_one (ps_ret (pe_tup (pa_cons (pv 6) (pa_cons (pv 7) (pa_cons (pv 2) (pa_cons (pe_fn FO r2 (pa_cons (pe_fn SO r2 (pa_cons (pv 4) (pa_cons (pv 5) pa_nil))) (pa_cons (pv 2) pa_nil))) pa_nil))))))))), ?_⟩
    refine seqV (Good := fun σ2 H2 => ∃ a b : Nat, a < 2 ^ step ∧ b < 2 ^ step ∧ (∀ n, pat step a n = true ↔ ∃ x, r.In x ∧ (step : Int) ∣ n - x) ∧ (∀ n, pat step b n = true ↔ ∃ x, s.In x ∧ (step : Int) ∣ n - x) ∧ H = H2 ∧ σ2 = [some (.ref t1), some (.ref t2), some (.int step), some (.int z), some (.int a), some (.int b), none, none]) ?_ ?_
    · intro nx hnx
      refine ⟨_, rfl, _, rfl, .ref t1, r, step, rfl, ⟨t1, rfl, g1⟩, n1, s0, sm, p1, ?_, fun a al ha => ⟨_, rfl, _, rfl, .ref t2, s, step, rfl, ⟨t2, rfl, g2⟩, n2, s0, sm, p2, ?_, fun b bl hb => ⟨_, _, rfl, hnx _ _ ⟨a, b, al, bl, ha, hb, rfl, rfl⟩⟩⟩⟩
      · rcases zn.ab with ⟨l, u, f1, f2, le, e, ez⟩ | ⟨a, e, ez⟩
        · exact .inr ⟨l, u, f1, f2, by omega⟩
        · exact .inl (e ▸ Nat.gcd_dvd_left _ _)
      · rcases zn.ab with ⟨l, u, f1, f2, le, e, ez⟩ | ⟨a, e, ez⟩
        · exact .inl (e ▸ Nat.dvd_refl _)
        · exact .inl (e ▸ Nat.gcd_dvd_right _ _)
    rintro _ _ ⟨a, b, al, bl, ha, hb, rfl, rfl⟩
    refine seqV (Good := fun σ2 H2 => H = H2 ∧ σ2 = [some (.ref t1), some (.ref t2), some (.int step), some (.int z), some (.int a), some (.int b), some (oI (addO z r.lo s.lo)), none]) ?_ ?_
    · intro nx hnx
      cases el : r.lo with
      | none =>
        rw [el] at h1 hnx
        exact ⟨_, rfl, t1, _, _, _, rfl, rfl, .inl (.inl h1), rfl, true, rfl, iteT (iteT (hnx _ _ ⟨rfl, rfl⟩))⟩
      | some l =>
        rw [el] at h1
        refine ⟨_, rfl, t1, _, _, _, rfl, rfl, .inl (.inl h1), rfl, false, rfl, iteF ?_⟩
        cases el' : s.lo with
        | none =>
          rw [el'] at h2
          rw [el, el'] at hnx
          exact ⟨_, rfl, t2, _, _, _, rfl, rfl, .inl (.inl h2), rfl, true, rfl, iteT (hnx _ _ ⟨rfl, rfl⟩)⟩
        | some l' =>
          rw [el'] at h2
          rw [el, el'] at hnx
          refine ⟨_, rfl, t2, _, _, _, rfl, rfl, .inl (.inl h2), rfl, false, rfl, iteF ?_⟩
          exact ⟨_, rfl, t1, _, _, _, rfl, rfl, .inl (.inl h1), rfl, _, rfl, t2, _, _, _, rfl, rfl, .inl (.inl h2), rfl, _, _, rfl, rfl, _, rfl, _, _, rfl, rfl, hnx _ _ ⟨rfl, rfl⟩⟩
    rintro _ _ ⟨rfl, rfl⟩
    refine seqV (Good := fun σ2 H2 => H = H2 ∧ σ2 = [some (.ref t1), some (.ref t2), some (.int step), some (.int z), some (.int a), some (.int b), some (oI (addO z r.lo s.lo)), some (oI (addO (-z) r.hi s.hi))]) ?_ ?_
    · intro nx hnx
      cases el : r.hi with
      | none =>
        rw [el] at h1 hnx
        exact ⟨_, rfl, t1, _, _, _, rfl, rfl, .inl (.inl h1), rfl, true, rfl, iteT (iteT (hnx _ _ ⟨rfl, rfl⟩))⟩
      | some l =>
        rw [el] at h1
        refine ⟨_, rfl, t1, _, _, _, rfl, rfl, .inl (.inl h1), rfl, false, rfl, iteF ?_⟩
        cases el' : s.hi with
        | none =>
          rw [el'] at h2
          rw [el, el'] at hnx
          exact ⟨_, rfl, t2, _, _, _, rfl, rfl, .inl (.inl h2), rfl, true, rfl, iteT (hnx _ _ ⟨rfl, rfl⟩)⟩
        | some l' =>
          rw [el'] at h2
          rw [el, el'] at hnx
          have e : addO (-(z : Int)) (some l) (some l') = some (l + l' - z) := rfl
          rw [e] at hnx
          refine ⟨_, rfl, t2, _, _, _, rfl, rfl, .inl (.inl h2), rfl, false, rfl, iteF ?_⟩
          exact ⟨_, rfl, t1, _, _, _, rfl, rfl, .inl (.inl h1), rfl, _, rfl, t2, _, _, _, rfl, rfl, .inl (.inl h2), rfl, _, _, rfl, rfl, _, rfl, _, _, rfl, rfl, hnx _ _ ⟨rfl, rfl⟩⟩
    rintro _ _ ⟨rfl, rfl⟩
    refine ⟨_, rfl, _, rfl, _, rfl, _, rfl, _, rfl, a, b, step, step, rfl, al, bl, by omega, by omega, fun w1 H1 s1 su => ⟨_, rfl, w1, step, step + step, rfl, s0, by omega, su.lt al bl, by omega, fun out fo => ⟨(by show 4 ≤ sizeLine; decide), fun o ho => ?_⟩⟩⟩
    have s2 := same_upd (o := .tup [oI (addO z r.lo s.lo), oI (addO (-z) r.hi s.hi), V.int step, V.int out]) ho
    refine q o ⟨addO z r.lo s.lo, addO (-z) r.hi s.hi, step, out⟩ _ (s1.free ho) (s1.trans s2) ⟨o, rfl, upd_same⟩ ⟨rfl, rfl, rfl, fo.1, fun n => ?_⟩
    rw [fold_sum s0 al bl su fo n]
    constructor
    · rintro ⟨x, y, hx, hy, d⟩
      obtain ⟨x', ix, dx⟩ := (ha x).mp hx
      obtain ⟨y', iy, dy⟩ := (hb y).mp hy
      refine ⟨x', y', ix, iy, ?_⟩
      have := Int.dvd_add d (Int.dvd_add dx dy)
      rwa [show n - (x + y) + (x - x' + (y - y')) = n - (x' + y') by omega] at this
    · rintro ⟨x, y, hx, hy, d⟩
      exact ⟨x, y, (ha x).mpr ⟨x, hx, by rw [Int.sub_self]; exact Int.dvd_zero _⟩, (hb y).mpr ⟨y, hy, by rw [Int.sub_self]; exact Int.dvd_zero _⟩, d⟩
def spIsh : Sp := fun vs H Q _ => ∃ a b : Option Int, vs = [oI a, oI b] ∧ Q (.bl (shB a b)) H
theorem scIsh : FnScope ["many", "other"] ["many", "other"] (defScope (top 84)) := ⟨rfl, rfl, rfl, by decide +kernel, rfl, by decide +kernel, by decide +kernel⟩
theorem ok_ish {f : Addr} {fd : FuncData} (F : Fun K "is_shorter" "is_shorter" (top 84) f fd) : FnOk P w K mg base CX0 1 f fd ["many", "other"] spIsh := by
  refine F.ok scIsh (fun vs H Q E h => ?_) (fun cdv A outer s H vs Q E hr h => ?_)
  · obtain ⟨a, b, rfl, _⟩ := h
    rfl
  · obtain ⟨a, b, rfl, q⟩ := h
    refine ⟨_, pss_one (ps_ret (pe_and (pe_cmp (pc_notN (pv 0)) rfl) (pe_one (pe_or (pe_cmp (pc_isN (pv 1)) rfl) (pe_one (pe_cmpR op_lt (pv 0) (pv 1) (nomark _))))))), ?_⟩
    cases a with
    | none => exact ⟨_, rfl, false, rfl, iteF q⟩
    | some i =>
      cases b with
      | none => exact ⟨_, rfl, true, rfl, iteT ⟨_, rfl, true, rfl, iteT q⟩⟩
      | some j => exact ⟨_, rfl, true, rfl, iteT ⟨_, rfl, false, rfl, iteF ⟨_, rfl, _, rfl, _, _, rfl, rfl, q⟩⟩⟩
end
end L2.K14
end

section
set_option Elab.async false
set_option linter.all false
set_option maxRecDepth 100000
set_option maxHeartbeats 2000000
namespace L2.K14
open PySem PySem.Spec PyProof.Rows L2.Gd L2.Ln L2.Bt
theorem lm_640 {Z : Zn} {r : Rw} {zb : Nat} (n : Nt r) (m : Lm Z 12 r) (b : 2 * Z.w ≤ zb) (zb_ : zb ≤ 639) : r.p ≤ 640 := by
  rcases m.pd with d | ⟨c, _, l, h, e1, e2, ⟨a1, a2⟩, b1, b2⟩
  · have := Nat.le_of_dvd (by decide) d
    omega
  · have := n.fin l h e1 e2
    omega
section
variable {P : Program} {w : World} {K : PySem.W.Frag} {mg : Str → Option Value} {base : Heap}
def spRsu : Sp := fun vs H Q _ => ∃ (v1 v2 : V) (r s : Rw) (Z1 Z2 Z : Zn) (zb : Nat), vs = [v1, v2] ∧ RowV H v1 r ∧ RowV H v2 s ∧ Nt r ∧ Nt s ∧ Lm Z1 12 r ∧ Lm Z2 12 s ∧ ZSum Z1 Z2 Z 12 zb ∧ ZSum Z2 Z1 Z 12 zb ∧ zb ≤ 639 ∧ (Z.up 12).Ok 12 ∧
  ∀ (l : Addr) (out : List Rw) (H' : Hp), H l = none → Same H H' → RowsAt H' l out → NtS (Z.up 12) 12 out → (∀ n, InL out n ↔ SumIn r s n) → Q (.ref l) H'
abbrev NRsu : List Str := ["one", "two", "many", "size", "step", "zone"]
theorem scRsu : FnScope NRsu ["one", "two"] (defScope (top 85)) := ⟨rfl, rfl, rfl, by decide +kernel, rfl, by decide +kernel, by decide +kernel⟩
theorem ok_rsu {f : Addr} {fd : FuncData} {tk tk2 : Tok} (F : Fun K "row_sums" "row_sums" (top 85) f fd) (hl : mg "lcm" = some (.builtin "math.lcm")) (hg : mg "gcd" = some (.builtin "math.gcd")) (pd : mg "PERIOD" = some (.int 2520 tk)) (st : mg "STRETCHES" = some (.int 400 tk2))
    (LE : Fn P w K mg base 1 "length_of" ["low", "high"] spLen) (IS : Fn P w K mg base 1 "is_shorter" ["many", "other"] spIsh) (LZ : Fn P w K mg base 5 "low_zone" ["one", "two", "many"] spLwz) (HZ : Fn P w K mg base 5 "high_zone" ["one", "two", "many"] spHiz) (MI : Fn P w K mg base 5 "middle_row" ["one", "two", "step", "many"] spMid) (TD : Fn P w K mg base 8 "tidy" ["rows"] spTd) : FnOk P w K mg base CX0 9 f fd ["one", "two"] spRsu := by
  refine F.ok scRsu (fun vs H Q E h => ?_) (fun cdv A outer s H vs Q E hr h => ?_)
  · obtain ⟨v1, v2, r, s, Z1, Z2, Z, zb, rfl, _⟩ := h
    rfl
  · obtain ⟨v1, v2, r, s, Z1, Z2, Z, zb, rfl, ⟨t1, rfl, h1⟩, ⟨t2, rfl, h2⟩, n1, n2, m1, m2, g, g', zb6, kk, q⟩ := h
    have N := scRsu.nd
    have r1 := hr.mono (k := 8) (j := 1) (by decide)
    have r5 := hr.mono (k := 8) (j := 5) (by decide)
    have sl := sizeLine_eq
    refine ⟨_, pss_cons (ps_if (pt_val (pe_fn IS r1 (pa_cons (pe_fn LE r1 (pa_cons (pe_ix ix_tup (pv 1) pe_int (fun _ _ => rfl)) (pa_cons (pe_ix ix_tup (pv 1) pe_int (fun _ _ => rfl)) pa_nil))) (pa_cons (pe_fn LE r1 (pa_cons (pe_ix ix_tup (pv 0) pe_int (fun _ _ => rfl)) (pa_cons (pe_ix ix_tup (pv 0) pe_int (fun _ _ => rfl)) pa_nil))) pa_nil))))
          (pss_one (ps_par (i := 0) (j := 1) rfl N rfl rfl (by decide) rfl rfl (pa_cons (pv 1) (pa_cons (pv 0) pa_nil)) (by rfl))) pss_nil)
      (pss_cons (ps_par (i := 2) (j := 3) rfl N rfl rfl (by decide) rfl rfl (pa_cons (pe_fn LE r1 (pa_cons (pe_ix ix_tup (pv 0) pe_int (fun _ _ => rfl)) (pa_cons (pe_ix ix_tup (pv 0) pe_int (fun _ _ => rfl)) pa_nil))) (pa_cons (pe_callBfun cr_lcm (by rfl) hl (pa_cons (pe_ix ix_tup (pv 0) pe_int (fun _ _ => rfl)) (pa_cons (pe_ix ix_tup (pv 1) pe_int (fun _ _ => rfl)) pa_nil))) pa_nil)) (by rfl))
      (pss_cons (ps_par (i := 4) (j := 5) rfl N rfl rfl (by decide) rfl rfl (pa_cons (pe_callBfun cr_gcd (by rfl) hg (pa_cons (pe_ix ix_tup (pv 0) pe_int (fun _ _ => rfl)) (pa_cons (pe_ix ix_tup (pv 1) pe_int (fun _ _ => rfl)) pa_nil))) (pa_cons (pe_op op_sub (pv 3) pe_int) pa_nil)) (by rfl))
      (pss_cons (ps_if (pw_and (pt_cmp (pc_notN (pv 2))) (pw_and1 (pt_cmpR op_le (pv 2) (pv 3) (nomark _)))).pt
          (pss_one (ps_par (i := 4) (j := 5) rfl N rfl rfl (by decide) rfl rfl (pa_cons (pe_ix ix_tup (pv 1) pe_int (fun _ _ => rfl)) (pa_cons (pe_op op_sub (pv 2) pe_int) pa_nil)) (by rfl))) pss_nil)
      (pss_cons (ps_if (pt_cmpR op_gt (pv 5) (pe_op op_mul (pe_glob (v := .int 2520) (by rfl) pd ⟨_, rfl⟩) (pe_glob (v := .int 400) (by rfl) st ⟨_, rfl⟩)) (nomark _)) pss_never pss_nil)
      (pss_one (ps_ret (pe_fn TD hr (pa_cons (pe_op op_cat (pe_op op_cat (pe_fn LZ r5 (pa_cons (pv 0) (pa_cons (pv 1) (pa_cons (pv 5) pa_nil)))) (pe_lst (pa_cons (pe_fn MI r5 (pa_cons (pv 0) (pa_cons (pv 1) (pa_cons (pv 4) (pa_cons (pv 5) pa_nil))))) pa_nil))) (pe_fn HZ r5 (pa_cons (pv 0) (pa_cons (pv 1) (pa_cons (pv 5) pa_nil))))) pa_nil)))))))), ?_⟩
    -- the longer one comes second
    refine seqV (Good := fun σ2 H2 => ∃ (u1 u2 : Addr) (x y : Rw) (Y1 Y2 : Zn), H u1 = some (.tup (Rvs x)) ∧ H u2 = some (.tup (Rvs y)) ∧ Nt x ∧ Nt y ∧ Lm Y1 12 x ∧ Lm Y2 12 y ∧ ZSum Y1 Y2 Z 12 zb ∧ (∀ n, SumIn x y n ↔ SumIn r s n) ∧ (∀ l u, y.lo = some l → y.hi = some u → ∃ l' u', x.lo = some l' ∧ x.hi = some u' ∧ u' - l' ≤ u - l) ∧ H = H2 ∧ σ2 = [some (.ref u1), some (.ref u2), none, none, none, none]) ?_ ?_
    · intro nx hnx
      have k1 := h1
      have k2 := h2
      unfold Rvs at k1 k2
      refine ⟨_, rfl, t2, _, _, _, rfl, rfl, .inl (.inl k2), rfl, _, rfl, t2, _, _, _, rfl, rfl, .inl (.inl k2), rfl, s.lo, s.hi, rfl, _, rfl, t1, _, _, _, rfl, rfl, .inl (.inl k1), rfl, _, rfl, t1, _, _, _, rfl, rfl, .inl (.inl k1), rfl, r.lo, r.hi, rfl, _, _, rfl, shB (lenO s.lo s.hi) (lenO r.lo r.hi), rfl, ?_⟩
      cases c : shB (lenO s.lo s.hi) (lenO r.lo r.hi) with
      | true => exact iteT ⟨_, rfl, _, rfl, _, _, rfl, hnx _ _ ⟨t2, t1, s, r, Z2, Z1, h2, h1, n2, n1, m2, m1, g', fun n => ⟨sum_comm, sum_comm⟩, shB_true c, rfl, rfl⟩⟩
      | false => exact iteF (hnx _ _ ⟨t1, t2, r, s, Z1, Z2, h1, h2, n1, n2, m1, m2, g, fun n => Iff.rfl, shB_false c, rfl, rfl⟩)
    rintro _ _ ⟨u1, u2, x, y, Y1, Y2, hx, hy, nx1, ny, mx, my, gg, eq, sh, rfl, rfl⟩
    have kx := hx
    have ky := hy
    unfold Rvs at kx ky
    have p0 := nx1.ok.p0
    have q0 := ny.ok.p0
    have px := lm_640 nx1 mx gg.b1 zb6
    have py := lm_640 ny my gg.b2 zb6
    have l0 := Nat.lcm_pos p0 q0
    refine seqV (Good := fun σ2 H2 => H = H2 ∧ σ2 = [some (.ref u1), some (.ref u2), some (oI (lenO x.lo x.hi)), some (.int (Nat.lcm x.p y.p : Nat)), none, none]) ?_ ?_
    · intro nx hnx
      exact ⟨_, rfl, u1, _, _, _, rfl, rfl, .inl (.inl kx), rfl, _, rfl, u1, _, _, _, rfl, rfl, .inl (.inl kx), rfl, x.lo, x.hi, rfl, _, rfl, u1, _, _, _, rfl, rfl, .inl (.inl kx), rfl, _, rfl, u2, _, _, _, rfl, rfl, .inl (.inl ky), rfl, x.p, y.p, rfl, by omega, by omega, _, _, rfl, hnx _ _ ⟨rfl, rfl⟩⟩
    rintro _ _ ⟨rfl, rfl⟩
    refine seqV (Good := fun σ2 H2 => H = H2 ∧ σ2 = [some (.ref u1), some (.ref u2), some (oI (lenO x.lo x.hi)), some (.int (Nat.lcm x.p y.p : Nat)), some (.int (Nat.gcd x.p y.p : Nat)), some (.int ((Nat.lcm x.p y.p : Nat) - 1))]) ?_ ?_
    · intro nx hnx
      exact ⟨_, rfl, u1, _, _, _, rfl, rfl, .inl (.inl kx), rfl, _, rfl, u2, _, _, _, rfl, rfl, .inl (.inl ky), rfl, x.p, y.p, rfl, _, rfl, _, _, rfl, rfl, _, _, rfl, hnx _ _ ⟨rfl, rfl⟩⟩
    rintro _ _ ⟨rfl, rfl⟩
    refine seqV (Good := fun σ2 H2 => ∃ step z : Nat, ZoneAt x y step z ∧ H = H2 ∧ σ2 = [some (.ref u1), some (.ref u2), some (oI (lenO x.lo x.hi)), some (.int (Nat.lcm x.p y.p : Nat)), some (.int step), some (.int z)]) ?_ ?_
    · intro nx hnx
      have no : (∀ l u, x.lo = some l → x.hi = some u → (Nat.lcm x.p y.p : Nat) < u - l + 1) → nx [some (.ref u1), some (.ref u2), some (oI (lenO x.lo x.hi)), some (.int (Nat.lcm x.p y.p : Nat)), some (.int (Nat.gcd x.p y.p : Nat)), some (.int ((Nat.lcm x.p y.p : Nat) - 1))] H := fun k => hnx _ _ ⟨Nat.gcd x.p y.p, Nat.lcm x.p y.p - 1, ⟨sh, .inr ⟨k, rfl, by omega⟩⟩, rfl, by rw [show ((Nat.lcm x.p y.p - 1 : Nat) : Int) = (Nat.lcm x.p y.p : Nat) - 1 by omega]⟩
      cases el : x.lo with
      | none =>
        rw [el] at no
        exact ⟨_, rfl, false, rfl, iteF (iteF (no fun l u e => nomatch e))⟩
      | some l =>
        cases eu : x.hi with
        | none =>
          rw [el, eu] at no
          exact ⟨_, rfl, false, rfl, iteF (iteF (no fun l u _ e => nomatch e))⟩
        | some u =>
          rw [el, eu] at no
          have lu := nx1.ok.le l u el eu
          refine ⟨_, rfl, true, rfl, iteT ⟨_, rfl, _, rfl, _, _, rfl, rfl, decide (u - l + 1 ≤ (Nat.lcm x.p y.p : Nat)), rfl, ?_⟩⟩
          by_cases c : u - l + 1 ≤ (Nat.lcm x.p y.p : Nat)
          · rw [decide_eq_true c]
            obtain ⟨z, ez⟩ : ∃ z : Nat, (z : Int) = u - l := ⟨(u - l).toNat, by omega⟩
            refine iteT ⟨_, rfl, u2, _, _, _, rfl, rfl, .inl (.inl ky), rfl, _, rfl, _, _, rfl, rfl, _, _, rfl, hnx _ _ ⟨y.p, z, ⟨sh, .inl ⟨l, u, el, eu, c, rfl, ez⟩⟩, rfl, ?_⟩⟩
            rw [el, eu, show (z : Int) = u - l + 1 - 1 by omega]
            rfl
          · rw [decide_eq_false c]
            exact iteF (no fun l' u' e1 e2 => by cases e1; cases e2; omega)
    rintro _ _ ⟨step, z, zn, rfl, rfl⟩
    have zl := zone_le gg nx1 ny mx my zn
    refine seqV (Good := fun σ2 H2 => H = H2 ∧ σ2 = [some (.ref u1), some (.ref u2), some (oI (lenO x.lo x.hi)), some (.int (Nat.lcm x.p y.p : Nat)), some (.int step), some (.int z)]) ?_ ?_
    · intro nx hnx
      refine ⟨_, rfl, _, _, rfl, rfl, .inl (by decide), _, _, rfl, rfl, decide ((2520 * 400 : Int) < z), rfl, ?_⟩
      rw [decide_eq_false (by omega)]
      exact iteF (hnx _ _ ⟨rfl, rfl⟩)
    rintro _ _ ⟨rfl, rfl⟩
    refine ⟨_, rfl, _, rfl, _, rfl, .ref u1, .ref u2, x, y, z, rfl, ⟨u1, rfl, hx⟩, ⟨u2, rfl, hy⟩, nx1.ok, ny.ok, by omega, by omega, by omega, fun a ls H1 na s1 ra lz => ?_⟩
    refine ⟨_, rfl, _, rfl, _, rfl, _, rfl, .ref u1, .ref u2, x, y, step, z, rfl, ⟨u1, rfl, s1 _ _ hx⟩, ⟨u2, rfl, s1 _ _ hy⟩, nx1, ny, zn, by omega, by omega, by omega, fun o m H2 no s2 rm mz => ⟨(by show 1 ≤ sizeLine; decide), fun b hb => ?_⟩⟩
    have s3 := same_upd (o := .lst [V.ref o]) hb
    obtain ⟨us, hus, ru⟩ := ra
    have lls : us.length ≤ 1 := by
      rw [Paired.length ru]
      cases lz <;> simp
    refine ⟨a, b, us, [V.ref o], rfl, rfl, s3 _ _ (s2 _ _ hus), upd_same, by rw [sl]; show _ + 1 ≤ _; omega, fun c hc => ?_⟩
    have s4 := same_upd (o := .lst (us ++ [V.ref o])) hc
    have s14 := s1.trans (s2.trans (s3.trans s4))
    have s24 := s2.trans (s3.trans s4)
    refine ⟨_, rfl, _, rfl, _, rfl, .ref u1, .ref u2, x, y, z, rfl, ⟨u1, rfl, s14 _ _ hx⟩, ⟨u2, rfl, s14 _ _ hy⟩, nx1.ok, ny.ok, px, py, by omega, fun d hs H5 nd s5 rd hz => ?_⟩
    obtain ⟨ws, hws, rw_⟩ := rd
    have lhs : ws.length ≤ 1 := by
      rw [Paired.length rw_]
      cases hz <;> simp
    refine ⟨c, d, us ++ [V.ref o], ws, rfl, rfl, s5 _ _ upd_same, hws, by rw [sl, List.length_append]; show _ + 1 + _ ≤ _; omega, fun e he => ?_⟩
    have s6 := same_upd (o := .lst (us ++ [V.ref o] ++ ws)) he
    have s26 := s24.trans (s5.trans s6)
    have lsl : ls.length ≤ 1 := by rw [← Paired.length ru]; exact lls
    have hsl : hs.length ≤ 1 := by rw [← Paired.length rw_]; exact lhs
    obtain ⟨lm3, p3⟩ := sums3_lm gg nx1 ny mx my zn mz lz hz
    refine ⟨e, ls ++ [m] ++ hs, Z, 12, rfl, ⟨us ++ [V.ref o] ++ ws, upd_same, rowsV_app (rowsV_app (RowsV.same s26 ru) (.cons ((rm.same s3).same (s4.trans (s5.trans s6))) .nil)) (RowsV.same s6 rw_)⟩, sums3_ok p0 q0 zn mz lz hz, sums3_bef p0 q0 zn mz lz hz, lm3, fun t ht => by have := p3 t ht; omega, kk, by rw [List.length_append, List.length_append]; show _ + 1 + _ ≤ _; omega, fun l out H7 nl s7 ro nts io => ?_⟩
    have s17 := s14.trans (s5.trans (s6.trans s7))
    exact q l out H7 ((s14.trans (s5.trans s6)).free nl) s17 ro nts fun n => by rw [io n, sums3 p0 q0 zn mz lz hz n, eq n]
end
end L2.K14
end

section
set_option Elab.async false
set_option linter.all false
set_option maxRecDepth 100000
set_option maxHeartbeats 2000000
namespace L2.K14
open PySem PySem.Spec PyProof.Rows L2.Gd L2.Ln L2.Bt
/-! ### the sums of two lists of rows -/
/-- rows that have the numbers φ tells of e -/
def RsG {α : Type} (Z : Zn) (φ : α → Int → Prop) (D : Addr) (H : Hp) (v : V) (e : α) : Prop := ∃ (a : Addr) (out : List Rw), v = .ref a ∧ a ≠ D ∧ RowsAt H a out ∧ NtS Z 12 out ∧ ∀ n, InL out n ↔ φ e n
theorem rsG_stab {α : Type} {Z : Zn} {φ : α → Int → Prop} {D : Addr} : Stab (RsG Z φ D) D := by
  rintro H H' y e b ⟨zs, hz⟩ ⟨a, out, rfl, ne, ⟨us, hus, rv⟩, nt, io⟩
  refine ⟨a, out, rfl, ne, ⟨us, b _ _ ne hus, Paired.mapP rv fun _ _ ⟨t, et, ht⟩ => ⟨t, et, b _ _ (fun z => ?_) ht⟩⟩, nt, io⟩
  rw [z, hz] at ht
  exact nomatch ht
theorem rsG_all {α : Type} {Z : Zn} {φ : α → Int → Prop} {D : Addr} {H : Hp} : ∀ {ys : List V} {es : List α}, Paired (RsG Z φ D H) ys es → ∃ ws, WorkV H ys ws ∧ ws.length = es.length ∧ (∀ o ∈ ws, NtS Z 12 o) ∧ ∀ n, inW ws n ↔ ∃ e ∈ es, φ e n
  | _, _, .nil => ⟨[], .nil, rfl, (fun _ h => nomatch h), fun n => ⟨(fun ⟨_, h, _⟩ => nomatch h), fun ⟨_, h, _⟩ => nomatch h⟩⟩
  | _, _, .cons h t => by
    obtain ⟨ws, wv, wl, nt, iw⟩ := rsG_all t
    obtain ⟨a, out, rfl, ne, ra, no, io⟩ := h
    refine ⟨out :: ws, .cons ⟨a, rfl, ra⟩ wv, by rw [List.length_cons, List.length_cons, wl], fun o ho => ?_, fun n => ?_⟩
    · rcases List.mem_cons.mp ho with z | z
      · rw [z]
        exact no
      · exact nt o z
    · constructor
      · rintro ⟨o, ho, hn⟩
        rcases List.mem_cons.mp ho with z | z
        · rw [z, inLB_iff, io n] at hn
          exact ⟨_, List.mem_cons_self, hn⟩
        · obtain ⟨e, he, q⟩ := (iw n).mp ⟨o, z, hn⟩
          exact ⟨e, List.mem_cons_of_mem _ he, q⟩
      · rintro ⟨e, he, q⟩
        rcases List.mem_cons.mp he with z | z
        · rw [z, ← io n, ← inLB_iff] at q
          exact ⟨out, List.mem_cons_self, q⟩
        · obtain ⟨o, ho, hn⟩ := (iw n).mpr ⟨e, z, q⟩
          exact ⟨o, List.mem_cons_of_mem _ ho, hn⟩
theorem some_id {α : Type} (l : List α) : l.filterMap some = l := List.filterMap_some
/-- all sums -/
def SumL (rs ss : List Rw) (n : Int) : Prop := ∃ x y, inLB rs x = true ∧ inLB ss y = true ∧ x + y = n
section
variable {P : Program} {w : World} {K : PySem.W.Frag} {mg : Str → Option Value} {base : Heap} {C : Addr}
def spSrs : Sp := fun vs H Q _ => ∃ (a b : Addr) (rs ss : List Rw) (Z1 Z2 : Zn) (cs : List Int) (W X1 X2 : Int) (zb : Nat), vs = [.ref a, .ref b] ∧ RowsAt H a rs ∧ RowsAt H b ss ∧ NtS Z1 12 rs ∧ NtS Z2 12 ss ∧ ZSum Z1 Z2 ⟨cs, W⟩ 12 zb ∧ ZSum Z2 Z1 ⟨cs, W⟩ 12 zb ∧ zb ≤ 639 ∧
  Hlv X1 12 ss.length (W + 12) ∧ Hlv X2 12 rs.length (X1 + 4 * (1 + (12 : Nat))) ∧ (Zn.mk cs (X1 + 4 * (1 + (12 : Nat)))).Ok 12 ∧ (Zn.mk cs (X2 + 4 * (1 + (12 : Nat)))).Ok 12 ∧
  ∀ (l : Addr) (out : List Rw) (H' : Hp), Same H H' → RowsAt H' l out → NtS ⟨cs, X2 + 4 * (1 + (12 : Nat))⟩ 12 out → (∀ n, inLB out n = true ↔ SumL rs ss n) → Q (.ref l) H'
abbrev NSrs : List Str := ["one", "two", "row", "other"]
theorem scSrs : FnScope NSrs ["one", "two"] (defScope (top 86)) := ⟨rfl, rfl, rfl, by decide +kernel, rfl, by decide +kernel, by decide +kernel⟩
/-- the scope of the outer comprehension -/
def scSrsP : Scope := { kind := .function, names := [(".0", .local), ("row", .cell), ("united", .globalImplicit), ("two", .cell)], isGenerator := false, isCoroutine := false }
theorem ok_srs {f : Addr} {fd : FuncData} (F : Fun K "sums_of_rows" "sums_of_rows" (top 86) f fd) (UN : Fn P w K mg base 10 "united" ["lots"] spUn) (RS : Fn P w K mg base 9 "row_sums" ["one", "two"] spRsu) : FnOk P w K mg base CX0 11 f fd ["one", "two"] spSrs := by
  refine F.ok scSrs (fun vs H Q E h => ?_) (fun cdv A outer s H vs Q E hr h => ?_)
  · obtain ⟨a, b, rs, ss, Z1, Z2, cs, W, X1, X2, zb, rfl, _⟩ := h
    rfl
  · obtain ⟨a, b, rs, ss, Z1, Z2, cs, W, X1, X2, zb, rfl, ⟨us, ha, ru⟩, ⟨ws, hb, rw_⟩, n1, n2, g, g', zb6, hv1, hv2, k1, k2, q⟩ := h
    have nd := scSrs.nd
    have sl := sizeLine_eq
    have lus := Paired.length ru
    have lws := Paired.length rw_
    have r9 := hr.mono (k := 10) (j := 9) (by decide)
    have l1 := hv1.len
    have l2 := hv2.len
    have kw : (Zn.mk cs (W + 12)).Ok 12 := k1.le hv1.le
    refine ⟨_, pss_one (ps_ret (pe_fn UN hr (pa_cons (pe_lc (own := [("row", 2)]) (g := gName 2) (tt := tYes) rfl nd (pi_list (pv 0)) (blkOk_by (N := NSrs) (sc := defScope (top 86)) (by decide +kernel))
      (fun _ _ _ _ _ => pg_name (i := 2) nd rfl (.inr rfl)) (fun _ _ _ _ _ => pts_nil)
      (fun _ _ _ _ _ => pe_fn UN hr (pa_cons (pe_lc (wi := iList K (tVar 1)) (own := [("other", 3)]) (g := gName 3) (tt := tYes) rfl nd (pi_list (pv 1)) (blkOk_by (N := NSrs) (sc := scSrsP) (by decide +kernel))
        (fun _ _ _ _ _ => pg_name (i := 3) nd rfl (.inl rfl)) (fun _ _ _ _ _ => pts_nil) (fun _ _ _ _ _ => pe_fn RS r9 (pa_cons (pv 2) (pa_cons (pv 3) pa_nil)))) pa_nil))) pa_nil))), ?_⟩
    refine ⟨_, rfl, a, rfl, ⟨_, .inl (.inl ha)⟩, fun D hD => ?_⟩
    refine lc_mapL (es := rs) (F := RowV) (G := RsG ⟨cs, X1 + 4 * (1 + (12 : Nat))⟩ (fun r n => ∃ s ∈ ss, SumIn r s n) D) (f := some) rsG_stab ha hD (by omega) ru ?_ ?_
    · rintro x r H2 A B hr_ ⟨t, rfl, ht⟩ b2 ⟨zs, hz⟩ hA hB
      have s2 := b2.new hD
      refine ⟨rfl, yes_ite ?_⟩
      refine ⟨_, rfl, b, rfl, ⟨_, .inl (.inl (s2 _ _ hb))⟩, fun D2 hD2 => ?_⟩
      refine lc_mapL (es := ss) (F := RowV) (G := fun H v s => RsG ⟨cs, W + 12⟩ (fun s n => SumIn r s n) D2 H v s ∧ v ≠ .ref D) (f := some) (fun H H' y b bb e q => ⟨rsG_stab H H' y b bb e q.1, q.2⟩) (s2 _ _ hb) hD2 (by omega) (Paired.mapP rw_ fun _ _ z => z.same s2) ?_ ?_
      · rintro y s H3 A3 B3 hs_ ⟨u, rfl, hu⟩ b3 ⟨zs3, hz3⟩ hA3 hB3
        have s3 := b3.new hD2
        refine ⟨rfl, yes_ite ⟨_, rfl, _, rfl, .ref t, .ref u, r, s, Z1, Z2, ⟨cs, W⟩, zb, rfl, ⟨t, rfl, s3 _ _ (s2 _ _ ht)⟩, ⟨u, rfl, s3 _ _ hu⟩, n1.ln.nt.nt r hr_, n2.ln.nt.nt s hs_, n1.ln.lm r hr_, n2.ln.lm s hs_, g, g', zb6, kw, fun l out H4 nl s4 ro nts io => ?_⟩⟩
        exact hA3 s _ H4 rfl s4 ⟨⟨l, out, rfl, (ne_of_none hz3 nl).symm, ro, nts, io⟩, fun z => by rw [V.ref.inj z, s3 _ _ hz] at nl; exact nomatch nl⟩
      · intro ys H3 h1 h2 h3
        rw [some_id] at h2
        have nD : ∀ v ∈ ys, v ≠ .ref D := fun v hv => by
          obtain ⟨i, hi⟩ := List.getElem?_of_mem hv
          obtain ⟨_, _, g⟩ := pair_at h2 hi
          exact g.2
        obtain ⟨ws3, wv, wl, nt3, iw⟩ := rsG_all (Paired.mapP h2 fun _ _ z => z.1)
        have s3 := h3.new hD2
        refine ⟨D2, ys, ws3, cs, X1, W + 12, 12, rfl, h1, wv, nt3, by rw [wl]; exact hv1, k1, fun l out H4 ol s4 ro nts io => ?_⟩
        refine hA r _ H4 rfl (s3.trans s4) ⟨l, out, rfl, ?_, ro, nts, fun n => by rw [← inLB_iff, io n, iw n]⟩
        rcases ol with z | z
        · exact fun e => nD _ z (by rw [e])
        · exact fun e => by rw [e, s3 _ _ hz] at z; exact nomatch z
    · intro ys H2 h1 h2 h3
      rw [some_id] at h2
      obtain ⟨ws2, wv, wl, nt2, iw⟩ := rsG_all h2
      have s2 := h3.new hD
      refine ⟨D, ys, ws2, cs, X2, X1 + 4 * (1 + (12 : Nat)), 12, rfl, h1, wv, nt2, by rw [wl]; exact hv2, k2, fun l out H3 _ s3 ro nts io => ?_⟩
      refine q l out H3 (s2.trans s3) ro nts fun n => ?_
      rw [io n, iw n]
      constructor
      · rintro ⟨r, hr_, s, hs_, x, y, hx, hy, e⟩
        exact ⟨x, y, inLB_iff.mpr ⟨r, hr_, hx⟩, inLB_iff.mpr ⟨s, hs_, hy⟩, e⟩
      · rintro ⟨x, y, hx, hy, e⟩
        obtain ⟨r, hr_, hx⟩ := inLB_iff.mp hx
        obtain ⟨s, hs_, hy⟩ := inLB_iff.mp hy
        exact ⟨r, hr_, s, hs_, x, y, hx, hy, e⟩
end
end L2.K14
end

section
set_option Elab.async false
set_option linter.all false
set_option maxRecDepth 100000
set_option maxHeartbeats 2000000
namespace L2.K14
open PySem PySem.Spec PyProof.Rows L2.Gd L2.Ln L2.Bt
/-! ### Line.sums -/
/-- the radius of sums, where at most so many rows are told of each -/
structure SumZ (Z1 Z2 : Zn) (cs : List Int) (W X1 X2 : Int) (zb : Nat) : Prop where
  g : ZSum Z1 Z2 ⟨cs, W⟩ 12 zb
  g' : ZSum Z2 Z1 ⟨cs, W⟩ 12 zb
  zb6 : zb ≤ 639
  h1 : Hlv X1 12 (2 * Z2.cs.length + 1) (W + 12)
  h2 : Hlv X2 12 (2 * Z1.cs.length + 1) (X1 + 4 * (1 + (12 : Nat)))
  k1 : (Zn.mk cs (X1 + 4 * (1 + (12 : Nat)))).Ok 12
  k2 : (Zn.mk cs (X2 + 4 * (1 + (12 : Nat)))).Ok 12
def spSums (C : Addr) : Sp := fun vs H Q _ => ∃ (x y : Addr) (Z1 Z2 : Zn) (cs : List Int) (W X1 X2 : Int) (zb : Nat) (S T : Int → Bool), vs = [.ref x, .ref y] ∧ LnS C Z1 H x S ∧ LnS C Z2 H y T ∧ SumZ Z1 Z2 cs W X1 X2 zb ∧
  ∀ (z : Addr) (H' : Hp) (U : Int → Bool), H z = none → Same H H' → LnS C ⟨cs, X2 + 4 * (1 + (12 : Nat))⟩ H' z U → (∀ n, U n = true ↔ ∃ a b, S a = true ∧ T b = true ∧ a + b = n) → Q (.ref z) H'
theorem scSums : FnScope ["self", "line"] ["self", "line"] (defScope (cLine 15)) := ⟨rfl, rfl, rfl, by decide +kernel, rfl, by decide +kernel, by decide +kernel⟩
/-- near 0 both -/
theorem sumZ0 {W : Nat} (w0 : 30 ≤ W) (w1 : 2 * (4 * W + 64) + 1 ≤ 2520) : SumZ ⟨[0], W⟩ ⟨[0], W⟩ [0] (4 * W) (4 * W - 14) (4 * W + 12) (2 * W) := by
  have k : (Zn.mk [0] (W : Int)).Ok 12 := ok0 (by omega)
  have g : ZSum ⟨[0], (W : Int)⟩ ⟨[0], (W : Int)⟩ ⟨[0], 4 * (W : Int)⟩ 12 (2 * W) := by
    refine ⟨k, k, fun c hc d hd => ?_, ?_, by omega, ?_, ?_⟩
    · rw [List.mem_singleton.mp hc, List.mem_singleton.mp hd]
      exact List.mem_singleton.mpr rfl
    · show (W : Int) + W + ((2 * W : Nat) : Int) ≤ 4 * W
      omega
    · show 2 * (W : Int) ≤ ((2 * W : Nat) : Int)
      omega
    · show 2 * (W : Int) ≤ ((2 * W : Nat) : Int)
      omega
  refine ⟨g, g, by omega, .inr (.inr (.inl ⟨by show 3 ≤ 4; decide, by omega⟩)), .inr (.inr (.inl ⟨by show 3 ≤ 4; decide, by omega⟩)), ok0 (by omega), ok0 (by omega)⟩
section
variable {P : Program} {w : World} {K : PySem.W.Frag} {mg : Str → Option Value} {base : Heap} {C : Addr}
theorem ok_sums {f : Addr} {fd : FuncData} (F : Fun K "sums" "Line.sums" (cLine 15) f fd) (T : ClsT K mg C) (CL : Fn P w K mg base 1 "check_line" ["line"] (spCl C)) (LR : Fn P w K mg base 14 "line_of_rows" ["rows"] (spLor C)) (SR : Fn P w K mg base 11 "sums_of_rows" ["one", "two"] spSrs) (RW : MeH P w K mg base C "rows" 1 ["self"] (spRows C)) : FnOk P w K mg base CX0 15 f fd ["self", "line"] (spSums C) := by
  refine F.ok scSums (fun vs H Q E h => ?_) (fun cdv A outer s H vs Q E hr h => ?_)
  · obtain ⟨x, y, Z1, Z2, cs, W, X1, X2, zb, S, S', rfl, _⟩ := h
    rfl
  · obtain ⟨x, y, Z1, Z2, cs, W, X1, X2, zb, S, S', rfl, ⟨dx, l, rs, ox, ra, na, e⟩, ⟨dy, l', rs', oy, ⟨us, hl, rv⟩, na', e'⟩, k, q⟩ := h
    have r1 := hr.mono (k := 14) (j := 1) (by decide)
    refine ⟨_, pss_cons (ps_expr (pe_fn CL r1 (pa_cons (pv 1) pa_nil)))
      (pss_one (ps_ret (pe_fn LR hr (pa_cons (pe_fn SR (hr.mono (by decide)) (pa_cons (pe_fld (pv 0) rfl) (pa_cons (pe_mH0 RW T r1 (pv 1)) pa_nil))) pa_nil)))), ?_⟩
    refine ⟨_, rfl, y, dy, _, rfl, oy, ?_⟩
    refine ⟨_, rfl, x, C, dx, _, _, rfl, ox, T.isc.cl, T.nR, fldR_get _, ?_⟩
    refine ⟨_, rfl, y, dy, _, rfl, oy, fldR_no _ (by decide +kernel), y, dy, l', us, rfl, oy, hl, fun p hp => ?_⟩
    have s1 := same_upd (o := .lst us) hp
    refine ⟨l, p, rs, rs', Z1, Z2, cs, W, X1, X2, zb, rfl, ra.same s1, ⟨us, upd_same, RowsV.same s1 rv⟩, na, na', k.g, k.g', k.zb6, k.h1.down na'.few, k.h2.down na.few, k.k1, k.k2, fun l2 out H2 s2 ro ns iff => ?_⟩
    refine ⟨l2, out, _, rfl, ro, ns, k.k2, fun z H3 nz s3 ln => ?_⟩
    refine q z H3 _ (Same.free (s1.trans s2) nz) (s1.trans (s2.trans s3)) ln fun n => ?_
    rw [iff n]
    unfold SumL
    constructor
    · rintro ⟨a, b, ha, hb, z⟩
      exact ⟨a, b, by rw [← e a]; exact ha, by rw [← e' b]; exact hb, z⟩
    · rintro ⟨a, b, ha, hb, z⟩
      exact ⟨a, b, by rw [e a]; exact ha, by rw [e' b]; exact hb, z⟩
end
end L2.K14
end

section
set_option Elab.async false
set_option linter.all false
set_option maxRecDepth 100000
set_option maxHeartbeats 1000000
namespace L2.K14
open PySem PySem.Spec PyProof.Rows L2.Gd L2.Ln L2.Bt
/-! ### Line.differences, Line.tail -/
def spDif (C : Addr) : Sp := fun vs H Q _ => ∃ (x y : Addr) (Z1 Z2 : Zn) (cs : List Int) (W X1 X2 : Int) (zb : Nat) (S T : Int → Bool), vs = [.ref x, .ref y] ∧ LnS C Z1 H x S ∧ LnS C Z2 H y T ∧ Z2.Ok 12 ∧ 2 * Z2.w + 1 ≤ 640 ∧ SumZ Z1 Z2.mi cs W X1 X2 zb ∧
  ∀ (z : Addr) (H' : Hp) (U : Int → Bool), H z = none → Same H H' → LnS C ⟨cs, X2 + 4 * (1 + (12 : Nat))⟩ H' z U → (∀ n, U n = true ↔ ∃ a b, S a = true ∧ T b = true ∧ a - b = n) → Q (.ref z) H'
theorem scDif : FnScope ["self", "line"] ["self", "line"] (defScope (cLine 16)) := ⟨rfl, rfl, rfl, by decide +kernel, rfl, by decide +kernel, by decide +kernel⟩
/-- of a tail: whether there are rests -/
def spTl (C : Addr) : Sp := fun vs H Q _ => ∃ (x : Addr) (W : Zn) (S : Int → Bool), vs = [.ref x] ∧ LnS C W H x S ∧ W.Ok 12 ∧
  ∀ (t b : Addr) (v0 v1 : V) (bs : List Int) (H' : Hp), Same H H' → H' t = some (.tup [v0, v1, .ref b]) → H' b = some (.lst (bs.map V.int)) → (bs = [] ↔ (∀ n, S n = false) ∨ ∃ g, GrB S (some g)) → bs.length ≤ 2520 → Q (.ref t) H'
abbrev NTl : List Str := ["self", "first", "_", "step", "bits", "last"]
theorem scTl : FnScope NTl ["self"] (defScope (cLine 23)) := ⟨rfl, rfl, rfl, by decide +kernel, rfl, by decide +kernel, by decide +kernel⟩
section
variable {P : Program} {w : World} {K : PySem.W.Frag} {mg : Str → Option Value} {base : Heap} {C : Addr}
theorem ok_dif {f : Addr} {fd : FuncData} (F : Fun K "differences" "Line.differences" (cLine 16) f fd) (T : ClsT K mg C) (CL : Fn P w K mg base 1 "check_line" ["line"] (spCl C)) (LR : Fn P w K mg base 14 "line_of_rows" ["rows"] (spLor C)) (SR : Fn P w K mg base 11 "sums_of_rows" ["one", "two"] spSrs) (MS : Fn P w K mg base 5 "mirrored_rows" ["rows"] spMs) (RW : MeH P w K mg base C "rows" 1 ["self"] (spRows C)) : FnOk P w K mg base CX0 15 f fd ["self", "line"] (spDif C) := by
  refine F.ok scDif (fun vs H Q E h => ?_) (fun cdv A outer s H vs Q E hr h => ?_)
  · obtain ⟨x, y, Z1, Z2, cs, W, X1, X2, zb, S, S', rfl, _⟩ := h
    rfl
  · obtain ⟨x, y, Z1, Z2, cs, W, X1, X2, zb, S, S', rfl, ⟨dx, l, rs, ox, ra, na, e⟩, ⟨dy, l', rs', oy, ⟨us, hl, rv⟩, na', e'⟩, kz, k640, k, q⟩ := h
    have r1 := hr.mono (k := 14) (j := 1) (by decide)
    have r5 := hr.mono (k := 14) (j := 5) (by decide)
    refine ⟨_, pss_cons (ps_expr (pe_fn CL r1 (pa_cons (pv 1) pa_nil)))
      (pss_one (ps_ret (pe_fn LR hr (pa_cons (pe_fn SR (hr.mono (by decide)) (pa_cons (pe_fld (pv 0) rfl) (pa_cons (pe_fn MS r5 (pa_cons (pe_mH0 RW T r1 (pv 1)) pa_nil)) pa_nil))) pa_nil)))), ?_⟩
    refine ⟨_, rfl, y, dy, _, rfl, oy, ?_⟩
    refine ⟨_, rfl, x, C, dx, _, _, rfl, ox, T.isc.cl, T.nR, fldR_get _, ?_⟩
    refine ⟨_, rfl, y, dy, _, rfl, oy, fldR_no _ (by decide +kernel), y, dy, l', us, rfl, oy, hl, fun p hp => ?_⟩
    have s1 := same_upd (o := .lst us) hp
    have few := na'.few
    have cl := kz.cl
    refine ⟨p, rs', rfl, ⟨us, upd_same, RowsV.same s1 rv⟩, fun r hr => (na'.ln.nt.nt r hr).ok, per_640 k640 na', by omega, fun p2 out2 H2 n2 s2 ro2 mir => ?_⟩
    obtain ⟨nm, im⟩ := mir_rows na' mir
    have s12 := s1.trans s2
    refine ⟨l, p2, rs, out2, Z1, Z2.mi, cs, W, X1, X2, zb, rfl, ra.same s12, ro2, na, nm, k.g, k.g', k.zb6, k.h1.down nm.few, k.h2.down na.few, k.k1, k.k2, fun l2 out H3 s3 ro ns iff => ?_⟩
    refine ⟨l2, out, _, rfl, ro, ns, k.k2, fun z H4 nz s4 ln => ?_⟩
    refine q z H4 _ (Same.free (s12.trans s3) nz) (s12.trans (s3.trans s4)) ln fun n => ?_
    rw [iff n]
    unfold SumL
    constructor
    · rintro ⟨a, b, ha, hb, z⟩
      rw [im b] at hb
      exact ⟨a, -b, by rw [← e a]; exact ha, by rw [← e' (-b)]; exact hb, by omega⟩
    · rintro ⟨a, b, ha, hb, z⟩
      exact ⟨a, -b, by rw [e a]; exact ha, by rw [im, Int.neg_neg, e' b]; exact hb, by omega⟩
theorem ok_tl {f : Addr} {fd : FuncData} (F : Fun K "tail" "Line.tail" (cLine 23) f fd) (T : ClsT K mg C) (EM : PrH P w K mg base C "is_empty" (spEm C)) (GR : MeH P w K mg base C "greatest" 1 ["self"] (spGr C)) (ON : Fn P w K mg base 1 "ones" ["bits"] spOnes) (PU : Fn P w K mg base 5 "previous_unlike" ["one", "two", "number"] spPu) : FnOk P w K mg base CX0 6 f fd ["self"] (spTl C) := by
  refine F.ok scTl (fun vs H Q E h => ?_) (fun cdv A outer s H vs Q E hr h => ?_)
  · obtain ⟨x, W, S, rfl, _⟩ := h
    rfl
  · obtain ⟨x, W, S, rfl, ln, kz, q⟩ := h
    have ln' := ln
    obtain ⟨dx, l, rs, ox, ra, na, e⟩ := ln'
    obtain rfl : S = inLB rs := funext fun n => (e n).symm
    have ra' := ra
    obtain ⟨us, hl, rv⟩ := ra'
    have nd := scTl.nd
    have r1 := hr.mono (k := 5) (j := 1) (by decide)
    have r2 := hr.mono (k := 5) (j := 2) (by decide)
    refine ⟨_, pss_cons (ps_if (pt_val (pe_prH EM T r2 (pv 0))) (pss_one (ps_ret (pe_tup (pa_cons pe_non (pa_cons pe_int (pa_cons (pe_lst pa_nil) pa_nil)))))) pss_nil)
      (pss_cons (ps_if (pt_cmp (pc_notN (pe_mH0 GR T r1 (pv 0)))) (pss_one (ps_ret (pe_tup (pa_cons (pe_op op_add (pe_mH0 GR T r1 (pv 0)) pe_int) (pa_cons pe_int (pa_cons (pe_lst pa_nil) pa_nil)))))) pss_nil)
      (pss_cons (ps_asg (pe_ix ix_list (pe_fld (pv 0) rfl) (pe_un un_neg pe_int) (fun _ _ => rfl)) (pg_tup rfl (pgs_cons (pg_name (i := 1) nd rfl (.inl rfl)) (pgs_cons (pg_name (i := 2) nd rfl (.inl rfl)) (pgs_cons (pg_name (i := 3) nd rfl (.inl rfl)) (pgs_cons (pg_name (i := 4) nd rfl (.inl rfl)) pgs_nil))))))
      (pss_cons (ps_set (i := 5) nd rfl (.inl rfl) (pe_fn PU hr (pa_cons (pe_fld (pv 0) rfl) (pa_cons (pe_lst (pa_cons (pe_tup (pa_cons pe_non (pa_cons pe_non (pa_cons (pv 3) (pa_cons (pv 4) pa_nil))))) pa_nil)) (pa_cons (pe_ifExp (pt_cmp (pc_isN (pv 1))) pe_int (pv 1)) pa_nil)))))
      (pss_one (ps_ret (pe_tup (pa_cons (pe_ifExp (pt_cmp (pc_isN (pv 5))) pe_non (pe_op op_add (pv 5) pe_int)) (pa_cons (pv 3) (pa_cons (pe_fn ON r1 (pa_cons (pv 4) pa_nil)) pa_nil))))))))), ?_⟩
    refine seqV (Good := fun σ2 H2 => rs ≠ [] ∧ H = H2 ∧ σ2 = [some (.ref x), none, none, none, none, none]) ?_ ?_
    · intro nx hnx
      refine ⟨_, rfl, x, dx, _, rfl, ox, x, _, _, rfl, ln, fun c iff => ⟨c, rfl, ?_⟩⟩
      cases c with
      | true =>
        refine iteT ⟨(by show 0 ≤ sizeLine; decide), fun o ho => ⟨(by show 3 ≤ sizeLine; decide), fun t ht => ?_⟩⟩
        have s1 := same_upd (o := .lst []) ho
        have s2 := same_upd (o := .tup [V.non, .int 1, .ref o]) ht
        exact q t o _ _ [] _ (s1.trans s2) upd_same (s2 _ _ upd_same) ⟨fun _ => .inl (iff.mp rfl), fun _ => rfl⟩ (by decide)
      | false =>
        refine iteF (hnx _ _ ⟨?_, rfl, rfl⟩)
        rintro rfl
        have := iff.mpr fun n => rfl
        exact nomatch this
    rintro _ _ ⟨ne, rfl, rfl⟩
    obtain ⟨us', rs', t0, r, eus, ers, ht0⟩ := rows_last rv ne
    have gr0 := gr_rows (rs := rs') (r := r) (by rw [← ers]; exact na.ln.nt.so) (by rw [← ers]; exact na.ln.nt.nt)
    rw [← ers] at gr0
    refine seqV (Good := fun σ2 H2 => r.hi = none ∧ H = H2 ∧ σ2 = [some (.ref x), none, none, none, none, none]) ?_ ?_
    · intro nx hnx
      refine ⟨_, rfl, x, dx, _, rfl, ox, fldR_no _ (by decide +kernel), x, _, _, rfl, ln, fun o ho => ?_⟩
      obtain rfl := gr_eq ho gr0
      cases eh : r.hi with
      | none => exact ⟨false, rfl, iteF (hnx _ _ ⟨eh, rfl, rfl⟩)⟩
      | some g =>
        rw [eh] at gr0
        refine ⟨true, rfl, iteT ⟨_, rfl, x, dx, _, rfl, ox, fldR_no _ (by decide +kernel), x, _, _, rfl, ln, fun o ho => ?_⟩⟩
        obtain rfl := gr_eq ho gr0
        refine ⟨_, _, rfl, rfl, (by show 0 ≤ sizeLine; decide), fun o ho => ⟨(by show 3 ≤ sizeLine; decide), fun t ht => ?_⟩⟩
        have s1 := same_upd (o := .lst []) ho
        have s2 := same_upd (o := .tup [V.int (g + 1), .int 1, .ref o]) ht
        exact q t o _ _ [] _ (s1.trans s2) upd_same (s2 _ _ upd_same) ⟨fun _ => .inr ⟨g, gr0⟩, fun _ => rfl⟩ (by decide)
    rintro _ _ ⟨hn, rfl, rfl⟩
    have rm : r ∈ rs := by rw [ers]; exact List.mem_append.mpr (.inr (List.mem_singleton.mpr rfl))
    have rn := na.ln.nt.nt r rm
    have p0 := rn.ok.p0
    have bl := rn.ok.bl
    have per := nts_per kz na r rm
    have hl' := hl
    rw [eus] at hl'
    refine seqV (Good := fun σ2 H2 => H = H2 ∧ σ2 = [some (.ref x), some (oI r.lo), some (oI r.hi), some (.int r.p), some (.int r.b), none]) (fun nx hnx => ⟨_, rfl, x, C, dx, _, _, rfl, ox, T.isc.cl, T.nR, fldR_get _, _, rfl, l, _, _, _, rfl, rfl, .inl (.inl hl'), atI_last _ _, t0, _, rfl, .inl (.inl ht0), rfl, _, _, rfl, _, _, rfl, _, _, rfl, _, _, rfl, rfl, hnx _ _ ⟨rfl, rfl⟩⟩) ?_
    rintro _ _ ⟨rfl, rfl⟩
    have n2 : Nt ⟨none, none, r.p, r.b⟩ := ⟨⟨p0, bl, fun l h e => nomatch e⟩, (fun l e => nomatch e), (fun l e => nomatch e), rn.ex, rn.mn, fun l h e => nomatch e⟩
    have lm2 : Lm W 12 ⟨none, none, r.p, r.b⟩ := ⟨(fun l e => nomatch e), (fun l e => nomatch e), by
      rcases (na.ln.lm r rm).pd with d | ⟨c, _, l, h, _, e2, _⟩
      · exact .inl d
      · rw [hn] at e2
        exact nomatch e2⟩
    have nz : onesL r.b ≠ [] := by
      intro z
      refine rn.ex (Nat.eq_of_testBit_eq fun j => ?_)
      cases e : r.b.testBit j with
      | false => rw [Nat.zero_testBit]
      | true =>
        have := mem_onesL.mpr e
        rw [z] at this
        exact nomatch this
    have big : r.b < 2 ^ 1000000 := Nat.lt_of_lt_of_le bl (Nat.pow_le_pow_right (by decide) (by omega))
    have olen : (onesL r.b).length ≤ 2520 := by
      rw [onesL_range bl]
      have := List.length_filter_le r.b.testBit (List.range r.p)
      rw [List.length_range] at this
      omega
    refine seqV (Good := fun σ2 H2 => ∃ o : Option Int, Same H H2 ∧ σ2 = [some (.ref x), some (oI r.lo), some (oI r.hi), some (.int r.p), some (.int r.b), some (oI o)]) ?_ ?_
    · intro nx hnx
      refine ⟨_, rfl, x, C, dx, _, _, rfl, ox, T.isc.cl, T.nR, fldR_get _, _, rfl, _, rfl, (by show 4 ≤ sizeLine; decide), fun t ht => ⟨(by show 1 ≤ sizeLine; decide), fun a ha => ?_⟩⟩
      have s1 := same_upd (o := .tup [V.non, .non, .int r.p, .int r.b]) ht
      have s2 := same_upd (o := .lst [V.ref t]) ha
      have s12 := s1.trans s2
      have rb : RowsAt (upd (upd H t (.tup [V.non, .non, .int r.p, .int r.b])) a (.lst [V.ref t])) a [⟨none, none, r.p, r.b⟩] := ⟨[.ref t], upd_same, .cons ⟨t, rfl, s2 _ _ upd_same⟩ .nil⟩
      have nb : NtS W 12 [⟨none, none, r.p, r.b⟩] := ⟨⟨⟨fun y hy => by rw [List.mem_singleton.mp hy]; exact n2, List.pairwise_singleton _ _⟩, fun y hy => by rw [List.mem_singleton.mp hy]; exact lm2⟩, by show 1 ≤ _; omega⟩
      have fin : ∀ n, spPu [.ref l, .ref a, .int n] (upd (upd H t (.tup [V.non, .non, .int r.p, .int r.b])) a (.lst [V.ref t])) (fun v H' => ∃ o : Option Int, v = oI o ∧ Same H H') E := fun n =>
        ⟨l, a, rs, _, W, 12, n, rfl, ⟨ra.same s12, rb, na, nb, kz⟩, fun o H' s3 _ => ⟨o, rfl, s12.trans s3⟩⟩
      cases el : r.lo with
      | none =>
        obtain ⟨a', b', one, two, Z, L, n, e1, both, k⟩ := fin 0
        exact ⟨_, rfl, true, rfl, iteT ⟨a', b', one, two, Z, L, n, e1, both, fun o H' s3 lx => by
          obtain ⟨o', e2, s4⟩ := k o H' s3 lx
          exact hnx _ _ ⟨o, s4, by rw [el]; rfl⟩⟩⟩
      | some lo =>
        obtain ⟨a', b', one, two, Z, L, n, e1, both, k⟩ := fin lo
        exact ⟨_, rfl, false, rfl, iteF ⟨_, rfl, a', b', one, two, Z, L, n, e1, both, fun o H' s3 lx => by
          obtain ⟨o', e2, s4⟩ := k o H' s3 lx
          exact hnx _ _ ⟨o, s4, by rw [el]; rfl⟩⟩⟩
    rintro _ H2 ⟨o, s2, rfl⟩
    have last : ∀ (v0 : V) (H3 : Hp), Same H2 H3 → ∀ (b t : Addr), H3 b = some (.lst (iN (onesL r.b))) → H3 t = some (.tup [v0, .int r.p, .ref b]) → Q (.ref t) H3 := fun v0 H3 s3 b t hb ht => by
      refine q t b _ _ ((onesL r.b).map fun k : Nat => (k : Int)) H3 (s2.trans s3) ht (by rw [hb, List.map_map]; rfl) ⟨fun z => (nz (List.map_eq_nil_iff.mp z)).elim, ?_⟩ (by rw [List.length_map]; exact olen)
      rintro (z | ⟨g, hg⟩)
      · have := z
        obtain ⟨n, hn'⟩ := nt_ex rn
        have h2 := inLB_iff.mpr ⟨r, rm, hn'⟩
        rw [z n] at h2
        exact nomatch h2
      · have := gr_eq hg (hn ▸ gr0)
        exact nomatch this
    cases o with
    | none =>
      refine ⟨_, rfl, true, rfl, iteT ⟨_, rfl, _, rfl, r.b, rfl, big, fun b H3 nb s3 hb => ⟨(by show 3 ≤ sizeLine; decide), fun t ht => ?_⟩⟩⟩
      have st := same_upd (o := .tup [V.non, .int r.p, .ref b]) ht
      exact last _ _ (s3.trans st) b t (st _ _ hb) upd_same
    | some i =>
      refine ⟨_, rfl, false, rfl, iteF ⟨_, rfl, _, _, rfl, rfl, _, rfl, _, rfl, r.b, rfl, big, fun b H3 nb s3 hb => ⟨(by show 3 ≤ sizeLine; decide), fun t ht => ?_⟩⟩⟩
      have st := same_upd (o := .tup [V.int (i + 1), .int r.p, .ref b]) ht
      exact last _ _ (s3.trans st) b t (st _ _ hb) upd_same
end
end L2.K14
end

section
set_option Elab.async false
set_option linter.all false
set_option maxRecDepth 100000
set_option maxHeartbeats 1000000
namespace L2.K14
open PySem PySem.Spec PyProof.Rows L2.Gd L2.Ln
/-! ### what is shown: ints, None -/
def dO : Option Int → PyData
  | none => .none
  | some i => .int i
def OkO (v : Option Int) : Prop := ∀ i, v = some i → i.natAbs < 2 ^ 90
theorem big_log {i : Int} (h : i.natAbs < 2 ^ 90) : i.natAbs.log2 < 90 := by
  by_cases c : i.natAbs = 0
  · rw [c]
    decide
  · exact (Nat.log2_lt c).mpr h
theorem shown_big {i : Int} (h : i.natAbs < 2 ^ 90) : (PyData.shown (.int i)).length ≤ 91 := by
  have e := int_text_length_le (a := i) (k := 90) (by decide) (big_log h)
  show (Str.ofString (toString i)).length ≤ 91
  rw [PySem.ofString_length]
  exact e
structure ShO (d : PyData) : Prop where
  sh : d.showable = true
  hd : d.hasDict = false
  ls : PyData.leavesShort 100 d = true
  we : d.weight ≤ 91
  de : d.depth = 0
  le : d.shown.length ≤ 91
theorem dO_sh {v : Option Int} (h : OkO v) : ShO (dO v) := by
  cases v with
  | none => exact ⟨rfl, rfl, rfl, Nat.zero_le _, rfl, by decide⟩
  | some i =>
    have l := big_log (h i rfl)
    have e := shown_big (h i rfl)
    refine ⟨decide_eq_true (show i.natAbs.log2 < 1920 by omega), rfl, decide_eq_true (Nat.le_trans e (by decide)), ?_, rfl, e⟩
    show (if i == 0 then 0 else i.natAbs.log2 + 1) ≤ 91
    split <;> omega
theorem dO_showy1 {v : Option Int} (h : OkO v) : Showy (dO v) := by
  have a := dO_sh h
  refine ⟨a.sh, a.hd, by rw [a.de]; decide, ?_⟩
  rw [sizeLine_eq]
  exact Nat.le_trans a.le (by decide)
theorem dO_showy2 {u v : Option Int} (h : OkO u) (k : OkO v) : Showy (.list [dO u, dO v]) := by
  have a := dO_sh h
  have b := dO_sh k
  have s := PyData.shown_le 100 (by decide) (.list [dO u, dO v]) (by simp [PyData.leavesShort, PyData.leavesShortAll, a.ls, b.ls])
  have aw := a.we
  have bw := b.we
  have w2 : (PyData.list [dO u, dO v]).weight ≤ 184 := by
    simp only [PyData.weight, PyData.weightAll]
    omega
  refine ⟨by simp [PyData.showable, PyData.showableAll, a.sh, b.sh], by simp [PyData.hasDict, PyData.hasDictAll, a.hd, b.hd], by simp only [PyData.depth, PyData.depthAll, a.de, b.de]; decide, ?_⟩
  rw [sizeLine_eq]
  have : (100 + 2) * (PyData.list [dO u, dO v]).weight + 100 ≤ (100 + 2) * 184 + 100 := Nat.add_le_add_right (Nat.mul_le_mul_left _ w2) _
  omega
theorem dO_dp {K : PySem.W.Frag} {H : Hp} (o : Option Int) : Dp K H (oI o) (dO o) := by
  cases o with
  | none => exact .non
  | some i => exact .int i
theorem two_dp {K : PySem.W.Frag} {H : Hp} {t : Addr} (u v : Option Int) (h : H t = some (.lst [oI u, oI v])) : Dp K H (.ref t) (.list [dO u, dO v]) := .lst (.inl (.inl h)) (.cons (dO_dp u) (.cons (dO_dp v) .nil))
/-! ### called by keywords -/
theorem kb_of {K : PySem.W.Frag} {x qual : Str} {st : Stmt} {f : Addr} {fd : FuncData} {ps ks : List Str} {n : Nat} {g : List Value → List Value → List Value} {gV : List V → List V → List V} (F : Fun K x qual st f fd)
    (h : ∀ (kV doc pm : Value) (an : Option Addr) (cdv ct : Value) (us ws : List Value), us.length = n → ws.length = ks.length →
      bindArgs (PySem.W.fnOf x qual (defArgs st) (defBody st) (defScope st) .none kV doc pm an cdv ct) ⟨us, ks.zip ws⟩ = pure (ps.zip (g us ws)))
    (r : ∀ {vs : List V} {us : List Value} {zs : List V} {ws : List Value}, Vals vs us → Vals zs ws → Vals (gV vs zs) (g us ws)) : KBn K fd ps n ks g gV := by
  obtain ⟨oc, od, kV, doc, pm, an, cdv, ct, osl, rfl, lk, hcd⟩ := F.ex
  exact ⟨fun s us ws _ l1 l2 => .of_eq (h kV doc pm an cdv ct us ws l1 l2), r⟩
structure MeK (P : Program) (w : World) (K : PySem.W.Frag) (mg : Str → Option Value) (base : Heap) (C : Addr) (x : Str) (k : Nat) (y : Str) (sp : Sp) : Prop where
  ex : ∃ f fd, Meth K C x f ∧ KBn K fd ["self", y] 1 [y] (fun us ws => us ++ ws) (fun vs zs => vs ++ zs) ∧ FnOk P w K mg base CX0 k f fd ["self", y] sp
section
variable {X : Cx} {C : Addr} {x y z : Str} {k : Nat} {sp : Sp} {o : Expr} {kws : List Keyword} {ta : TE} {tks : TA} {apos pos : Pos}
theorem pe_mHK {pl : Sem Bool} (M : MeK X.prog X.w X.K X.mg X.base C x k y sp) (T : ClsT X.K X.mg C) (hr : Room k X.A) (he : PE X o ta) (hkw : PK X kws tks)
    (hall : (backToKw pos (keywordEach kws X.env)).all (·.1.isSome) = true := by rfl)
    (hks : (backToKw pos (keywordEach kws X.env)).filterMap (·.1) = [y] := by rfl)
    (hpl : ((backTo pos (starEach [] X.env)).any (·.1) || (backToKw pos (keywordEach kws X.env)).any (·.1.isNone)) = false := by rfl)
    (ht : eval (.Call (.Attribute o x apos) [] kws pos) X.env = (do
      let ov ← eval o X.env
      standAt apos.atName
      let (f, first) ← holding [ov] (getMethod ov x pl)
      callWith pos f first (backTo pos (starEach [] X.env)) (backToKw pos (keywordEach kws X.env))) := by rfl) :
    PE X (.Call (.Attribute o x apos) [] kws pos) (tMethK C x 1 sp (fun vs zs => vs ++ zs) ta tks) := by
  obtain ⟨f, fd, hm, b, F⟩ := M.ex
  exact pe_methK0 he T.isc.cl hm F hr b hkw hall hks hpl ht
end
theorem bl_showy (v : Bool) : Showy (.bool v) := by
  refine ⟨rfl, rfl, ?_, ?_⟩
  · show 0 ≤ 20
    decide
  · rw [sizeLine_eq]
    cases v <;> decide +kernel
theorem bl2_dp {K : PySem.W.Frag} {H : Hp} {t : Addr} (u v : Bool) (h : H t = some (.lst [.bl u, .bl v])) : Dp K H (.ref t) (.list [.bool u, .bool v]) := .lst (.inl (.inl h)) (.cons (.bl u) (.cons (.bl v) .nil))
theorem bl2_showy (u v : Bool) : Showy (.list [.bool u, .bool v]) := bls_showy (bs := [u, v]) (by show 2 ≤ 1000; decide)
end L2.K14
end

section
set_option Elab.async false
set_option linter.all false
set_option maxRecDepth 100000
set_option maxHeartbeats 4000000
namespace L2.K14
open PySem PySem.Spec PyProof.Rows L2.Gd L2.Ln
def spIss (C : Addr) : Sp := fun vs H Q _ => ∃ (p x a b : Addr) (W : Zn) (U S T : Int → Bool), vs = [.ref p, .ref x, .ref a, .ref b] ∧ PotAt H p ∧ LnS C W H x U ∧ W.Ok 12 ∧ RowB H a S ∧ RowB H b T ∧ Tame S ∧ Tame T ∧ (∀ n, U n = sumB S T n) ∧ ∀ H', PotAt H' p → ButD p H H' → Q (.bl true) H'
abbrev NIss : List Str := ["_law_pot_here", "_law_line", "_law_one", "_law_other", "_law_looked_here", "_law_number"]
theorem scIss : FnScope NIss ["_law_pot_here", "_law_line", "_law_one", "_law_other"] (defScope (top 106)) := ⟨rfl, rfl, rfl, by decide +kernel, rfl, by decide +kernel, by decide +kernel⟩
section
variable {P : Program} {w : World} {K : PySem.W.Frag} {mg : Str → Option Value} {base : Heap} {C : Addr}
theorem ok_iss {f : Addr} {fd : FuncData} (F : Fun K "_law_is_sums" "_law_is_sums" (top 106) f fd) (n : Nm mg) (T : ClsT K mg C) (LK : Fn P w K mg base 2 "_law_looked" ["_law_pot_here"] spLk) (IM : Fn P w K mg base 2 "_law_is_sum" ["_law_one", "_law_other", "_law_number"] spIsm) (HS : MeH P w K mg base C "has" 3 ["self", "number"] (spHs C)) : FnG P w K mg base 4 f fd ["_law_pot_here", "_law_line", "_law_one", "_law_other"] (spIss C) := by
  refine okG F scIss (fun vs H Q h => ?_) (fun cdv A outer s H vs Q hg hr h => ?_)
  · obtain ⟨p, x, a, b, W, S, A', B', rfl, _⟩ := h
    rfl
  · obtain ⟨p, x, a, b, W, S, A', B', rfl, hp, ln, Wk, ra, rb, tA, tB, ee, q⟩ := h
    have N := scIss.nd
    have sl := sizeLine_eq
    refine ⟨_, pss_cons (ps_if (pt_not (pt_val (pe_callB call_isi (by rfl) n.isi (by decide +kernel) (pa_cons (pv 1) (pa_cons (pe_glob (v := .ref C) (by rfl) T.mgC rfl) pa_nil))))) pss_never pss_nil)
      (pss_cons (ps_set (i := 4) N rfl (.inl rfl) (pe_fn LK (hr.mono (by decide)) (pa_cons (pv 0) pa_nil)))
      (pss_one (ps_ret (pe_cmpR op_eq (pe_callB (call_reprAny hg hr.units) (by rfl) n.repr (by decide +kernel) (pa_cons (pe_lc (own := [("_law_number", 5)]) (g := gName 5) (tt := tYes) rfl N (pi_list (pv 4)) (blkOk_by (N := NIss) (sc := defScope (top 106)) (by decide +kernel)) (fun _ _ _ _ _ => pg_name (i := 5) N rfl (.inl rfl)) (fun _ _ _ _ _ => pts_nil) (fun _ _ _ _ _ => pe_mH HS T hr (pv 1) (pa_cons (pv 5) pa_nil))) pa_nil))
        (pe_callB (call_reprAny hg hr.units) (by rfl) n.repr (by decide +kernel) (pa_cons (pe_lc (own := [("_law_number", 5)]) (g := gName 5) (tt := tYes) rfl N (pi_list (pv 4)) (blkOk_by (N := NIss) (sc := defScope (top 106)) (by decide +kernel)) (fun _ _ _ _ _ => pg_name (i := 5) N rfl (.inl rfl)) (fun _ _ _ _ _ => pts_nil) (fun _ _ _ _ _ => pe_fn IM (hr.mono (by decide)) (pa_cons (pv 2) (pa_cons (pv 3) (pa_cons (pv 5) pa_nil))))) pa_nil)) (nomark _))))), ?_⟩
    obtain ⟨dx0, fs0, ox0⟩ := ln.ob
    refine seqV (Good := fun σ2 H2 => H = H2 ∧ σ2 = [some (.ref p), some (.ref x), some (.ref a), some (.ref b), none, none]) (fun nx hnx => ⟨_, rfl, _, _, _, _, true, rfl, .own C, ty_line T ox0, T.isc.me, true, rfl, iteF (hnx _ _ ⟨rfl, rfl⟩)⟩) ?_
    rintro _ _ ⟨rfl, rfl⟩
    refine seqV (Good := fun σ2 H2 => ∃ (l : Addr) (ns : List Int), PotAt H2 p ∧ ButD p H H2 ∧ H2 l = some (.lst (ns.map V.int)) ∧ ns.length ≤ 400 ∧ σ2 = [some (.ref p), some (.ref x), some (.ref a), some (.ref b), some (.ref l), none]) (fun nx hnx => ⟨_, rfl, p, rfl, hp, fun l ns H2 nl hp2 b2 hl n4 => hnx _ _ ⟨l, ns, hp2, b2, hl, n4, rfl⟩⟩) ?_
    rintro _ H2 ⟨l, ns, hp2, b2, hl, n4, rfl⟩
    have ln2 := ln.pot hp b2
    have ra2 := ra.pot hp b2
    have rb2 := rb.pot hp b2
    refine ⟨_, rfl, l, rfl, ⟨_, .inl (.inl hl)⟩, fun D hD => ?_⟩
    refine lc_mapL (es := ns) (F := fun _ v i => v = V.int i) (G := fun _ v b => v = V.bl b) (f := fun i => some (S i)) (fun _ _ _ _ _ _ z => z) hl hD (by rw [List.length_map]; omega) (paired_int ns) ?_ ?_
    · rintro y i H3 A3 B3 hi rfl b3 ⟨zs, hz⟩ hA hB
      have ln3 := ln2.same (b3.new hD)
      obtain ⟨dx, l0, rs, ox, r0⟩ := id ln3
      refine ⟨rfl, yes_ite ⟨_, rfl, x, dx, _, rfl, ox, fldR_no _ (by decide +kernel), _, rfl, x, i, W, S, rfl, ln3, Wk, hA (S i) _ H3 rfl (fun _ _ z => z) rfl⟩⟩
    · intro zs H3 h1 h2 h3
      rw [mapE] at h2
      rw [bls_of h2] at h1
      have s3 := h3.new hD
      have e1 : (ns.map S).length ≤ 1000 := by rw [List.length_map]; omega
      refine ⟨_, _, rfl, .lst (.inl (.inl h1)) (dps_bls _), bls_showy e1, ?_⟩
      refine ⟨_, rfl, l, rfl, ⟨_, .inl (.inl (s3 _ _ hl))⟩, fun D2 hD2 => ?_⟩
      refine lc_mapL (es := ns) (F := fun _ v i => v = V.int i) (G := fun _ v b => v = V.bl b) (f := fun i => some (sumB A' B' i)) (fun _ _ _ _ _ _ z => z) (s3 _ _ hl) hD2 (by rw [List.length_map]; omega) (paired_int ns) ?_ ?_
      · rintro y i H4 A4 B4 hi rfl b4 ⟨zs', hz'⟩ hA hB
        refine ⟨rfl, yes_ite ⟨_, rfl, _, rfl, _, rfl, a, b, A', B', i, rfl, ra2.same (s3.trans (b4.new hD2)), rb2.same (s3.trans (b4.new hD2)), tA, tB, hA (sumB A' B' i) _ H4 rfl (fun _ _ z => z) rfl⟩⟩
      · intro zs2 H4 h4 h5 h6
        rw [mapE] at h5
        rw [bls_of h5] at h4
        have s4 := s3.trans (h6.new hD2)
        have e2 : (ns.map (sumB A' B')).length ≤ 1000 := by rw [List.length_map]; omega
        refine ⟨_, _, rfl, .lst (.inl (.inl h4)) (dps_bls _), bls_showy e2, rfl, ?_⟩
        have es : S = sumB A' B' := funext ee
        rw [es, decide_eq_true rfl]
        exact q H4 (hp2.same s4) (b2.trans (Same.but s4))
/-! ### expressions that make Lines -/
abbrev Z1 : Zn := ⟨[0], 46⟩
abbrev Z2 : Zn := ⟨[0], 248⟩
theorem z1_ok : Z1.Ok 12 := ok0 (by decide)
theorem z2_ok : Z2.Ok 12 := ok0 (by decide)
theorem z12 : SumZ Z1 Z1 [0] (4 * 46) (4 * 46 - 14) (4 * 46 + 12) (2 * 46) := sumZ0 (W := 46) (by decide) (by decide)
theorem LnS.z2 {H : Hp} {x : Addr} {U : Int → Bool} (h : LnS C ⟨[0], 4 * 46 + 12 + 4 * (1 + (12 : Nat))⟩ H x U) : LnS C Z2 H x U := h.mono (by decide)
section
variable {ta tb : TE} {σ : L2.St} {H : Hp} {W : Zn} {S T : Int → Bool}
theorem gl_sums (ha : Gl C ta σ H Z1 S) (hb : Gl C tb σ H Z1 T) : Gl C (tMeth C "sums" (spSums C) [] E0 ta (tCons tb tNil)) σ H Z2 (sumB S T) := by
  intro H1 s1 Q q
  refine ha H1 s1 _ fun x H2 s2 lx => ?_
  obtain ⟨dx, l, rs, ox, r0⟩ := id lx
  exact ⟨x, dx, _, rfl, ox, fldR_no _ (by decide +kernel), hb H2 (s1.trans s2) _ fun y H3 s3 ly => ⟨x, y, Z1, Z1, [0], _, _, _, _, S, T, rfl, lx.same s3, ly, z12, fun z H4 U nz s4 lz iff => q z H4 (s2.trans (s3.trans s4)) (lz.z2.cong (sumB_of iff))⟩⟩
theorem gl_sumsK (ha : Gl C ta σ H Z1 S) (hb : Gl C tb σ H Z1 T) : Gl C (tMethK C "sums" 1 (spSums C) (fun vs zs => vs ++ zs) ta (tCons tb tNil)) σ H Z2 (sumB S T) := by
  intro H1 s1 Q q
  refine ha H1 s1 _ fun x H2 s2 lx => ?_
  obtain ⟨dx, l, rs, ox, r0⟩ := id lx
  exact ⟨x, dx, _, rfl, ox, fldR_no _ (by decide +kernel), hb H2 (s1.trans s2) _ fun y H3 s3 ly => ⟨rfl, x, y, Z1, Z1, [0], _, _, _, _, S, T, rfl, lx.same s3, ly, z12, fun z H4 U nz s4 lz iff => q z H4 (s2.trans (s3.trans s4)) (lz.z2.cong (sumB_of iff))⟩⟩
theorem gl_dif (ha : Gl C ta σ H Z1 S) (hb : Gl C tb σ H Z1 T) : Gl C (tMeth C "differences" (spDif C) [] E0 ta (tCons tb tNil)) σ H Z2 (sumB S fun n => T (-n)) := by
  intro H1 s1 Q q
  refine ha H1 s1 _ fun x H2 s2 lx => ?_
  obtain ⟨dx, l, rs, ox, r0⟩ := id lx
  exact ⟨x, dx, _, rfl, ox, fldR_no _ (by decide +kernel), hb H2 (s1.trans s2) _ fun y H3 s3 ly => ⟨x, y, Z1, Z1, [0], _, _, _, _, S, T, rfl, lx.same s3, ly, z1_ok, by decide, z12, fun z H4 U nz s4 lz iff => q z H4 (s2.trans (s3.trans s4)) (lz.z2.cong (sumB_dif iff))⟩⟩
theorem gl_difK (ha : Gl C ta σ H Z1 S) (hb : Gl C tb σ H Z1 T) : Gl C (tMethK C "differences" 1 (spDif C) (fun vs zs => vs ++ zs) ta (tCons tb tNil)) σ H Z2 (sumB S fun n => T (-n)) := by
  intro H1 s1 Q q
  refine ha H1 s1 _ fun x H2 s2 lx => ?_
  obtain ⟨dx, l, rs, ox, r0⟩ := id lx
  exact ⟨x, dx, _, rfl, ox, fldR_no _ (by decide +kernel), hb H2 (s1.trans s2) _ fun y H3 s3 ly => ⟨rfl, x, y, Z1, Z1, [0], _, _, _, _, S, T, rfl, lx.same s3, ly, z1_ok, by decide, z12, fun z H4 U nz s4 lz iff => q z H4 (s2.trans (s3.trans s4)) (lz.z2.cong (sumB_dif iff))⟩⟩
theorem gl_mi (Wk : W.Ok 12) (Wm : 2 * W.w + 1 ≤ 640) (ha : Gl C ta σ H W S) : Gl C (tMeth C "mirrored" (spMrr C) [] E0 ta tNil) σ H W.mi (fun n => S (-n)) := by
  intro H1 s1 Q q
  refine ha H1 s1 _ fun x H2 s2 lx => ?_
  obtain ⟨dx, l, rs, ox, r0⟩ := id lx
  exact ⟨x, dx, _, rfl, ox, fldR_no _ (by decide +kernel), x, W, S, rfl, lx, Wk, Wm, fun z H3 nz s3 lz => q z H3 (s2.trans s3) lz⟩
end
end
end L2.K14
end

section
set_option Elab.async false
set_option linter.all false
set_option maxRecDepth 100000
set_option maxHeartbeats 4000000
namespace L2.K14
open PySem PySem.Spec PyProof.Rows L2.Gd L2.Ln
/-! ### sums and differences of two -/
theorem sum_none {S T : Int → Bool} : (∀ n, sumB S T n = false) ↔ (∀ n, S n = false) ∨ (∀ n, T n = false) := by
  constructor
  · intro h
    by_cases c : ∀ n, S n = false
    · exact .inl c
    · obtain ⟨a, ha⟩ := Classical.not_forall.mp c
      refine .inr fun b => ?_
      cases e : T b with
      | false => rfl
      | true =>
        have := h (a + b)
        have ta : S a = true := by
          cases x : S a with
          | true => rfl
          | false => exact (ha x).elim
        have k := sumB_iff.mpr ⟨a, b, ta, e, rfl⟩
        rw [this] at k
        exact nomatch k
  · intro h n
    cases e : sumB S T n with
    | false => rfl
    | true =>
      obtain ⟨a, b, ha, hb, _⟩ := sumB_iff.mp e
      rcases h with z | z
      · rw [z a] at ha
        exact nomatch ha
      · rw [z b] at hb
        exact nomatch hb
/-- the law's means -/
structure WnK (P : Program) (w : World) (K : PySem.W.Frag) (mg : Str → Option Value) (base : Heap) (C dT : Addr) : Prop where
  T : ClsT K mg C
  M : MkL P w K mg base C dT
  eq : EqH P w K mg base C (spEq C)
  hs : MeH P w K mg base C "has" 3 ["self", "number"] (spHs C)
  su : MeH P w K mg base C "sums" 15 ["self", "line"] (spSums C)
  suK : MeK P w K mg base C "sums" 15 "line" (spSums C)
  di : MeH P w K mg base C "differences" 15 ["self", "line"] (spDif C)
  diK : MeK P w K mg base C "differences" 15 "line" (spDif C)
  mi : MeH P w K mg base C "mirrored" 15 ["self"] (spMrr C)
  em : PrH P w K mg base C "is_empty" (spEm C)
  le : MeH P w K mg base C "least" 1 ["self"] (spLe C)
  gr : MeH P w K mg base C "greatest" 1 ["self"] (spGr C)
  tl : MeH P w K mg base C "tail" 6 ["self"] (spTl C)
  iss : FnGd P w K mg base 4 "_law_is_sums" ["_law_pot_here", "_law_line", "_law_one", "_law_other"] (spIss C)
  trn : Fn P w K mg base 1 "_law_turned" ["_law_row_here"] spTrn
def spPrt (C : Addr) : Sp := fun vs H Q _ => ∃ (p x y rw_ r0 r1 : Addr) (S T : Int → Bool), vs = [.ref p, .ref x, .ref y, .ref rw_] ∧ PotAt H p ∧ LnS C Z1 H x S ∧ LnS C Z1 H y T ∧ H rw_ = some (.lst [.ref r0, .ref r1]) ∧ RowB H r0 S ∧ RowB H r1 T ∧ Tame S ∧ Tame T ∧
  ∀ H', PotAt H' p → ButD p H H' → Q (.bl true) H'
abbrev NPrt : List Str := ["_law_pot_here", "_law_one", "_law_other", "_law_rows", "_law_told_here", "_law_less"]
theorem scPrt : FnScope NPrt ["_law_pot_here", "_law_one", "_law_other", "_law_rows"] (defScope (top 107)) := ⟨rfl, rfl, rfl, by decide +kernel, rfl, by decide +kernel, by decide +kernel⟩
theorem refs_ne {H : Hp} {p a r : Addr} {us : List V} (hp : PotAt H p) (h : H a = some (.lst (.ref r :: us))) : a ≠ p := by
  rintro rfl
  obtain ⟨x, y, e, _⟩ := hp
  rw [h] at e
  have e : V.ref r :: us = [.int x, .int y] := by
    injection e with e
    injection e
  exact nomatch (List.cons.inj e).1
theorem z2_mi : Z2.mi = Z2 := rfl
theorem z1_mi : Z1.mi = Z1 := rfl
section
variable {P : Program} {w : World} {K : PySem.W.Frag} {mg : Str → Option Value} {base : Heap} {C dT : Addr}
theorem ok_pr_ {f : Addr} {fd : FuncData} (F : Fun K "_law_pair_right" "_law_pair_right" (top 107) f fd) (n : Nm mg) (k : WnK P w K mg base C dT) : FnG P w K mg base 16 f fd ["_law_pot_here", "_law_one", "_law_other", "_law_rows"] (spPrt C) := by
  refine okG F scPrt (fun vs H Q h => ?_) (fun cdv A outer s H vs Q hg hr h => ?_)
  · obtain ⟨p, x, y, rw_, r0, r1, S, S', rfl, _⟩ := h
    rfl
  · obtain ⟨p, x, y, rw_, r0, r1, S, S', rfl, hp, lx, ly, hw, hr0, hr1, tS, tT, q⟩ := h
    have N := scPrt.nd
    have T := k.T
    have r1' := hr.mono (k := 15) (j := 1) (by decide)
    have r2 := hr.mono (k := 15) (j := 2) (by decide)
    have r4 := hr.mono (k := 15) (j := 4) (by decide)
    have r7 := hr.mono (k := 15) (j := 7) (by decide)
    have r8 := hr.mono (k := 15) (j := 8) (by decide)
    refine ⟨_, pss_cons (ps_par (i := 4) (j := 5) rfl N rfl rfl (by decide) rfl rfl (pa_cons (pe_mH k.su T hr (pv 1) (pa_cons (pv 2) pa_nil)) (pa_cons (pe_mH k.di T hr (pv 1) (pa_cons (pv 2) pa_nil)) pa_nil)) (by rfl))
      (pss_cons (ps_if (pw_or (pt_not (pt_val (pe_fnG k.iss hg r4 (pa_cons (pv 0) (pa_cons (pv 4) (pa_cons (pe_ix ix_list (pv 3) pe_int (fun _ _ => rfl)) (pa_cons (pe_ix ix_list (pv 3) pe_int (fun _ _ => rfl)) pa_nil)))))))
        (pw_or1 (pt_not (pt_val (pe_fnG k.iss hg r4 (pa_cons (pv 0) (pa_cons (pv 5) (pa_cons (pe_ix ix_list (pv 3) pe_int (fun _ _ => rfl)) (pa_cons (pe_fn k.trn r1' (pa_cons (pe_ix ix_list (pv 3) pe_int (fun _ _ => rfl)) pa_nil)) pa_nil)))))))) ).pt (pss_one (ps_ret pe_bl)) pss_nil)
      (pss_cons (ps_if (pw_or (pt_cmpR (op_neH k.eq r8) (pe_mHK k.suK T hr (pv 2) (pk_cons (pv 1) pk_nil)) (pv 4) (nomark _)) (pw_or (pt_cmpR (op_neH k.eq r8) (pe_mHK k.diK T hr (pv 2) (pk_cons (pv 1) pk_nil)) (pe_mH0 k.mi T hr (pv 5)) (nomark _))
        (pw_or1 (pt_cmpR (op_neH k.eq r8) (pe_mH k.su T hr (pv 1) (pa_cons (pe_mH0 k.mi T hr (pv 2)) pa_nil)) (pv 5) (nomark _))))).pt (pss_one (ps_ret pe_bl)) pss_nil)
      (pss_one (ps_ret (pe_and (pe_cmpR op_eq (pe_prH k.em T r2 (pv 4)) (pe_or (pe_prH k.em T r2 (pv 1)) (pe_one (pe_prH k.em T r2 (pv 2)))) (nomark _)) (pe_one (pe_cmpR (op_eqH k.eq r7) (pe_mHK k.diK T hr (pv 1) (pk_cons (pv 2) pk_nil)) (pv 5) (nomark _)))))))), ?_⟩
    refine seqV (Good := fun σ2 H2 => ∃ z u : Addr, Same H H2 ∧ LnS C Z2 H2 z (sumB S S') ∧ LnS C Z2 H2 u (sumB S fun n => S' (-n)) ∧ σ2 = [some (.ref p), some (.ref x), some (.ref y), some (.ref rw_), some (.ref z), some (.ref u)]) ?_ ?_
    · intro nx hnx
      refine gl_sums (gl_var rfl lx) (gl_var rfl ly) H same_refl _ fun z H2 s2 lz => ?_
      refine gl_dif (gl_var rfl (lx.same s2)) (gl_var rfl (ly.same s2)) H2 same_refl _ fun u H3 s3 lu => ⟨_, _, rfl, hnx _ _ ⟨z, u, s2.trans s3, lz.same s3, lu, rfl⟩⟩
    rintro _ H2 ⟨z, u, s2, lz, lu, rfl⟩
    have hp2 := hp.same s2
    refine seqV (Good := fun σ2 H3 => PotAt H3 p ∧ ButD p H2 H3 ∧ σ2 = [some (.ref p), some (.ref x), some (.ref y), some (.ref rw_), some (.ref z), some (.ref u)]) ?_ ?_
    · intro nx hnx
      have hw2 := s2 _ _ hw
      refine ⟨_, rfl, _, rfl, _, rfl, rw_, _, _, _, rfl, rfl, .inl (.inl hw2), rfl, _, rfl, rw_, _, _, _, rfl, rfl, .inl (.inl hw2), rfl, ?_⟩
      refine ⟨p, z, r0, r1, Z2, sumB S S', S, S', rfl, hp2, lz, z2_ok, hr0.same s2, hr1.same s2, tS, tT, fun n => rfl, fun H3 hp3 b3 => ⟨true, rfl, iteF ?_⟩⟩
      have hw3 := b3 _ _ (refs_ne hp2 hw2) hw2
      refine ⟨_, rfl, _, rfl, _, rfl, rw_, _, _, _, rfl, rfl, .inl (.inl hw3), rfl, _, rfl, rw_, _, _, _, rfl, rfl, .inl (.inl hw3), rfl, ?_⟩
      refine ⟨r1, S', rfl, (hr1.same s2).pot hp2 b3, fun o H4 no s4 ho => ?_⟩
      refine ⟨p, u, r0, o, Z2, (sumB S fun n => S' (-n)), S, (fun n => S' (-n)), rfl, hp3.same s4, (lu.pot hp2 b3).same s4, z2_ok, ((hr0.same s2).pot hp2 b3).same s4, ho, tS, tT.rev, fun n => rfl, fun H5 hp5 b5 => ⟨true, rfl, iteF (hnx _ _ ⟨hp5, b3.trans ((Same.but s4).trans b5), rfl⟩)⟩⟩
    rintro _ H3 ⟨hp3, b3, rfl⟩
    have lx3 := (lx.same s2).pot hp2 b3
    have ly3 := (ly.same s2).pot hp2 b3
    have lz3 := lz.pot hp2 b3
    have lu3 := lu.pot hp2 b3
    refine seqV (Good := fun σ2 H4 => Same H3 H4 ∧ σ2 = [some (.ref p), some (.ref x), some (.ref y), some (.ref rw_), some (.ref z), some (.ref u)]) ?_ ?_
    · intro nx hnx
      refine gl_ne z2_ok (gl_sumsK (gl_var rfl ly3) (gl_var rfl lx3)) (gl_var rfl lz3) (fun n => sumB_comm S' S n) H3 same_refl _ fun H4 s4 => ⟨false, rfl, iteF ?_⟩
      refine gl_ne z2_ok (gl_difK (gl_var rfl (ly3.same s4)) (gl_var rfl (lx3.same s4))) (gl_mi (W := Z2) z2_ok (by decide) (gl_var rfl (lu3.same s4))) (fun n => (sumB_neg S S' n).symm) H4 same_refl _ fun H5 s5 => ⟨false, rfl, iteF ?_⟩
      have s45 := s4.trans s5
      refine gl_ne z2_ok (gl_sums (gl_var rfl (lx3.same s45)) (gl_mi (W := Z1) z1_ok (by decide) (gl_var rfl (ly3.same s45)))) (gl_var rfl (lu3.same s45)) (fun n => rfl) H5 same_refl _ fun H6 s6 => ⟨false, rfl, iteF (hnx _ _ ⟨s45.trans s6, rfl⟩)⟩
    rintro _ H4 ⟨s4, rfl⟩
    have lx4 := lx3.same s4
    have ly4 := ly3.same s4
    have lz4 := lz3.same s4
    have lu4 := lu3.same s4
    obtain ⟨dx, l1, _, ox, _⟩ := id lx4
    obtain ⟨dy, l2, _, oy, _⟩ := id ly4
    obtain ⟨dz, l3, _, oz, _⟩ := id lz4
    refine ⟨_, rfl, z, dz, _, rfl, oz, z, _, _, rfl, lz4, fun c1 i1 => ?_⟩
    refine ⟨_, rfl, x, dx, _, rfl, ox, x, _, _, rfl, lx4, fun c2 i2 => ⟨c2, rfl, ?_⟩⟩
    cases c2 with
    | true =>
      obtain rfl : c1 = true := i1.mpr (sum_none.mpr (.inl (i2.mp rfl)))
      exact iteT ⟨rfl, true, rfl, iteT (gl_eq z2_ok (gl_difK (gl_var rfl lx4) (gl_var rfl ly4)) (gl_var rfl lu4) (fun n => rfl) H4 same_refl _ fun H5 s5 => q H5 (hp3.same (s4.trans s5)) ((Same.but s2).trans (b3.trans (Same.but (s4.trans s5)))))⟩
    | false =>
      refine iteF ⟨_, rfl, y, dy, _, rfl, oy, y, _, _, rfl, ly4, fun c3 i3 => ?_⟩
      have e : c1 = c3 := by
        rw [Bool.eq_iff_iff, i1, i3, sum_none]
        exact ⟨fun h => h.elim (fun z => nomatch (i2.mpr z)) id, .inr⟩
      subst e
      refine ⟨rfl, true, congrArg V.bl (decide_eq_true (Eq.refl _)), iteT (gl_eq z2_ok (gl_difK (gl_var rfl lx4) (gl_var rfl ly4)) (gl_var rfl lu4) (fun n => rfl) H4 same_refl _ fun H5 s5 => q H5 (hp3.same (s4.trans s5)) ((Same.but s2).trans (b3.trans (Same.but (s4.trans s5)))))⟩
end
end L2.K14
end

section
set_option Elab.async false
set_option linter.all false
set_option maxRecDepth 100000
set_option maxHeartbeats 4000000
namespace L2.K14
open PySem PySem.Spec PyProof.Rows L2.Gd L2.Ln
/-! ### the ends of sums -/
def addO : Option Int → Option Int → Option Int
  | some a, some b => some (a + b)
  | _, _ => none
theorem gr_sum {S T : Int → Bool} (nS : ∃ a, S a = true) (nT : ∃ b, T b = true) : ∀ {o1 o2 : Option Int}, GrB S o1 → GrB T o2 → GrB (sumB S T) (addO o1 o2)
  | some a, some b, h, k => ⟨sumB_iff.mpr ⟨a, b, h.1, k.1, rfl⟩, fun n hn => by
    obtain ⟨x, y, hx, hy, rfl⟩ := sumB_iff.mp hn
    have := h.2 x hx
    have := k.2 y hy
    omega⟩
  | none, _, h, k => fun n hn => by
    obtain ⟨x, y, hx, hy, rfl⟩ := sumB_iff.mp hn
    obtain ⟨m, hm, e⟩ := h x hx
    exact ⟨m + y, by omega, sumB_iff.mpr ⟨m, y, e, hy, rfl⟩⟩
  | some a, none, h, k => fun n hn => by
    obtain ⟨x, y, hx, hy, rfl⟩ := sumB_iff.mp hn
    obtain ⟨m, hm, e⟩ := k y hy
    exact ⟨x + m, by omega, sumB_iff.mpr ⟨x, m, hx, e, rfl⟩⟩
theorem least_sum {S T : Int → Bool} (nS : ∃ a, S a = true) (nT : ∃ b, T b = true) : ∀ {o1 o2 : Option Int}, LeastB S o1 → LeastB T o2 → LeastB (sumB S T) (addO o1 o2)
  | some a, some b, h, k => ⟨sumB_iff.mpr ⟨a, b, h.1, k.1, rfl⟩, fun n hn => by
    obtain ⟨x, y, hx, hy, rfl⟩ := sumB_iff.mp hn
    have := h.2 x hx
    have := k.2 y hy
    omega⟩
  | none, _, h, k => fun n hn => by
    obtain ⟨x, y, hx, hy, rfl⟩ := sumB_iff.mp hn
    obtain ⟨m, hm, e⟩ := h x hx
    exact ⟨m + y, by omega, sumB_iff.mpr ⟨m, y, e, hy, rfl⟩⟩
  | some a, none, h, k => fun n hn => by
    obtain ⟨x, y, hx, hy, rfl⟩ := sumB_iff.mp hn
    obtain ⟨m, hm, e⟩ := k y hy
    exact ⟨x + m, by omega, sumB_iff.mpr ⟨x, m, hx, e, rfl⟩⟩
theorem some_of {S : Int → Bool} (h : ¬ ∀ n, S n = false) : ∃ n, S n = true := by
  obtain ⟨a, ha⟩ := Classical.not_forall.mp h
  refine ⟨a, ?_⟩
  cases x : S a with
  | true => rfl
  | false => exact (ha x).elim
theorem ends_read {K : PySem.W.Frag} {σ : L2.St} {H : Hp} {Q : VK} {i : Nat} {h : Addr} {o1 o2 : Option Int} (e : σ[i]? = some (some (.ref h))) (hh : H h = some (.lst [oI o1, oI o2])) (q : Q (oI (addO o1 o2)) H) :
    tIf (tTest (tOp (rIn K false) (tC .non) (tVar i))) (tC .non) (tCB (rSum K) (tCons (tVar i) tNil)) σ H Q := by
  cases o1 with
  | none =>
    exact ⟨_, e, h, _, rfl, .inl (.inl (.inl hh)), rfl, by cases o2 <;> rfl, true, rfl, iteT q⟩
  | some a =>
    cases o2 with
    | none => exact ⟨_, e, h, _, rfl, .inl (.inl (.inl hh)), rfl, rfl, true, rfl, iteT q⟩
    | some b =>
      have es : (a + b : Int) = [a, b].sum := by simp
      refine ⟨_, e, h, _, rfl, .inl (.inl (.inl hh)), rfl, rfl, false, rfl, iteF ⟨_, e, h, [a, b], rfl, .inl (.inl hh), ?_⟩⟩
      rw [← es]
      exact q
def spEr (C : Addr) : Sp := fun vs H Q _ => ∃ (x y : Addr) (S T : Int → Bool), vs = [.ref x, .ref y] ∧ LnS C Z1 H x S ∧ LnS C Z1 H y T ∧ ∀ H', Same H H' → Q (.bl true) H'
abbrev NEr : List Str := ["_law_one", "_law_other", "_law_told_here", "_law_highs", "_law_lows"]
theorem scEr : FnScope NEr ["_law_one", "_law_other"] (defScope (top 108)) := ⟨rfl, rfl, rfl, by decide +kernel, rfl, by decide +kernel, by decide +kernel⟩
section
variable {P : Program} {w : World} {K : PySem.W.Frag} {mg : Str → Option Value} {base : Heap} {C dT : Addr}
theorem ok_er {f : Addr} {fd : FuncData} (F : Fun K "_law_ends_right" "_law_ends_right" (top 108) f fd) (n : Nm mg) (hsum : mg "sum" = none) (k : WnK P w K mg base C dT) : FnOk P w K mg base CX0 16 f fd ["_law_one", "_law_other"] (spEr C) := by
  refine F.ok scEr (fun vs H Q E h => ?_) (fun cdv A outer s H vs Q E hr h => ?_)
  · obtain ⟨x, y, S, S', rfl, _⟩ := h
    rfl
  · obtain ⟨x, y, S, S', rfl, lx, ly, q⟩ := h
    have N := scEr.nd
    have T := k.T
    have r1 := hr.mono (k := 15) (j := 1) (by decide)
    have r2 := hr.mono (k := 15) (j := 2) (by decide)
    have r6 := hr.mono (k := 15) (j := 6) (by decide)
    have r7 := hr.mono (k := 15) (j := 7) (by decide)
    have r13 := hr.mono (k := 15) (j := 13) (by decide)
    refine ⟨_, pss_cons (ps_set (i := 2) N rfl (.inl rfl) (pe_mH k.su T hr (pv 0) (pa_cons (pv 1) pa_nil)))
      (pss_cons (ps_if (pw_or (pt_val (pe_prH k.em T r2 (pv 0))) (pw_or1 (pt_val (pe_prH k.em T r2 (pv 1))))).pt (pss_one (ps_ret (pe_and (pe_cmpR (op_eqH k.eq r7) (pv 2) (pe_line0 k.M T r13) (nomark _)) (pe_one (pe_cmpR (op_eqH k.eq r7) (pe_mH k.di T hr (pv 0) (pa_cons (pv 1) pa_nil)) (pe_line0 k.M T r13) (nomark _)))))) pss_nil)
      (pss_cons (ps_par (i := 3) (j := 4) rfl N rfl rfl (by decide) rfl rfl (pa_cons (pe_lst (pa_cons (pe_mH0 k.gr T r1 (pv 0)) (pa_cons (pe_mH0 k.gr T r1 (pv 1)) pa_nil))) (pa_cons (pe_lst (pa_cons (pe_mH0 k.le T r1 (pv 0)) (pa_cons (pe_mH0 k.le T r1 (pv 1)) pa_nil))) pa_nil)) (by rfl))
      (pss_cons (ps_if (pw_or (pt_cmpR op_ne (pe_mH0 k.gr T r1 (pv 2)) (pe_ifExp (pt_cmpR op_in_seq pe_non (pv 3) (by rfl)) pe_non (pe_callB (cr_sum rfl) (by rfl) hsum (by decide +kernel) (pa_cons (pv 3) pa_nil))) (nomark _))
          (pw_or1 (pt_cmpR op_ne (pe_mH0 k.le T r1 (pv 2)) (pe_ifExp (pt_cmpR op_in_seq pe_non (pv 4) (by rfl)) pe_non (pe_callB (cr_sum rfl) (by rfl) hsum (by decide +kernel) (pa_cons (pv 4) pa_nil))) (nomark _)))).pt (pss_one (ps_ret pe_bl)) pss_nil)
      (pss_one (ps_ret (pe_cmpR op_eq (pe_cmpR op_in_seq pe_non (pv 3) (by rfl)) (pe_cmpR (op_neD hr.units) (pe_ix ix_tup (pe_mH0 k.tl T r6 (pv 2)) pe_int (fun _ _ => rfl)) (pe_lst pa_nil) (nomark _)) (nomark _))))))), ?_⟩
    refine seqV (Good := fun σ2 H2 => ∃ z : Addr, Same H H2 ∧ LnS C Z2 H2 z (sumB S S') ∧ σ2 = [some (.ref x), some (.ref y), some (.ref z), none, none]) ?_ ?_
    · intro nx hnx
      exact gl_sums (gl_var rfl lx) (gl_var rfl ly) H same_refl _ fun z H2 s2 lz => hnx _ _ ⟨z, s2, lz, rfl⟩
    rintro _ H2 ⟨z, s2, lz, rfl⟩
    have lx2 := lx.same s2
    have ly2 := ly.same s2
    obtain ⟨dx, l1, _, ox, _⟩ := id lx2
    obtain ⟨dy, l2, _, oy, _⟩ := id ly2
    obtain ⟨dz, l3, _, oz, _⟩ := id lz
    have zz : (Zn.mk [0] 38).Sub Z2 := ⟨fun _ z => z, by decide, Nat.le_refl _⟩
    refine seqV (Good := fun σ2 H3 => H2 = H3 ∧ (∃ n, S n = true) ∧ (∃ n, S' n = true) ∧ σ2 = [some (.ref x), some (.ref y), some (.ref z), none, none]) ?_ ?_
    · intro nx hnx
      refine ⟨_, rfl, x, dx, _, rfl, ox, x, _, _, rfl, lx2, fun c i => ⟨c, rfl, ?_⟩⟩
      cases c with
      | true =>
        have e := i.mp rfl
        have e0 : ∀ n, sumB S S' n = false := sum_none.mpr (.inl e)
        have e1 : ∀ n, sumB S (fun n => S' (-n)) n = false := sum_none.mpr (.inl e)
        exact iteT (iteT (gl_eq z2_ok (gl_var rfl lz) ((gl_new k.M.dt).mono zz) e0 H2 same_refl _ fun H3 s3 => ⟨true, rfl, iteT (gl_eq z2_ok (gl_dif (gl_var rfl (lx2.same s3)) (gl_var rfl (ly2.same s3))) ((gl_new k.M.dt).mono zz) e1 H3 same_refl _ fun H4 s4 => q H4 (s2.trans (s3.trans s4)))⟩))
      | false =>
        refine iteF ⟨_, rfl, y, dy, _, rfl, oy, y, _, _, rfl, ly2, fun c2 i2 => ⟨c2, rfl, ?_⟩⟩
        cases c2 with
        | true =>
          have e := i2.mp rfl
          have e0 : ∀ n, sumB S S' n = false := sum_none.mpr (.inr e)
          have e1 : ∀ n, sumB S (fun n => S' (-n)) n = false := sum_none.mpr (.inr fun n => e (-n))
          exact iteT (gl_eq z2_ok (gl_var rfl lz) ((gl_new k.M.dt).mono zz) e0 H2 same_refl _ fun H3 s3 => ⟨true, rfl, iteT (gl_eq z2_ok (gl_dif (gl_var rfl (lx2.same s3)) (gl_var rfl (ly2.same s3))) ((gl_new k.M.dt).mono zz) e1 H3 same_refl _ fun H4 s4 => q H4 (s2.trans (s3.trans s4)))⟩)
        | false =>
          exact iteF (hnx _ _ ⟨rfl, some_of (fun z => (nomatch (i.mpr z))), some_of (fun z => (nomatch (i2.mpr z))), rfl⟩)
    rintro _ _ ⟨rfl, nS, nT, rfl⟩
    refine seqV (Good := fun σ2 H3 => ∃ (h l : Addr) (o1 o2 m1 m2 : Option Int), Same H2 H3 ∧ H3 h = some (.lst [oI o1, oI o2]) ∧ H3 l = some (.lst [oI m1, oI m2]) ∧ GrB S o1 ∧ GrB S' o2 ∧ LeastB S m1 ∧ LeastB S' m2 ∧ σ2 = [some (.ref x), some (.ref y), some (.ref z), some (.ref h), some (.ref l)]) ?_ ?_
    · intro nx hnx
      refine ⟨_, rfl, x, dx, _, rfl, ox, fldR_no _ (by decide +kernel), x, _, _, rfl, lx2, fun o1 g1 => ⟨_, rfl, y, dy, _, rfl, oy, fldR_no _ (by decide +kernel), y, _, _, rfl, ly2, fun o2 g2 => ⟨(by show 2 ≤ sizeLine; decide), fun h hh => ?_⟩⟩⟩
      have s3 := same_upd (o := .lst [oI o1, oI o2]) hh
      refine ⟨_, rfl, x, dx, _, rfl, s3 _ _ ox, fldR_no _ (by decide +kernel), x, _, _, rfl, lx2.same s3, fun m1 g3 => ⟨_, rfl, y, dy, _, rfl, s3 _ _ oy, fldR_no _ (by decide +kernel), y, _, _, rfl, ly2.same s3, fun m2 g4 => ⟨(by show 2 ≤ sizeLine; decide), fun l hl => ?_⟩⟩⟩
      have s4 := same_upd (o := .lst [oI m1, oI m2]) hl
      exact ⟨_, _, rfl, hnx _ _ ⟨h, l, o1, o2, m1, m2, s3.trans s4, s4 _ _ upd_same, upd_same, g1, g2, g3, g4, rfl⟩⟩
    rintro _ H3 ⟨h, l, o1, o2, m1, m2, s3, hh, hl, g1, g2, g3, g4, rfl⟩
    have lz3 := lz.same s3
    have oz3 := s3 _ _ oz
    have gg := gr_sum nS nT g1 g2
    have gl := least_sum nS nT g3 g4
    have sc : ∀ o : Option Int, scal (oI o) (oI o) = true := fun o => by cases o <;> rfl
    refine seqV (Good := fun σ2 H4 => H3 = H4 ∧ σ2 = [some (.ref x), some (.ref y), some (.ref z), some (.ref h), some (.ref l)]) ?_ ?_
    · intro nx hnx
      refine ⟨_, rfl, z, dz, _, rfl, oz3, fldR_no _ (by decide +kernel), z, _, _, rfl, lz3, fun o g => ends_read rfl hh ?_⟩
      obtain rfl := gr_eq g gg
      refine ⟨sc _, false, by rw [decide_eq_true (Eq.refl _)]; rfl, iteF ?_⟩
      refine ⟨_, rfl, z, dz, _, rfl, oz3, fldR_no _ (by decide +kernel), z, _, _, rfl, lz3, fun o g => ends_read rfl hl ?_⟩
      obtain rfl := least_eq g gl
      exact ⟨sc _, false, by rw [decide_eq_true (Eq.refl _)]; rfl, iteF (hnx _ _ ⟨rfl, rfl⟩)⟩
    rintro _ _ ⟨rfl, rfl⟩
    refine ⟨_, rfl, h, _, rfl, .inl (.inl (.inl hh)), rfl, by cases o1 <;> cases o2 <;> rfl, ?_⟩
    refine ⟨_, rfl, z, dz, _, rfl, oz3, fldR_no _ (by decide +kernel), z, Z2, _, rfl, lz3, z2_ok, fun t b v0 v1 bs H4 s4 ht hb iff len => ?_⟩
    refine ⟨t, _, _, _, rfl, rfl, .inl (.inl ht), rfl, (by show 0 ≤ sizeLine; decide), fun e he => ?_⟩
    have s5 := same_upd (o := .lst []) he
    refine ⟨_, .list [], .lst (.inl (.inl (s5 _ _ hb))) (dps_ints _), .lst (.inl (.inl upd_same)) .nil, ints_shaped _, by decide +kernel, ?_⟩
    rw [ints_nil]
    refine ⟨rfl, ?_⟩
    have e2 : inV .non [oI o1, oI o2] = !decide (bs = []) := by
      have ne : ¬ ∀ n, sumB S S' n = false := fun z => by
        obtain ⟨a, ha⟩ := nS
        obtain ⟨b, hb⟩ := nT
        have := sumB_iff.mpr ⟨a, b, ha, hb, rfl⟩
        rw [z] at this
        exact nomatch this
      cases o1 with
      | none =>
        rw [decide_eq_false fun z => (iff.mp z).elim ne fun ⟨g, hg⟩ => nomatch (gr_eq hg gg)]
        rfl
      | some a =>
        cases o2 with
        | none =>
          rw [decide_eq_false fun z => (iff.mp z).elim ne fun ⟨g, hg⟩ => nomatch (gr_eq hg gg)]
          rfl
        | some b =>
          rw [decide_eq_true (iff.mpr (.inr ⟨_, gg⟩))]
          rfl
    rw [if_neg (by decide), e2, show decide (V.bl (!decide (bs = [])) = V.bl (!decide (bs = []))) = true from decide_eq_true (Eq.refl _)]
    exact q _ (s2.trans (s3.trans (s4.trans s5)))
end
end L2.K14
end

section
set_option Elab.async false
set_option linter.all false
set_option maxRecDepth 100000
set_option maxHeartbeats 4000000
namespace L2.K14
open PySem PySem.Spec PyProof.Rows L2.Gd L2.Ln
/-! ### long stretches -/
/-- from l to h, of one period -/
structure Lg (s : Sst) (l h : Int) : Prop where
  ok : s.Ok
  lo : s.lo = some l
  hi : s.hi = some h
  d : s.p ∣ 12
theorem Lg.in_ {s : Sst} {l h n : Int} (g : Lg s l h) : s.row.inB n = true ↔ l ≤ n ∧ n ≤ h ∧ pat s.p (maskN s.xs 0) n = true := by
  rw [inB_iff]
  show Ge s.lo n ∧ Le s.hi n ∧ _ ↔ _
  rw [g.lo, g.hi, ge_some, le_some]
  rfl
theorem pat_12k {p b : Nat} (d : p ∣ 12) (n k : Int) : pat p b (n + 12 * k) = pat p b n := by
  obtain ⟨j, e⟩ := d
  have : (12 : Int) = (j : Int) * p := by
    have : ((12 : Nat) : Int) = ((p * j : Nat) : Int) := by rw [← e]
    rw [Int.natCast_mul, Int.mul_comm] at this
    exact this
  rw [show n + 12 * k = n + (k * j) * p by rw [this, Int.mul_comm ((j : Int) * p) k, Int.mul_assoc], pat_add]
theorem any_rg {n : Nat} {f : Int → Bool} : ((rgI 0 n).map f).any id = true ↔ ∃ a : Int, 0 ≤ a ∧ a < (n : Int) ∧ f a = true := by
  rw [List.any_map, List.any_eq_true]
  unfold rgI
  constructor
  · rintro ⟨a, ha, e⟩
    obtain ⟨i, hi, rfl⟩ := List.mem_map.mp ha
    have := List.mem_range.mp hi
    exact ⟨0 + (i : Int), by omega, by omega, e⟩
  · rintro ⟨a, a0, an, e⟩
    exact ⟨a, List.mem_map.mpr ⟨a.toNat, List.mem_range.mpr (by omega), by omega⟩, e⟩
variable {s t : Sst} {l1 h1 l2 h2 : Int}
theorem near_any (g : Lg s l1 h1) (k : Lg t l2 h2) {step : Int} (h : step < 60) : sumB s.row.inB t.row.inB (l1 + l2 + step) = ((rgI 0 60).map fun a => s.row.inB (l1 + a) && t.row.inB (l1 + l2 + step - l1 - a)).any id := by
  rw [Bool.eq_iff_iff, sumB_iff, any_rg]
  constructor
  · rintro ⟨a, b, ha, hb, e⟩
    have a1 := (g.in_.mp ha).1
    have b1 := (k.in_.mp hb).1
    refine ⟨a - l1, by omega, by show a - l1 < ((60 : Nat) : Int); omega, ?_⟩
    rw [show l1 + (a - l1) = a by omega, show l1 + l2 + step - l1 - (a - l1) = b by omega, ha, hb]
    rfl
  · rintro ⟨a, a0, a6, e⟩
    rw [Bool.and_eq_true] at e
    exact ⟨_, _, e.1, e.2, by omega⟩
theorem far_any (g : Lg s l1 h1) (k : Lg t l2 h2) {step : Int} (h : step < 60) : sumB s.row.inB t.row.inB (h1 + h2 - step) = ((rgI 0 60).map fun a => s.row.inB (h1 - a) && t.row.inB (h1 + h2 - step - h1 + a)).any id := by
  rw [Bool.eq_iff_iff, sumB_iff, any_rg]
  constructor
  · rintro ⟨a, b, ha, hb, e⟩
    have a1 := (g.in_.mp ha).2.1
    have b1 := (k.in_.mp hb).2.1
    refine ⟨h1 - a, by omega, by show h1 - a < ((60 : Nat) : Int); omega, ?_⟩
    rw [show h1 - (h1 - a) = a by omega, show h1 + h2 - step - h1 + (h1 - a) = b by omega, ha, hb]
    rfl
  · rintro ⟨a, a0, a6, e⟩
    rw [Bool.and_eq_true] at e
    exact ⟨_, _, e.1, e.2, by omega⟩
theorem mid_any (g : Lg s l1 h1) (k : Lg t l2 h2) {step : Int} (s0 : -5 ≤ step) (s6 : step < 60) (w1 : l1 + 100000000000000000000 ≤ h1) (w2 : l2 + 100000000000000000000 ≤ h2) :
    sumB s.row.inB t.row.inB (l1 + l2 + 70000000000000000000 + step) = ((rgI 0 12).map fun a => s.row.inB (l1 + 30000000000000000000 + a) && t.row.inB (l1 + l2 + 70000000000000000000 + step - (l1 + 30000000000000000000) - a)).any id := by
  rw [Bool.eq_iff_iff, sumB_iff, any_rg]
  constructor
  · rintro ⟨a, b, ha, hb, e⟩
    obtain ⟨_, _, pa⟩ := g.in_.mp ha
    obtain ⟨_, _, pb⟩ := k.in_.mp hb
    have q := Int.emod_add_mul_ediv (a - (l1 + 30000000000000000000)) 12
    have m0 := Int.emod_nonneg (a - (l1 + 30000000000000000000)) (b := 12) (by decide)
    have m1 := Int.emod_lt_of_pos (a - (l1 + 30000000000000000000)) (b := 12) (by decide)
    generalize (a - (l1 + 30000000000000000000)) % 12 = m at *
    generalize (a - (l1 + 30000000000000000000)) / 12 = j at *
    refine ⟨m, m0, m1, ?_⟩
    have ea : l1 + 30000000000000000000 + m = a + 12 * (-j) := by omega
    have eb : l1 + l2 + 70000000000000000000 + step - (l1 + 30000000000000000000) - m = b + 12 * j := by omega
    rw [Bool.and_eq_true]
    refine ⟨g.in_.mpr ⟨by omega, by omega, ?_⟩, k.in_.mpr ⟨by omega, by omega, ?_⟩⟩
    · rw [ea, pat_12k g.d]
      exact pa
    · rw [eb, pat_12k k.d]
      exact pb
  · rintro ⟨a, a0, a6, e⟩
    rw [Bool.and_eq_true] at e
    exact ⟨_, _, e.1, e.2, by omega⟩
/-- a long stretch, as it lies -/
def LgAt (H : Hp) (t : Addr) (s : Sst) (l h : Int) : Prop := ∃ r : Addr, H t = some (.tup [.int l, .int h, .int s.p, .ref r]) ∧ H r = some (.lst (s.xs.map V.int))
theorem LgAt.same {H H' : Hp} {t : Addr} {s : Sst} {l h : Int} (e : Same H H') (g : LgAt H t s l h) : LgAt H' t s l h := let ⟨r, a, b⟩ := g; ⟨r, e _ _ a, e _ _ b⟩
theorem LgAt.ss {H : Hp} {t : Addr} {s : Sst} {l h : Int} (k : Lg s l h) (g : LgAt H t s l h) : SsAt H (.ref t) s := let ⟨r, a, b⟩ := g; ⟨t, r, rfl, by rw [a, k.lo, k.hi]; rfl, .inl b⟩
def spLgs (C : Addr) : Sp := fun vs H Q _ => ∃ (z t1 t2 : Addr) (s1 s2 : Sst) (l1 h1 l2 h2 : Int) (W : Zn), vs = [.ref z, .ref t1, .ref t2] ∧ Lg s1 l1 h1 ∧ Lg s2 l2 h2 ∧ l1 + 100000000000000000000 ≤ h1 ∧ l2 + 100000000000000000000 ≤ h2 ∧ LgAt H t1 s1 l1 h1 ∧ LgAt H t2 s2 l2 h2 ∧ LnS C W H z (sumB s1.row.inB s2.row.inB) ∧ W.Ok 12 ∧
  ∀ H', Same H H' → Q (.bl true) H'
abbrev NLgs : List Str := ["_law_told_here", "_law_one", "_law_other", "_law_low", "_law_high", "_law_step", "_law_near", "_law_far", "_law_spot", "_law_most", "_law_between", "_law_a"]
theorem scLgs : FnScope NLgs ["_law_told_here", "_law_one", "_law_other"] (defScope (top 110)) := ⟨rfl, rfl, rfl, by decide +kernel, rfl, by decide +kernel, by decide +kernel⟩
section
variable {P : Program} {w : World} {K : PySem.W.Frag} {mg : Str → Option Value} {base : Heap} {C dT : Addr}
theorem ok_ls_ {f : Addr} {fd : FuncData} (F : Fun K "_law_long_sums" "_law_long_sums" (top 110) f fd) (n : Nm mg) (k : WnK P w K mg base C dT) (IN : Fn P w K mg base 1 "_law_in" ["_law_stretch_here", "_law_number"] spInn) : FnOk P w K mg base CX0 4 f fd ["_law_told_here", "_law_one", "_law_other"] (spLgs C) := by
  refine F.ok scLgs (fun vs H Q E h => ?_) (fun cdv A outer s H vs Q E hr h => ?_)
  · obtain ⟨z, t1, t2, s1, s2, l1, h1, l2, h2, W, rfl, _⟩ := h
    rfl
  · obtain ⟨z, t1, t2, s1, s2, l1, h1, l2, h2, W, rfl, g1, g2, w1, w2, a1, a2, lz, Wk, q⟩ := h
    have N := scLgs.nd
    have T := k.T
    have r1 := hr.mono (k := 3) (j := 1) (by decide)
    refine ⟨_, pss_cons (ps_asg (pe_tup (pa_cons (pe_op op_add (pe_ix ix_tup (pv 1) pe_int (fun _ _ => rfl)) (pe_ix ix_tup (pv 2) pe_int (fun _ _ => rfl))) (pa_cons (pe_op op_add (pe_ix ix_tup (pv 1) pe_int (fun _ _ => rfl)) (pe_ix ix_tup (pv 2) pe_int (fun _ _ => rfl))) pa_nil))) (pg_tup rfl (pgs_cons (pg_name (i := 3) N rfl (.inr rfl)) (pgs_cons (pg_name (i := 4) N rfl (.inr rfl)) pgs_nil))))
      (pss_cons (ps_for PassesOwn.never rfl (pi_range2 (by rfl) n.range (pa_cons (pe_un un_neg pe_int) (pa_cons pe_int pa_nil))) (pg_name (i := 5) N rfl (.inr rfl))
        (pss_cons (ps_setLc (i := 6) (own := [("_law_a", 11)]) (g := gName 11) (tt := tYes) (by rfl) N rfl rfl (sw_true rfl rfl rfl (by decide +kernel)) (pi_range1 (by rfl) n.range (pa_cons pe_int pa_nil)) (blkOk_by (N := NLgs) (sc := defScope (top 110)) (by decide +kernel)) (fun _ _ _ _ _ => pg_name (i := 11) N rfl (.inl rfl)) (fun _ _ _ _ _ => pts_nil)
          (fun _ _ _ _ _ => pe_and (pe_fn IN r1 (pa_cons (pv 1) (pa_cons (pe_op op_add (pe_ix (show IxR _ (rIxT K) from ix_tup) (pv 1) pe_int (fun _ _ => rfl)) (pv 11)) pa_nil))) (pe_one (pe_fn IN r1 (pa_cons (pv 2) (pa_cons (pe_op op_sub (pe_op op_sub (pe_op op_add (pv 3) (pv 5)) (pe_ix (show IxR _ (rIxT K) from ix_tup) (pv 1) pe_int (fun _ _ => rfl))) (pv 11)) pa_nil))))))
        (pss_cons (ps_setLc (i := 7) (own := [("_law_a", 11)]) (g := gName 11) (tt := tYes) (by rfl) N rfl rfl (sw_true rfl rfl rfl (by decide +kernel)) (pi_range1 (by rfl) n.range (pa_cons pe_int pa_nil)) (blkOk_by (N := NLgs) (sc := defScope (top 110)) (by decide +kernel)) (fun _ _ _ _ _ => pg_name (i := 11) N rfl (.inl rfl)) (fun _ _ _ _ _ => pts_nil)
          (fun _ _ _ _ _ => pe_and (pe_fn IN r1 (pa_cons (pv 1) (pa_cons (pe_op op_sub (pe_ix (show IxR _ (rIxT K) from ix_tup) (pv 1) pe_int (fun _ _ => rfl)) (pv 11)) pa_nil))) (pe_one (pe_fn IN r1 (pa_cons (pv 2) (pa_cons (pe_op op_add (pe_op op_sub (pe_op op_sub (pv 4) (pv 5)) (pe_ix (show IxR _ (rIxT K) from ix_tup) (pv 1) pe_int (fun _ _ => rfl))) (pv 11)) pa_nil))))))
        (pss_cons (ps_if (pw_or (pt_cmpR op_ne (pe_mH k.hs T hr (pv 0) (pa_cons (pe_op op_add (pv 3) (pv 5)) pa_nil)) (pe_callB (r := rAny K) (cr_any rfl) (by rfl) n.any (by decide +kernel) (pa_cons (pv 6) pa_nil)) (nomark _))
          (pw_or1 (pt_cmpR op_ne (pe_mH k.hs T hr (pv 0) (pa_cons (pe_op op_sub (pv 4) (pv 5)) pa_nil)) (pe_callB (r := rAny K) (cr_any rfl) (by rfl) n.any (by decide +kernel) (pa_cons (pv 7) pa_nil)) (nomark _)))).pt (pss_one (ps_ret pe_bl)) pss_nil)
        (pss_cons (ps_asg (pe_tup (pa_cons (pe_op op_add (pe_op op_add (pv 3) (pe_op op_mul pe_int (pe_op op_pow pe_int pe_int))) (pv 5)) (pa_cons (pe_op op_add (pe_ix ix_tup (pv 1) pe_int (fun _ _ => rfl)) (pe_op op_mul pe_int (pe_op op_pow pe_int pe_int))) pa_nil))) (pg_tup rfl (pgs_cons (pg_name (i := 8) N rfl (.inr rfl)) (pgs_cons (pg_name (i := 9) N rfl (.inr rfl)) pgs_nil))))
        (pss_cons (ps_setLc (i := 10) (own := [("_law_a", 11)]) (g := gName 11) (tt := tYes) (by rfl) N rfl rfl (sw_true rfl rfl rfl (by decide +kernel)) (pi_range1 (by rfl) n.range (pa_cons pe_int pa_nil)) (blkOk_by (N := NLgs) (sc := defScope (top 110)) (by decide +kernel)) (fun _ _ _ _ _ => pg_name (i := 11) N rfl (.inl rfl)) (fun _ _ _ _ _ => pts_nil)
          (fun _ _ _ _ _ => pe_and (pe_fn IN r1 (pa_cons (pv 1) (pa_cons (pe_op op_add (pv 9) (pv 11)) pa_nil))) (pe_one (pe_fn IN r1 (pa_cons (pv 2) (pa_cons (pe_op op_sub (pe_op op_sub (pv 8) (pv 9)) (pv 11)) pa_nil))))))
        (pss_one (ps_if (pt_cmpR op_ne (pe_mH k.hs T hr (pv 0) (pa_cons (pv 8) pa_nil)) (pe_callB (r := rAny K) (cr_any rfl) (by rfl) n.any (by decide +kernel) (pa_cons (pv 10) pa_nil)) (nomark _)) (pss_one (ps_ret pe_bl)) pss_nil))))))))
      (pss_one (ps_ret pe_bl))), ?_⟩
    obtain ⟨rr1, ht1, hr1⟩ := id a1
    obtain ⟨rr2, ht2, hr2⟩ := id a2
    obtain ⟨dz, lzz, _, oz, _⟩ := id lz
    have ss1 : SsAt H (.ref t1) s1 := a1.ss g1
    have ss2 : SsAt H (.ref t2) s2 := a2.ss g2
    refine seqV (Good := fun σ2 H2 => Same H H2 ∧ σ2 = [some (.ref z), some (.ref t1), some (.ref t2), some (.int (l1 + l2)), some (.int (h1 + h2)), none, none, none, none, none, none, none]) ?_ ?_
    · intro nx hnx
      refine ⟨_, rfl, t1, _, _, _, rfl, rfl, .inl (.inl ht1), rfl, _, rfl, t2, _, _, _, rfl, rfl, .inl (.inl ht2), rfl, _, _, rfl, rfl, _, rfl, t1, _, _, _, rfl, rfl, .inl (.inl ht1), rfl, _, rfl, t2, _, _, _, rfl, rfl, .inl (.inl ht2), rfl, _, _, rfl, rfl, (by show 2 ≤ sizeLine; decide), fun t ht => ?_⟩
      exact ⟨t, _, rfl, .inl (.inl upd_same), rfl, _, _, rfl, _, _, rfl, rfl, hnx _ _ ⟨same_upd ht, rfl⟩⟩
    rintro _ H2 ⟨s2', rfl⟩
    refine seqV (Good := fun σ2 H3 => Same H H3) ?_ ?_
    · intro nx hnx
      refine ⟨_, rfl, -5, 60, rfl, ⟨by decide, by decide, by decide, by decide⟩, for_range (lo := -5) (n := 65) (fun i σ H3 => ∃ y5 y6 y7 y8 y9 y10 : Option V, Same H H3 ∧ σ = [some (.ref z), some (.ref t1), some (.ref t2), some (.int (l1 + l2)), some (.int (h1 + h2)), y5, y6, y7, y8, y9, y10, none])
        ⟨_, _, _, _, _, _, s2', rfl⟩ ?_ ?_⟩
      · rintro i σ H3 hi ⟨y5, y6, y7, y8, y9, y10, s3, rfl⟩
        refine gn ?_
        have st0 : -5 ≤ -5 + (i : Int) := by omega
        have st6 : -5 + (i : Int) < 60 := by omega
        generalize hst : -5 + (i : Int) = st at *
        -- near the low end
        refine seqV (Good := fun σ2 H4 => ∃ d : Addr, Same H H4 ∧ H4 d = some (.lst (((rgI 0 60).map fun a => s1.row.inB (l1 + a) && s2.row.inB (l1 + l2 + st - l1 - a)).map V.bl)) ∧ σ2 = [some (.ref z), some (.ref t1), some (.ref t2), some (.int (l1 + l2)), some (.int (h1 + h2)), some (.int st), some (.ref d), y7, y8, y9, y10, none]) ?_ ?_
        · intro nx2 hnx2
          refine ⟨60, rfl, by decide, by decide, fun D hD => ?_⟩
          refine lc_mapR (lo := 0) (n := 60) (G := fun _ v b => v = V.bl b) (f := fun a => some (s1.row.inB (l1 + a) && s2.row.inB (l1 + l2 + st - l1 - a))) (fun _ _ _ _ _ _ z => z) (by omega) ?_ ?_
          · rintro x a H4 A B he rfl b ⟨zs, hz⟩ hA hB
            have s4 := s3.trans (b.new hD)
            refine ⟨rfl, yes_ite ?_⟩
            refine ⟨_, rfl, _, rfl, t1, _, _, _, rfl, rfl, .inl (.inl (s4 _ _ ht1)), rfl, _, rfl, _, _, rfl, rfl, .ref t1, s1, l1 + a, rfl, ss1.same s4, g1.ok, s1.row.inB (l1 + a), rfl, ?_⟩
            cases e : s1.row.inB (l1 + a) with
            | false => exact iteF (hA _ _ H4 rfl (fun _ _ z => z) (by rw [e]; rfl))
            | true => exact iteT ⟨_, rfl, _, rfl, _, rfl, _, _, rfl, rfl, _, rfl, t1, _, _, _, rfl, rfl, .inl (.inl (s4 _ _ ht1)), rfl, _, _, rfl, rfl, _, rfl, _, _, rfl, rfl, .ref t2, s2, _, rfl, ss2.same s4, g2.ok, hA _ _ H4 rfl (fun _ _ z => z) (by rw [e]; rfl)⟩
          · intro zs H4 h1' h2' h3'
            rw [mapE] at h2'
            rw [bls_of h2'] at h1'
            exact hnx2 _ _ ⟨D, s3.trans (h3'.new hD), h1', rfl⟩
        rintro _ H4 ⟨d6, s4, hd6, rfl⟩
        -- near the high end
        refine seqV (Good := fun σ2 H5 => ∃ d : Addr, Same H4 H5 ∧ H5 d = some (.lst (((rgI 0 60).map fun a => s1.row.inB (h1 - a) && s2.row.inB (h1 + h2 - st - h1 + a)).map V.bl)) ∧ σ2 = [some (.ref z), some (.ref t1), some (.ref t2), some (.int (l1 + l2)), some (.int (h1 + h2)), some (.int st), some (.ref d6), some (.ref d), y8, y9, y10, none]) ?_ ?_
        · intro nx2 hnx2
          refine ⟨60, rfl, by decide, by decide, fun D hD => ?_⟩
          refine lc_mapR (lo := 0) (n := 60) (G := fun _ v b => v = V.bl b) (f := fun a => some (s1.row.inB (h1 - a) && s2.row.inB (h1 + h2 - st - h1 + a))) (fun _ _ _ _ _ _ z => z) (by omega) ?_ ?_
          · rintro x a H5 A B he rfl b ⟨zs, hz⟩ hA hB
            have s4 := s4.trans (b.new hD)
            refine ⟨rfl, yes_ite ?_⟩
            refine ⟨_, rfl, _, rfl, t1, _, _, _, rfl, rfl, .inl (.inl (s4 _ _ ht1)), rfl, _, rfl, _, _, rfl, rfl, .ref t1, s1, h1 - a, rfl, ss1.same s4, g1.ok, s1.row.inB (h1 - a), rfl, ?_⟩
            cases e : s1.row.inB (h1 - a) with
            | false => exact iteF (hA _ _ H5 rfl (fun _ _ z => z) (by rw [e]; rfl))
            | true => exact iteT ⟨_, rfl, _, rfl, _, rfl, _, _, rfl, rfl, _, rfl, t1, _, _, _, rfl, rfl, .inl (.inl (s4 _ _ ht1)), rfl, _, _, rfl, rfl, _, rfl, _, _, rfl, rfl, .ref t2, s2, _, rfl, ss2.same s4, g2.ok, hA _ _ H5 rfl (fun _ _ z => z) (by rw [e]; rfl)⟩
          · intro zs H5 h1' h2' h3'
            rw [mapE] at h2'
            rw [bls_of h2'] at h1'
            exact hnx2 _ _ ⟨D, h3'.new hD, h1', rfl⟩
        rintro _ H5 ⟨d7, s5, hd7, rfl⟩
        have s05 := s4.trans s5
        have yes : ∀ b : Bool, V.bl (!decide (V.bl b = V.bl b)) = V.bl false := fun b => by rw [decide_eq_true (Eq.refl _)]; rfl
        refine seqV (Good := fun σ2 H6 => H5 = H6 ∧ σ2 = [some (.ref z), some (.ref t1), some (.ref t2), some (.int (l1 + l2)), some (.int (h1 + h2)), some (.int st), some (.ref d6), some (.ref d7), y8, y9, y10, none]) ?_ ?_
        · intro nx2 hnx2
          refine ⟨_, rfl, z, dz, _, rfl, s05 _ _ oz, fldR_no _ (by decide +kernel), _, rfl, _, rfl, _, _, rfl, rfl, z, l1 + l2 + st, W, _, rfl, lz.same s05, Wk, _, rfl, d6, _, rfl, .inl (.inl (s5 _ _ hd6)), rfl, false, by rw [near_any g1 g2 st6]; exact yes _, iteF ?_⟩
          exact ⟨_, rfl, z, dz, _, rfl, s05 _ _ oz, fldR_no _ (by decide +kernel), _, rfl, _, rfl, _, _, rfl, rfl, z, h1 + h2 - st, W, _, rfl, lz.same s05, Wk, _, rfl, d7, _, rfl, .inl (.inl hd7), rfl, false, by rw [far_any g1 g2 st6]; exact yes _, iteF (hnx2 _ _ ⟨rfl, rfl⟩)⟩
        rintro _ _ ⟨rfl, rfl⟩
        -- between
        refine seqV (Good := fun σ2 H6 => Same H5 H6 ∧ σ2 = [some (.ref z), some (.ref t1), some (.ref t2), some (.int (l1 + l2)), some (.int (h1 + h2)), some (.int st), some (.ref d6), some (.ref d7), some (.int (l1 + l2 + 70000000000000000000 + st)), some (.int (l1 + 30000000000000000000)), y10, none]) ?_ ?_
        · intro nx2 hnx2
          have t19 : (10 : Int) ^ (19 : Int).toNat = 10000000000000000000 := by decide
          refine ⟨_, rfl, _, _, rfl, rfl, ⟨by decide, by decide, by decide⟩, _, _, rfl, rfl, .inl ⟨by decide, by decide⟩, _, _, rfl, rfl, _, rfl, _, _, rfl, rfl, _, rfl, t1, _, _, _, rfl, rfl, .inl (.inl (s05 _ _ ht1)), rfl, _, _, rfl, rfl, ⟨by decide, by decide, by decide⟩, _, _, rfl, rfl, .inl ⟨by decide, by decide⟩, _, _, rfl, rfl, (by show 2 ≤ sizeLine; decide), fun t ht => ?_⟩
          refine ⟨t, _, rfl, .inl (.inl upd_same), rfl, _, _, rfl, _, _, rfl, rfl, hnx2 _ _ ⟨same_upd ht, ?_⟩⟩
          rfl
        rintro _ H6 ⟨s6, rfl⟩
        have s06 := s05.trans s6
        refine seqV (Good := fun σ2 H7 => ∃ d : Addr, Same H6 H7 ∧ H7 d = some (.lst (((rgI 0 12).map fun a => s1.row.inB (l1 + 30000000000000000000 + a) && s2.row.inB (l1 + l2 + 70000000000000000000 + st - (l1 + 30000000000000000000) - a)).map V.bl)) ∧ σ2 = [some (.ref z), some (.ref t1), some (.ref t2), some (.int (l1 + l2)), some (.int (h1 + h2)), some (.int st), some (.ref d6), some (.ref d7), some (.int (l1 + l2 + 70000000000000000000 + st)), some (.int (l1 + 30000000000000000000)), some (.ref d), none]) ?_ ?_
        · intro nx2 hnx2
          refine ⟨12, rfl, by decide, by decide, fun D hD => ?_⟩
          refine lc_mapR (lo := 0) (n := 12) (G := fun _ v b => v = V.bl b) (f := fun a => some (s1.row.inB (l1 + 30000000000000000000 + a) && s2.row.inB (l1 + l2 + 70000000000000000000 + st - (l1 + 30000000000000000000) - a))) (fun _ _ _ _ _ _ z => z) (by omega) ?_ ?_
          · rintro x a H7 A B he rfl b ⟨zs, hz⟩ hA hB
            have s7 := s06.trans (b.new hD)
            refine ⟨rfl, yes_ite ?_⟩
            refine ⟨_, rfl, _, rfl, _, rfl, _, _, rfl, rfl, .ref t1, s1, l1 + 30000000000000000000 + a, rfl, ss1.same s7, g1.ok, s1.row.inB (l1 + 30000000000000000000 + a), rfl, ?_⟩
            cases e : s1.row.inB (l1 + 30000000000000000000 + a) with
            | false => exact iteF (hA _ _ H7 rfl (fun _ _ z => z) (by rw [e]; rfl))
            | true => exact iteT ⟨_, rfl, _, rfl, _, rfl, _, _, rfl, rfl, _, rfl, _, _, rfl, rfl, .ref t2, s2, _, rfl, ss2.same s7, g2.ok, hA _ _ H7 rfl (fun _ _ z => z) (by rw [e]; rfl)⟩
          · intro zs H7 h1' h2' h3'
            rw [mapE] at h2'
            rw [bls_of h2'] at h1'
            exact hnx2 _ _ ⟨D, h3'.new hD, h1', rfl⟩
        rintro _ H7 ⟨d10, s7, hd10, rfl⟩
        have s07 := s06.trans s7
        exact ⟨_, rfl, z, dz, _, rfl, s07 _ _ oz, fldR_no _ (by decide +kernel), _, rfl, z, l1 + l2 + 70000000000000000000 + st, W, _, rfl, lz.same s07, Wk, _, rfl, d10, _, rfl, .inl (.inl hd10), rfl, false, by rw [mid_any g1 g2 st0 st6 w1 w2]; exact yes _, iteF ⟨_, _, _, _, _, _, s07, rfl⟩⟩
      · rintro σ H3 ⟨y5, y6, y7, y8, y9, y10, s3, rfl⟩
        exact hnx _ _ s3
    rintro _ H3 s3
    exact q H3 s3
end
end L2.K14
end

section
set_option Elab.async false
set_option linter.all false
set_option maxRecDepth 100000
set_option maxHeartbeats 4000000
namespace L2.K14
open PySem PySem.Spec PyProof.Rows L2.Gd L2.Ln
/-! ### sums of long stretches -/
theorem make_line {K : PySem.W.Frag} {C : Addr} {R : Addr → VK} {H : Hp} {a : Addr} {xs : List V} {sts : List Sst} {cs : List Int} {W : Int} {E : XK} (sa : H a = some (.lst xs)) (sv : Paired (SsAt H) xs sts) (ok : ∀ s ∈ sts, s.Ok) (lm : ∀ s ∈ sts, Lm ⟨cs, W⟩ 12 s.row) (l4 : sts.length ≤ 4) (kz : (Zn.mk cs (W + 38)).Ok 12)
    (k : ∀ (x : Addr) (H' : Hp), H x = none → Same H H' → LnS C ⟨cs, W + 38⟩ H' x (tellB sts) → R x .non H') :
    ∀ x dx, H x = none → H dx = none → dx ≠ x → spInit K C (.ref x :: ([.ref a] ++ [])) (upd (upd H dx (.own x)) x (.ins C dx [])) (R x) E := by
  intro x dx hx hdx ne
  have s0 : Same H (upd (upd H dx (.own x)) x (.ins C dx [])) := fun b o e => by
    rw [upd_ne (ne_of_none e hx), upd_ne (ne_of_none e hdx)]
    exact e
  refine ⟨x, dx, a, xs, sts, cs, W, rfl, upd_same, .inl (s0 _ _ sa), Paired.mapP sv fun _ _ z => SsAt.same s0 z, ok, lm, l4, kz, fun l out H' nl ox ro ns iff kp => ?_⟩
  have s1 : Same H H' := fun b o e => kp b o (ne_of_none e hx) (s0 b o e)
  exact k x H' hx s1 ⟨dx, l, out, ox, ro, ns, fun n => by rw [Bool.eq_iff_iff, iff n, tell_iff]⟩
abbrev cL : List Int := [0, 100000000000000000000]
abbrev cS : List Int := [0, 100000000000000000000, 200000000000000000000]
theorem cl_ok {W : Int} (h : 2 * W + 1 ≤ 2520) : (Zn.mk cL W).Ok 12 := ⟨h, by decide, by decide, fun c hc d hd => by
  simp only [List.mem_cons, List.not_mem_nil, or_false] at hc hd
  rcases hc with rfl | rfl <;> rcases hd with rfl | rfl <;> omega, (by show 2 ≤ 6; decide)⟩
theorem cs_ok {W : Int} (h : 2 * W + 1 ≤ 2520) : (Zn.mk cS W).Ok 12 := ⟨h, by decide, by decide, fun c hc d hd => by
  simp only [List.mem_cons, List.not_mem_nil, or_false] at hc hd
  rcases hc with rfl | rfl | rfl <;> rcases hd with rfl | rfl | rfl <;> omega, (by show 3 ≤ 6; decide)⟩
theorem zl : SumZ ⟨cL, 118 + 38⟩ ⟨cL, 118 + 38⟩ cS 624 623 662 312 := by
  have g : ZSum ⟨cL, 118 + 38⟩ ⟨cL, 118 + 38⟩ ⟨cS, 624⟩ 12 312 := by
    refine ⟨cl_ok (by decide), cl_ok (by decide), fun c hc d hd => ?_, by decide, by decide, by decide, by decide⟩
    have hc : c ∈ cL := hc
    have hd : d ∈ cL := hd
    show c + d ∈ cS
    simp only [List.mem_cons, List.not_mem_nil, or_false] at hc hd ⊢
    rcases hc with rfl | rfl <;> rcases hd with rfl | rfl <;> omega
  refine ⟨g, g, by decide, .inr (.inl ⟨by decide, by decide⟩), .inr (.inl ⟨by decide, by decide⟩), cs_ok (by decide), cs_ok (by decide)⟩
/-- .. as drawn: not the pot, not the list -/
def LgP (p D : Addr) (H : Hp) (t : Addr) (s : Sst) (l h : Int) : Prop := ∃ r : Addr, r ≠ p ∧ r ≠ D ∧ H t = some (.tup [.int l, .int h, .int s.p, .ref r]) ∧ H r = some (.lst (s.xs.map V.int))
theorem LgP.at_ {p D : Addr} {H : Hp} {t : Addr} {s : Sst} {l h : Int} (g : LgP p D H t s l h) : LgAt H t s l h := let ⟨r, _, _, a, b⟩ := g; ⟨r, a, b⟩
theorem LgP.same {p D : Addr} {H H' : Hp} {t : Addr} {s : Sst} {l h : Int} (e : Same H H') (g : LgP p D H t s l h) : LgP p D H' t s l h := let ⟨r, n1, n2, a, b⟩ := g; ⟨r, n1, n2, e _ _ a, e _ _ b⟩
theorem LgP.pot {p D : Addr} {H H' : Hp} {t : Addr} {s : Sst} {l h : Int} (hp : PotAt H p) (e : ButD p H H') (g : LgP p D H t s l h) : LgP p D H' t s l h := let ⟨r, n1, n2, a, b⟩ := g; ⟨r, n1, n2, e _ _ (pot_ne hp a) a, e _ _ n1 b⟩
theorem LgP.put {p D : Addr} {H : Hp} {t : Addr} {s : Sst} {l h : Int} {zs : List V} {o : HO} (hD : H D = some (.lst zs)) (g : LgP p D H t s l h) : LgP p D (upd H D o) t s l h := let ⟨r, n1, n2, a, b⟩ := g
  ⟨r, n1, n2, by rw [upd_ne (fun z => by rw [z, hD] at a; exact nomatch a)]; exact a, by rw [upd_ne n2]; exact b⟩
/-- what is known of it -/
structure Lq (s : Sst) (l h : Int) : Prop extends Lg s l h where
  l0 : -20 ≤ l ∧ l ≤ 20
  h0 : l + 100000000000000000000 ≤ h ∧ h ≤ l + 100000000000000000098
theorem Lq.lm {s : Sst} {l h : Int} (g : Lq s l h) : Lm ⟨cL, 118⟩ 12 s.row := by
  have l0 := g.l0
  have h0 := g.h0
  refine ⟨fun x e => ⟨0, by simp, ?_⟩, fun x e => ⟨100000000000000000000, by simp, ?_⟩, .inl g.d⟩
  · have e : s.lo = some x := e
    rw [g.lo] at e
    cases e
    constructor
    · show (0 : Int) - 118 ≤ l
      omega
    · show l ≤ (0 : Int) + 118
      omega
  · have e : s.hi = some x := e
    rw [g.hi] at e
    cases e
    constructor
    · show (100000000000000000000 : Int) - 118 ≤ h
      omega
    · show h ≤ (100000000000000000000 : Int) + 118
      omega
theorem tell_one (s : Sst) (n : Int) : tellB [s] n = s.row.inB n := by
  show (s.row.inB n || false) = _
  rw [Bool.or_false]
def spLrg : Sp := fun vs H Q _ => ∃ p : Addr, vs = [.ref p] ∧ PotAt H p ∧ ∀ H', PotAt H' p → ButD p H H' → Q (.bl true) H'
abbrev NLrg : List Str := ["_law_pot_here", "_law_some", "_law_turn", "_law_low", "_law_period", "e"]
theorem scLrg : FnScope NLrg ["_law_pot_here"] (defScope (top 109)) := ⟨rfl, rfl, rfl, by decide +kernel, rfl, by decide +kernel, by decide +kernel⟩
section
variable {P : Program} {w : World} {K : PySem.W.Frag} {mg : Str → Option Value} {base : Heap} {C dT : Addr}
theorem ok_lrg {f : Addr} {fd : FuncData} (F : Fun K "_law_long_right" "_law_long_right" (top 109) f fd) (n : Nm mg) (k : WnK P w K mg base C dT) (GD : Fn P w K mg base 1 "_law_draw" ["_law_pot_here", "_law_many"] spDraw) (LS : Fn P w K mg base 4 "_law_long_sums" ["_law_told_here", "_law_one", "_law_other"] (spLgs C)) : FnOk P w K mg base CX0 16 f fd ["_law_pot_here"] spLrg := by
  refine F.ok scLrg (fun vs H Q E h => ?_) (fun cdv A outer s H vs Q E hr h => ?_)
  · obtain ⟨p, rfl, _⟩ := h
    rfl
  · obtain ⟨p, rfl, hp, q⟩ := h
    have N := scLrg.nd
    have T := k.T
    have sl := sizeLine_eq
    have r1 := hr.mono (k := 15) (j := 1) (by decide)
    have r4 := hr.mono (k := 15) (j := 4) (by decide)
    have r13 := hr.mono (k := 15) (j := 13) (by decide)
    refine ⟨_, pss_cons (ps_set (i := 1) N rfl (.inl rfl) (pe_lst pa_nil))
      (pss_cons (ps_for PassesOwn.never rfl (pi_range1 (by rfl) n.range (pa_cons pe_int pa_nil)) (pg_name (i := 2) N rfl (.inl rfl))
        (pss_cons (ps_par (i := 3) (j := 4) rfl N rfl rfl (by decide) rfl rfl (pa_cons (pe_op op_sub (pe_fn GD r1 (pa_cons (pv 0) (pa_cons pe_int pa_nil))) pe_int) (pa_cons (pe_op op_add pe_int (pe_fn GD r1 (pa_cons (pv 0) (pa_cons pe_int pa_nil)))) pa_nil)) (by rfl))
        (pss_one (ps_expr (pe_bm PySem.F.plainAttrs_list PySem.F.slot_list_append PySem.F.type_list_append mt_append (pv 1) (pa_cons (pe_tup (pa_cons (pv 3) (pa_cons (pe_op op_add (pe_op op_add (pv 3) (pe_op op_pow pe_int pe_int)) (pe_fn GD r1 (pa_cons (pv 0) (pa_cons pe_int pa_nil))))
          (pa_cons (pv 4) (pa_cons (pe_lst (pa_cons (pe_fn GD r1 (pa_cons (pv 0) (pa_cons (pv 4) pa_nil))) pa_nil)) pa_nil))))) pa_nil))))))
      (pss_one (ps_try_thru0 (pss_one (ps_ret (pe_fn LS r4 (pa_cons (pe_mH k.su T hr (pe_line k.M T r13 (pa_cons (pe_slice sl_list (pv 1) po_none (po_some pe_int)) pa_nil)) (pa_cons (pe_line k.M T r13 (pa_cons (pe_slice sl_list (pv 1) (po_some pe_int) po_none) pa_nil)) pa_nil))
        (pa_cons (pe_ix ix_list (pv 1) pe_int (fun _ _ => rfl)) (pa_cons (pe_ix ix_list (pv 1) pe_int (fun _ _ => rfl)) pa_nil))))))))), ?_⟩
    refine seqV (Good := fun σ2 H2 => ∃ D : Addr, H D = none ∧ Same H H2 ∧ H2 D = some (.lst []) ∧ σ2 = [some (.ref p), some (.ref D), none, none, none, none]) (fun nx hnx => ⟨(by show 0 ≤ sizeLine; decide), fun D hD => hnx _ _ ⟨D, hD, same_upd hD, upd_same, rfl⟩⟩) ?_
    rintro _ H1 ⟨D, nD, s1, hD1, rfl⟩
    have pD := hp.ne nD
    have hp1 := hp.same s1
    refine seqV (Good := fun σ2 H2 => ∃ (t1 t2 : Addr) (s1 s2 : Sst) (l1 h1 l2 h2 : Int) (y2 y3 y4 : Option V), PotAt H2 p ∧ ButD p H H2 ∧ H2 D = some (.lst [.ref t1, .ref t2]) ∧ LgP p D H2 t1 s1 l1 h1 ∧ LgP p D H2 t2 s2 l2 h2 ∧ Lq s1 l1 h1 ∧ Lq s2 l2 h2 ∧ σ2 = [some (.ref p), some (.ref D), y2, y3, y4, none]) ?_ ?_
    · intro nx hnx
      refine ⟨2, rfl, by decide, by decide, for_range (lo := 0) (n := (2 : Int).toNat) (fun i σ H2 => ∃ (xs : List (Addr × Sst × Int × Int)) (y2 y3 y4 : Option V), xs.length = i ∧ PotAt H2 p ∧ ButD p H H2 ∧ H2 D = some (.lst (xs.map fun x => V.ref x.1)) ∧ (∀ x ∈ xs, LgP p D H2 x.1 x.2.1 x.2.2.1 x.2.2.2 ∧ Lq x.2.1 x.2.2.1 x.2.2.2) ∧ σ = [some (.ref p), some (.ref D), y2, y3, y4, none])
        ⟨[], none, none, none, rfl, hp1, Same.but s1, hD1, (fun x h => nomatch h), rfl⟩ ?_ ?_⟩
      · rintro i σ H2 hi ⟨xs, y2, y3, y4, xl, hp2, b2, hD2, all, rfl⟩
        have i2 : i < 2 := hi
        refine gn ?_
        refine seqV (Good := fun σ2 H3 => ∃ (l : Int) (k : Nat), -20 ≤ l ∧ l ≤ 20 ∧ 1 ≤ k ∧ k ≤ 4 ∧ PotAt H3 p ∧ ButD p H2 H3 ∧ σ2 = [some (.ref p), some (.ref D), some (.int (0 + (i : Int))), some (.int l), some (.int (k : Nat)), none]) ?_ ?_
        · intro nx2 hnx2
          refine ⟨_, rfl, p, 41, rfl, hp2, by decide, by decide, fun d H3 d0 d1 hp3 b3 => ⟨_, _, rfl, rfl, _, rfl, p, 4, rfl, hp3, by decide, by decide, fun e H4 e0 e1 hp4 b4 => ⟨_, _, rfl, rfl, _, _, rfl, hnx2 _ _ ⟨d - 20, (1 + e).toNat, by omega, by omega, by omega, by omega, hp4, b3.trans b4, ?_⟩⟩⟩⟩
          rw [Int.toNat_of_nonneg (by omega)]
          rfl
        rintro _ H3 ⟨l, k, l0, l1, k1, k4, hp3, b3, rfl⟩
        have hD3 := b3 _ _ pD.symm hD2
        have t20 : (10 : Int) ^ (20 : Int).toNat = 100000000000000000000 := by decide
        refine ⟨_, rfl, .inl ⟨rfl, _, .inl (.inl hD3)⟩, _, rfl, _, rfl, _, _, rfl, rfl, ⟨by decide, by decide, by decide⟩, _, _, rfl, rfl, _, rfl, p, 99, rfl, hp3, by decide, by decide, fun d H4 d0 d1 hp4 b4 => ⟨_, _, rfl, rfl, _, rfl, _, rfl, _, rfl, p, (k : Int), rfl, hp4, by omega, by omega, fun e H5 e0 e1 hp5 b5 => ⟨(by show 1 ≤ sizeLine; decide), fun r hr5 => ⟨(by show 4 ≤ sizeLine; decide), fun t ht => ?_⟩⟩⟩⟩
        have s6 := same_upd (o := .lst [V.int e]) hr5
        have s7 := same_upd (o := .tup [V.int l, V.int (l + (10 : Int) ^ (20 : Int).toNat + d), V.int (k : Nat), V.ref r]) ht
        have s67 := s6.trans s7
        have b37 := b4.trans (b5.trans (Same.but s67))
        have hD7 := b37 _ _ pD.symm hD3
        have rp := (hp5.ne hr5).symm
        have rD : r ≠ D := fun z => by
          have := b5 _ _ pD.symm (b4 _ _ pD.symm hD3)
          rw [← z, hr5] at this
          exact nomatch this
        refine ⟨D, _, _, rfl, rfl, hD7, by rw [sl, List.length_map]; omega, ?_⟩
        rw [t20] at *
        refine ⟨xs ++ [(t, ⟨some l, some (l + 100000000000000000000 + d), k, [e]⟩, l, l + 100000000000000000000 + d)], _, _, _, by rw [List.length_append, xl]; rfl, ?_, ?_, ?_, ?_, rfl⟩
        · exact (hp5.same s67).put pD
        · exact fun c o ne e => by
            have := (b2.trans (b3.trans b37)) _ _ ne e
            rw [upd_ne (fun z => by rw [z, nD] at e; exact nomatch e)]
            exact this
        · rw [upd_same, List.map_append]
          rfl
        · intro x hx
          rcases List.mem_append.mp hx with z | z
          · exact ⟨((((all x z).1.pot hp2 b3).pot hp3 b37)).put hD7, (all x z).2⟩
          · rw [List.mem_singleton.mp z]
            refine ⟨LgP.put hD7 ⟨r, rp, rD, upd_same, s7 _ _ upd_same⟩, ⟨⟨⟨k1, (by show k ≤ 2520; omega), ⟨List.cons_ne_nil _ _, List.pairwise_singleton _ _, fun a ha => ?_, (by show 1 ≤ 10000; decide)⟩, fun a b ea eb => ?_⟩, rfl, rfl, ?_⟩, ⟨l0, l1⟩, ⟨by show l + 100000000000000000000 ≤ l + 100000000000000000000 + d; omega, by show l + 100000000000000000000 + d ≤ l + 100000000000000000098; omega⟩⟩⟩
            · rw [List.mem_singleton.mp ha]
              exact ⟨e0, e1⟩
            · cases ea
              cases eb
              omega
            · show k ∣ 12
              rcases (show k = 1 ∨ k = 2 ∨ k = 3 ∨ k = 4 by omega) with rfl | rfl | rfl | rfl <;> decide
      · rintro σ H2 ⟨xs, y2, y3, y4, xl, hp2, b2, hD2, all, rfl⟩
        obtain ⟨x1, x2, rfl⟩ : ∃ x1 x2, xs = [x1, x2] := by
          match xs, xl with
          | [a, b], _ => exact ⟨a, b, rfl⟩
        obtain ⟨t1, u1, l1, h1⟩ := x1
        obtain ⟨t2, u2, l2, h2⟩ := x2
        have a1 := all _ List.mem_cons_self
        have a2 := all _ (List.mem_cons_of_mem _ List.mem_cons_self)
        exact hnx _ _ ⟨t1, t2, u1, u2, l1, h1, l2, h2, y2, y3, y4, hp2, b2, hD2, a1.1, a2.1, a1.2, a2.2, rfl⟩
    rintro _ H2 ⟨t1, t2, s1', s2', l1, h1, l2, h2, y2, y3, y4, hp2, b2, hD2, g1, g2, q1, q2, rfl⟩
    have c1 : cutV [V.ref t1, .ref t2] none (some 1) = [V.ref t1] := rfl
    have c2 : cutV [V.ref t1, .ref t2] (some 1) none = [V.ref t2] := rfl
    refine ⟨_, rfl, 1, rfl, D, _, rfl, .inl (.inl hD2), fun o ho => ?_⟩
    have s3 := same_upd (o := .lst (cutV [V.ref t1, .ref t2] none (some 1))) ho
    refine make_line (K := K) (C := C) (sts := [s1']) (cs := cL) (W := 118) (upd_same) (by rw [c1]; exact .cons ((g1.at_.same s3).ss q1.toLg) .nil) (fun s hs => by rw [List.mem_singleton.mp hs]; exact q1.ok) (fun s hs => by rw [List.mem_singleton.mp hs]; exact q1.lm) (by show 1 ≤ 4; decide) (cl_ok (by decide)) (fun x H4 nx s4 lx => ⟨rfl, ?_⟩)
    have lx := lx.cong (tell_one s1')
    obtain ⟨dx, lxx, _, ox, _⟩ := id lx
    have s24 := s3.trans s4
    refine ⟨x, dx, _, rfl, ox, fldR_no _ (by decide +kernel), _, rfl, 1, rfl, D, _, rfl, .inl (.inl (s24 _ _ hD2)), fun o2 ho2 => ?_⟩
    have s5 := same_upd (o := .lst (cutV [V.ref t1, .ref t2] (some 1) none)) ho2
    have s25 := s24.trans s5
    refine make_line (K := K) (C := C) (sts := [s2']) (cs := cL) (W := 118) (upd_same) (by rw [c2]; exact .cons ((g2.at_.same s25).ss q2.toLg) .nil) (fun s hs => by rw [List.mem_singleton.mp hs]; exact q2.ok) (fun s hs => by rw [List.mem_singleton.mp hs]; exact q2.lm) (by show 1 ≤ 4; decide) (cl_ok (by decide)) (fun y H6 ny s6 ly => ⟨rfl, ?_⟩)
    have ly := ly.cong (tell_one s2')
    have s26 := s25.trans s6
    refine ⟨x, y, ⟨cL, 118 + 38⟩, ⟨cL, 118 + 38⟩, cS, 624, 623, 662, 312, _, _, rfl, lx.same (s5.trans s6), ly, zl, fun z H7 U nz s7 lz iff => ?_⟩
    have s27 := s26.trans s7
    refine ⟨_, rfl, D, _, _, _, rfl, rfl, .inl (.inl (s27 _ _ hD2)), rfl, _, rfl, D, _, _, _, rfl, rfl, .inl (.inl (s27 _ _ hD2)), rfl, ?_⟩
    exact ⟨z, t1, t2, s1', s2', l1, h1, l2, h2, _, rfl, q1.toLg, q2.toLg, q1.h0.1, q2.h0.1, g1.at_.same s27, g2.at_.same s27, lz.cong (sumB_of iff), cs_ok (by decide), fun H8 s8 => q H8 (hp2.same (s27.trans s8)) (b2.trans (Same.but (s27.trans s8)))⟩
end
end L2.K14
end

section
set_option Elab.async false
set_option linter.all false
set_option maxRecDepth 100000
set_option maxHeartbeats 2000000
namespace L2.K14
open PySem PySem.Spec PyProof.Rows L2.Gd L2.Ln
/-! ### rests in a list or a tuple, a stretch -/
def spRsT : Sp := fun vs H Q _ => ∃ (a : Addr) (xs : List Int) (p : Int), vs = [.ref a, .int p] ∧ RsAt H a xs ∧ RsOk p xs ∧ ∀ H', Same H H' → Q (.bl true) H'
section
variable {P : Program} {w : World} {K : PySem.W.Frag} {mg : Str → Option Value} {base : Heap}
theorem ok_rsT {f : Addr} {fd : FuncData} (F : Fun K "are_rests" "are_rests" (top 70) f fd) (n : Nm mg) (GL : Fn P w K mg base 1 "is_list" ["value"] (spIsList K)) (GC : Fn P w K mg base 2 "is_count" ["value"] spIsCount) : FnOk P w K mg base CX0 3 f fd ["value", "period"] spRsT := by
  refine F.ok scRs (fun vs H Q E h => ?_) (fun cdv A outer s H vs Q E hr h => ?_)
  · obtain ⟨a, xs, p, rfl, _⟩ := h
    rfl
  · obtain ⟨a, xs, p, rfl, ha, g, q⟩ := h
    have nd := scRs.nd
    have r1 := hr.mono (k := 2) (j := 1) (by decide)
    refine ⟨_, pss_cons (ps_if (pw_or (pt_not (pt_val (pe_fn GL r1 (pa_cons (pv 0) pa_nil)))) (pw_or1 (pt_cmpR op_eq (pe_callB call_len_seq (by rfl) n.len PySem.boot_len (pa_cons (pv 0) pa_nil)) pe_int (nomark _)))).pt (pss_one (ps_ret pe_bl)) pss_nil)
      (pss_cons (ps_set (i := 2) nd rfl (.inl rfl) (pe_un un_neg pe_int))
      (pss_cons (ps_for PassesOwn.never rfl (pi_seq (pv 0)) (pg_name (i := 3) nd rfl (.inl rfl))
        (pss_cons (ps_if (pw_or (pt_not (pt_val (pe_fn GC hr (pa_cons (pv 3) pa_nil)))) (pw_or (pt_cmpR op_le (pv 3) (pv 2) (nomark _)) (pw_or1 (pt_cmpR op_ge (pv 3) (pv 1) (nomark _))))).pt (pss_one (ps_ret pe_bl)) pss_nil)
        (pss_one (ps_set (i := 2) nd rfl (.inl rfl) (pv 3)))))
      (pss_one (ps_ret pe_bl)))), ?_⟩
    refine seqV (Good := fun σ2 H2 => Same H H2 ∧ σ2 = [some (.ref a), some (.int p), none, none]) ?_ ?_
    · intro nx hnx
      refine ⟨_, rfl, a, _, rfl, ha, fun H1 s1 => ⟨true, rfl, iteF ?_⟩⟩
      have le : ∀ {b : Bool}, b = false → decide (V.int ((xs.map V.int).length : Nat) = V.int 0) = b := fun e => by
        rw [e]
        refine decide_eq_false ?_
        rw [List.length_map, V.int.injEq]
        have := List.length_pos_iff.mpr g.ne
        omega
      rcases ha with ha | ha
      · exact ⟨_, rfl, a, _, rfl, .inl (.inl (.inl (s1 _ _ ha))), rfl, false, congrArg V.bl (le rfl), iteF (hnx _ _ ⟨s1, rfl⟩)⟩
      · exact ⟨_, rfl, a, _, rfl, .inr (.inl (.inl (s1 _ _ ha))), rfl, false, congrArg V.bl (le rfl), iteF (hnx _ _ ⟨s1, rfl⟩)⟩
    rintro _ H1 ⟨s1, rfl⟩
    have ha1 := ha.same s1
    refine seqV (Good := fun σ2 H2 => H1 = H2 ∧ σ2 = [some (.ref a), some (.int p), some (.int (-1)), none]) (fun nx hnx => ⟨_, rfl, hnx _ _ ⟨rfl, rfl⟩⟩) ?_
    rintro _ _ ⟨rfl, rfl⟩
    refine ⟨_, rfl, a, rfl, ?_⟩
    rcases ha1 with ha1 | ha1
    · refine .inl ⟨⟨_, .inl (.inl ha1)⟩, ?_⟩
      refine loop_of (n := (xs.map V.int).length) (fun i σ H2 => ∃ (la : Int) (x3 : Option V), (∀ k x, i ≤ k → xs[k]? = some x → la < x) ∧ H1 = H2 ∧ σ = [some (.ref a), some (.int p), some (.int la), x3])
        ⟨-1, none, (fun k x _ e => by have := (g.b x (List.mem_of_getElem? e)).1; omega), rfl, rfl⟩ ?_ ?_
      · rintro σ H2 ⟨la, x3, al, rfl, rfl⟩
        exact ⟨⟨_, .inl (.inl ha1), Nat.le_refl _⟩, q H1 s1⟩
      · rintro i σ H2 hi ⟨la, x3, al, rfl, rfl⟩
        refine ⟨⟨_, _, .inl (.inl ha1), List.getElem?_eq_getElem hi⟩, ?_⟩
        rintro v H3 ⟨rfl, hy⟩
        have hvi := hy _ (.inl (.inl ha1))
        rw [List.getElem?_map] at hvi
        obtain ⟨x, hx, rfl⟩ := Option.map_eq_some_iff.mp hvi
        have b := g.b x (List.mem_of_getElem? hx)
        have lx := al i x (Nat.le_refl i) hx
        refine gn ?_
        refine seqV (Good := fun σ2 H2 => H3 = H2 ∧ σ2 = [some (.ref a), some (.int p), some (.int la), some (.int x)]) ?_ ?_
        · intro nx hnx
          refine ⟨_, rfl, x, rfl, b.1, true, rfl, iteF ?_⟩
          refine ⟨_, rfl, _, rfl, _, _, rfl, rfl, decide (x ≤ la), rfl, ?_⟩
          rw [decide_eq_false (by omega)]
          refine iteF ⟨_, rfl, _, rfl, _, _, rfl, rfl, decide (p ≤ x), rfl, ?_⟩
          rw [decide_eq_false (by omega)]
          exact iteF (hnx _ _ ⟨rfl, rfl⟩)
        rintro _ _ ⟨rfl, rfl⟩
        refine ⟨_, rfl, x, _, fun k y kk e => ?_, rfl, rfl⟩
        obtain ⟨h1, e1⟩ := List.getElem?_eq_some_iff.mp hx
        obtain ⟨h2, e2⟩ := List.getElem?_eq_some_iff.mp e
        have := List.pairwise_iff_getElem.mp g.up i k h1 h2 (by omega)
        rw [e1, e2] at this
        exact this
    · refine .inr ⟨⟨_, .inl (.inl ha1)⟩, ?_⟩
      refine loop_of (n := (xs.map V.int).length) (fun i σ H2 => ∃ (la : Int) (x3 : Option V), (∀ k x, i ≤ k → xs[k]? = some x → la < x) ∧ H1 = H2 ∧ σ = [some (.ref a), some (.int p), some (.int la), x3])
        ⟨-1, none, (fun k x _ e => by have := (g.b x (List.mem_of_getElem? e)).1; omega), rfl, rfl⟩ ?_ ?_
      · rintro σ H2 ⟨la, x3, al, rfl, rfl⟩
        exact ⟨⟨_, .inl (.inl ha1), Nat.le_refl _⟩, q H1 s1⟩
      · rintro i σ H2 hi ⟨la, x3, al, rfl, rfl⟩
        refine ⟨⟨_, _, .inl (.inl ha1), List.getElem?_eq_getElem hi⟩, ?_⟩
        rintro v H3 ⟨rfl, hy⟩
        have hvi := hy _ (.inl (.inl ha1))
        rw [List.getElem?_map] at hvi
        obtain ⟨x, hx, rfl⟩ := Option.map_eq_some_iff.mp hvi
        have b := g.b x (List.mem_of_getElem? hx)
        have lx := al i x (Nat.le_refl i) hx
        refine gn ?_
        refine seqV (Good := fun σ2 H2 => H3 = H2 ∧ σ2 = [some (.ref a), some (.int p), some (.int la), some (.int x)]) ?_ ?_
        · intro nx hnx
          refine ⟨_, rfl, x, rfl, b.1, true, rfl, iteF ?_⟩
          refine ⟨_, rfl, _, rfl, _, _, rfl, rfl, decide (x ≤ la), rfl, ?_⟩
          rw [decide_eq_false (by omega)]
          refine iteF ⟨_, rfl, _, rfl, _, _, rfl, rfl, decide (p ≤ x), rfl, ?_⟩
          rw [decide_eq_false (by omega)]
          exact iteF (hnx _ _ ⟨rfl, rfl⟩)
        rintro _ _ ⟨rfl, rfl⟩
        refine ⟨_, rfl, x, _, fun k y kk e => ?_, rfl, rfl⟩
        obtain ⟨h1, e1⟩ := List.getElem?_eq_some_iff.mp hx
        obtain ⟨h2, e2⟩ := List.getElem?_eq_some_iff.mp e
        have := List.pairwise_iff_getElem.mp g.up i k h1 h2 (by omega)
        rw [e1, e2] at this
        exact this
theorem ok_st {f : Addr} {fd : FuncData} {tk : Tok} (F : Fun K "is_stretch" "is_stretch" (top 71) f fd) (n : Nm mg) (pd : mg "PERIOD" = some (.int 2520 tk)) (EN : Fn P w K mg base 2 "is_end" ["value"] spEn) (GI : Fn P w K mg base 1 "is_integer" ["value"] spIsInt) (RS : Fn P w K mg base 3 "are_rests" ["value", "period"] spRsT) : FnOk P w K mg base CX0 4 f fd ["value"] spSt := by
  refine F.ok scSt (fun vs H Q E h => ?_) (fun cdv A outer s H vs Q E hr h => ?_)
  · obtain ⟨v, lo, hi, p, xs, rfl, _⟩ := h
    rfl
  · obtain ⟨v, lo, hi, p, xs, rfl, ⟨t, l, rfl, ht, hl⟩, g, q⟩ := h
    have nd := scSt.nd
    have r1 := hr.mono (k := 3) (j := 1) (by decide)
    have r2 := hr.mono (k := 3) (j := 2) (by decide)
    refine ⟨_, pss_cons (ps_if (pw_or (pt_not (pt_val (pe_isTuple n (pv 0)))) (pw_or1 (pt_cmpR op_ne (pe_callB call_len_seq (by rfl) n.len PySem.boot_len (pa_cons (pv 0) pa_nil)) pe_int (nomark _)))).pt (pss_one (ps_ret pe_bl)) pss_nil)
      (pss_cons (ps_asg (pv 0) (pg_tup rfl (pgs_cons (pg_name (i := 1) nd rfl (.inl rfl)) (pgs_cons (pg_name (i := 2) nd rfl (.inl rfl)) (pgs_cons (pg_name (i := 3) nd rfl (.inl rfl)) (pgs_cons (pg_name (i := 4) nd rfl (.inl rfl)) pgs_nil))))))
      (pss_cons (ps_if (pw_or (pt_not (pt_val (pe_fn EN r2 (pa_cons (pv 1) pa_nil)))) (pw_or1 (pt_not (pt_val (pe_fn EN r2 (pa_cons (pv 2) pa_nil)))))).pt (pss_one (ps_ret pe_bl)) pss_nil)
      (pss_cons (ps_if (pw_and (pt_cmp (pc_notN (pv 1))) (pw_and (pt_cmp (pc_notN (pv 2))) (pw_and1 (pt_cmpR op_gt (pv 1) (pv 2) (nomark _))))).pt (pss_one (ps_ret pe_bl)) pss_nil)
      (pss_one (ps_ret (pe_and (pe_fn GI r1 (pa_cons (pv 3) pa_nil)) (pe_and (pe_chain op_le op_le pe_int (pv 3) (pe_glob (v := .int 2520) (by rfl) pd ⟨_, rfl⟩)) (pe_one (pe_fn RS hr (pa_cons (pv 4) (pa_cons (pv 3) pa_nil))))))))))), ?_⟩
    refine seqV (Good := fun σ2 H2 => H = H2 ∧ σ2 = [some (.ref t), none, none, none, none]) ?_ ?_
    · intro nx hnx
      refine ⟨_, rfl, isi_mk (t := "tuple") (b := true) (.base (.tup ht)) (by decide +kernel) ⟨true, rfl, iteF ?_⟩⟩
      exact ⟨_, rfl, t, _, rfl, .inr (.inl (.inl ht)), rfl, false, rfl, iteF (hnx _ _ ⟨rfl, rfl⟩)⟩
    rintro _ _ ⟨rfl, rfl⟩
    refine seqV (Good := fun σ2 H2 => H = H2 ∧ σ2 = [some (.ref t), some (oI lo), some (oI hi), some (.int p), some (.ref l)]) (fun nx hnx => ⟨_, rfl, t, _, rfl, .inl (.inl ht), rfl, _, _, rfl, _, _, rfl, _, _, rfl, _, _, rfl, rfl, hnx _ _ ⟨rfl, rfl⟩⟩) ?_
    rintro _ _ ⟨rfl, rfl⟩
    refine seqV (Good := fun σ2 H2 => H = H2 ∧ σ2 = [some (.ref t), some (oI lo), some (oI hi), some (.int p), some (.ref l)]) (fun nx hnx => ⟨_, rfl, lo, rfl, true, rfl, iteF ⟨_, rfl, hi, rfl, true, rfl, iteF (hnx _ _ ⟨rfl, rfl⟩)⟩⟩) ?_
    rintro _ _ ⟨rfl, rfl⟩
    refine seqV (Good := fun σ2 H2 => H = H2 ∧ σ2 = [some (.ref t), some (oI lo), some (oI hi), some (.int p), some (.ref l)]) ?_ ?_
    · intro nx hnx
      cases lo with
      | none => exact ⟨_, rfl, false, rfl, iteF (hnx _ _ ⟨rfl, rfl⟩)⟩
      | some x =>
        refine ⟨_, rfl, true, rfl, iteT ⟨_, rfl, ?_⟩⟩
        cases hi with
        | none => exact ⟨false, rfl, iteF (hnx _ _ ⟨rfl, rfl⟩)⟩
        | some y =>
          have xy := g.le x y rfl rfl
          refine ⟨true, rfl, iteT ⟨_, rfl, _, rfl, _, _, rfl, rfl, decide (y < x), rfl, ?_⟩⟩
          rw [decide_eq_false (by omega)]
          exact iteF (hnx _ _ ⟨rfl, rfl⟩)
    rintro _ _ ⟨rfl, rfl⟩
    have p0 := g.p0
    have pm := g.pm
    refine ⟨_, rfl, p, rfl, true, rfl, iteT ?_⟩
    refine ⟨_, rfl, _, _, rfl, rfl, ?_⟩
    refine ⟨true, congrArg V.bl (decide_eq_true (by omega)), iteT ⟨_, _, rfl, rfl, true, congrArg V.bl (decide_eq_true (by omega)), iteT ?_⟩⟩
    exact ⟨_, rfl, _, rfl, l, xs, p, rfl, hl, g.rs, q⟩
end
end L2.K14
end

section
set_option Elab.async false
set_option linter.all false
set_option maxRecDepth 100000
set_option maxHeartbeats 4000000
namespace L2.K14
open PySem PySem.Spec PyProof.Rows L2.Gd L2.Ln
/-! ### the law's question -/
theorem pair_put {p D : Addr} {H : Hp} {zs : List V} {o : HO} (hD : H D = some (.lst zs)) (rz : Refs zs) : ∀ {us : List V} {ss : List Sst}, Paired (SsP p H) us ss → (∀ s ∈ ss, s.Ok) → Paired (SsP p (upd H D o)) us ss
  | _, _, .nil, _ => .nil
  | _, _, .cons a r, k => .cons (SsP.put hD rz (k _ List.mem_cons_self) a) (pair_put hD rz r fun s hs => k s (List.mem_cons_of_mem _ hs))
theorem ToldAt.put {p D l : Addr} {H : Hp} {zs : List V} {o : HO} {sts : List Sst} (hD : H D = some (.lst zs)) (rz : Refs zs) (ne : l ≠ D) (ok : ∀ s ∈ sts, s.Ok) (h : ToldAt p H l sts) : ToldAt p (upd H D o) l sts :=
  let ⟨xs, hl, rx, pa⟩ := h
  ⟨xs, by rw [upd_ne ne]; exact hl, rx, pair_put hD rz pa ok⟩
theorem refs_map {α : Type} (xs : List (Addr × α)) : Refs (xs.map fun x => V.ref x.1) := fun v hv => by
  obtain ⟨x, _, e⟩ := List.mem_map.mp hv
  exact ⟨x.1, e.symm⟩
def spRight : Sp := fun vs H Q _ => ∃ p : Addr, vs = [.ref p] ∧ PotAt H p ∧ ∀ H', ButD p H H' → Q (.bl true) H'
abbrev NRi : List Str := ["_law_pot_here", "_law_tolds", "_law_one", "_law_other", "_law_rows", "_law_turn", "_law_told_here"]
theorem scRi : FnScope NRi ["_law_pot_here"] (defScope (top 111)) := ⟨rfl, rfl, rfl, by decide +kernel, rfl, by decide +kernel, by decide +kernel⟩
section
variable {P : Program} {w : World} {K : PySem.W.Frag} {mg : Str → Option Value} {base : Heap} {C dT : Addr}
theorem gl_told {p l : Addr} {σ : L2.St} {H : Hp} {te : TE} {sts : List Sst} (ta : ToldAt p H l sts) (td : TdOk sts) (ht : ∀ H1, Same H H1 → ∀ Q : VK, Q (.ref l) H1 → te σ H1 Q) : Gl C (tMake C (spInit K C) [] E0 (tCons te tNil)) σ H Z1 (tellB sts) := by
  intro H1 s1 Q q
  obtain ⟨xs, hl, rx, pa⟩ := ta.same s1
  refine ht H1 s1 _ ?_
  refine make_line (K := K) (C := C) (cs := [0]) (W := 8) hl (Paired.mapP pa fun _ _ z => z.at_) (fun s hs => (td.ok s hs).ok) (fun s hs => (td.ok s hs).toDrOk.lm) (by have := td.len; omega) (ok0 (by decide)) (fun x H2 nx s2 lx => ⟨rfl, q x H2 s2 (LnS.mono (by decide) lx)⟩)
theorem ok_ri {f : Addr} {fd : FuncData} (F : Fun K "_law_right" "_law_right" (top 111) f fd) (n : Nm mg) (k : WnK P w K mg base C dT) (TD : Fn P w K mg base 3 "_law_told" ["_law_pot_here", "_law_most"] spTo) (RO : Fn P w K mg base 2 "_law_row" ["_law_told_here"] spRow)
    (PR : FnGd P w K mg base 16 "_law_pair_right" ["_law_pot_here", "_law_one", "_law_other", "_law_rows"] (spPrt C)) (ER : Fn P w K mg base 16 "_law_ends_right" ["_law_one", "_law_other"] (spEr C)) (LR : Fn P w K mg base 16 "_law_long_right" ["_law_pot_here"] spLrg) : FnG P w K mg base 17 f fd ["_law_pot_here"] spRight := by
  refine okG F scRi (fun vs H Q h => ?_) (fun cdv A outer s H vs Q hg hr h => ?_)
  · obtain ⟨p, rfl, _⟩ := h
    rfl
  · obtain ⟨p, rfl, hp, q⟩ := h
    have N := scRi.nd
    have T := k.T
    have sl := sizeLine_eq
    have r2 := hr.mono (k := 16) (j := 2) (by decide)
    have r3 := hr.mono (k := 16) (j := 3) (by decide)
    have r4 := hr.mono (k := 16) (j := 4) (by decide)
    have r7 := hr.mono (k := 16) (j := 7) (by decide)
    have r13 := hr.mono (k := 16) (j := 13) (by decide)
    have r15 := hr.mono (k := 16) (j := 15) (by decide)
    refine ⟨_, pss_cons (ps_setLc (i := 1) (own := [("_law_turn", 5)]) (g := gName 5) (tt := tYes) (by rfl) N rfl rfl (sw_true rfl rfl rfl (by decide +kernel)) (pi_range1 (by rfl) n.range (pa_cons pe_int pa_nil)) (blkOk_by (N := NRi) (sc := defScope (top 111)) (by decide +kernel)) (fun _ _ _ _ _ => pg_name (i := 5) N rfl (.inl rfl)) (fun _ _ _ _ _ => pts_nil)
          (fun _ _ _ _ _ => pe_fn TD r3 (pa_cons (pv 0) (pa_cons pe_int pa_nil))))
      (pss_cons (ps_par (i := 2) (j := 3) rfl N rfl rfl (by decide) rfl rfl (pa_cons (pe_line k.M T r13 (pa_cons (pe_ix ix_list (pv 1) pe_int (fun _ _ => rfl)) pa_nil)) (pa_cons (pe_line k.M T r13 (pa_cons (pe_ix ix_list (pv 1) pe_int (fun _ _ => rfl)) pa_nil)) pa_nil)) (by rfl))
      (pss_cons (ps_setLc (i := 4) (own := [("_law_told_here", 6)]) (g := gName 6) (tt := tYes) (by rfl) N rfl rfl (sw_true rfl rfl rfl (by decide +kernel)) (pi_list (pv 1)) (blkOk_by (N := NRi) (sc := defScope (top 111)) (by decide +kernel)) (fun _ _ _ _ _ => pg_name (i := 6) N rfl (.inl rfl)) (fun _ _ _ _ _ => pts_nil)
          (fun _ _ _ _ _ => pe_fn RO r2 (pa_cons (pv 6) pa_nil)))
      (pss_cons (ps_if (pw_or (pt_not (pt_val (pe_fnG PR hg hr (pa_cons (pv 0) (pa_cons (pv 2) (pa_cons (pv 3) (pa_cons (pv 4) pa_nil))))))) (pw_or1 (pt_not (pt_val (pe_fn ER hr (pa_cons (pv 2) (pa_cons (pv 3) pa_nil))))))).pt (pss_one (ps_ret pe_bl)) pss_nil)
      (pss_cons (ps_if (pw_or (pt_not (pt_val (pe_fnG k.iss hg r4 (pa_cons (pv 0) (pa_cons (pe_mH k.su T r15 (pv 2) (pa_cons (pv 2) pa_nil)) (pa_cons (pe_ix ix_list (pv 4) pe_int (fun _ _ => rfl)) (pa_cons (pe_ix ix_list (pv 4) pe_int (fun _ _ => rfl)) pa_nil))))))) (pw_or1 (pt_not (pt_val (pe_fn ER hr (pa_cons (pv 2) (pa_cons (pv 2) pa_nil))))))).pt (pss_one (ps_ret pe_bl)) pss_nil)
      (pss_one (ps_ret (pe_and (pe_cmpR (op_eqH k.eq r7) (pv 2) (pe_line k.M T r13 (pa_cons (pe_ix ix_list (pv 1) pe_int (fun _ _ => rfl)) pa_nil)) (nomark _)) (pe_and (pe_cmpR (op_eqH k.eq r7) (pv 3) (pe_line k.M T r13 (pa_cons (pe_ix ix_list (pv 1) pe_int (fun _ _ => rfl)) pa_nil)) (nomark _)) (pe_one (pe_fn LR hr (pa_cons (pv 0) pa_nil))))))))))), ?_⟩
    -- what is told
    refine seqV (Good := fun σ2 H2 => ∃ (D l0 l1 : Addr) (A B : List Sst), PotAt H2 p ∧ ButD p H H2 ∧ D ≠ p ∧ H2 D = some (.lst [.ref l0, .ref l1]) ∧ ToldAt p H2 l0 A ∧ ToldAt p H2 l1 B ∧ TdOk A ∧ TdOk B ∧ σ2 = [some (.ref p), some (.ref D), none, none, none, none, none]) ?_ ?_
    · intro nx hnx
      refine ⟨2, rfl, by decide, by decide, fun D hD => ?_⟩
      have pD := hp.ne hD
      refine lc_range (lo := 0) (n := (2 : Int).toNat) (fun i H2 => ∃ xs : List (Addr × List Sst), xs.length = i ∧ H2 D = some (.lst (xs.map fun x => V.ref x.1)) ∧ (∀ x ∈ xs, x.1 ≠ D ∧ ToldAt p H2 x.1 x.2 ∧ TdOk x.2) ∧ PotAt H2 p ∧ ButD p H H2) ⟨[], rfl, upd_same, (fun x h => nomatch h), hp.put pD, butD_at hD ButD.refl⟩ ?_ ?_
      · rintro i H2 hi ⟨xs, xl, hD2, all, hp2, b2⟩
        have i2 : i < 2 := hi
        refine ⟨rfl, yes_ite ⟨_, rfl, p, rfl, hp2, fun l sts H3 nl hp3 b3 ta td => ?_⟩⟩
        have hD3 := b3 _ _ pD.symm hD2
        have lD : l ≠ D := fun z => by
          rw [z, hD2] at nl
          exact nomatch nl
        refine ⟨_, hD3, by rw [sl, List.length_map]; omega, xs ++ [(l, sts)], by rw [List.length_append, xl]; rfl, by rw [upd_same, List.map_append]; rfl, fun x hx => ?_, hp3.put pD, butD_at hD (b2.trans b3)⟩
        rcases List.mem_append.mp hx with z | z
        · obtain ⟨a1, a2, a3⟩ := all x z
          exact ⟨a1, (a2.pot hp2 b3).put hD3 (refs_map xs) a1 (fun s hs => (a3.ok s hs).ok), a3⟩
        · rw [List.mem_singleton.mp z]
          exact ⟨lD, ta.put hD3 (refs_map xs) lD (fun s hs => (td.ok s hs).ok), td⟩
      · rintro H2 ⟨xs, xl, hD2, all, hp2, b2⟩
        obtain ⟨x1, x2, rfl⟩ : ∃ x1 x2, xs = [x1, x2] := by
          match xs, xl with
          | [a, b], _ => exact ⟨a, b, rfl⟩
        have a1 := all _ List.mem_cons_self
        have a2 := all _ (List.mem_cons_of_mem _ List.mem_cons_self)
        exact hnx _ _ ⟨D, x1.1, x2.1, x1.2, x2.2, hp2, b2, pD.symm, hD2, a1.2.1, a2.2.1, a1.2.2, a2.2.2, rfl⟩
    rintro _ H1 ⟨D, l0, l1, A1, B1, hp1, b1, Dp, hD1, ta, tb, tda, tdb, rfl⟩
    have ix0 : ∀ {σ : L2.St} {H2 : Hp}, σ[1]? = some (some (.ref D)) → H2 D = some (.lst [.ref l0, .ref l1]) → ∀ Q : VK, Q (.ref l0) H2 → tOp (rIxL K) (tVar 1) (tC (.int 0)) σ H2 Q := fun e h Q q => ⟨_, e, D, _, _, _, rfl, rfl, .inl (.inl h), rfl, q⟩
    have ix1 : ∀ {σ : L2.St} {H2 : Hp}, σ[1]? = some (some (.ref D)) → H2 D = some (.lst [.ref l0, .ref l1]) → ∀ Q : VK, Q (.ref l1) H2 → tOp (rIxL K) (tVar 1) (tC (.int 1)) σ H2 Q := fun e h Q q => ⟨_, e, D, _, _, _, rfl, rfl, .inl (.inl h), rfl, q⟩
    -- the lines
    refine seqV (Good := fun σ2 H2 => ∃ x y : Addr, Same H1 H2 ∧ LnS C Z1 H2 x (tellB A1) ∧ LnS C Z1 H2 y (tellB B1) ∧ σ2 = [some (.ref p), some (.ref D), some (.ref x), some (.ref y), none, none, none]) ?_ ?_
    · intro nx hnx
      obtain ⟨xa, ha, rxa, pa⟩ := id ta
      obtain ⟨xb, hb, rxb, pb⟩ := id tb
      refine ⟨_, rfl, D, _, _, _, rfl, rfl, .inl (.inl hD1), rfl, ?_⟩
      refine make_line (K := K) (C := C) (cs := [0]) (W := 8) ha (Paired.mapP pa fun _ _ z => z.at_) (fun s hs => (tda.ok s hs).ok) (fun s hs => (tda.ok s hs).toDrOk.lm) (by have := tda.len; omega) (ok0 (by decide)) (fun x H2 nx s2 lx => ⟨rfl, ?_⟩)
      refine ⟨_, rfl, D, _, _, _, rfl, rfl, .inl (.inl (s2 _ _ hD1)), rfl, ?_⟩
      refine make_line (K := K) (C := C) (cs := [0]) (W := 8) (s2 _ _ hb) (Paired.mapP pb fun _ _ z => (z.same s2).at_) (fun s hs => (tdb.ok s hs).ok) (fun s hs => (tdb.ok s hs).toDrOk.lm) (by have := tdb.len; omega) (ok0 (by decide)) (fun y H3 ny s3 ly => ⟨rfl, _, _, rfl, ?_⟩)
      exact hnx _ _ ⟨x, y, s2.trans s3, LnS.mono (by decide) (lx.same s3), LnS.mono (by decide) ly, rfl⟩
    rintro _ H2 ⟨x, y, s2, lx, ly, rfl⟩
    have hD2 := s2 _ _ hD1
    have ta2 := ta.same s2
    have tb2 := tb.same s2
    have hp2 := hp1.same s2
    have b02 := b1.trans (Same.but s2)
    -- the rows
    refine seqV (Good := fun σ2 H3 => ∃ (R a b : Addr), Same H2 H3 ∧ H3 R = some (.lst [.ref a, .ref b]) ∧ RowB H3 a (tellB A1) ∧ RowB H3 b (tellB B1) ∧ σ2 = [some (.ref p), some (.ref D), some (.ref x), some (.ref y), some (.ref R), none, none]) ?_ ?_
    · intro nx hnx
      refine ⟨_, rfl, D, rfl, ⟨_, .inl (.inl hD2)⟩, fun R hR => ?_⟩
      refine lc_mapL (es := [(l0, A1), (l1, B1)]) (F := fun H v e => v = V.ref e.1 ∧ ToldAt p H e.1 e.2 ∧ TdOk e.2) (G := fun H v e => ∃ a, v = V.ref a ∧ a ≠ R ∧ RowB H a (tellB e.2)) (f := some) (fun Ha Hb v e bd _ ⟨a, e1, ne, h⟩ => ⟨a, e1, ne, by have h' : Ha a = _ := h; exact bd _ _ ne h'⟩) hD2 hR (by show 2 ≤ 1000; decide) (.cons ⟨rfl, ta2, tda⟩ (.cons ⟨rfl, tb2, tdb⟩ .nil)) ?_ ?_
      · rintro v e H4 A' B' he ⟨rfl, te, td⟩ b ⟨us, hz⟩ hA hB
        obtain ⟨xs, hl, rx, pa⟩ := te.same (b.new hR)
        refine ⟨rfl, yes_ite ⟨_, rfl, e.1, xs, e.2, rfl, hl, Paired.mapP pa fun _ _ z => z.at_, td, fun r H5 nr s5 rb => hA e _ H5 rfl s5 ⟨r, rfl, (fun z => by rw [z, hz] at nr; exact (nomatch nr)), rb⟩⟩⟩
      · intro us H4 h1 h2 h3
        rw [List.filterMap_some] at h2
        cases h2 with
        | cons c1 h2 =>
          cases h2 with
          | cons c2 h2 =>
            cases h2
            obtain ⟨a, rfl, _, ra⟩ := c1
            obtain ⟨b, rfl, _, rb⟩ := c2
            exact hnx _ _ ⟨R, a, b, h3.new hR, h1, ra, rb, rfl⟩
    rintro _ H3 ⟨R, a, b, s3, hR, ra, rb, rfl⟩
    have tS := tell_tame tda.dr
    have tT := tell_tame tdb.dr
    have hp3 := hp2.same s3
    have lx3 := lx.same s3
    have ly3 := ly.same s3
    have ta3 := ta2.same s3
    have tb3 := tb2.same s3
    have hD3 := s3 _ _ hD2
    have Rp := refs_ne hp3 hR
    -- both
    refine seqV (Good := fun σ2 H4 => PotAt H4 p ∧ ButD p H3 H4 ∧ σ2 = [some (.ref p), some (.ref D), some (.ref x), some (.ref y), some (.ref R), none, none]) ?_ ?_
    · intro nx hnx
      refine ⟨_, rfl, _, rfl, _, rfl, _, rfl, p, x, y, R, a, b, _, _, rfl, hp3, lx3, ly3, hR, ra, rb, tS, tT, fun H4 hp4 b4 => ⟨true, rfl, iteF ?_⟩⟩
      exact ⟨_, rfl, _, rfl, x, y, _, _, rfl, lx3.pot hp3 b4, ly3.pot hp3 b4, fun H5 s5 => ⟨true, rfl, iteF (hnx _ _ ⟨hp4.same s5, b4.trans (Same.but s5), rfl⟩)⟩⟩
    rintro _ H4 ⟨hp4, b4, rfl⟩
    have lx4 := lx3.pot hp3 b4
    have ly4 := ly3.pot hp3 b4
    have hR4 := b4 _ _ Rp hR
    have ra4 := ra.pot hp3 b4
    -- one with itself
    refine seqV (Good := fun σ2 H5 => PotAt H5 p ∧ ButD p H4 H5 ∧ σ2 = [some (.ref p), some (.ref D), some (.ref x), some (.ref y), some (.ref R), none, none]) ?_ ?_
    · intro nx hnx
      refine ⟨_, rfl, ?_⟩
      refine gl_sums (gl_var rfl lx4) (gl_var rfl lx4) H4 same_refl _ fun z H5 s5 lz => ?_
      have hR5 := s5 _ _ hR4
      refine ⟨_, rfl, R, _, _, _, rfl, rfl, .inl (.inl hR5), rfl, _, rfl, R, _, _, _, rfl, rfl, .inl (.inl hR5), rfl, p, z, a, a, Z2, _, _, _, rfl, hp4.same s5, lz, z2_ok, ra4.same s5, ra4.same s5, tS, tS, fun n => rfl, fun H6 hp6 b6 => ⟨true, rfl, iteF ?_⟩⟩
      have lx6 := (lx4.same s5).pot (hp4.same s5) b6
      exact ⟨_, rfl, _, rfl, x, x, _, _, rfl, lx6, lx6, fun H7 s7 => ⟨true, rfl, iteF (hnx _ _ ⟨hp6.same s7, (Same.but s5).trans (b6.trans (Same.but s7)), rfl⟩)⟩⟩
    rintro _ H5 ⟨hp5, b5, rfl⟩
    have b35 := b4.trans b5
    have lx5 := lx4.pot hp4 b5
    have ly5 := ly4.pot hp4 b5
    have ta5 := ta3.pot hp3 b35
    have tb5 := tb3.pot hp3 b35
    have hD5 := b35 _ _ Dp hD3
    have b05 := b02.trans ((Same.but s3).trans b35)
    refine gl_eq z1_ok (gl_var rfl lx5) (gl_told (K := K) (te := tOp (rIxL K) (tVar 1) (tC (.int 0))) (σ := [some (.ref p), some (.ref D), some (.ref x), some (.ref y), some (.ref R), none, none]) ta5 tda fun H6 s6 Q q => ix0 rfl (s6 _ _ hD5) Q q) (fun n => rfl) H5 same_refl _ fun H6 s6 => ⟨true, rfl, iteT ?_⟩
    refine gl_eq z1_ok (gl_var rfl (ly5.same s6)) (gl_told (K := K) (te := tOp (rIxL K) (tVar 1) (tC (.int 1))) (σ := [some (.ref p), some (.ref D), some (.ref x), some (.ref y), some (.ref R), none, none]) (tb5.same s6) tdb fun H7 s7 Q q => ix1 rfl (s7 _ _ (s6 _ _ hD5)) Q q) (fun n => rfl) H6 same_refl _ fun H7 s7 => ⟨true, rfl, iteT ?_⟩
    have s57 := s6.trans s7
    exact ⟨_, rfl, p, rfl, hp5.same s57, fun H8 hp8 b8 => q H8 (b05.trans ((Same.but s57).trans b8))⟩
end
end L2.K14
end

section
set_option Elab.async false
set_option linter.all false
set_option maxRecDepth 100000
set_option maxHeartbeats 4000000
namespace L2.K14
open PySem PySem.Spec PyProof.Rows L2.Gd L2.Ln
section
variable {P : Program} {w : World} {K : PySem.W.Frag} {mg : Str → Option Value} {base : Heap} {C : Addr}
theorem scLaw : FnScope ["_law_script"] ["_law_script"] (defScope sLaw) := ⟨rfl, rfl, rfl, by decide +kernel, rfl, by decide +kernel, by decide +kernel⟩
theorem ok_law {f : Addr} {fd : FuncData} (F : Fun K "law" "law" sLaw f fd) (n : Nm mg) (GP : Fn P w K mg base 1 "_law_pot" ["_law_script", "_law_k"] (spPot K)) (GR : FnGd P w K mg base 17 "_law_right" ["_law_pot_here"] spRight) :
    FnG P w K mg base 18 f fd ["_law_script"] (spLaw K) := by
  refine okG F scLaw (fun vs H Q h => ?_) (fun cdv A outer s H vs Q hg hr h => ?_)
  · obtain ⟨a, ns, rfl, _⟩ := h
    rfl
  · obtain ⟨a, ns, rfl, hs, hl, q⟩ := h
    have N := scLaw.nd
    have r1 := hr.mono (k := 17) (j := 1) (by decide)
    refine ⟨_, pss_one (ps_ret (pe_fnG GR hg hr (pa_cons (pe_fn GP r1 (pa_cons (pv 0) (pa_cons pe_int pa_nil))) pa_nil))), ?_⟩
    exact ⟨_, rfl, a, 0, ns, rfl, by decide, hs, by omega, fun p H2 np s2 hp2 => ⟨p, rfl, hp2, fun H3 b3 => q H3⟩⟩
end
end L2.K14
end

section
set_option Elab.async false
set_option linter.all false
set_option maxRecDepth 100000
set_option maxHeartbeats 4000000
namespace L2.K14
open PySem PySem.Spec PyProof.Rows L2.Gd L2.Ln
section
variable {P : Program} {w : World} {K : PySem.W.Frag} {mg : Str → Option Value} {base : Heap} {C : Addr}
theorem fn_mk {x : Str} {st : Stmt} {k : Nat} {ps : List Str} {sp : Sp} (m : MFact K mg x st)
    (b : ∀ (kV doc pm : Value) (an : Option Addr) (cdv ct : Value) (us : List Value), us.length = ps.length → bindArgs (PySem.W.fnOf x x (defArgs st) (defBody st) (defScope st) .none kV doc pm an cdv ct) ⟨us, []⟩ = pure (ps.zip us))
    (ok : ∀ f fd, Fun K x x st f fd → FnOk P w K mg base CX0 k f fd ps sp) : Fn P w K mg base k x ps sp := by
  obtain ⟨f, fd, e, F⟩ := m
  exact ⟨f, fd, e, F.kp, F.binds b, ok f fd F⟩
theorem fnG_mk {x : Str} {st : Stmt} {k : Nat} {ps : List Str} {sp : Sp} (m : MFact K mg x st)
    (b : ∀ (kV doc pm : Value) (an : Option Addr) (cdv ct : Value) (us : List Value), us.length = ps.length → bindArgs (PySem.W.fnOf x x (defArgs st) (defBody st) (defScope st) .none kV doc pm an cdv ct) ⟨us, []⟩ = pure (ps.zip us))
    (ok : ∀ f fd, Fun K x x st f fd → FnG P w K mg base k f fd ps sp) : FnGd P w K mg base k x ps sp := by
  obtain ⟨f, fd, e, F⟩ := m
  exact ⟨f, fd, e, F.kp, F.binds b, ok f fd F⟩
theorem me_mk {x qual : Str} {st : Stmt} {k : Nat} {ps : List Str} {sp : Sp} (m : CFact K C x qual st)
    (b : ∀ (kV doc pm : Value) (an : Option Addr) (cdv ct : Value) (us : List Value), us.length = ps.length → bindArgs (PySem.W.fnOf x qual (defArgs st) (defBody st) (defScope st) .none kV doc pm an cdv ct) ⟨us, []⟩ = pure (ps.zip us))
    (ok : ∀ f fd, Fun K x qual st f fd → FnOk P w K mg base CX0 k f fd ps sp) : MeH P w K mg base C x k ps sp := by
  obtain ⟨f, fd, e, F⟩ := m
  exact ⟨f, fd, e, F.binds b, ok f fd F⟩
theorem pr_mk {x qual : Str} {st : Stmt} {sp : Sp} (m : PFact K C x qual st)
    (b : ∀ (kV doc pm : Value) (an : Option Addr) (cdv ct : Value) (us : List Value), us.length = (["self"] : List Str).length → bindArgs (PySem.W.fnOf x qual (defArgs st) (defBody st) (defScope st) .none kV doc pm an cdv ct) ⟨us, []⟩ = pure ((["self"] : List Str).zip us))
    (ok : ∀ f fd, Fun K x qual st f fd → FnOk P w K mg base CX0 1 f fd ["self"] sp) : PrH P w K mg base C x sp := by
  obtain ⟨p, g, fd, e, F⟩ := m
  exact ⟨p, g, fd, e, F.binds b, ok g fd F⟩
theorem law_of (z : Facts K mg C) {f : Addr} {fd : FuncData} (F : Fun K "law" "law" sLaw f fd) : FnG P w K mg base 18 f fd ["_law_script"] (spLaw K) := by
  obtain ⟨tpd, pd⟩ := z.pd
  obtain ⟨tstt, stt⟩ := z.stt
  obtain ⟨tgre, gre⟩ := z.gre
  obtain ⟨tmro, mro⟩ := z.mro
  obtain ⟨tmpa, mpa⟩ := z.mpa
  have n := z.n
  have T := z.TC
  have II : Fn P w K mg base 1 "is_integer" ["value"] spIsInt := fn_mk z.ii (fun _ _ _ _ _ _ us hl => match us, hl with | [_], _ => rfl) fun f fd F => ok_isInt F n
  have IC : Fn P w K mg base 2 "is_count" ["value"] spIsCount := fn_mk z.ic (fun _ _ _ _ _ _ us hl => match us, hl with | [_], _ => rfl) fun f fd F => ok_isCount F II
  have IL : Fn P w K mg base 1 "is_list" ["value"] (spIsList K) := fn_mk z.il (fun _ _ _ _ _ _ us hl => match us, hl with | [_], _ => rfl) fun f fd F => ok_isList F n
  have IA : Fn P w K mg base 1 "is_list" ["value"] (spIsLA K) := fn_mk z.il (fun _ _ _ _ _ _ us hl => match us, hl with | [_], _ => rfl) fun f fd F => ok_isLA F n
  have FU : Fn P w K mg base 1 "full" ["many"] spFull := fn_mk z.fu (fun _ _ _ _ _ _ us hl => match us, hl with | [_], _ => rfl) fun f fd F => ok_full F
  have TU : Fn P w K mg base 2 "turned" ["bits", "step", "by"] spTu := fn_mk z.tu (fun _ _ _ _ _ _ us hl => match us, hl with | [_, _, _], _ => rfl) fun f fd F => ok_tu F FU
  have SPR : Fn P w K mg base 2 "spread" ["bits", "step", "many"] spSp := fn_mk z.spr (fun _ _ _ _ _ _ us hl => match us, hl with | [_, _, _], _ => rfl) fun f fd F => ok_sp F FU
  have WI : Fn P w K mg base 3 "window" ["step", "bits", "low", "many"] spWi := fn_mk z.wi (fun _ _ _ _ _ _ us hl => match us, hl with | [_, _, _, _], _ => rfl) fun f fd F => ok_wi F TU SPR
  have ON : Fn P w K mg base 1 "ones" ["bits"] spOnes := fn_mk z.ons (fun _ _ _ _ _ _ us hl => match us, hl with | [_], _ => rfl) fun f fd F => ok_ones F n
  have MO1 : Fn P w K mg base 1 "many_ones" ["bits"] spMo1 := fn_mk z.mo1 (fun _ _ _ _ _ _ us hl => match us, hl with | [_], _ => rfl) fun f fd F => ok_mo1 F
  have MO : Fn P w K mg base 1 "mask_of" ["positions"] spMo := fn_mk z.mo (fun _ _ _ _ _ _ us hl => match us, hl with | [_], _ => rfl) fun f fd F => ok_mo F
  have BKW : Fn P w K mg base 1 "backwards" ["bits", "many"] spBk := fn_mk z.bk (fun _ _ _ _ _ _ us hl => match us, hl with | [_, _], _ => rfl) fun f fd F => ok_bk F n
  have MIR : Fn P w K mg base 3 "mirrored_rests" ["bits", "step"] spMr := fn_mk z.mir (fun _ _ _ _ _ _ us hl => match us, hl with | [_, _], _ => rfl) fun f fd F => ok_mr F TU BKW
  have FOL : Fn P w K mg base 2 "folded" ["bits", "step"] spFo := fn_mk z.fo (fun _ _ _ _ _ _ us hl => match us, hl with | [_, _], _ => rfl) fun f fd F => ok_fo F FU
  have SOF : Fn P w K mg base 2 "sums_of" ["bits", "others"] spSo := fn_mk z.so (fun _ _ _ _ _ _ us hl => match us, hl with | [_, _], _ => rfl) fun f fd F => ok_so F ON
  have RE : Fn P w K mg base 2 "repeats" ["bits", "step", "small"] spRe := fn_mk z.rep (fun _ _ _ _ _ _ us hl => match us, hl with | [_, _, _], _ => rfl) fun f fd F => ok_re F FU
  have PRI : Fn P w K mg base 1 "primes_of" ["number"] spPr := fn_mk z.pri (fun _ _ _ _ _ _ us hl => match us, hl with | [_], _ => rfl) fun f fd F => ok_pr F
  have RD : Fn P w K mg base 3 "reduced" ["step", "bits"] spRd := fn_mk z.red (fun _ _ _ _ _ _ us hl => match us, hl with | [_, _], _ => rfl) fun f fd F => ok_rd F FU PRI RE
  have NX : Fn P w K mg base 3 "next_in" ["step", "bits", "number"] spNx := fn_mk z.nx (fun _ _ _ _ _ _ us hl => match us, hl with | [_, _, _], _ => rfl) fun f fd F => ok_nx F TU
  have LS : Fn P w K mg base 3 "last_in" ["step", "bits", "number"] spLs := fn_mk z.ls (fun _ _ _ _ _ _ us hl => match us, hl with | [_, _, _], _ => rfl) fun f fd F => ok_ls F TU
  have LE : Fn P w K mg base 1 "length_of" ["low", "high"] spLen := fn_mk z.len (fun _ _ _ _ _ _ us hl => match us, hl with | [_, _], _ => rfl) fun f fd F => ok_lenof F
  have RB : Fn P w K mg base 3 "row_of_bits" ["low", "many", "bits"] spRb := fn_mk z.rb (fun _ _ _ _ _ _ us hl => match us, hl with | [_, _, _], _ => rfl) fun f fd F => ok_rb F TU
  have BO : Fn P w K mg base 4 "bits_of" ["row"] spBo := fn_mk z.bo (fun _ _ _ _ _ _ us hl => match us, hl with | [_], _ => rfl) fun f fd F => ok_bo F WI
  have TM : Fn P w K mg base 4 "trimmed" ["row"] spTm := fn_mk z.tm (fun _ _ _ _ _ _ us hl => match us, hl with | [_], _ => rfl) fun f fd F => ok_tm F LE RB WI RD NX LS
  have LG : Fn P w K mg base 2 "is_long" ["row"] spLg := fn_mk z.lg (fun _ _ _ _ _ _ us hl => match us, hl with | [_], _ => rfl) fun f fd F => ok_lg F pd LE
  have LU : Fn P w K mg base 4 "last_unlike" ["low", "high", "step", "bits", "other_step", "other_bits"] spLu := fn_mk z.lu (fun _ _ _ _ _ _ us hl => match us, hl with | [_, _, _, _, _, _], _ => rfl) fun f fd F => ok_lu F n WI
  have FUN : Fn P w K mg base 4 "first_unlike" ["low", "high", "step", "bits", "other_step", "other_bits"] spFu := fn_mk z.fst (fun _ _ _ _ _ _ us hl => match us, hl with | [_, _, _, _, _, _], _ => rfl) fun f fd F => ok_fu F n WI NX
  have dk : DrK P w K mg base := ⟨NX, LS, LU, FUN, LG, TM⟩
  have DD : Fn P w K mg base 5 "drawn_down" ["one", "two"] spDd := fn_mk z.dd (fun _ _ _ _ _ _ us hl => match us, hl with | [_, _], _ => rfl) fun f fd F => ok_dd F dk
  have DU : Fn P w K mg base 5 "drawn_up" ["one", "two"] spDd := fn_mk z.du (fun _ _ _ _ _ _ us hl => match us, hl with | [_, _], _ => rfl) fun f fd F => ok_du F dk
  have ME : Fn P w K mg base 6 "met" ["one", "two"] spMe := fn_mk z.mt (fun _ _ _ _ _ _ us hl => match us, hl with | [_, _], _ => rfl) fun f fd F => ok_me F n DD DU
  have DRA : Fn P w K mg base 7 "drawn" ["rows"] spDr := fn_mk z.dw (fun _ _ _ _ _ _ us hl => match us, hl with | [_], _ => rfl) fun f fd F => ok_dr F n ME
  have FI : Fn P w K mg base 2 "fit_together" ["one", "two"] spFi := fn_mk z.fi (fun _ _ _ _ _ _ us hl => match us, hl with | [_, _], _ => rfl) fun f fd F => ok_fi F pd LE
  have PK : Fn P w K mg base 5 "packed" ["rows"] spPk := fn_mk z.pk (fun _ _ _ _ _ _ us hl => match us, hl with | [_], _ => rfl) fun f fd F => ok_pk F n FI BO RB TM
  have TD : Fn P w K mg base 8 "tidy" ["rows"] spTd := fn_mk z.td (fun _ _ _ _ _ _ us hl => match us, hl with | [_], _ => rfl) fun f fd F => ok_td F TM DRA PK
  have MKS : Fn P w K mg base 1 "marks_of" ["rows"] (spMk K) := fn_mk z.mks (fun _ _ _ _ _ _ us hl => match us, hl with | [_], _ => rfl) fun f fd F => ok_mk F
  have RF : Fn P w K mg base 1 "rests_from" ["rows", "lows"] (spRf K) := fn_mk z.rf (fun _ _ _ _ _ _ us hl => match us, hl with | [_, _], _ => rfl) fun f fd F => ok_rf F n
  have SPN : Fn P w K mg base 2 "spans" ["one", "two"] (spSpn K) := fn_mk z.sps (fun _ _ _ _ _ _ us hl => match us, hl with | [_, _], _ => rfl) fun f fd F => ok_spn F n z.hset MKS RF
  have JB : Fn P w K mg base 1 "joined_bits" ["word", "bits", "others"] spJb := fn_mk z.jb (fun _ _ _ _ _ _ us hl => match us, hl with | [_, _, _], _ => rfl) fun f fd F => ok_jb F
  have JR : Fn P w K mg base 4 "joined_row" ["word", "span"] spJr := fn_mk z.jr (fun _ _ _ _ _ _ us hl => match us, hl with | [_, _], _ => rfl) fun f fd F => ok_jr F n z.lc gre LE JB WI TU
  have CM : Fn P w K mg base 9 "combined" ["word", "one", "two"] (spCm K) := fn_mk z.cm (fun _ _ _ _ _ _ us hl => match us, hl with | [_, _, _], _ => rfl) fun f fd F => ok_cm F TD JR SPN
  have UN : Fn P w K mg base 10 "united" ["lots"] spUn := fn_mk z.un (fun _ _ _ _ _ _ us hl => match us, hl with | [_], _ => rfl) fun f fd F => ok_un F n mro CM
  have CU : Fn P w K mg base 1 "cut" ["row"] spCut := fn_mk z.cu (fun _ _ _ _ _ _ us hl => match us, hl with | [_], _ => rfl) fun f fd F => ok_cut F pd
  have LI : Fn P w K mg base 2 "limited" ["rows"] spLim := fn_mk z.lm (fun _ _ _ _ _ _ us hl => match us, hl with | [_], _ => rfl) fun f fd F => ok_lim F n stt CU
  have NU : Fn P w K mg base 5 "next_unlike" ["one", "two", "number"] spNu := fn_mk z.nu (fun _ _ _ _ _ _ us hl => match us, hl with | [_, _, _], _ => rfl) fun f fd F => ok_nu F n SPN FUN
  have PU : Fn P w K mg base 5 "previous_unlike" ["one", "two", "number"] spPu := fn_mk z.pu (fun _ _ _ _ _ _ us hl => match us, hl with | [_, _, _], _ => rfl) fun f fd F => ok_pu F n SPN LU
  have SM : Fn P w K mg base 6 "are_same" ["one", "two"] spSm := fn_mk z.sm (fun _ _ _ _ _ _ us hl => match us, hl with | [_, _], _ => rfl) fun f fd F => ok_sm F NU PU
  have EN : Fn P w K mg base 2 "is_end" ["value"] spEn := fn_mk z.en (fun _ _ _ _ _ _ us hl => match us, hl with | [_], _ => rfl) fun f fd F => ok_en F II
  have RS : Fn P w K mg base 3 "are_rests" ["value", "period"] spRsT := fn_mk z.rs (fun _ _ _ _ _ _ us hl => match us, hl with | [_, _], _ => rfl) fun f fd F => ok_rsT F n IL IC
  have ST : Fn P w K mg base 4 "is_stretch" ["value"] spSt := fn_mk z.sts (fun _ _ _ _ _ _ us hl => match us, hl with | [_], _ => rfl) fun f fd F => ok_st F n pd EN II RS
  have RL : Fn P w K mg base 5 "row_list" ["stretch"] spRl := fn_mk z.rl (fun _ _ _ _ _ _ us hl => match us, hl with | [_], _ => rfl) fun f fd F => ok_rl F TM MO
  have RO : Fn P w K mg base 11 "rows_of" ["stretches"] (spRo K) := fn_mk z.ro (fun _ _ _ _ _ _ us hl => match us, hl with | [_], _ => rfl) fun f fd F => ok_ro F n UN RL
  have RA : Fn P w K mg base 1 "row_at" ["rows", "number"] spRa := fn_mk z.ra (fun _ _ _ _ _ _ us hl => match us, hl with | [_, _], _ => rfl) fun f fd F => ok_ra F n
  have BA : Fn P w K mg base 1 "begins_above" ["rows", "at", "number"] spBa := fn_mk z.ba (fun _ _ _ _ _ _ us hl => match us, hl with | [_, _, _], _ => rfl) fun f fd F => ok_ba F n
  have HN : Fn P w K mg base 2 "has_number" ["rows", "number"] spHas := fn_mk z.hnu (fun _ _ _ _ _ _ us hl => match us, hl with | [_, _], _ => rfl) fun f fd F => ok_has F RA BA
  have CN : Fn P w K mg base 2 "check_number" ["number"] spCn := fn_mk z.cn (fun _ _ _ _ _ _ us hl => match us, hl with | [_], _ => rfl) fun f fd F => ok_cn F II
  have MRW : Fn P w K mg base 4 "mirrored_row" ["row"] spMw := fn_mk z.mrw (fun _ _ _ _ _ _ us hl => match us, hl with | [_], _ => rfl) fun f fd F => ok_mw F MIR
  have STG : Fn P w K mg base 3 "steps_together" ["step", "bits", "far", "many"] spStg := fn_mk z.stg (fun _ _ _ _ _ _ us hl => match us, hl with | [_, _, _, _], _ => rfl) fun f fd F => ok_stg F FU SOF
  have LOS : Fn P w K mg base 4 "lowest_sums" ["one", "two", "many"] spLos := fn_mk z.los (fun _ _ _ _ _ _ us hl => match us, hl with | [_, _, _], _ => rfl) fun f fd F => ok_los F n MO1 WI STG
  have LWZ : Fn P w K mg base 5 "low_zone" ["one", "two", "many"] spLwz := fn_mk z.lwz (fun _ _ _ _ _ _ us hl => match us, hl with | [_, _, _], _ => rfl) fun f fd F => ok_lwz F LOS RB
  have HIZ : Fn P w K mg base 5 "high_zone" ["one", "two", "many"] spHiz := fn_mk z.hiz (fun _ _ _ _ _ _ us hl => match us, hl with | [_, _, _], _ => rfl) fun f fd F => ok_hiz F MRW LOS RB BKW
  have RBY : Fn P w K mg base 4 "rests_by" ["row", "step"] spRby := fn_mk z.rby (fun _ _ _ _ _ _ us hl => match us, hl with | [_, _], _ => rfl) fun f fd F => ok_rby F FOL WI
  have MID : Fn P w K mg base 5 "middle_row" ["one", "two", "step", "many"] spMid := fn_mk z.mid (fun _ _ _ _ _ _ us hl => match us, hl with | [_, _, _, _], _ => rfl) fun f fd F => ok_mid F RBY SOF FOL
  have ISH : Fn P w K mg base 1 "is_shorter" ["many", "other"] spIsh := fn_mk z.ish (fun _ _ _ _ _ _ us hl => match us, hl with | [_, _], _ => rfl) fun f fd F => ok_ish F
  have RSU : Fn P w K mg base 9 "row_sums" ["one", "two"] spRsu := fn_mk z.rsu (fun _ _ _ _ _ _ us hl => match us, hl with | [_, _], _ => rfl) fun f fd F => ok_rsu F z.lc z.gcd pd stt LE ISH LWZ HIZ MID TD
  have SRS : Fn P w K mg base 11 "sums_of_rows" ["one", "two"] spSrs := fn_mk z.srs (fun _ _ _ _ _ _ us hl => match us, hl with | [_, _], _ => rfl) fun f fd F => ok_srs F UN RSU
  have CS : Fn P w K mg base 5 "check_stretches" ["stretches"] (spCs K) := fn_mk z.cs (fun _ _ _ _ _ _ us hl => match us, hl with | [_], _ => rfl) fun f fd F => ok_cs F n mpa IA ST
  obtain ⟨dT, ⟨fi, fdi, mei, Fi⟩, hT⟩ := z.h_init
  have M : MkL P w K mg base C dT := by
    obtain ⟨d0, v0, b0⟩ := Fi.binds1 (ps := ["self", "stretches"]) 2 1 (List.cons_ne_nil _ _) rfl (fun _ _ _ _ _ _ _ us its hl hi => match us, its, hl, hi with | [_, _], [_], _, _ => ⟨_, rfl, rfl⟩)
    obtain ⟨d1, v1, b1⟩ := Fi.binds1 (ps := ["self", "stretches"]) 1 0 (List.cons_ne_nil _ _) rfl (fun _ _ _ _ _ _ _ us its hl hi => match us, its, hl, hi with | [_], [_], _, _ => ⟨_, rfl, rfl⟩)
    have e0 : d0 = [] := by
      cases v0
      rfl
    subst e0
    exact ⟨⟨fi, fdi, ⟨z.mkC, mei.at_, mei.fn, z.kpC⟩, b0, ⟨d1, b1, v1⟩, ok_init Fi T CS RO LI⟩, hT⟩
  have LR : Fn P w K mg base 14 "line_of_rows" ["rows"] (spLor C) := fn_mk z.lr (fun _ _ _ _ _ _ us hl => match us, hl with | [_], _ => rfl) fun f fd F => ok_lor F T M LI
  have CL : Fn P w K mg base 1 "check_line" ["line"] (spCl C) := fn_mk z.cl (fun _ _ _ _ _ _ us hl => match us, hl with | [_], _ => rfl) fun f fd F => ok_cl F n T
  have RW : MeH P w K mg base C "rows" 1 ["self"] (spRows C) := me_mk z.m_rows (fun _ _ _ _ _ _ us hl => match us, hl with | [_], _ => rfl) fun f fd F => ok_rows F n T
  have EQ : EqH P w K mg base C (spEq C) := by
    obtain ⟨f, fd, N, me, F, c⟩ := z.h_eq
    exact ⟨f, fd, N, F.binds (fun _ _ _ _ _ _ us hl => match us, hl with | [_, _], _ => rfl), ok_eq F n T SM RW, me.at_, me.fn, c⟩
  have HS : MeH P w K mg base C "has" 3 ["self", "number"] (spHs C) := me_mk z.m_has (fun _ _ _ _ _ _ us hl => match us, hl with | [_, _], _ => rfl) fun f fd F => ok_hs F T CN HN
  have EM : PrH P w K mg base C "is_empty" (spEm C) := pr_mk z.p_em (fun _ _ _ _ _ _ us hl => match us, hl with | [_], _ => rfl) fun f fd F => ok_em F n T
  have MSR : Fn P w K mg base 5 "mirrored_rows" ["rows"] spMs := fn_mk z.mrs (fun _ _ _ _ _ _ us hl => match us, hl with | [_], _ => rfl) fun f fd F => ok_ms F MRW
  have SUM : MeH P w K mg base C "sums" 15 ["self", "line"] (spSums C) := me_mk z.m_sums (fun _ _ _ _ _ _ us hl => match us, hl with | [_, _], _ => rfl) fun f fd F => ok_sums F T CL LR SRS RW
  have SUMK : MeK P w K mg base C "sums" 15 "line" (spSums C) := by
    obtain ⟨f, fd, me, F⟩ := z.m_sums
    exact ⟨f, fd, me, kb_of F (fun _ _ _ _ _ _ us ws l1 l2 => match us, ws, l1, l2 with | [_], [_], _, _ => rfl) (fun r1 r2 => r1.append r2), ok_sums F T CL LR SRS RW⟩
  have DIF : MeH P w K mg base C "differences" 15 ["self", "line"] (spDif C) := me_mk z.m_dif (fun _ _ _ _ _ _ us hl => match us, hl with | [_, _], _ => rfl) fun f fd F => ok_dif F T CL LR SRS MSR RW
  have DIFK : MeK P w K mg base C "differences" 15 "line" (spDif C) := by
    obtain ⟨f, fd, me, F⟩ := z.m_dif
    exact ⟨f, fd, me, kb_of F (fun _ _ _ _ _ _ us ws l1 l2 => match us, ws, l1, l2 with | [_], [_], _, _ => rfl) (fun r1 r2 => r1.append r2), ok_dif F T CL LR SRS MSR RW⟩
  have MIRR : MeH P w K mg base C "mirrored" 15 ["self"] (spMrr C) := me_mk z.m_mir (fun _ _ _ _ _ _ us hl => match us, hl with | [_], _ => rfl) fun f fd F => ok_mrr F T LR MSR
  have LEA : MeH P w K mg base C "least" 1 ["self"] (spLe C) := me_mk z.m_le (fun _ _ _ _ _ _ us hl => match us, hl with | [_], _ => rfl) fun f fd F => ok_le F n T
  have GRE : MeH P w K mg base C "greatest" 1 ["self"] (spGr C) := me_mk z.m_gr (fun _ _ _ _ _ _ us hl => match us, hl with | [_], _ => rfl) fun f fd F => ok_gr F n T
  have TAI : MeH P w K mg base C "tail" 6 ["self"] (spTl C) := me_mk z.m_tl (fun _ _ _ _ _ _ us hl => match us, hl with | [_], _ => rfl) fun f fd F => ok_tl F T EM GRE ON PU
  have GD : Fn P w K mg base 1 "_law_draw" ["_law_pot_here", "_law_many"] spDraw := fn_mk z.dr (fun _ _ _ _ _ _ us hl => match us, hl with | [_, _], _ => rfl) fun f fd F => ok_draw F n
  have STR : Fn P w K mg base 2 "_law_stretch" ["_law_pot_here"] spStr := fn_mk z.lst (fun _ _ _ _ _ _ us hl => match us, hl with | [_], _ => rfl) fun f fd F => ok_str F n GD
  have TO : Fn P w K mg base 3 "_law_told" ["_law_pot_here", "_law_most"] spTo := fn_mk z.lto (fun _ _ _ _ _ _ us hl => match us, hl with | [_, _], _ => rfl) fun f fd F => ok_to F n GD STR
  have INN : Fn P w K mg base 1 "_law_in" ["_law_stretch_here", "_law_number"] spInn := fn_mk z.lin (fun _ _ _ _ _ _ us hl => match us, hl with | [_, _], _ => rfl) fun f fd F => ok_inn F n
  have ROW : Fn P w K mg base 2 "_law_row" ["_law_told_here"] spRow := fn_mk z.lro (fun _ _ _ _ _ _ us hl => match us, hl with | [_], _ => rfl) fun f fd F => ok_row F n INN
  have ATT : Fn P w K mg base 1 "_law_at" ["_law_row_here", "_law_number"] spAt := fn_mk z.lat (fun _ _ _ _ _ _ us hl => match us, hl with | [_, _], _ => rfl) fun f fd F => ok_at F n
  have ISM : Fn P w K mg base 2 "_law_is_sum" ["_law_one", "_law_other", "_law_number"] spIsm := fn_mk z.lsm (fun _ _ _ _ _ _ us hl => match us, hl with | [_, _, _], _ => rfl) fun f fd F => ok_ism F n ATT
  have TRN : Fn P w K mg base 1 "_law_turned" ["_law_row_here"] spTrn := fn_mk z.ltn (fun _ _ _ _ _ _ us hl => match us, hl with | [_], _ => rfl) fun f fd F => ok_trn F
  have LKD : Fn P w K mg base 2 "_law_looked" ["_law_pot_here"] spLk := fn_mk z.llk (fun _ _ _ _ _ _ us hl => match us, hl with | [_], _ => rfl) fun f fd F => ok_lk F n GD
  have ISS : FnGd P w K mg base 4 "_law_is_sums" ["_law_pot_here", "_law_line", "_law_one", "_law_other"] (spIss C) := fnG_mk z.lss (fun _ _ _ _ _ _ us hl => match us, hl with | [_, _, _, _], _ => rfl) fun f fd F => ok_iss F n T LKD ISM HS
  have wk : WnK P w K mg base C dT := ⟨T, M, EQ, HS, SUM, SUMK, DIF, DIFK, MIRR, EM, LEA, GRE, TAI, ISS, TRN⟩
  have PRR : FnGd P w K mg base 16 "_law_pair_right" ["_law_pot_here", "_law_one", "_law_other", "_law_rows"] (spPrt C) := fnG_mk z.lpr (fun _ _ _ _ _ _ us hl => match us, hl with | [_, _, _, _], _ => rfl) fun f fd F => ok_pr_ F n wk
  have ERR : Fn P w K mg base 16 "_law_ends_right" ["_law_one", "_law_other"] (spEr C) := fn_mk z.ler (fun _ _ _ _ _ _ us hl => match us, hl with | [_, _], _ => rfl) fun f fd F => ok_er F n z.hsum wk
  have LSS : Fn P w K mg base 4 "_law_long_sums" ["_law_told_here", "_law_one", "_law_other"] (spLgs C) := fn_mk z.lls (fun _ _ _ _ _ _ us hl => match us, hl with | [_, _, _], _ => rfl) fun f fd F => ok_ls_ F n wk INN
  have LRR : Fn P w K mg base 16 "_law_long_right" ["_law_pot_here"] spLrg := fn_mk z.llr (fun _ _ _ _ _ _ us hl => match us, hl with | [_], _ => rfl) fun f fd F => ok_lrg F n wk GD LSS
  have RI : FnGd P w K mg base 17 "_law_right" ["_law_pot_here"] spRight := fnG_mk z.lri (fun _ _ _ _ _ _ us hl => match us, hl with | [_], _ => rfl) fun f fd F => ok_ri F n wk TO ROW PRR ERR LRR
  have PO : Fn P w K mg base 1 "_law_pot" ["_law_script", "_law_k"] (spPot K) := fn_mk z.pot (fun _ _ _ _ _ _ us hl => match us, hl with | [_, _], _ => rfl) fun f fd F => ok_pot F n z.hsum
  exact ok_law F n PO RI
theorem law_all (z : Facts K mg C) (l : MFact K mg "law" sLaw) {fa : Addr} (hfa : mg "law" = some (.ref fa)) :
    ∃ fd : FuncData, (∀ (s : Shared) (v : Value), BindsTo s fd ⟨[v], []⟩ [("_law_script", v)]) ∧ ∀ base : Heap, K.In base → base.Ns mainGlobals mg → FnG P w K mg base 18 fa fd ["_law_script"] (spLaw K) := by
  obtain ⟨f, fd, e, F⟩ := l
  cases hfa.symm.trans e
  refine ⟨fd, ?_, fun base _ _ => law_of z F⟩
  obtain ⟨oc, od, kV, doc, pm, an, cdv, ct, osl, rfl, _, _⟩ := F.ex
  exact fun s v => .of_eq rfl
end
end L2.K14
end

section
set_option Elab.async false
set_option linter.all false
set_option maxRecDepth 100000
set_option maxHeartbeats 4000000
theorem PySem.Challenge.cw_lonetill_k14_whole_sums_and_differences_holds : PySem.Challenge.rw_lonetill_k14_whole_sums_and_differences.Holds := by
  exact front (by intro P w K mg C z l fa h; exact L2.K14.law_all z l h)
end
