import PyProof.Rows.All
import Wide.All
import OpenK.AllK
import Wide.FinOn
import HandS.ForMost
import HandS.ForExc
import HandS.Wide
import HandS.IsInst
import HandS.Steps
import HandS.Evl
import PyProof.CallFns
import PyProof.ReprRoads
import HandS.TryMany
import HandS.ExcField
import HandS.ExcInit
import KE.KExcTry
import KE.KExcStr
import HandS.Small
import HandS.ListItems
import HandS.SortRule
import HandS.SetKeys
import HandS.DeepEq
import HandS.WideBits
import HandS.EndTab
import HandS.Lambda
import KE.KLam
import KE.KNestM
import HandS.EndBits
import PySem.Challenge.RW_twinsheets_k02_whole_residues_and_factor
import HandS.Ends
import HandS.Words
import HandS.WordsExc
set_option Elab.async false
set_option linter.all false
set_option maxRecDepth 100000
set_option maxHeartbeats 4000000
/-! promises of defs that hold where no container is being written out (which `repr` of a container asks), and `repr` itself -/
namespace L2
open PySem PySem.Spec PyProof.Rows
/-- nothing on the way to here is being written out -/
def Quiet (A : Around) : Prop := A.guards = some []
theorem Quiet.deeper {A : Around} {env : Env} (q : Quiet A) : Quiet (A.deeper env) := q
theorem quiet_top : Quiet callerA := rfl
section
variable {P : Program} {w : World} {K : PySem.W.Frag} {mg : Str → Option Value} {base : Heap} {CX : CXT}
structure FnG (P : Program) (w : World) (K : PySem.W.Frag) (mg : Str → Option Value) (base : Heap)
    (CX : CXT) (k : Nat) (f : Addr) (fd : FuncData) (ps : List Str) (sp : Sp) : Prop where
  size : ∀ xs H Q E, sp xs H Q E →
    xs.length = ps.length
  go : ∀ (A : Around) (ou : List Env) (s : Shared) (H : Hp) (as : Args) (us : List Value) (xs : List V) (Q : VK) (E : XK),
    Quiet A → Room k A →
    Env0 P w K mg base A ou s H →
    BindsTo s fd as (ps.zip us) → Vals xs us → sp xs H Q E →
    codeAny (model P w) A (.call (.ref f) as) (CR CX ou P w H s Q E) s
variable {k j : Nat} {f : Addr} {fd : FuncData} {ps N : List Str} {sp : Sp}
theorem FnG.less (F : FnG P w K mg base CX j f fd ps sp) (h : j ≤ k) : FnG P w K mg base CX k f fd ps sp :=
  ⟨F.size, fun A ou s H as us xs Q E g rm => F.go A ou s H as us xs Q E g (rm.mono h)⟩
theorem FnOk.quiet (F : FnOk P w K mg base CX k f fd ps sp) : FnG P w K mg base CX k f fd ps sp :=
  ⟨F.len, fun A ou s H as us xs Q E _ rm => F.run A ou s H as us xs Q E rm⟩
/-- the rule for a def's body, with the quiet at hand -/
theorem fnG_of {nm qn : Str} {pa : Arguments} {body : List Stmt} {sco : Scope} {dV kV doc pm cdv ct oc : Value} {an od : Option Addr}
    {osl : Array (Option Value)}
    (look : K.lookup f = some ⟨oc, od, .func (PySem.W.fnOf nm qn pa body sco dV kV doc pm an cdv ct), osl⟩)
    (cdIn : PySem.W.codeIn K cdv qn = true) (S : FnScope N ps sco)
    (size : ∀ xs H Q E, sp xs H Q E → xs.length = ps.length)
    (bodyOk : ∀ (A : Around) (ou : List Env) (s : Shared) (H : Hp) (xs : List V) (Q : VK) (E : XK),
      Quiet A → Room k (A.deeper (envOfC qn sco s.heap.objs.size f cdv)) → sp xs H Q E →
      ∃ t, PSs (cxOf CX P w K mg base N qn sco f cdv A ou s H E) body t ∧
        t { nx := fun _ H' => Q .non H', rt := Q } (start N xs) H) :
    FnG P w K mg base CX (k + 1) f
      (PySem.W.fnOf nm qn pa body sco dV kV doc pm an cdv ct) ps sp := by
  refine ⟨size, fun A ou s H as us xs Q E g rm env0 bd rel hs => ?_⟩
  have inK : K.In s.heap :=
    env0.mod.kin.keeps fun b o z => (env0.bs b o z).1
  have free : s.heap.NoLimit :=
    env0.mod.nolimit.keeps fun b o z => (env0.bs b o z).1
  refine codeAny_call_function rm.depth (inK _ _ look) rfl S.co S.gen rfl
    (PySem.W.codeRec_of inK cdIn) (bd _ _ _ _ ?_)
  refine wpAny_newFunctionEnv_cells S.kind (fun ⟨n, v⟩ hy => ?_)
    fun env he s1 x => ?_
  · rcases S.par n (List.of_mem_zip hy).1 with loc | cel
    · exact .inl loc
    · exact .inr ⟨cel, PySem.W.cellsFrom_some _ _ _ (.inl cel)⟩
  subst he
  refine ⟨free.keeps x.toInCall.keep,
    codeAny_func ?_⟩
  obtain ⟨t, term, here⟩ :=
    bodyOk A ou s H xs Q E g (rm.deeper _) hs
  have I0 := inv_start (CX := CX) (E := E) S rm.hd env0
    (size _ _ _ _ hs) rel x
  refine wpAny_mono (term.run [] s1 (start N xs) H _ I0 here)
    (fun fl s2 h2 => ?_) fun _ _ h2 => h2
  cases fl with
  | next =>
    obtain ⟨_, H2, J, q⟩ := h2
    exact ⟨V.non, H2, J.os, J.bare, J.base, J.hok, rfl, q⟩
  | ret u =>
    obtain ⟨v, _, H2, J, r2, q⟩ := h2
    exact ⟨v, H2, J.os, J.bare, J.base, J.hok, r2, q⟩
  | brk => exact h2.elim fun _ h3 => h3.elim fun _ h4 => h4.2.elim
  | cont => exact h2.elim fun _ h3 => h3.elim fun _ h4 => h4.2.elim
/-- a def of the text that raises nothing -/
theorem Fun.okG {x qn : Str} {st : Stmt} (F : Fun K x qn st f fd) (S : FnScope N ps (defScope st))
    (size : ∀ xs H Q E, sp xs H Q E → xs.length = ps.length)
    (bodyOk : ∀ (cdv : Value) (A : Around) (ou : List Env) (s : Shared) (H : Hp) (xs : List V) (Q : VK) (E : XK),
      Quiet A → Room k (A.deeper (envOfC qn (defScope st) s.heap.objs.size f cdv)) → sp xs H Q E →
      ∃ t, PSs (cxOf CX0 P w K mg base N qn (defScope st) f cdv A ou s H E).nox (defBody st) t ∧
        t { nx := fun _ H' => Q .non H', rt := Q } (start N xs) H) :
    FnG P w K mg base CX0 (k + 1) f fd ps sp := by
  obtain ⟨oc, od, kV, doc, pm, an, cdv, ct, osl, rfl, look, cdIn⟩ := F.ex
  refine fnG_of look cdIn S size fun A ou s H xs Q E g rm hs => ?_
  obtain ⟨t, term, here⟩ := bodyOk cdv A ou s H xs Q E g rm hs
  exact ⟨t, term.nox, here⟩
/-- .. whose code object is known (it makes lambdas) -/
theorem Fun.okGC {x qn : Str} {st : Stmt} {c : Addr} (F : Fun K x qn st f fd) (code : fd.code = .ref c) (S : FnScope N ps (defScope st))
    (size : ∀ xs H Q E, sp xs H Q E → xs.length = ps.length)
    (bodyOk : ∀ (A : Around) (ou : List Env) (s : Shared) (H : Hp) (xs : List V) (Q : VK) (E : XK),
      Quiet A → Room k (A.deeper (envOfC qn (defScope st) s.heap.objs.size f (.ref c))) → sp xs H Q E →
      ∃ t, PSs (cxOf CX0 P w K mg base N qn (defScope st) f (.ref c) A ou s H E).nox (defBody st) t ∧
        t { nx := fun _ H' => Q .non H', rt := Q } (start N xs) H) :
    FnG P w K mg base CX0 (k + 1) f fd ps sp := by
  obtain ⟨oc, od, kV, doc, pm, an, cdv, ct, osl, rfl, look, cdIn⟩ := F.ex
  obtain rfl : cdv = .ref c := code
  refine fnG_of look cdIn S size fun A ou s H xs Q E g rm hs => ?_
  obtain ⟨t, term, here⟩ := bodyOk A ou s H xs Q E g rm hs
  exact ⟨t, term.nox, here⟩
/-- .. that may raise -/
theorem Fun.okGX {x qn : Str} {st : Stmt} (F : Fun K x qn st f fd) (S : FnScope N ps (defScope st))
    (size : ∀ xs H Q E, sp xs H Q E → xs.length = ps.length)
    (bodyOk : ∀ (cdv : Value) (A : Around) (ou : List Env) (s : Shared) (H : Hp) (xs : List V) (Q : VK) (E : XK),
      Quiet A → Room k (A.deeper (envOfC qn (defScope st) s.heap.objs.size f cdv)) → sp xs H Q E →
      ∃ t, PSs (cxOf (L2.CX P w) P w K mg base N qn (defScope st) f cdv A ou s H E) (defBody st) t ∧
        t { nx := fun _ H' => Q .non H', rt := Q } (start N xs) H) :
    FnG P w K mg base (L2.CX P w) (k + 1) f fd ps sp := by
  obtain ⟨oc, od, kV, doc, pm, an, cdv, ct, osl, rfl, look, cdIn⟩ := F.ex
  exact fnG_of look cdIn S size fun A ou s H xs Q E g rm hs => bodyOk cdv A ou s H xs Q E g rm hs
end
section
variable {X : Cx} {CX : CXT} {k : Nat} {f : Addr} {fd : FuncData} {ps : List Str} {sp : Sp} {dvs : List V} {ds : List Value} {E : XK} {x : Str}
  {p pos : Pos} {e : Expr} {es : List Expr} {t : TA}
/-- a call of such a def by its name -/
theorem pe_callG (F : FnG X.prog X.w X.K X.mg X.base CX k f fd ps sp) (g : Quiet X.A) (rm : Room k X.A) (hg : Gl X x)
    (hm : X.mg x = some (.ref f)) (hk : PySem.W.keepIn X.K (.ref f) = true) (hb : Binds X.K fd ps ds) (hd : Vals dvs ds) (hx : Passes CX X E)
    (ha : PA X (e :: es) t)
    (hdb : (x == ("__debug__" : Str)) = false := by decide)
    (he : starEach (e :: es) X.env = (false, eval e X.env) :: starEach es X.env := by rfl)
    (hpl : (backTo pos (starEach es X.env)).any (·.1) = false := by rfl) :
    PE X (.Call (.Name x p) (e :: es) [] pos) (tCall sp dvs E t) := by
  refine ⟨fun pins s σ H Q I h => wpAny_Call_Name_kw (ld_glob I hg hm ?_ hdb)⟩
  refine PySem.W.callWith_K (h₀ := X.base) I.ok.mod.kin hk
    (thn (ha.run pos pins s σ H _ I h) fun us s1 ⟨xs, H1, I1, rel, q⟩ => ⟨I1.kIn, ?_⟩) he hpl
  have rel2 := rel.append hd
  have ln : (us ++ ds).length = ps.length :=
    rel2.length ▸ F.size _ _ _ _ q
  refine wpAny_call (codeAny_mono
    (F.go X.A X.stack s1 H1 ⟨us, []⟩ (us ++ ds) (xs ++ dvs) Q E g rm I1.env0 (hb s1 us I1.kIn ln) rel2 q) fun r s2 h2 => ?_)
  match r, h2 with
  | .error e, h2 => exact hx pins σ H1 s1 e s2 I1 h2
  | .ok (.ret u), h2 => exact I1.after h2
end
/-- the law's own call from the top, where its def asks for quiet -/
theorem law_callG {P : Program} {w : World} {K : PySem.W.Frag} {mg mb : Str → Option Value} {CX : CXT} {k : Nat} {fa a : Addr} {fd : FuncData} {x : Str} {sp : Sp} {s₁ : Shared}
    {vs : List Value} {ns : List Int}
    (inK : K.In s₁.heap) (nsM : s₁.heap.Ns mainGlobals mg) (nsB : s₁.heap.Ns builtinsNs mb) (boot : ∀ y : Str, y ≠ "__name__" → mb y = bootBuiltins y)
    (free : s₁.heap.NoLimit) (noG : s₁.gens = #[])
    (ha : s₁.heap.get? a = some { cls := .type "list", data := .seq vs.toArray }) (iv : IntsAre vs ns) (small : ns.length ≤ sizeLine) (rm : Room k callerA)
    (F : ∀ base : Heap, K.In base → base.Ns mainGlobals mg → FnG P w K mg base CX k fa fd [x] sp)
    (binds : ∀ (s : Shared) (u : Value), BindsTo s fd ⟨[u], []⟩ [(x, u)])
    (asked : ∀ H : Hp, Only H → SqL K H a (ns.map V.int) → sp [.ref a] H (fun v _ => v = .bl true) fun _ _ _ => False)
    (none_out : ∀ H e s', CX [] H s₁ (fun _ _ _ => False) e s' → False) :
    codeAny (model P w) callerA (.call (.ref fa) ⟨[.ref a], []⟩)
      (fun r s' => r = .ok (.ret (.bool true)) ∧ OldK s₁.heap s'.heap ∧ s'.os = s₁.os ∧ AllBare s'.gens) s₁ := by
  have rel := vals_ints iv
  -- the abstract heap tracks nothing but, it may be, the script
  have from_ : ∀ H : Hp, Only H → SqL K H a (ns.map V.int) → HOk P w H s₁.heap →
      (∀ b, H b ≠ none → b = a ∧ K.lookup a = none) →
      codeAny (model P w) callerA (.call (.ref fa) ⟨[.ref a], []⟩)
        (fun r s' => r = .ok (.ret (.bool true)) ∧ OldK s₁.heap s'.heap ∧ s'.os = s₁.os ∧ AllBare s'.gens) s₁ := by
    intro H only seq okH alone
    have isA : ∀ {b u}, H b = some u → b = a ∧ K.lookup a = none := fun {b u} z =>
      alone b fun n => by rw [z] at n; cases n
    have off : ∀ {b : Addr} {o : Obj} {es : Array DictEntry} {ep : Nat},
        s₁.heap.get? b = some o → o.data = .dict es ep → H b = none := by
      intro b o es ep z d
      cases q : H b with
      | none => rfl
      | some u =>
        obtain ⟨rfl, _⟩ := isA q
        rw [ha] at z
        injection z with z
        subst z
        cases (show Data.seq vs.toArray _ = Data.dict es ep from d)
    have ns_ : ∀ {b : Addr} {m : Str → Option Value}, s₁.heap.Ns b m → (hidT s₁.heap H).Ns b m := by
      rintro b m ⟨o, es, ep, z, d, r⟩
      exact ⟨o, es, ep, hidT_get z (off z d), d, r⟩
    have inH : K.In (hidT s₁.heap H) := by
      intro b o z
      refine hidT_get (inK b o z) ?_
      cases q : H b with
      | none => rfl
      | some u =>
        obtain ⟨rfl, n⟩ := isA q
        rw [n] at z
        cases z
    obtain ⟨mc, l1, l2⟩ := free
    have env0 : Env0 P w K mg (hidT s₁.heap H) callerA [] s₁ H := {
      frames := rfl
      mod := ⟨inH, ns_ nsM, ⟨mb, ns_ nsB, boot⟩, ⟨mc, ns_ l1, l2⟩⟩
      bs := fun b o z => of_hidT z
      bsz := Nat.le_of_eq (hidT_size _ _)
      funs := trivial
      frf := fun b z => nomatch (show b ∈ ([] : List Addr) from z)
      hok := okH
      bare := .of_eq noG }
    refine codeAny_mono ((F _ inH (ns_ nsM)).go callerA [] s₁ H ⟨[.ref a], []⟩ [.ref a] [.ref a] _ _ quiet_top rm env0
      (binds s₁ (.ref a)) (.cons rfl .nil) (asked H only seq)) fun r s' h => ?_
    match r, h with
    | .error e, h => exact (none_out H e s' h).elim
    | .ok (.ret u), h =>
      obtain ⟨v, H', os, bare, un, okH', rel', (rfl : v = .bl true)⟩ := h
      obtain rfl : u = Value.bool true := rel'
      refine ⟨rfl, OldK.of_keep fun b o z => ?_, os, bare⟩
      cases q : H b with
      | none =>
        exact un.keep b o z q (fun y => nomatch (show b ∈ ([] : List Addr) from y)) (by simp)
      | some u =>
        rcases only b with n | ⟨ob, xs, n⟩
        · rw [q] at n
          cases n
        · have now := (okH b _ n).1
          have then_ := (okH' b _ (un.frzs b ob _ n)).1
          rw [z] at now
          injection now with now
          subst now
          exact then_
  cases hk : K.lookup a with
  | some o =>
    have z := inK a o hk
    rw [ha] at z
    injection z with z
    subst z
    exact from_ (fun _ => none) (fun _ => .inl rfl)
      (.inr ⟨_, vs.toArray, _, hk, rfl, rfl, rfl, by rw [List.size_toArray, iv.length]; exact small, by simpa using rel⟩)
      (fun b u z => nomatch (show (none : Option HO) = some u from z)) (fun b z => (z rfl).elim)
  | none =>
    have at_ : ∀ b u, (if b = a then some (HO.frz { cls := .type "list", data := .seq vs.toArray } (.lst (ns.map V.int))) else none) = some u →
        b = a ∧ HO.frz { cls := .type "list", data := .seq vs.toArray } (.lst (ns.map V.int)) = u := by
      intro b u z
      split at z
      · exact ⟨‹_›, Option.some.inj z⟩
      · cases z
    refine from_ (fun b => if b = a then some (.frz { cls := .type "list", data := .seq vs.toArray } (.lst (ns.map V.int))) else none)
      (fun b => ?_) (.inl (.inr ⟨{ cls := .type "list", data := .seq vs.toArray }, if_pos rfl⟩)) (fun b u z => ?_) (fun b z => ?_)
    · by_cases eq : b = a
      · exact .inr ⟨_, _, if_pos eq⟩
      · exact .inl (if_neg eq)
    · obtain ⟨rfl, rfl⟩ := at_ b u z
      exact ⟨ha, by rw [List.length_map]; exact small, vs, _, rel, ha⟩
    · by_cases eq : b = a
      · exact ⟨eq, hk⟩
      · exact (z (if_neg eq)).elim
theorem walk_ofG {l : PySem.W.OpenLaw} {n k : Nat} {q : Program} {loose : List Str} {XP : (Str → Option Value) → Heap → Prop} {YP : World → Heap → Prop} {d : DefRec}
    {K : Params → PySem.W.Frag} {CX : World → CXT} {sp : World → Sp} {x : Str}
    (most : l.most = some n) (small : n ≤ sizeLine) (noD : d.params.defaults = []) (rm : Room k callerA)
    (inK : ∀ (w : World) (h : Heap), YP w h → (K w.params).In h)
    (F : ∀ (w : World) (mg : Str → Option Value) (fa : Addr) (h : Heap), (K w.params).In h → h.Ns mainGlobals mg → mg d.name = some (.ref fa) →
      ∃ fd : FuncData, (∀ (s : Shared) (u : Value), BindsTo s fd ⟨[u], []⟩ [(x, u)]) ∧
        ∀ base : Heap, (K w.params).In base → base.Ns mainGlobals mg →
          FnG l.prog w (K w.params) mg base (CX w) k fa fd [x] (sp w))
    (asked : ∀ (w : World) (H : Hp) (a : Addr) (ns : List Int), ns.length ≤ n → Only H → SqL (K w.params) H a (ns.map V.int) →
      sp w [.ref a] H (fun v _ => v = .bl true) fun _ _ _ => False)
    (none_out : ∀ (w : World) (H : Hp) (s : Shared) (e : Value) (s' : Shared), CX w [] H s (fun _ _ _ => False) e s' → False) :
    PySem.W.WalkO q loose XP YP l.row.toRowW d [] (fun f vs => PySem.call f vs) := by
  refine Att.attach_call most noD fun w s₀ s₁ mg mb fa o pm cd doc a vs ns G Y _ _ _ named obj iv len gens => ?_
  obtain ⟨fd, binds, F1⟩ := F w mg fa _ (inK w _ Y) G.T.g named
  exact law_callG (inK w _ Y) G.T.g G.T.b G.T.builtins G.T.nolimit gens obj iv (Nat.le_trans len small) rm F1 binds
    (fun H only seq => asked w H a ns len only seq) fun H e s' => none_out w H s₁ e s'
end L2


/-! the law's own call where its defs ask for quiet and make lambdas -/
namespace LamX
open PySem PySem.Spec PyProof.Rows L2
theorem law_callGT {P : Program} {w : World} {K : PySem.W.Frag} {mg mb : Str → Option Value} {CX : CXT} {k : Nat} {fa a : Addr} {cs : List (Addr × Addr)}
    {fd : FuncData} {x : Str} {sp : Sp} {s₁ : Shared} {vs : List Value} {ns : List Int}
    (inK : K.In s₁.heap) (nsM : s₁.heap.Ns mainGlobals mg) (nsB : s₁.heap.Ns builtinsNs mb) (boot : ∀ y : Str, y ≠ "__name__" → mb y = bootBuiltins y)
    (free : s₁.heap.NoLimit) (noG : s₁.gens = #[])
    (empty : ∀ p ∈ cs, s₁.heap.get? p.2 = some { cls := .none, data := .fields #[] }) (offK : ∀ p ∈ cs, K.lookup p.2 = none)
    (code : ∀ p ∈ cs, PySem.W.CodeHd s₁.heap p.1 p.2)
    (bmod : ∃ (bm : Addr) (ob : Obj), mg "__builtins__" = some (.ref bm) ∧ bm ≠ builtinsNs ∧ s₁.heap.get? bm = some ob ∧ ob.cls = .type "module" ∧
      ob.dict = some builtinsNs ∧ ob.data = .plain)
    (ha : s₁.heap.get? a = some { cls := .type "list", data := .seq vs.toArray }) (iv : IntsAre vs ns) (small : ns.length ≤ sizeLine) (rm : Room k callerA)
    (F : ∀ base : Heap, K.In base → base.Ns mainGlobals mg → (∀ p ∈ cs, TabB base mg p.1 p.2) → FnG P w K mg base CX k fa fd [x] sp)
    (binds : ∀ (s : Shared) (u : Value), BindsTo s fd ⟨[u], []⟩ [(x, u)])
    (asked : ∀ H : Hp, (∀ p ∈ cs, H p.2 = some (.tbl #[])) → SqL K H a (ns.map V.int) → sp [.ref a] H (fun v _ => v = .bl true) fun _ _ _ => False)
    (none_out : ∀ H e s', CX [] H s₁ (fun _ _ _ => False) e s' → False) :
    codeAny (model P w) callerA (.call (.ref fa) ⟨[.ref a], []⟩)
      (fun r s' => r = .ok (.ret (.bool true)) ∧ OldK s₁.heap s'.heap ∧ s'.os = s₁.os ∧ AllBare s'.gens) s₁ := by
  have rel := vals_ints iv
  let tb : List Addr := cs.map (·.2)
  have atT : ∀ {b : Addr}, b ∈ tb → ∃ p ∈ cs, p.2 = b := fun hb => List.mem_map.mp hb
  have inT : ∀ {p : Addr × Addr}, p ∈ cs → p.2 ∈ tb := fun hp => List.mem_map.mpr ⟨_, hp, rfl⟩
  have isT : ∀ {b : Addr}, b ∈ tb → s₁.heap.get? b = some { cls := .none, data := .fields #[] } := by
    intro b hb
    obtain ⟨p, hp, rfl⟩ := atT hb
    exact empty p hp
  have notA : a ∉ tb := by
    intro z
    have q := isT z
    rw [ha] at q
    cases congrArg Obj.data (Option.some.inj q)
  -- nothing is tracked but the tables and, it may be, the script
  have from_ : ∀ H : Hp, (∀ p ∈ cs, H p.2 = some (.tbl #[])) →
      (∀ b u, H b = some u → b ∉ tb → (∃ o xs, u = .frz o (.lst xs)) ∧ b = a ∧ K.lookup a = none) →
      SqL K H a (ns.map V.int) → HOk P w H s₁.heap →
      codeAny (model P w) callerA (.call (.ref fa) ⟨[.ref a], []⟩)
        (fun r s' => r = .ok (.ret (.bool true)) ∧ OldK s₁.heap s'.heap ∧ s'.os = s₁.os ∧ AllBare s'.gens) s₁ := by
    intro H tabs alone seq okH
    -- an object that is no sequence and no empty record is not tracked
    have off : ∀ {b : Addr} {o : Obj}, s₁.heap.get? b = some o → (∀ us n, o.data ≠ .seq us n) → o.data ≠ .fields #[] → H b = none := by
      intro b o z n1 n2
      cases q : H b with
      | none => rfl
      | some u =>
        by_cases hb : b ∈ tb
        · rw [isT hb] at z
          injection z with z
          subst z
          exact (n2 rfl).elim
        · obtain ⟨_, rfl, _⟩ := alone b u q hb
          rw [ha] at z
          injection z with z
          subst z
          exact (n1 _ _ rfl).elim
    have stay : ∀ {b : Addr} {o : Obj}, s₁.heap.get? b = some o → (∀ us n, o.data ≠ .seq us n) → o.data ≠ .fields #[] →
        (hidT s₁.heap H).get? b = some o := fun z n1 n2 => hidT_get z (off z n1 n2)
    have ns_ : ∀ {b : Addr} {m : Str → Option Value}, s₁.heap.Ns b m → (hidT s₁.heap H).Ns b m := by
      rintro b m ⟨o, es, ep, z, d, r⟩
      refine ⟨o, es, ep, stay z (fun _ _ y => ?_) (fun y => ?_), d, r⟩
      · rw [d] at y
        cases y
      · rw [d] at y
        cases y
    have inH : K.In (hidT s₁.heap H) := by
      intro b o z
      refine hidT_get (inK b o z) ?_
      cases q : H b with
      | none => rfl
      | some u =>
        by_cases hb : b ∈ tb
        · obtain ⟨p, hp, rfl⟩ := atT hb
          rw [offK p hp] at z
          cases z
        · obtain ⟨_, rfl, n⟩ := alone b u q hb
          rw [n] at z
          cases z
    have isB : ∀ p ∈ cs, TabB (hidT s₁.heap H) mg p.1 p.2 := by
      intro p hp
      obtain ⟨og, esg, epg, zg, dg, _⟩ := id nsM
      constructor
      · obtain ⟨o, us, f1, f2, f3, f4, f5, f6, f7, z, r1, r2, r3, r⟩ := code p hp
        refine ⟨o, us, f1, f2, f3, f4, f5, f6, f7, stay z (fun _ _ y => ?_) (fun y => ?_), r1, r2, r3, r⟩
        · rw [r2] at y
          cases y
        · rw [r2] at y
          cases y
          simp at r3
      · obtain ⟨bm, ob, b1, b2, z, b4, b5, b6⟩ := bmod
        refine ⟨bm, ob, b1, b2, fun y => ?_, fun y => ?_, stay z (fun _ _ y => ?_) (fun y => ?_), b4, b5, b6⟩
        · rw [y, zg] at z
          cases z
          rw [dg] at b6
          cases b6
        · rw [y, empty p hp] at z
          cases z
          cases b6
        · rw [b6] at y
          cases y
        · rw [b6] at y
          cases y
      · intro y
        rw [y, empty p hp] at zg
        cases zg
        cases dg
    obtain ⟨mc, l1, l2⟩ := free
    have env0 : Env0 P w K mg (hidT s₁.heap H) callerA [] s₁ H := {
      frames := rfl
      mod := ⟨inH, ns_ nsM, ⟨mb, ns_ nsB, boot⟩, ⟨mc, ns_ l1, l2⟩⟩
      bs := fun b o z => of_hidT z
      bsz := Nat.le_of_eq (hidT_size _ _)
      funs := trivial
      frf := fun b z => nomatch (show b ∈ ([] : List Addr) from z)
      hok := okH
      bare := .of_eq noG }
    refine codeAny_mono ((F _ inH (ns_ nsM) isB).go callerA [] s₁ H ⟨[.ref a], []⟩ [.ref a] [.ref a] _ _ quiet_top rm env0
      (binds s₁ (.ref a)) (.cons rfl .nil) (asked H tabs seq)) fun r s' h => ?_
    match r, h with
    | .error e, h => exact (none_out H e s' h).elim
    | .ok (.ret u), h =>
      obtain ⟨v, H', os, bare, un, okH', rel', (rfl : v = .bl true)⟩ := h
      obtain rfl : u = Value.bool true := rel'
      have same : ∀ b o, b ∉ tb → s₁.heap.get? b = some o → s'.heap.get? b = some o := by
        intro b o nb z
        cases q : H b with
        | none =>
          exact un.keep b o z q (fun y => nomatch (show b ∈ ([] : List Addr) from y)) (by simp)
        | some u =>
          obtain ⟨⟨ob, xs, rfl⟩, _⟩ := alone b u q nb
          have now := (okH b _ q).1
          have then_ := (okH' b _ (un.frzs b ob _ q)).1
          rw [z] at now
          injection now with now
          subst now
          exact then_
      have more : ∀ p ∈ cs, ∃ ps : Array Value, s'.heap.get? p.2 = some { cls := .none, data := .fields ps } := by
        intro p hp
        obtain ⟨ps, z⟩ := un.tbls p.2 #[] (tabs p hp)
        exact ⟨_, okH' p.2 _ z⟩
      refine ⟨rfl, ⟨fun b o z => ?_, fun b o z => ?_⟩, os, bare⟩
      · by_cases hb : b ∈ tb
        · obtain ⟨p, hp, rfl⟩ := atT hb
          obtain ⟨ps, hps⟩ := more p hp
          rw [empty p hp] at z
          injection z with z
          subst z
          exact .inr (.inl ⟨((code p hp).tab (empty p hp)).isCodeTable, rfl, #[], ps, rfl, by rw [Array.empty_append]; exact hps⟩)
        · exact .inl (same b o hb z)
      · by_cases hb : b ∈ tb
        · obtain ⟨p, hp, rfl⟩ := atT hb
          obtain ⟨ps, hps⟩ := more p hp
          exact ⟨_, hps⟩
        · exact ⟨o, same b o hb z⟩
  have tabOk : ∀ {H : Hp} {b : Addr}, b ∈ tb → ObjOk P w H s₁.heap b (.tbl #[]) := fun hb => isT hb
  cases hk : K.lookup a with
  | some o =>
    have z := inK a o hk
    rw [ha] at z
    injection z with z
    subst z
    refine from_ (fun b => if b ∈ tb then some (.tbl #[]) else none) (fun p hp => if_pos (inT hp)) (fun b u z nb => ?_)
      (.inr ⟨_, vs.toArray, _, hk, rfl, rfl, rfl, by rw [List.size_toArray, iv.length]; exact small, by simpa using rel⟩) (fun b u z => ?_)
    · cases (if_neg nb).symm.trans z
    · by_cases hb : b ∈ tb
      · cases (if_pos hb).symm.trans z
        exact tabOk hb
      · cases (if_neg hb).symm.trans z
  | none =>
    refine from_ (fun b => if b ∈ tb then some (.tbl #[]) else if b = a then some (.frz { cls := .type "list", data := .seq vs.toArray } (.lst (ns.map V.int))) else none)
      (fun p hp => if_pos (inT hp)) (fun b u z nb => ?_)
      (.inl (.inr ⟨{ cls := .type "list", data := .seq vs.toArray }, (if_neg notA).trans (if_pos rfl)⟩)) (fun b u z => ?_)
    · have z1 := (if_neg nb).symm.trans z
      by_cases eq : b = a
      · cases (if_pos eq).symm.trans z1
        exact ⟨⟨_, _, rfl⟩, eq, hk⟩
      · cases (if_neg eq).symm.trans z1
    · by_cases hb : b ∈ tb
      · cases (if_pos hb).symm.trans z
        exact tabOk hb
      · have z1 := (if_neg hb).symm.trans z
        by_cases eq : b = a
        · cases (if_pos eq).symm.trans z1
          rw [eq]
          exact ⟨ha, by rw [List.length_map]; exact small, vs, _, rel, ha⟩
        · cases (if_neg eq).symm.trans z1
/-- what is known of the law's promise at the heap that the top leaves -/
def LawAtG (l : PySem.W.OpenLaw) (w : World) (K : PySem.W.Frag) (CX : CXT) (k n : Nat) (x : Str) (mg : Str → Option Value) (fa : Addr) (h : Heap) : Prop :=
  ∃ (fd : FuncData) (cs : List (Addr × Addr)) (sp : Sp),
    (∀ p ∈ cs, h.get? p.2 = some { cls := .none, data := .fields #[] }) ∧ (∀ p ∈ cs, K.lookup p.2 = none) ∧
    (∀ p ∈ cs, PySem.W.CodeHd h p.1 p.2) ∧ (∀ (s : Shared) (u : Value), BindsTo s fd ⟨[u], []⟩ [(x, u)]) ∧
    (∀ (H : Hp) (a : Addr) (ns : List Int), ns.length ≤ n → (∀ p ∈ cs, H p.2 = some (.tbl #[])) → SqL K H a (ns.map V.int) →
      sp [.ref a] H (fun v _ => v = .bl true) fun _ _ _ => False) ∧
    ∀ base : Heap, K.In base → base.Ns mainGlobals mg → (∀ p ∈ cs, TabB base mg p.1 p.2) → FnG l.prog w K mg base CX k fa fd [x] sp
theorem walk_ofGT {l : PySem.W.OpenLaw} {n k : Nat} {q : Program} {loose : List Str} {XP : (Str → Option Value) → Heap → Prop} {YP : World → Heap → Prop} {d : DefRec}
    {K : Params → PySem.W.Frag} {CX : World → CXT} {x : Str}
    (most : l.most = some n) (small : n ≤ sizeLine) (noD : d.params.defaults = []) (rm : Room k callerA)
    (inK : ∀ (w : World) (h : Heap), YP w h → (K w.params).In h)
    (F : ∀ (w : World) (mg : Str → Option Value) (fa : Addr) (h : Heap), YP w h → (K w.params).In h → h.Ns mainGlobals mg → mg d.name = some (.ref fa) →
      LawAtG l w (K w.params) (CX w) k n x mg fa h)
    (none_out : ∀ (w : World) (H : Hp) (s : Shared) (e : Value) (s' : Shared), CX w [] H s (fun _ _ _ => False) e s' → False) :
    PySem.W.WalkO q loose XP YP l.row.toRowW d [] (fun f vs => PySem.call f vs) := by
  refine Att.attach_call most noD fun w s₀ s₁ mg mb fa o pm cd doc a vs ns G Y _ _ _ named obj iv len gens => ?_
  obtain ⟨fd, cs, sp, e1, e2, e3, binds, asked, F1⟩ := F w mg fa _ Y (inK w _ Y) G.T.g named
  exact law_callGT (inK w _ Y) G.T.g G.T.b G.T.builtins G.T.nolimit gens e1 e2 e3 G.T.bmain obj iv (Nat.le_trans len small) rm F1 binds
    (fun H tabs seq => asked H a ns len tabs seq) fun H e s' => none_out w H s₁ e s'
end LamX


/-! `repr` of data: none, bools, ints, texts, lists and tuples of such at any depth, and the empty dict -/
namespace L2
open PySem PySem.Spec PyProof.Rows
/-- data that `repr` tells -/
def Dr (K : PySem.W.Frag) (H : Hp) (v : V) (d : PyData) : Prop :=
  Dp K H v d ∨ ∃ a, v = .ref a ∧ H a = some (.dK []) ∧ d = .dict []
mutual
theorem Dp.noDict {K : PySem.W.Frag} {H : Hp} : ∀ (d : PyData) (v : V), Dp K H v d → d.hasDict = false
  | .none, _, _ => by simp only [PyData.hasDict]
  | .bool _, _, _ => by simp only [PyData.hasDict]
  | .int _, _, _ => by simp only [PyData.hasDict]
  | .str _, _, _ => by simp only [PyData.hasDict]
  | .list ds, _, h => by
    cases h with
    | lst _ r =>
      simp only [PyData.hasDict]
      exact DpAll.noDict ds _ r
  | .tuple ds, _, h => by
    cases h with
    | tup _ r =>
      simp only [PyData.hasDict]
      exact DpAll.noDict ds _ r
  | .dict _, _, h => by cases h
theorem DpAll.noDict {K : PySem.W.Frag} {H : Hp} : ∀ (ds : List PyData) (vs : List V), DpAll K H vs ds → PyData.hasDictAll ds = false
  | [], _, _ => by simp only [PyData.hasDictAll]
  | d :: ds, _, h => by
    cases h with
    | cons h1 h2 =>
      simp only [PyData.hasDictAll, Dp.noDict d _ h1, DpAll.noDict ds _ h2, Bool.or_false]
end
section
variable {X : Cx} {pins : List (Addr × Obj)} {σ : St} {H : Hp} {s : Shared}
theorem Dr.reads (I : Inv X pins σ H s) {d : PyData} {v : V} {u : Value} (h : Dr X.K H v d) (r : RelV v u) :
    ∃ as, Reads s.heap u d as ∧ (d.hasDict = true → sysModules ∉ as) := by
  rcases h with h | ⟨a, rfl, ha, rfl⟩
  · obtain ⟨as, q⟩ := Dp.reads I d v u h r
    exact ⟨as, q, fun z => by rw [Dp.noDict d v h] at z; cases z⟩
  · cases (show u = Value.ref a from r)
    obtain ⟨_, no, vs, kv, o, es, ep, ho, hc, hd, _, hp, _⟩ := (show ObjOk X.prog X.w H s.heap a (.dK []) from I.hok a _ ha)
    have ev : vs = [] := by
      cases (show Paired _ _ _ from kv)
      rfl
    subst ev
    have ee : es.toList = [] := List.eq_nil_of_length_eq_zero hp.length
    refine ⟨a :: [] ++ [], .dict ho hc.1 hd (by rw [ee]; exact .nil) (by rw [ee]; exact .nil), fun _ m => ?_⟩
    simp at m
    rw [m, beq_self_eq_true] at no
    cases no
/-- what `repr` of data asks and gives -/
def rRepr (K : PySem.W.Frag) (vs : List V) (H : Hp) (Q : VK) : Prop :=
  ∃ v d, vs = [v] ∧ Dr K H v d ∧ d.showable = true ∧ d.depth ≤ 60 ∧ d.shown.length ≤ sizeLine ∧ Q (.str d.shown) H
theorem call_repr (g : Quiet X.A) (hu : X.A.units + 64 < cLine) : CallR X (.builtin "repr") (rRepr X.K) := by
  intro pins s σ H xs us Q I r h
  obtain ⟨v, d, rfl, hd, sh, dp, sz, q⟩ := h
  obtain ⟨u, rfl, rv⟩ := vals1 r
  have out : ∀ t s', s' = { s with toks := s.toks + 1 } → EP X pins σ Q (.str d.shown t) s' := by
    rintro t s' rfl
    exact ⟨.str d.shown, H, I.tok _, ⟨_, rfl⟩, q⟩
  cases v with
  | ref a =>
    cases (show u = Value.ref a from rv)
    obtain ⟨as, rd, no⟩ := hd.reads I rv
    refine repr_of_reads' rd sh no g (by omega) (fun b o z => z) (fun h' t tk keep => ?_) sz
    exact ⟨.str d.shown, H, I.kept keep, ⟨_, rfl⟩, q⟩
  | non =>
    cases (show u = Value.none from rv)
    rcases hd with h | ⟨_, z, _⟩
    · cases h
      exact P.repr_of_none (out _ _ rfl)
    · cases z
  | bl b =>
    cases (show u = Value.bool b from rv)
    rcases hd with h | ⟨_, z, _⟩
    · cases h
      have e : PyData.shown (.bool b) = (if b then "True" else "False") := by cases b <;> rfl
      refine P.repr_of_bool ?_
      rw [e] at out
      cases b <;> exact out _ _ rfl
    · cases z
  | int i =>
    obtain ⟨t, rfl⟩ := rv
    rcases hd with h | ⟨_, z, _⟩
    · cases h
      exact P.repr_of_int (of_decide_eq_true sh) (out _ _ rfl)
    · cases z
  | str x =>
    obtain ⟨t, rfl⟩ := rv
    rcases hd with h | ⟨_, z, _⟩
    · cases h
      exact P.repr_of_str (out _ _ rfl) sz
    · cases z
  | _ =>
    rcases hd with h | ⟨_, z, _⟩
    · cases h
    · cases z
end
end L2

/-! ### several clauses, with a name or without one -/
namespace L2
open PySem PySem.Spec PyProof.Rows
/-- a clause: its class, the slot of its name, its suite -/
structure Cl where
  c : Value
  n : Option Nat
  ts : Addr → Value → Option Addr → TS
def Cl.ends (i : Option Nat) (D : Ends) : Ends := match i with
  | none => D
  | some i =>
    { nx := fun σ' H' => D.nx (σ'.set i none) H',
      rt := D.rt,
      bk := fun σ' H' => D.bk (σ'.set i none) H',
      ct := fun σ' H' => D.ct (σ'.set i none) H' }
def Cl.st (i : Option Nat) (σ : St) (a : Addr) : St := match i with
  | none => σ
  | some i => σ.set i (some (.ref a))
def wMix (K : PySem.W.Frag) (Wo : WX) (D : Ends) : List Cl → WX
  | [] => Wo
  | c :: r => fun cls d σ H => ∃ b, PySem.W.exmOne K cls c.c = some b ∧
      (b = true → ∀ a, H a = none → c.ts a cls d (Cl.ends c.n D) (Cl.st c.n σ a) H) ∧
      (b = false → wMix K Wo D r cls d σ H)
inductive HdMix (X : Cx) : List ExceptHandler → List Cl → Prop
  | nil : HdMix X [] []
  | bare {x : Str} {c : Value} {ts : Addr → Value → Option Addr → TS} {b₀ : Stmt} {suite : List Stmt} {np pos' : Pos}
      {hds : List ExceptHandler} {l : List Cl} (hc : Names X x c)
      (hsu : ∀ (a : Addr) (oe : Obj) (cls : Value) (d : Option Addr) (pn : List (Addr × Obj)), Zc cls d oe →
        (∃ vs, oe.data = .fields vs) → PSs (X.suite a ((a, oe) :: pn)) (b₀ :: suite) (ts a cls d))
      (r : HdMix X hds l) :
      HdMix X (.ExceptHandler (some (.Name x np)) none (b₀ :: suite) pos' :: hds) (⟨c, none, ts⟩ :: l)
  | as {x n : Str} {i : Nat} {c : Value} {ts : Addr → Value → Option Addr → TS} {b₀ : Stmt} {suite : List Stmt} {np pos' : Pos}
      {hds : List ExceptHandler} {l : List Cl} (hi : X.N[i]? = some n) (hln : X.env.kindOf n = some .local) (hc : Names X x c)
      (hsu : ∀ (a : Addr) (oe : Obj) (cls : Value) (d : Option Addr) (pn : List (Addr × Obj)), Zc cls d oe →
        (∃ vs, oe.data = .fields vs) → PSs (X.suite a ((a, oe) :: pn)) (b₀ :: suite) (ts a cls d))
      (r : HdMix X hds l) :
      HdMix X (.ExceptHandler (some (.Name x np)) (some n) (b₀ :: suite) pos' :: hds) (⟨c, some i, ts⟩ :: l)
section
variable {X : Cx} {body : List Stmt} {h₀ : ExceptHandler} {hds : List ExceptHandler} {l : List Cl} {pos : Pos}
  {tb : WX → TS} {Wo : WX}
theorem ps_try_mix (hstk : X.stack = X.env :: X.outer) (hfrm : X.env.frame = some X.env.locals) (hND : X.N.Nodup) (tk : Takes X Wo)
    (hbd : ∀ (W : WX) (pn : List (Addr × Obj)) (xe : Value → Shared → Prop), Takes (X.tr pn xe) W →
      PassesOwn (model X.prog X.w) X.A X.env xe → PSs (X.tr pn xe) body (tb W))
    (hhs : HdMix X (h₀ :: hds) l) :
    PS X (.Try body (h₀ :: hds) [] [] pos) (fun D σ H => tb (wMix X.K Wo D l) D σ H) := by
  refine ⟨fun pi sh σa Ha Da Ia hread => ?_⟩
  have okI := Ia.ok
  have frs0 : X.A.frames = some (X.env :: X.outer) := by
    rw [okI.frames, hstk]
  refine wpAny_Try_except ?_
  refine wpAny_mono ((hbd (wMix X.K Wo Da l) (X.pn ++ pi)
    (fun e s₁ => wpAny (model X.prog X.w) X.A (noteFrame e X.env)
      (fun _ s₂ => wpAny (model X.prog X.w) X.A (setFlight e none)
        (fun _ s₃ => wpAny (model X.prog X.w) X.A (handleBy e X.env (h₀ :: hds)) (SP X pi Da) X.xe s₃) X.xe s₂) X.xe s₁)
    (fun u sx xx => ?_) PassesOwn.looking).run [] sh σa Ha Da (Ia.toTry _) hread)
    (fun fl1 s1 hsp => ?_) (fun e s1 he => he)
  · obtain ⟨a, B, sI, pi2, σb, Hb, cls, d, rfl, J', nb, up, sky, na, os, ag, wish⟩ := xx
    have J : Inv X pi σb Hb sI := J'.ofTry okI
    have sky2 : Sky B (X.env :: X.outer) a (Zc cls d) X.env.locals sx.heap := by
      rw [← hstk]
      exact sky
    show wpAny (model X.prog X.w) X.A
      (noteFrame (.ref a) X.env) _ _ _
    refine Sky.land Zc.steady frs0 hfrm sky2
      fun h3 fl3 up3 => ?_
    have J3 : Inv X pi σb Hb { sx with heap := h3 } :=
      J.landed nb fl3.1 (up.trans up3) os ag
    obtain ⟨oe3, vs3, he3, hz3, hd3⟩ := fl3.there
    have apart : ∀ {h : Heap} {o : Obj} {vs : Array Value}, h.FunFrames B (X.env :: X.outer) → h.get? a = some o →
        o.data = .fields vs → a ∉ frs (X.env :: X.outer) := fun {h o vs} ff e dd hm => by
      obtain ⟨_, o2, e2, hnf⟩ := ff.mem hm
      rw [e] at e2
      cases e2
      exact hnf _ dd
    have nfr := apart fl3.2.2.1 he3 hd3
    have nL : a ≠ X.env.locals := fun z =>
      nfr (List.mem_filterMap.mpr ⟨X.env, List.mem_cons_self, by rw [hfrm, z]⟩)
    have nF : a ∉ X.fs := fun hm => by
      obtain ⟨e, he, q⟩ := List.mem_filterMap.mp hm
      exact nfr (List.mem_filterMap.mpr
        ⟨e, List.mem_cons_of_mem _ he, q⟩)
    have S3 := J3.suite he3 hd3 na nL nF
    have LT : PySem.W.Looks (model X.prog X.w) h3 (typeOf (.ref a)) cls :=
      fun A Q E s k q => wpAny_typeOf_ref (k _ _ he3)
        (by rw [hz3.1]; exact q)
    have test : ∀ {x : Str} {c : Value} {np : Pos} {Q : Value → Shared → Prop} {E : Value → Shared → Prop}, Names X x c →
        Q c { sx with heap := h3 } →
        wpAny (model X.prog X.w) (X.A.mark (some (.ref a))) (eval (.Name x np) X.env) Q E { sx with heap := h3 } :=
      fun {x c np Q E} hc q => by
        obtain ⟨hg, hdbg, hm | ⟨hm, hv, hnn⟩⟩ := hc
        · exact ld_glob (X := X.suite a ((a, oe3) :: (X.pn ++ pi)))
            S3 hg hm q hdbg
        · exact ld_blt (X := X.suite a ((a, oe3) :: (X.pn ++ pi)))
            S3 hg hm hv q hnn hdbg
    have go : ∀ {hs2 : List ExceptHandler} {l2 : List Cl}, HdMix X hs2 l2 → wMix X.K Wo Da l2 cls d σb Hb →
        wpAny (model X.prog X.w) X.A (handleBy (.ref a) X.env hs2) (SP X pi Da) X.xe { sx with heap := h3 } := by
      intro hs2 l2 hk
      induction hk with
      | nil =>
        intro wn
        refine wpAny_handleBy_nil ?_
        obtain ⟨k1, k2, k3, oe, vs, T, oT, ts2, he, hz, hd, h1, hr⟩ := id fl3
        unfold PySem.passOn
        refine wpAny_bind
          (wpAny_field he hd h1 ?_)
        rw [if_neg (show ¬ ((Value.ref T == Value.none) = true)
          from by simp)]
        have fin : wpAny (model X.prog X.w) X.A (setFlight (.ref a) X.env.frame)
            (fun _ s4 => wpAny (model X.prog X.w) X.A (throw (.ref a) : Sem Flow) (SP X pi Da) X.xe s4) X.xe
            { sx with heap := h3 } := by
          rw [hfrm]
          refine HandSPX.setFlight_upZ fl3
            fun h4 hh4 up4 => wpAny_throw (tk _ _ ?_)
          exact ⟨a, B, sI, pi, σb, Hb, cls, d, rfl, J, nb, (up.trans up3).trans up4,
            .inr (.inr (by rw [hstk]; exact hh4)), na, os, ag, wn⟩
        first
          | exact wpAny_bind
              (wpAny_pure (wpAny_bind fin))
          | exact wpAny_bind fin
      | @bare x c ts b₀ suite np pos' hds2 l3 hc hsu r ih =>
        intro wn
        obtain ⟨b, hb1, hyes, hno⟩ := wn
        refine wpAny_handleBy_cons
          (codeAny_handlers_test ?_) (by intro q; cases q)
        have LM := PySem.W.exm_one (M := model X.prog X.w)
          (J3.kIn) LT hb1
        refine test hc (LM.here ?_)
        cases b with
        | true =>
          refine codeAny_handlers_suite ?_
          refine HandSPX.lands_againZ fl3
            fun h4 fl4 up4 => ?_
          have J4 : Inv X pi σb Hb { sx with heap := h4 } :=
            J.landed nb fl4.1 ((up.trans up3).trans up4) os ag
          obtain ⟨oe4, vs4, he4, hz4, hd4⟩ := fl4.there
          have S4 := J4.suite he4 hd4 na nL nF
          refine wpAny_mono ((hsu a oe4 cls d (X.pn ++ pi) hz4 ⟨_, hd4⟩).run [] _ _ Hb _ S4
            (hyes rfl a na)) (fun f s6 hsp => ?_) (fun _ _ z => False.elim z)
          cases f with
          | ret u =>
            obtain ⟨v6, σ6, H6, S6, r6, q6⟩ := hsp
            exact ⟨_, _, _, S6.unsuite okI, r6, q6⟩
          | _ =>
            obtain ⟨σ6, H6, S6, q6⟩ := hsp
            exact ⟨_, _, S6.unsuite okI, q6⟩
        | false =>
          show wpAny _ X.A
            (handleBy (.ref a) X.env hds2) _ _ _
          exact ih (hno rfl)
      | @as x n i c ts b₀ suite np pos' hds2 l3 hi hln hc hsu r ih =>
        intro wn
        obtain ⟨b, hb1, hyes, hno⟩ := wn
        refine wpAny_handleBy_cons
          (codeAny_handlers_test ?_) (by intro q; cases q)
        have LM := PySem.W.exm_one (M := model X.prog X.w)
          (J3.kIn) LT hb1
        refine test hc (LM.here ?_)
        cases b with
        | true =>
          refine codeAny_handlers_suite_as ?_
          refine HandSPX.lands_againZ fl3
            fun h4 fl4 up4 => ?_
          have J4 : Inv X pi σb Hb { sx with heap := h4 } :=
            J.landed nb fl4.1 ((up.trans up3).trans up4) os ag
          obtain ⟨oe4, vs4, he4, hz4, hd4⟩ := fl4.there
          have S4 := J4.suite he4 hd4 na nL nF
          refine store_ok (X := X.suite a ((a, oe4) :: (X.pn ++ pi))) (v := .ref a) S4 hND hi (.inl hln) rfl
            (fun s5 S5 => ?_) (.inr hln)
          refine wpAny_mono ((hsu a oe4 cls d (X.pn ++ pi) hz4 ⟨_, hd4⟩).run [] s5 _ Hb _ S5
            (hyes rfl a na)) (fun f s6 hsp => ?_) (fun _ _ z => False.elim z)
          have done : ∀ {σ6 : St} {H6 : Hp} {Q : Shared → Prop}, Inv (X.suite a ((a, oe4) :: (X.pn ++ pi))) [] σ6 H6 s6 →
              (∀ s7, Inv X pi (σ6.set i none) H6 s7 → Q s7) →
              wpAny (model X.prog X.w) X.A (do bindName X.env n .none; unbindBehindTheSuite X.env n pos') (fun _ s7 => Q s7) X.xe s6 :=
            fun {σ6 H6 Q} S6 hq => gone_ok (S6.unsuite okI) hND hi hln hq
          cases f with
          | ret u =>
            obtain ⟨v6, σ6, H6, S6, r6, q6⟩ := hsp
            exact done S6 fun s7 J7 => ⟨_, _, _, J7, r6, q6⟩
          | _ =>
            obtain ⟨σ6, H6, S6, q6⟩ := hsp
            exact done S6 fun s7 J7 => ⟨_, _, J7, q6⟩
        | false =>
          show wpAny _ X.A
            (handleBy (.ref a) X.env hds2) _ _ _
          exact ih (hno rfl)
    exact go hhs wish
  · cases fl1 with
    | next =>
      obtain ⟨σ2, H2, J2, q⟩ := hsp
      exact wpAny_execs_nil
        ⟨σ2, H2, J2.ofTry okI, q⟩
    | ret u =>
      obtain ⟨v, σ2, H2, J2, r, q⟩ := hsp
      exact ⟨v, σ2, H2, J2.ofTry okI, r, q⟩
    | _ =>
      obtain ⟨σ2, H2, J2, q⟩ := hsp
      exact ⟨σ2, H2, J2.ofTry okI, q⟩
end
end L2

/-! ### own errors whose __init__ keeps what it takes, over any base; KeyError's base makes them by LookupError's own maker -/
namespace PySem
namespace ERR
open PySem.W PySem.Calls PyProof.Rows PySem.HandSPX
/-- a store into an error has the object's own rule, for KeyError too -/
theorem store_key : StoreFacts "KeyError"
    [.type "KeyError", .type "LookupError", .type "Exception", .type "BaseException", .type "object"]
    "object.__setattr__" "object" where
  mro := by
    kernel_rfl
  slot := .of (owner := "object") (n := "__setattr__")
    (by
      rw [typeLookup_type, builtinLookup_eq_fast]
      kernel_rfl)
    (by decide +kernel)
    (by decide +kernel)
    (by decide +kernel)
    (by
      first
        | exact .inl (by decide +kernel)
        | exact .inr (by decide +kernel))
    (by
      rw [isSubtype_type]
      kernel_rfl)
  entry := F.entry_object_sa
  kind := by
    decide +kernel
  split := by
    decide +kernel
  hasOwner := by
    decide +kernel
  args := fun a b c => by
    unfold argsOk
    kernel_rfl
  passes := fun self => by
    kernel_rfl
section
variable {M : Model} {A : Around} {E : Value → Shared → Prop}
  {h : Heap} {g : Array GenState} {d : Drawn} {t : Nat} {os : OsState}
variable {nm q : Str} {C N : Addr} {bs bm bmB : List Value} {hdct : Bool} {sn : List Str} {sub : List Value} {ab : Bool}
  {col : Option Bool} {dd : Option Addr} {k0 k1 k2 k3 k5 : Option Value} {B newId initId : String}
/-- what is asked of the classes above: the maker's owner is among them, two others are not -/
structure Above (B : String) (bm : List Value) : Prop where
  b : bm.contains (.type B) = true
  a : bm.contains (.type "AttributeError") = false
  n : bm.contains (.type "NameError") = false
theorem ok_new (F : ExcBaseFacts B newId initId bmB) (hT : Above B bm) {rest : List Value} {Q : Unit → Shared → Prop}
    (hC : h.get? C = some (excClassObj nm q C N bs bm hdct sn sub ab col dd k0 k1 k2 k3 k5 newId))
    (hq : Q () ⟨h, g, d, t, os⟩) :
    wpAny M A (checkBuiltinCall newId ⟨.ref C :: rest, []⟩) Q E ⟨h, g, d, t, os⟩ := by
  have hc : (Value.ref C :: bm).contains (.type B) = true := by
    rw [List.contains_cons, hT.b, Bool.or_true]
  have hs := F.noStar
  simp only [checkBuiltinCall, F.newKind, F.newSplit, F.newRow]
  repeat (first
    | refine wpAny_loadPart_at hC ?_
    | (refine wpAny_isSubtype_exc hC ?_
       rw [hc])
    | refine wpAny_staticBase_exc hC ?_
    | refine wpAny_madeBy_exc hC ?_
    | simp only [bne_self_eq_false, Bool.false_eq_true,
        if_false]
    | wp_step)
  exact hq
end
section
variable {prog : Program} {w : World} {A : Around} {E : Value → Shared → Prop} {R : Result → Shared → Prop}
  {h : Heap} {g : Array GenState} {d : Drawn} {t : Nat} {os : OsState}
variable {nm q : Str} {C N : Addr} {bs bm bmB : List Value} {hdct : Bool} {sn : List Str} {sub : List Value} {ab : Bool}
  {col : Option Bool} {dd : Option Addr} {k0 k1 k2 k3 k5 : Option Value} {B newId initId : String}
theorem do_new (F : ExcBaseFacts B newId initId bmB) (hT : Above B bm) {rest : List Value}
    (hC : h.get? C = some (excClassObj nm q C N bs bm hdct sn sub ab col dd k0 k1 k2 k3 k5 newId))
    (hq : R (.ok (.ret (.ref (h.objs.size + 1)))) ⟨(h.push (kdv_tup rest)).push (excO C h.objs.size), g, d, t, os⟩)
    (hrest : rest.length ≤ sizeLine) :
    codeAny (model prog w) A (.builtin newId ⟨.ref C :: rest, []⟩) R ⟨h, g, d, t, os⟩ := by
  have he := F.ends
  have hB : (Value.ref C :: bm).contains (.type B) = true := by
    rw [List.contains_cons, hT.b, Bool.or_true]
  have hA : (Value.ref C :: bm).contains (.type "AttributeError") = false := by
    rw [List.contains_cons, hT.a]
    rfl
  have hN : (Value.ref C :: bm).contains (.type "NameError") = false := by
    rw [List.contains_cons, hT.n]
    rfl
  refine codeAny_builtinAt F.entry ?_
  unfold Builtin.«BaseException.__new__»
  refine wpAt_bind ?_
  show wpAt _ _ _
    (stack >>= _) _ _ _
  refine wpAt_bind (wpAt_stack
    fun p below => wpAt_of_wpAny ?_)
  wp_walk
  refine wpAt_of_wpAny ?_
  rw [F.owner]
  repeat (first
    | with_reducible refine
        wpAny_madeHere_exc F.canon hC ?_
    | with_reducible refine
        wpAny_loadPart_at hC ?_
    | (with_reducible refine
         wpAny_isSubtype_exc hC ?_
       first | rw [hB] | rw [hA] | rw [hN])
    | wp_step)
  show R _ _
  rw [Heap.size_push]
  exact hq
theorem do_call (F : ExcBaseFacts B newId initId bmB) (hT : Above B bm) {rest : List Value} {fI : Addr} {Q : Fin → Shared → Prop}
    (hC : h.get? C = some (excClassObj nm q C N bs bm hdct sn sub ab col dd k0 k1 k2 k3 k5 newId))
    (hi : Looks (model prog w) h (typeLookup (.ref C) "__init__") (some (.ref fI)))
    (hb : ∀ self, Looks (model prog w) h (bindSpecial (.ref fI) self) (.ref fI, [self]))
    (hrest : rest.length ≤ sizeLine)
    (hq : codeAny (model prog w) A (.call (.ref fI) ⟨.ref (h.objs.size + 1) :: rest, []⟩)
      (fun r s' => match r with
        | .ok (.ret v) => v = .none ∧ Q (.done (.ret (.ref (h.objs.size + 1)))) s'
        | .ok _ => False
        | .error e => E e s')
      ⟨(h.push (kdv_tup rest)).push (excO C h.objs.size), g, d, t, os⟩) :
    wpAny (model prog w) A (Builtin.«type.__call__» ⟨.ref C :: rest, []⟩) Q E ⟨h, g, d, t, os⟩ := by
  repeat (first
    | with_reducible refine
        wpAny_loadPart_at hC ?_
    | with_reducible refine
        wpAny_madeBy_exc hC ?_
    | wp_step)
  refine codeAny_call_builtin_code (Code.quiet_builtin _ F.quiet) (ok_new F hT hC ?_)
  refine do_new F hT hC ?_ hrest
  show wpAny _ _ _ _ _ _
  have k : ∀ b o, h.get? b = some o → ((h.push (kdv_tup rest)).push (excO C h.objs.size)).get? b = some o :=
    fun b o e => Heap.get?_push_of_some _ (Heap.get?_push_of_some _ e)
  have hC1 := k _ _ hC
  have hg : ((h.push (kdv_tup rest)).push (excO C h.objs.size)).get? (h.objs.size + 1) = some (excO C h.objs.size) := by
    heap_get
  have hcC : (Value.ref C :: bm).contains (.ref C) = true := by
    simp
  have i1 := hi.keeps k
  have b1 := (hb (.ref (h.objs.size + 1))).keeps k
  unfold isInstance
  repeat (first
    | with_reducible refine
        wpAny_loadPart_at hg ?_
    | (with_reducible refine
         wpAny_isSubtype_exc hC1 ?_
       rw [hcC])
    | wp_step)
  show wpAny _ _
    (typeLookup (.ref C) _) _ _ _
  refine i1.at ?_
  refine wpAny_holding
    (wpAny_bind (b1.at ?_))
  refine wpAny_bind (wpAny_call (codeAny_mono hq
    fun r s' z => ?_))
  rcases r with e | (v | _ | _ | _)
  all_goals first
    | exact z
    | exact z.elim
    | skip
  obtain ⟨rfl, z⟩ := z
  first
    | exact wpAny_pure
        (wpAny_pure z)
    | (wp_walk
       exact z)
theorem do_make (F : ExcBaseFacts B newId initId bmB) (hT : Above B bm) {rest : List Value} {fI : Addr}
    (hC : h.get? C = some (excClassObj nm q C N bs bm hdct sn sub ab col dd k0 k1 k2 k3 k5 newId))
    (hi : Looks (model prog w) h (typeLookup (.ref C) "__init__") (some (.ref fI)))
    (hb : ∀ self, Looks (model prog w) h (bindSpecial (.ref fI) self) (.ref fI, [self]))
    (hrest : rest.length ≤ sizeLine)
    (hq : codeAny (model prog w) (A.under (.builtin "type.__call__" ⟨.ref C :: rest, []⟩))
      (.call (.ref fI) ⟨.ref (h.objs.size + 1) :: rest, []⟩) (InitBack (h.objs.size + 1) R)
      ⟨(h.push (kdv_tup rest)).push (excO C h.objs.size), g, d, t, os⟩) :
    codeAny (model prog w) A (.call (.ref C) ⟨rest, []⟩) R ⟨h, g, d, t, os⟩ := by
  have f1 := tc_lookup
  have f2 := tc_bind (.ref C)
  have hTy : (⟨h, g, d, t, os⟩ : Shared).TypeIs (.ref C) "type" := ⟨_, hC, rfl⟩
  refine codeAny_of_tree ?_
  show wpAny _ _
    (callAny (.ref C) _) _ _ _
  repeat (any_goals (first
    | assumption
    | with_reducible refine
        wpAny_loadPart_at hC ?_
    | wp_step))
  refine ⟨rfl, ?_⟩
  refine codeAny_call_builtin_at
    (Code.quiet_builtin _ (by decide +kernel))
    entry_typeCall
    (wpAny_check_type_call_sub hC
      (do_call F hT hC hi hb hrest ?_))
  refine codeAny_mono hq
    fun r s' z => ?_
  rcases r with e | (v | _ | _ | _)
  all_goals exact z
end
section
open Builtin Builtin.ObjectAttr
variable {prog : Program} {w : World} {A : Around} {R : Result → Shared → Prop}
  {hp : Heap} {g : Array GenState} {d : Drawn} {t : Nat} {os : OsState}
/-- self.f = v on an error that has no dict as yet -/
theorem keep_new {K : Frag} {B : String} {bmB : List Value} {name : Str} {tk : Tok} {v : Value} {x C : Addr} {fv : Array Value}
    (SF : StoreFacts B bmB "object.__setattr__" "object") (X : K.In hp)
    (hx : hp.get? x = some { cls := .ref C, data := .fields fv }) (ov : excOver K C bmB = true) (hd : hasDictIn K C = true)
    (ha : findIn K (.ref C) name = some none)
    (hq : ∀ h' tk' dx, (∀ b o, b ≠ x → hp.get? b = some o → h'.get? b = some o) → hp.objs.size ≤ dx → dx ≠ x →
      h'.get? x = some { cls := .ref C, dict := some dx, data := .fields fv } →
      h'.Ns1 dx (fun y => if y = name then some v else none) → R (.ok (.ret .none)) ⟨h', g, d, tk', os⟩) :
    codeAny (model prog w) A (.call (.builtin "object.__setattr__") ⟨[.ref x, .str name tk, v], []⟩) R ⟨hp, g, d, t, os⟩ := by
  have hxs : x ≠ hp.objs.size := Nat.ne_of_lt (Heap.lt_size hx)
  refine osa_openX (s := ⟨hp, g, d, t, os⟩) (r := none) SF X (od := none) ⟨hx, rfl, rfl, trivial⟩ ov
    (by
      unfold takerIn
      rw [ha]
      rfl) fun b => ?_
  show wpAny _ _
    (storeInOwnDict (.ref x) (.ref C) (.str name tk) name v b) _ _ _
  obtain ⟨cd, hcd, hh⟩ := any_some hd
  have hcls : Looks (model prog w) hp (classData C) cd := looks_clsIn X hcd
  obtain ⟨nm, bs, mro, ns, qn, hd', sn, sb, ab, col, del⟩ := cd
  dsimp only at hh
  subst hh
  unfold storeInOwnDict ownDictForStores
  repeat (first
    | (with_reducible refine PySem.HandSPX.store_in_new ?_ ?_)
    | with_reducible refine
        wpAny_loadPart_at hx ?_
    | with_reducible refine hcls.at ?_
    | wp_step)
  · exact ⟨_, #[], _, (Heap.get?_update_ne _ _ _ _ hxs.symm).trans (Heap.get?_push_at rfl rfl), rfl,
      fun e he => absurd he (by simp), fun _ => rfl⟩
  · intro h' tk' hn' hs
    have h1 : (hp.push { cls := .type "dict", data := .dict #[] }).get? x = some { cls := .ref C, data := .fields fv } :=
      Heap.get?_push_of_some _ hx
    refine hq h' tk' hp.objs.size (fun b o hb ho => ?_) (Nat.le_refl _) hxs.symm ?_ hn'
    · exact (hs.2 b (Nat.ne_of_lt (Heap.lt_size ho))).trans
        ((Heap.get?_update_ne _ _ _ _ hb).trans (Heap.get?_push_of_some _ ho))
    · exact (hs.2 x hxs).trans
        (Heap.get?_update_self _ h1 rfl)
end
end ERR
end PySem


namespace PySem
namespace ERR.InvalidCount
open PySem.W PySem.Calls PyProof.Rows PySem.HandSPX
/-! the error InvalidCount, which keeps value -/
def eA (p1 p2 : Pos) : Arguments :=
  { posonlyargs := [],
    args := [{ arg := "self", annotation := none, pos := p1 }, { arg := "value", annotation := none, pos := p2 }],
    vararg := none, kwonlyargs := [], kw_defaults := [],
    kwarg := none, defaults := [] }
def eB (q1 q2 q3 q4 : Pos) : List Stmt :=
  [.Assign [.Attribute (.Name "self" q1) "value" q2] (.Name "value" q3) q4]
def eS : Scope :=
  { kind := .function,
    names := [(PySem.Str.ofString "self", .local), (PySem.Str.ofString "value", .local)],
    isGenerator := false, isCoroutine := false, more := [] }
abbrev bmC : List Value := [.type "IndexError", .type "LookupError", .type "Exception", .type "BaseException", .type "object"]
structure Txt (K : Frag) (mg : Str → Option Value) (C fI : Addr) : Prop where
  gC : mg "InvalidCount" = some (.ref C)
  ini : excInitIn K C bmC "IndexError.__new__" = true
  over : excOver K C bmC = true
  sa : findIn K (.ref C) "__setattr__" = some (some (.builtin "object.__setattr__"))
  ga : findIn K (.ref C) "__getattribute__" = some (some (.builtin "BaseException.__getattribute__"))
  gg : findIn K (.ref C) "__getattr__" = some none
  noN : findIn K (.ref C) "value" = some none
  iC : findIn K (.ref C) "__init__" = some (some (.ref fI))
  tC : typeIn K (.ref fI) = some (.type "function")
  kC : keepIn K (.ref C) = true
  exC : subIn K (.ref C) (.type "BaseException") = some true
  tyC : typeIn K (.ref C) = some (.type "type")
  hdC : hasDictIn K C = true
  te : exmOne K (.ref C) (.ref C) = some true
  fn : ∃ (oc : Value) (od : Option Addr) (doc pm : Value) (an : Option Addr) (cdv ct : Value) (osl : Array (Option Value)) (p1 p2 q1 q2 q3 q4 : Pos),
    K.lookup fI = some ⟨oc, od, .func (fnOf "__init__" "InvalidCount.__init__" (eA p1 p2) (eB q1 q2 q3 q4) eS .none .none doc pm an cdv ct), osl⟩ ∧
    codeIn K cdv "InvalidCount.__init__" = true
theorem above {bm : List Value} (h : ∀ Y : String, bm.contains (.type Y) = bmC.contains (.type Y)) : Above "IndexError" bm :=
  ⟨(h _).trans (by decide +kernel), (h _).trans (by decide +kernel), (h _).trans (by decide +kernel)⟩
structure Inited (h h' : Heap) (x C dx t1 : Addr) (v : Value) : Prop where
  keep : ∀ b o, b ≠ x → h.get? b = some o → h'.get? b = some o
  obj : h'.get? x = some { cls := .ref C, dict := some dx, data := .fields #[.ref t1, .none, .none, .none, .bool false, .none] }
  dbig : h.objs.size ≤ dx
  dne : dx ≠ x
  ns : h'.Ns1 dx (fun y => if y = "value" then some v else none)
structure Made (h h' : Heap) (e C d : Addr) (v : Value) : Prop where
  keep : ∀ b o, h.get? b = some o → h'.get? b = some o
  new : h.objs.size ≤ e
  obj : ∃ oe vs, h'.get? e = some oe ∧ oe.cls = .ref C ∧ oe.dict = some d ∧ oe.data = .fields vs ∧ vs[1]? = some .none
  dbig : h.objs.size ≤ d
  dne : d ≠ e
  ns : h'.Ns1 d (fun y => if y = "value" then some v else none)
theorem local_at {M : Model} {s : Shared} {name : Str} {scope : Scope} {L a : Addr} {cd : Value} {m : Str → Option Value} {x : Str} {pos : Pos} {v : Value}
    {Q : Value → Shared → Prop} {A : Around} {E : Value → Shared → Prop} (hn : s.heap.Ns L m) (hv : m x = some v) (h : Q v s)
    (hk : scope.kind = .function := by rfl)
    (hl : (envOfC name scope L a cd).kindOf x = some .local := by rfl)
    (hd : (x == ("__debug__" : Str)) = false := by decide) :
    wpAny M A (eval (.Name x pos) (envOfC name scope L a cd)) Q E s :=
  wpAny_Name (wpAny_loadName_local hk hl hn hv h) hd
section
variable {prog : Program} {w : World} {A : Around} {E : Value → Shared → Prop} {R : Result → Shared → Prop} {s : Shared}
  {K : Frag} {mg : Str → Option Value} {C fI : Addr}
theorem inits (T : Txt K mg C fI) {x t0 : Addr} {v : Value} (X : K.In s.heap) (hlim : s.heap.NoLimit)
    (hx : s.heap.get? x = some (excO C t0)) (hnx : K.lookup x = none) (hroom : A.depth < recursionLimit)
    (hq : ∀ h' tk dx, Inited s.heap h' x C dx t0 v → R (.ok (.ret .none)) { s with heap := h', toks := tk }) :
    codeAny (model prog w) A (.call (.ref fI) ⟨[.ref x, v], []⟩) R s := by
  obtain ⟨oc, od, doc, pm, an, cdv, ct, osl, p1, p2, q1, q2, q3, q4, ho, hcd⟩ := T.fn
  refine Att.call_fn (binds := [("self", .ref x), ("value", v)]) X hlim ho hcd hroom
    (BindsTo.of_eq (by first | rfl | with_unfolding_all rfl))
    (by first | rfl | decide | with_unfolding_all rfl)
    (fun s₁ IC => ?_) rfl rfl rfl
  obtain ⟨h₁, tk₁, rfl⟩ := IC.toInCall.same
  have k : ∀ b o, s.heap.get? b = some o → h₁.get? b = some o :=
    IC.toInCall.keep
  have hn := IC.toInCall.ns
  have X₁ : K.In h₁ := X.keeps k
  have hx₁ := k _ _ hx
  show wpAny _ _
    (execs _ _) _ _ _
  refine wpAny_execs_cons
    (plainObj_wpAny_Assign_Attribute ?_)
  refine local_at (v := v) hn
    (by first | rfl | with_unfolding_all rfl | kernel_rfl)
    (local_at (v := .ref x) hn
      (by first | rfl | with_unfolding_all rfl | kernel_rfl) ?_)
  refine set_plain X₁ (ox := excO C t0) (od := none)
    ⟨hx₁, rfl, rfl, trivial⟩ T.sa ?_
  refine keep_new PySem.F.store_IndexError X₁ hx₁ T.over T.hdC T.noN
    (fun h₃ tk₃ dx k₃ dn dne hx₃ hn₃ => ?_)
  show wpAny _ _
    (execs _ _) _ _ _
  have z : s.heap.objs.size < h₁.objs.size := hn.lt
  exact wpAny_execs_nil (hq h₃ tk₃ dx
    ⟨fun b o hb e => k₃ b o hb (k b o e), hx₃, Nat.le_of_lt (Nat.lt_of_lt_of_le z dn), dne, hn₃⟩)
theorem makes (T : Txt K mg C fI) {v : Value} (X : K.In s.heap) (hlim : s.heap.NoLimit) (hroom : A.depth + 1 < recursionLimit)
    (hq : ∀ h' tk e d, Made s.heap h' e C d v → R (.ok (.ret (.ref e))) { s with heap := h', toks := tk }) :
    codeAny (model prog w) A (.call (.ref C) ⟨[v], []⟩) R s := by
  obtain ⟨nm, N, qn, bs, bm, hdct, sn, sub, ab, col, dd, k0, k1, k2, k3, k5, hC, hbm⟩ := excInit_of X T.ini
  obtain ⟨hp, g, dr, tk, os⟩ := s
  have k : ∀ b o, hp.get? b = some o → ((hp.push (kdv_tup [v])).push (excO C hp.objs.size)).get? b = some o :=
    fun b o e => Heap.get?_push_of_some _ (Heap.get?_push_of_some _ e)
  have hget : ((hp.push (kdv_tup [v])).push (excO C hp.objs.size)).get? (hp.objs.size + 1) = some (excO C hp.objs.size) := by
    heap_get
  have hnx : K.lookup (hp.objs.size + 1) = none := by
    cases e : K.lookup (hp.objs.size + 1) with
    | none => rfl
    | some o =>
      have z : hp.get? (hp.objs.size + 1) = some o := X _ _ e
      exact absurd (Nat.lt_of_succ_lt (Heap.lt_size z)) (Nat.lt_irrefl _)
  have hz : [v].length ≤ sizeLine := by
    show 1 ≤ sizeLine
    decide
  refine do_make PySem.F.excBase_IndexError (above hbm) hC (looks_findIn X T.iC)
    (fun self => bind_fn X self T.tC) hz ?_
  refine inits (s := ⟨(hp.push (kdv_tup [v])).push (excO C hp.objs.size), g, dr, tk, os⟩) T (X.keeps k) (hlim.keeps k) hget hnx ?_
    fun h' tk' dx ⟨k', hx, dn, dne, hns⟩ => ?_
  · show A.depth + 1 < recursionLimit
    exact hroom
  · have old : ∀ b o, hp.get? b = some o → h'.get? b = some o :=
      fun b o e => k' b o (Nat.ne_of_lt (Nat.lt_succ_of_lt (Heap.lt_size e))) (k b o e)
    have z : hp.objs.size + 1 + 1 ≤ dx := by
      first
        | (simpa only [Heap.size_push] using dn)
        | exact dn
        | (have q := dn
           rw [Heap.size_push, Heap.size_push] at q
           exact q)
    exact ⟨rfl, hq h' tk' (hp.objs.size + 1) dx
      ⟨old, Nat.le_succ _, ⟨_, _, hx, rfl, rfl, rfl, rfl⟩,
        Nat.le_trans (Nat.le_trans (Nat.le_succ _) (Nat.le_succ _)) z, dne, hns⟩⟩
end
end ERR.InvalidCount
end PySem
namespace L2
open PySem PySem.Spec PyProof.Rows
namespace EInvalidCount
theorem rel1 {v : V} {v' : Value} (r : RelV v v') (n : Str) :
    RelO (List.lookup n [(("value" : Str), v)]) (if n = "value" then some v' else none) := by
  by_cases hw : n = "value"
  · subst hw
    rw [if_pos rfl]
    have q : List.lookup ("value" : Str) [(("value" : Str), v)] = some v := by
      simp [List.lookup]
    rw [q]
    exact r
  · rw [if_neg hw]
    have qw : (n == ("value" : Str)) = false := by
      simpa using hw
    have q2 : List.lookup n [(("value" : Str), v)] = none := by
      simp [List.lookup, qw]
    rw [q2]
    trivial
theorem look1 (v : V) : List.lookup ("value" : Str) [(("value" : Str), v)] = some v := by
  simp [List.lookup]
section
variable {X : Cx} {C fI : Addr}
/-- the reading of a call of the error: its dict, new, holds what it takes -/
def tMk (C : Addr) (ta : TA) : St → Hp → XK → Prop := fun σ H Q =>
  ta σ H fun vs H1 => ∃ v, vs = [v] ∧
    ∀ d, H1 d = none → Q (.ref C) (some d) (upd H1 d (.xd [(("value" : Str), v)]))
theorem pmk {a : Expr} {ta : TA} {p pos : Pos} {k : Nat} (T : PySem.ERR.InvalidCount.Txt X.K X.mg C fI) (hr : Room k X.A) (ha : PA X [a] ta)
    (hg : Gl X "InvalidCount" := by rfl)
    (he : starEach (a :: []) X.env = (false, eval a X.env) :: starEach [] X.env := by rfl)
    (hpl : (backTo pos (starEach [] X.env)).any (·.1) = false := by rfl) :
    PMk X (.Call (.Name "InvalidCount" p) [a] [] pos) (tMk C ta) := by
  intro pins s σ H Q I h
  refine wpAny_Call_Name_kw
    (ld_glob I hg T.gC ?_)
  refine PySem.W.callWith_K (h₀ := X.base) I.ok.mod.kin T.kC
    (thn (ha.run pos pins s σ H _ I h) fun us s1 hh => ?_) he hpl
  obtain ⟨vs, H1, I1, r1, v, ev, q1⟩ := hh
  subst ev
  refine ⟨I1.kIn, ?_⟩
  cases r1 with
  | cons rv rn =>
    rename_i v' us'
    cases rn
    show wpAny _ _
      (call (.ref C) [v']) _ _ _
    have hlim := I1.nolimit
    obtain ⟨hp, g, dr, tk, os⟩ := s1
    refine wpAny_call (PySem.ERR.InvalidCount.makes T I1.kIn hlim
      (by have := hr.dp; omega) fun h' tk' e d M => ?_)
    show MkP X pins σ Q (.ref e) ⟨h', g, dr, tk', os⟩
    obtain ⟨oe, fv, hoe, hc, hd, hdat, h1⟩ := M.obj
    have hns := M.ns
    obtain ⟨G', g1, g2⟩ := restrict h'
      fun b => decide (b ≠ e)
    have gk : ∀ b, b ≠ e → G'.get? b = h'.get? b :=
      fun b hb => g1 b (decide_eq_true hb)
    have ge : G'.get? e = none := g2 e (by simp)
    have old : ∀ b o, hp.get? b = some o → G'.get? b = some o := fun b o q =>
      (gk b (Nat.ne_of_lt (Nat.lt_of_lt_of_le (Heap.lt_size q) M.new))).trans (M.keep b o q)
    have ob : ObjOk X.prog X.w (upd H1 d (.xd [(("value" : Str), v)])) G' d (.xd [(("value" : Str), v)]) :=
      ⟨_, hns.at (fun o q => (gk d M.dne).trans q), fun n => rel1 rv n⟩
    have J : Inv X pins σ (upd H1 d (.xd [(("value" : Str), v)])) ⟨G', g, dr, tk', os⟩ :=
      I1.laid (t' := tk') old M.dbig ob
    refine ⟨e, oe, fv, ⟨G', g, dr, tk', os⟩, _, .ref C, some d, rfl, J, fun b o q => ?_, ge, hoe, ⟨hc, hd⟩, hdat, h1, ?_, rfl, I1.bare,
      raises_own T.exC T.tyC, q1 d (I1.hok.fresh M.dbig)⟩
    · by_cases hb : b = e
      · have q' : G'.get? b = some o := q
        rw [hb, ge] at q'
        cases q'
      · exact (gk b hb).symm.trans q
    · rw [upd_ne (Ne.symm M.dne)]
      exact I1.hok.fresh M.new
def xf (T : PySem.ERR.InvalidCount.Txt X.K X.mg C fI) : XfC X.K C := ⟨T.ga, T.gg, T.exC, T.hdC⟩
end
end EInvalidCount
end L2


namespace PySem
namespace ERR.TooMany
open PySem.W PySem.Calls PyProof.Rows PySem.HandSPX
/-! the error TooMany, which keeps limit -/
def eA (p1 p2 : Pos) : Arguments :=
  { posonlyargs := [],
    args := [{ arg := "self", annotation := none, pos := p1 }, { arg := "limit", annotation := none, pos := p2 }],
    vararg := none, kwonlyargs := [], kw_defaults := [],
    kwarg := none, defaults := [] }
def eB (q1 q2 q3 q4 : Pos) : List Stmt :=
  [.Assign [.Attribute (.Name "self" q1) "limit" q2] (.Name "limit" q3) q4]
def eS : Scope :=
  { kind := .function,
    names := [(PySem.Str.ofString "self", .local), (PySem.Str.ofString "limit", .local)],
    isGenerator := false, isCoroutine := false, more := [] }
abbrev bmC : List Value := [.type "OverflowError", .type "ArithmeticError", .type "Exception", .type "BaseException", .type "object"]
structure Txt (K : Frag) (mg : Str → Option Value) (C fI : Addr) : Prop where
  gC : mg "TooMany" = some (.ref C)
  ini : excInitIn K C bmC "OverflowError.__new__" = true
  over : excOver K C bmC = true
  sa : findIn K (.ref C) "__setattr__" = some (some (.builtin "object.__setattr__"))
  ga : findIn K (.ref C) "__getattribute__" = some (some (.builtin "BaseException.__getattribute__"))
  gg : findIn K (.ref C) "__getattr__" = some none
  noN : findIn K (.ref C) "limit" = some none
  iC : findIn K (.ref C) "__init__" = some (some (.ref fI))
  tC : typeIn K (.ref fI) = some (.type "function")
  kC : keepIn K (.ref C) = true
  exC : subIn K (.ref C) (.type "BaseException") = some true
  tyC : typeIn K (.ref C) = some (.type "type")
  hdC : hasDictIn K C = true
  te : exmOne K (.ref C) (.ref C) = some true
  fn : ∃ (oc : Value) (od : Option Addr) (doc pm : Value) (an : Option Addr) (cdv ct : Value) (osl : Array (Option Value)) (p1 p2 q1 q2 q3 q4 : Pos),
    K.lookup fI = some ⟨oc, od, .func (fnOf "__init__" "TooMany.__init__" (eA p1 p2) (eB q1 q2 q3 q4) eS .none .none doc pm an cdv ct), osl⟩ ∧
    codeIn K cdv "TooMany.__init__" = true
theorem above {bm : List Value} (h : ∀ Y : String, bm.contains (.type Y) = bmC.contains (.type Y)) : Above "OverflowError" bm :=
  ⟨(h _).trans (by decide +kernel), (h _).trans (by decide +kernel), (h _).trans (by decide +kernel)⟩
structure Inited (h h' : Heap) (x C dx t1 : Addr) (v : Value) : Prop where
  keep : ∀ b o, b ≠ x → h.get? b = some o → h'.get? b = some o
  obj : h'.get? x = some { cls := .ref C, dict := some dx, data := .fields #[.ref t1, .none, .none, .none, .bool false, .none] }
  dbig : h.objs.size ≤ dx
  dne : dx ≠ x
  ns : h'.Ns1 dx (fun y => if y = "limit" then some v else none)
structure Made (h h' : Heap) (e C d : Addr) (v : Value) : Prop where
  keep : ∀ b o, h.get? b = some o → h'.get? b = some o
  new : h.objs.size ≤ e
  obj : ∃ oe vs, h'.get? e = some oe ∧ oe.cls = .ref C ∧ oe.dict = some d ∧ oe.data = .fields vs ∧ vs[1]? = some .none
  dbig : h.objs.size ≤ d
  dne : d ≠ e
  ns : h'.Ns1 d (fun y => if y = "limit" then some v else none)
theorem local_at {M : Model} {s : Shared} {name : Str} {scope : Scope} {L a : Addr} {cd : Value} {m : Str → Option Value} {x : Str} {pos : Pos} {v : Value}
    {Q : Value → Shared → Prop} {A : Around} {E : Value → Shared → Prop} (hn : s.heap.Ns L m) (hv : m x = some v) (h : Q v s)
    (hk : scope.kind = .function := by rfl)
    (hl : (envOfC name scope L a cd).kindOf x = some .local := by rfl)
    (hd : (x == ("__debug__" : Str)) = false := by decide) :
    wpAny M A (eval (.Name x pos) (envOfC name scope L a cd)) Q E s :=
  wpAny_Name (wpAny_loadName_local hk hl hn hv h) hd
section
variable {prog : Program} {w : World} {A : Around} {E : Value → Shared → Prop} {R : Result → Shared → Prop} {s : Shared}
  {K : Frag} {mg : Str → Option Value} {C fI : Addr}
theorem inits (T : Txt K mg C fI) {x t0 : Addr} {v : Value} (X : K.In s.heap) (hlim : s.heap.NoLimit)
    (hx : s.heap.get? x = some (excO C t0)) (hnx : K.lookup x = none) (hroom : A.depth < recursionLimit)
    (hq : ∀ h' tk dx, Inited s.heap h' x C dx t0 v → R (.ok (.ret .none)) { s with heap := h', toks := tk }) :
    codeAny (model prog w) A (.call (.ref fI) ⟨[.ref x, v], []⟩) R s := by
  obtain ⟨oc, od, doc, pm, an, cdv, ct, osl, p1, p2, q1, q2, q3, q4, ho, hcd⟩ := T.fn
  refine Att.call_fn (binds := [("self", .ref x), ("limit", v)]) X hlim ho hcd hroom
    (BindsTo.of_eq (by first | rfl | with_unfolding_all rfl))
    (by first | rfl | decide | with_unfolding_all rfl)
    (fun s₁ IC => ?_) rfl rfl rfl
  obtain ⟨h₁, tk₁, rfl⟩ := IC.toInCall.same
  have k : ∀ b o, s.heap.get? b = some o → h₁.get? b = some o :=
    IC.toInCall.keep
  have hn := IC.toInCall.ns
  have X₁ : K.In h₁ := X.keeps k
  have hx₁ := k _ _ hx
  show wpAny _ _
    (execs _ _) _ _ _
  refine wpAny_execs_cons
    (plainObj_wpAny_Assign_Attribute ?_)
  refine local_at (v := v) hn
    (by first | rfl | with_unfolding_all rfl | kernel_rfl)
    (local_at (v := .ref x) hn
      (by first | rfl | with_unfolding_all rfl | kernel_rfl) ?_)
  refine set_plain X₁ (ox := excO C t0) (od := none)
    ⟨hx₁, rfl, rfl, trivial⟩ T.sa ?_
  refine keep_new PySem.F.store_OverflowError X₁ hx₁ T.over T.hdC T.noN
    (fun h₃ tk₃ dx k₃ dn dne hx₃ hn₃ => ?_)
  show wpAny _ _
    (execs _ _) _ _ _
  have z : s.heap.objs.size < h₁.objs.size := hn.lt
  exact wpAny_execs_nil (hq h₃ tk₃ dx
    ⟨fun b o hb e => k₃ b o hb (k b o e), hx₃, Nat.le_of_lt (Nat.lt_of_lt_of_le z dn), dne, hn₃⟩)
theorem makes (T : Txt K mg C fI) {v : Value} (X : K.In s.heap) (hlim : s.heap.NoLimit) (hroom : A.depth + 1 < recursionLimit)
    (hq : ∀ h' tk e d, Made s.heap h' e C d v → R (.ok (.ret (.ref e))) { s with heap := h', toks := tk }) :
    codeAny (model prog w) A (.call (.ref C) ⟨[v], []⟩) R s := by
  obtain ⟨nm, N, qn, bs, bm, hdct, sn, sub, ab, col, dd, k0, k1, k2, k3, k5, hC, hbm⟩ := excInit_of X T.ini
  obtain ⟨hp, g, dr, tk, os⟩ := s
  have k : ∀ b o, hp.get? b = some o → ((hp.push (kdv_tup [v])).push (excO C hp.objs.size)).get? b = some o :=
    fun b o e => Heap.get?_push_of_some _ (Heap.get?_push_of_some _ e)
  have hget : ((hp.push (kdv_tup [v])).push (excO C hp.objs.size)).get? (hp.objs.size + 1) = some (excO C hp.objs.size) := by
    heap_get
  have hnx : K.lookup (hp.objs.size + 1) = none := by
    cases e : K.lookup (hp.objs.size + 1) with
    | none => rfl
    | some o =>
      have z : hp.get? (hp.objs.size + 1) = some o := X _ _ e
      exact absurd (Nat.lt_of_succ_lt (Heap.lt_size z)) (Nat.lt_irrefl _)
  have hz : [v].length ≤ sizeLine := by
    show 1 ≤ sizeLine
    decide
  refine do_make PySem.F.excBase_OverflowError (above hbm) hC (looks_findIn X T.iC)
    (fun self => bind_fn X self T.tC) hz ?_
  refine inits (s := ⟨(hp.push (kdv_tup [v])).push (excO C hp.objs.size), g, dr, tk, os⟩) T (X.keeps k) (hlim.keeps k) hget hnx ?_
    fun h' tk' dx ⟨k', hx, dn, dne, hns⟩ => ?_
  · show A.depth + 1 < recursionLimit
    exact hroom
  · have old : ∀ b o, hp.get? b = some o → h'.get? b = some o :=
      fun b o e => k' b o (Nat.ne_of_lt (Nat.lt_succ_of_lt (Heap.lt_size e))) (k b o e)
    have z : hp.objs.size + 1 + 1 ≤ dx := by
      first
        | (simpa only [Heap.size_push] using dn)
        | exact dn
        | (have q := dn
           rw [Heap.size_push, Heap.size_push] at q
           exact q)
    exact ⟨rfl, hq h' tk' (hp.objs.size + 1) dx
      ⟨old, Nat.le_succ _, ⟨_, _, hx, rfl, rfl, rfl, rfl⟩,
        Nat.le_trans (Nat.le_trans (Nat.le_succ _) (Nat.le_succ _)) z, dne, hns⟩⟩
end
end ERR.TooMany
end PySem
namespace L2
open PySem PySem.Spec PyProof.Rows
namespace ETooMany
theorem rel1 {v : V} {v' : Value} (r : RelV v v') (n : Str) :
    RelO (List.lookup n [(("limit" : Str), v)]) (if n = "limit" then some v' else none) := by
  by_cases hw : n = "limit"
  · subst hw
    rw [if_pos rfl]
    have q : List.lookup ("limit" : Str) [(("limit" : Str), v)] = some v := by
      simp [List.lookup]
    rw [q]
    exact r
  · rw [if_neg hw]
    have qw : (n == ("limit" : Str)) = false := by
      simpa using hw
    have q2 : List.lookup n [(("limit" : Str), v)] = none := by
      simp [List.lookup, qw]
    rw [q2]
    trivial
theorem look1 (v : V) : List.lookup ("limit" : Str) [(("limit" : Str), v)] = some v := by
  simp [List.lookup]
section
variable {X : Cx} {C fI : Addr}
/-- the reading of a call of the error: its dict, new, holds what it takes -/
def tMk (C : Addr) (ta : TA) : St → Hp → XK → Prop := fun σ H Q =>
  ta σ H fun vs H1 => ∃ v, vs = [v] ∧
    ∀ d, H1 d = none → Q (.ref C) (some d) (upd H1 d (.xd [(("limit" : Str), v)]))
theorem pmk {a : Expr} {ta : TA} {p pos : Pos} {k : Nat} (T : PySem.ERR.TooMany.Txt X.K X.mg C fI) (hr : Room k X.A) (ha : PA X [a] ta)
    (hg : Gl X "TooMany" := by rfl)
    (he : starEach (a :: []) X.env = (false, eval a X.env) :: starEach [] X.env := by rfl)
    (hpl : (backTo pos (starEach [] X.env)).any (·.1) = false := by rfl) :
    PMk X (.Call (.Name "TooMany" p) [a] [] pos) (tMk C ta) := by
  intro pins s σ H Q I h
  refine wpAny_Call_Name_kw
    (ld_glob I hg T.gC ?_)
  refine PySem.W.callWith_K (h₀ := X.base) I.ok.mod.kin T.kC
    (thn (ha.run pos pins s σ H _ I h) fun us s1 hh => ?_) he hpl
  obtain ⟨vs, H1, I1, r1, v, ev, q1⟩ := hh
  subst ev
  refine ⟨I1.kIn, ?_⟩
  cases r1 with
  | cons rv rn =>
    rename_i v' us'
    cases rn
    show wpAny _ _
      (call (.ref C) [v']) _ _ _
    have hlim := I1.nolimit
    obtain ⟨hp, g, dr, tk, os⟩ := s1
    refine wpAny_call (PySem.ERR.TooMany.makes T I1.kIn hlim
      (by have := hr.dp; omega) fun h' tk' e d M => ?_)
    show MkP X pins σ Q (.ref e) ⟨h', g, dr, tk', os⟩
    obtain ⟨oe, fv, hoe, hc, hd, hdat, h1⟩ := M.obj
    have hns := M.ns
    obtain ⟨G', g1, g2⟩ := restrict h'
      fun b => decide (b ≠ e)
    have gk : ∀ b, b ≠ e → G'.get? b = h'.get? b :=
      fun b hb => g1 b (decide_eq_true hb)
    have ge : G'.get? e = none := g2 e (by simp)
    have old : ∀ b o, hp.get? b = some o → G'.get? b = some o := fun b o q =>
      (gk b (Nat.ne_of_lt (Nat.lt_of_lt_of_le (Heap.lt_size q) M.new))).trans (M.keep b o q)
    have ob : ObjOk X.prog X.w (upd H1 d (.xd [(("limit" : Str), v)])) G' d (.xd [(("limit" : Str), v)]) :=
      ⟨_, hns.at (fun o q => (gk d M.dne).trans q), fun n => rel1 rv n⟩
    have J : Inv X pins σ (upd H1 d (.xd [(("limit" : Str), v)])) ⟨G', g, dr, tk', os⟩ :=
      I1.laid (t' := tk') old M.dbig ob
    refine ⟨e, oe, fv, ⟨G', g, dr, tk', os⟩, _, .ref C, some d, rfl, J, fun b o q => ?_, ge, hoe, ⟨hc, hd⟩, hdat, h1, ?_, rfl, I1.bare,
      raises_own T.exC T.tyC, q1 d (I1.hok.fresh M.dbig)⟩
    · by_cases hb : b = e
      · have q' : G'.get? b = some o := q
        rw [hb, ge] at q'
        cases q'
      · exact (gk b hb).symm.trans q
    · rw [upd_ne (Ne.symm M.dne)]
      exact I1.hok.fresh M.new
def xf (T : PySem.ERR.TooMany.Txt X.K X.mg C fI) : XfC X.K C := ⟨T.ga, T.gg, T.exC, T.hdC⟩
end
end ETooMany
end L2

/-! ### trial division: what is found of a product of primes -/
namespace K02
/-- a prime, told by what does not divide it -/
def Pr (p : Nat) : Prop := 2 ≤ p ∧ ∀ q, 2 ≤ q → q < p → ¬ q ∣ p
theorem pr_by {p : Nat} (h : (decide (2 ≤ p) && (List.range p).all fun q => decide (q < 2) || p % q != 0) = true) : Pr p := by
  obtain ⟨h1, h2⟩ := Bool.and_eq_true_iff.mp h
  refine ⟨of_decide_eq_true h1, fun q q2 qp d => ?_⟩
  have a := List.all_eq_true.mp h2 q (List.mem_range.mpr qp)
  rw [Bool.or_eq_true] at a
  rcases a with a | a
  · have := of_decide_eq_true a
    omega
  · rw [Nat.mod_eq_zero_of_dvd d] at a
    cases a
/-- by its small divisors alone -/
theorem pr_sqrt {p s : Nat} (h2 : 2 ≤ p) (hs : p < s * s) (h : ∀ q, 2 ≤ q → q < s → ¬ q ∣ p) : Pr p := by
  refine ⟨h2, fun q q2 qp d => ?_⟩
  obtain ⟨r, hr⟩ := d
  by_cases c : q < s
  · exact h q q2 c ⟨r, hr⟩
  · have r0 : 2 ≤ r := by
      rcases r with _ | _ | r
      · omega
      · omega
      · omega
    have rs : r < s := by
      by_cases c2 : r < s
      · exact c2
      · have : s * s ≤ q * r := Nat.mul_le_mul (by omega) (by omega)
        omega
    exact h r r0 rs ⟨q, by rw [hr, Nat.mul_comm]⟩
def prod (ps : List Nat) : Nat := ps.foldr (· * ·) 1
theorem prod_cons (p : Nat) (ps : List Nat) : prod (p :: ps) = p * prod ps := rfl
theorem prod_pos : ∀ {ps : List Nat}, (∀ p ∈ ps, Pr p) → 1 ≤ prod ps
  | [], _ => Nat.le_refl _
  | p :: ps, h => by
    have a := (h p List.mem_cons_self).1
    have b := prod_pos (ps := ps) fun q hq => h q (List.mem_cons_of_mem _ hq)
    rw [prod_cons]
    exact Nat.le_trans b (Nat.le_mul_of_pos_left _ (by omega))
theorem prod_perm {ps qs : List Nat} (h : ps.Perm qs) : prod ps = prod qs := by
  induction h with
  | nil => rfl
  | cons x _ ih => rw [prod_cons, prod_cons, ih]
  | swap x y l => rw [prod_cons, prod_cons, prod_cons, prod_cons, ← Nat.mul_assoc, ← Nat.mul_assoc, Nat.mul_comm y x]
  | trans _ _ h1 h2 => exact h1.trans h2
theorem coprime_pr {d p : Nat} (h : Pr p) (d1 : 1 ≤ d) (dp : d < p) : Nat.Coprime d p := by
  have g1 : Nat.gcd d p ∣ d := Nat.gcd_dvd_left d p
  have g2 : Nat.gcd d p ∣ p := Nat.gcd_dvd_right d p
  have le := Nat.le_of_dvd (by omega) g1
  have pos : 0 < Nat.gcd d p := Nat.gcd_pos_of_pos_left p (by omega)
  show Nat.gcd d p = 1
  by_cases c : Nat.gcd d p < 2
  · omega
  · exact (h.2 _ (by omega) (by omega) g2).elim
/-- no smaller number divides a product of greater primes -/
theorem not_dvd {d : Nat} : ∀ {ps : List Nat}, (∀ p ∈ ps, Pr p ∧ d < p) → 2 ≤ d → ¬ d ∣ prod ps := by
  intro ps h d2 dv
  have co : Nat.Coprime d (prod ps) := by
    clear dv
    induction ps with
    | nil => exact Nat.coprime_one_right d
    | cons p ps ih =>
      obtain ⟨a, b⟩ := h p List.mem_cons_self
      rw [prod_cons]
      exact Nat.Coprime.mul_right (coprime_pr a (by omega) b) (ih fun q hq => h q (List.mem_cons_of_mem _ hq))
  have := Nat.Coprime.eq_one_of_dvd co dv
  omega
/-! what is counted -/
def bump (fs : List (Nat × Nat)) (d : Nat) : List (Nat × Nat) :=
  if fs.any (fun p => decide (p.1 = d)) = true then fs.map (fun p => if p.1 = d then (p.1, p.2 + 1) else p) else fs ++ [(d, 1)]
def cnt (ps : List Nat) : List (Nat × Nat) := ps.foldl bump []
def seen (fs : List (Nat × Nat)) (d : Nat) : Option Nat := (fs.find? fun p => decide (p.1 = d)).map (·.2)
theorem cnt_snoc (ps : List Nat) (d : Nat) : cnt (ps ++ [d]) = bump (cnt ps) d := by
  unfold cnt
  rw [List.foldl_append]
  rfl
theorem any_iff {fs : List (Nat × Nat)} {d : Nat} : fs.any (fun p => decide (p.1 = d)) = true ↔ d ∈ fs.map (·.1) := by
  rw [List.any_eq_true, List.mem_map]
  exact ⟨fun ⟨x, h1, h2⟩ => ⟨x, h1, of_decide_eq_true h2⟩, fun ⟨x, h1, h2⟩ => ⟨x, h1, decide_eq_true h2⟩⟩
theorem bump_keys {fs : List (Nat × Nat)} {d : Nat} : (bump fs d).map (·.1) = if d ∈ fs.map (·.1) then fs.map (·.1) else fs.map (·.1) ++ [d] := by
  unfold bump
  by_cases c : d ∈ fs.map (·.1)
  · rw [if_pos (any_iff.mpr c), if_pos c, List.map_map]
    refine List.map_congr_left fun p _ => ?_
    show (if p.1 = d then (p.1, p.2 + 1) else p).1 = p.1
    split <;> rfl
  · rw [if_neg (fun z => c (any_iff.mp z)), if_neg c, List.map_append]
    rfl
theorem cnt_keys_mem : ∀ (n : Nat) (ps : List Nat), ps.length = n → ∀ d, d ∈ (cnt ps).map (·.1) ↔ d ∈ ps := by
  intro n
  induction n with
  | zero =>
    intro ps h d
    have : ps = [] := List.eq_nil_of_length_eq_zero h
    subst this
    exact Iff.rfl
  | succ n ih =>
    intro ps h d
    have ne : ps ≠ [] := by
      intro z
      rw [z] at h
      cases h
    rw [← List.dropLast_concat_getLast ne, cnt_snoc, bump_keys]
    have k := ih ps.dropLast (by rw [List.length_dropLast, h]; rfl)
    by_cases c : ps.getLast ne ∈ (cnt ps.dropLast).map (·.1)
    · rw [if_pos c, k d, List.mem_append]
      refine ⟨.inl, fun z => ?_⟩
      rcases z with z | z
      · exact z
      · rw [List.mem_singleton.mp z]
        exact (k _).mp c
    · rw [if_neg c, List.mem_append, List.mem_append, k d]
theorem cnt_keys {ps : List Nat} {d : Nat} : d ∈ (cnt ps).map (·.1) ↔ d ∈ ps := cnt_keys_mem _ ps rfl d
theorem cnt_nodup : ∀ (n : Nat) (ps : List Nat), ps.length = n → ((cnt ps).map (·.1)).Nodup := by
  intro n
  induction n with
  | zero =>
    intro ps h
    have : ps = [] := List.eq_nil_of_length_eq_zero h
    subst this
    exact List.nodup_nil
  | succ n ih =>
    intro ps h
    have ne : ps ≠ [] := by
      intro z
      rw [z] at h
      cases h
    have k := ih ps.dropLast (by rw [List.length_dropLast, h]; rfl)
    rw [← List.dropLast_concat_getLast ne, cnt_snoc, bump_keys]
    split
    · exact k
    · rename_i c
      rw [List.nodup_append]
      refine ⟨k, by simp, fun a ha b hb e => ?_⟩
      rw [List.mem_singleton.mp hb] at e
      exact c (e ▸ ha)
/-- what is seen at a key: how often it came -/
theorem mem_cnt : ∀ (n : Nat) (ps : List Nat), ps.length = n → ∀ q ∈ cnt ps, q.2 = ps.count q.1 := by
  intro n
  induction n with
  | zero =>
    intro ps h q hq
    have : ps = [] := List.eq_nil_of_length_eq_zero h
    subst this
    cases hq
  | succ n ih =>
    intro ps h q hq
    have ne : ps ≠ [] := by
      intro z
      rw [z] at h
      cases h
    have k := ih ps.dropLast (by rw [List.length_dropLast, h]; rfl)
    rw [← List.dropLast_concat_getLast ne] at hq ⊢
    rw [cnt_snoc] at hq
    rw [List.count_append]
    unfold bump at hq
    split at hq
    · obtain ⟨r, hr, e⟩ := List.mem_map.mp hq
      by_cases c : r.1 = ps.getLast ne
      · rw [if_pos c] at e
        subst e
        show r.2 + 1 = _
        rw [k r hr]
        congr 1
        show 1 = List.count r.1 [ps.getLast ne]
        rw [← c, List.count_singleton_self]
      · rw [if_neg c] at e
        subst e
        rw [k r hr, List.count_singleton, if_neg (by simpa using fun z : ps.getLast ne = r.1 => c z.symm), Nat.add_zero]
    · rename_i c
      rcases List.mem_append.mp hq with hr | hr
      · rw [k q hr]
        have : ¬ ps.getLast ne = q.1 := fun z => c (any_iff.mpr (z ▸ List.mem_map.mpr ⟨q, hr, rfl⟩))
        rw [List.count_singleton, if_neg (by simpa using this), Nat.add_zero]
      · rw [List.mem_singleton.mp hr]
        have nm : ps.getLast ne ∉ ps.dropLast := fun z => c (any_iff.mpr (cnt_keys.mpr z))
        show 1 = _
        rw [List.count_eq_zero_of_not_mem nm, List.count_singleton_self]
/-- counted in their order, they stand in their order -/
theorem cnt_sorted : ∀ (n : Nat) (ps : List Nat), ps.length = n → ps.Pairwise (· ≤ ·) → (cnt ps).Pairwise (fun a b => a.1 < b.1) := by
  intro n
  induction n with
  | zero =>
    intro ps h _
    have : ps = [] := List.eq_nil_of_length_eq_zero h
    subst this
    exact .nil
  | succ n ih =>
    intro ps h hs
    have ne : ps ≠ [] := by
      intro z
      rw [z] at h
      cases h
    rw [← List.dropLast_concat_getLast ne] at hs ⊢
    obtain ⟨h1, _, h3⟩ := List.pairwise_append.mp hs
    have k := ih ps.dropLast (by rw [List.length_dropLast, h]; rfl) h1
    rw [cnt_snoc]
    unfold bump
    split
    · rw [List.pairwise_map]
      refine k.imp fun {a b} hab => ?_
      have e : ∀ c : Nat × Nat, (if c.1 = ps.getLast ne then (c.1, c.2 + 1) else c).1 = c.1 := fun c => by split <;> rfl
      rw [e, e]
      exact hab
    · rename_i c
      refine List.pairwise_append.mpr ⟨k, by simp, fun a ha b hb => ?_⟩
      rw [List.mem_singleton.mp hb]
      have m : a.1 ∈ ps.dropLast := cnt_keys.mp (List.mem_map.mpr ⟨a, ha, rfl⟩)
      have le := h3 a.1 m (ps.getLast ne) (List.mem_singleton.mpr rfl)
      have nn : a.1 ≠ ps.getLast ne := fun z => c (any_iff.mpr (z ▸ List.mem_map.mpr ⟨a, ha, rfl⟩))
      show a.1 < ps.getLast ne
      omega
theorem mem_cnt_iff {ps : List Nat} {q : Nat × Nat} : q ∈ cnt ps ↔ q.1 ∈ ps ∧ q.2 = ps.count q.1 := by
  refine ⟨fun h => ⟨cnt_keys.mp (List.mem_map.mpr ⟨q, h, rfl⟩), mem_cnt _ ps rfl q h⟩, fun ⟨h1, h2⟩ => ?_⟩
  obtain ⟨r, hr, e⟩ := List.mem_map.mp (cnt_keys.mpr h1)
  have : r = q := Prod.ext e (by rw [mem_cnt _ ps rfl r hr, h2]; exact congrArg (fun z => List.count z ps) e)
  exact this ▸ hr
/-- two lists in strict order with the same members are one -/
theorem sorted_ext : ∀ {xs ys : List (Nat × Nat)}, xs.Pairwise (fun a b => a.1 < b.1) → ys.Pairwise (fun a b => a.1 < b.1) → (∀ q, q ∈ xs ↔ q ∈ ys) → xs = ys
  | [], [], _, _, _ => rfl
  | [], y :: ys, _, _, h => by cases (h y).mpr List.mem_cons_self
  | x :: xs, [], _, _, h => by cases (h x).mp List.mem_cons_self
  | x :: xs, y :: ys, h1, h2, h => by
    obtain ⟨a1, b1⟩ := List.pairwise_cons.mp h1
    obtain ⟨a2, b2⟩ := List.pairwise_cons.mp h2
    have e : x = y := by
      rcases List.mem_cons.mp ((h x).mp List.mem_cons_self) with e | m
      · exact e
      · rcases List.mem_cons.mp ((h y).mpr List.mem_cons_self) with e | m2
        · exact e.symm
        · have := a2 x m
          have := a1 y m2
          omega
    subst e
    congr 1
    refine sorted_ext b1 b2 fun q => ⟨fun m => ?_, fun m => ?_⟩
    · rcases List.mem_cons.mp ((h q).mp (List.mem_cons_of_mem _ m)) with e | z
      · subst e
        have := a1 q m
        omega
      · exact z
    · rcases List.mem_cons.mp ((h q).mpr (List.mem_cons_of_mem _ m)) with e | z
      · subst e
        have := a2 q m
        omega
      · exact z
/-- the counts of a list, put in order, are the counts of the list in order -/
theorem cnt_of_perm {ps qs : List Nat} {ys : List (Nat × Nat)} (h : ps.Perm qs) (hs : ps.Pairwise (· ≤ ·)) (hy : ys.Perm (cnt qs)) (hys : ys.Pairwise (fun a b => a.1 < b.1)) : ys = cnt ps := by
  refine sorted_ext hys (cnt_sorted _ ps rfl hs) fun q => ?_
  rw [hy.mem_iff, mem_cnt_iff, mem_cnt_iff, h.mem_iff, h.count_eq]
end K02
namespace K02
theorem dvd_prod : ∀ {ps : List Nat} {p : Nat}, p ∈ ps → p ∣ prod ps
  | q :: ps, p, h => by
    rw [prod_cons]
    rcases List.mem_cons.mp h with rfl | h
    · exact Nat.dvd_mul_right _ _
    · exact Nat.dvd_trans (dvd_prod h) (Nat.dvd_mul_left _ _)
/-- the primes of a number in their order -/
structure Ps (ps : List Nat) : Prop where
  pr : ∀ p ∈ ps, Pr p
  up : ps.Pairwise (· ≤ ·)
  few : ps.length ≤ 1000
/-- where the division stands: done found, rest in the number, none of them below the divisor -/
def Tri (ps : List Nat) (u d m : Nat) (fs : List (Nat × Nat)) : Prop :=
  ∃ done rest, ps = done ++ rest ∧ m = prod rest ∧ fs = cnt done ∧ (∀ p ∈ rest, d ≤ p) ∧ 2 ≤ d ∧ (d = 2 ∨ d % 2 = 1) ∧ ∀ p ∈ done, p < u
theorem tri_start {ps : List Nat} (h : Ps ps) : Tri ps 2 2 (prod ps) [] :=
  ⟨[], ps, rfl, rfl, rfl, fun p hp => (h.pr p hp).1, Nat.le_refl _, .inl rfl, fun p hp => nomatch hp⟩
theorem tri_yes {ps : List Nat} {d m : Nat} {fs : List (Nat × Nat)} (h : Ps ps) (t : Tri ps (d + 1) d m fs) (c : m % d = 0) :
    Tri ps (d + 1) d (m / d) (bump fs d) ∧ m / d < m := by
  obtain ⟨done, rest, e, rfl, rfl, low, d2, od, dn⟩ := t
  cases rest with
  | nil =>
    have : (1 : Nat) % d = 1 := Nat.mod_eq_of_lt (by omega)
    rw [show prod [] = 1 from rfl, this] at c
    cases c
  | cons p r =>
    have up := h.up
    rw [e] at up
    obtain ⟨_, up2, _⟩ := List.pairwise_append.mp up
    obtain ⟨lo, _⟩ := List.pairwise_cons.mp up2
    have prs : ∀ q ∈ p :: r, Pr q := fun q hq => h.pr q (by rw [e]; exact List.mem_append_right _ hq)
    have pd : p = d := by
      by_cases eq : p = d
      · exact eq
      · have gt : d < p := by
          have := low p List.mem_cons_self
          omega
        refine (not_dvd (fun q hq => ⟨prs q hq, ?_⟩) d2 (Nat.dvd_of_mod_eq_zero c)).elim
        rcases List.mem_cons.mp hq with rfl | hq
        · exact gt
        · exact Nat.lt_of_lt_of_le gt (lo q hq)
    subst pd
    have dv : prod (p :: r) / p = prod r := by
      rw [prod_cons, Nat.mul_div_cancel_left _ (by omega)]
    refine ⟨⟨done ++ [p], r, by rw [e, List.append_assoc]; rfl, dv, (cnt_snoc _ _).symm, fun q hq => low q (List.mem_cons_of_mem _ hq), d2, od, fun q hq => ?_⟩, ?_⟩
    · rcases List.mem_append.mp hq with z | z
      · exact dn q z
      · rw [List.mem_singleton.mp z]
        omega
    rw [dv, prod_cons]
    have pos := prod_pos (ps := r) fun q hq => prs q (List.mem_cons_of_mem _ hq)
    have : 2 * prod r ≤ p * prod r := Nat.mul_le_mul_right _ d2
    omega
theorem tri_no {ps : List Nat} {d m : Nat} {fs : List (Nat × Nat)} (h : Ps ps) (t : Tri ps (d + 1) d m fs) (c : m % d ≠ 0) :
    Tri ps (if d = 2 then d + 1 else d + 2) (if d = 2 then d + 1 else d + 2) m fs := by
  obtain ⟨done, rest, e, rfl, rfl, low, d2, od, dn⟩ := t
  have prs : ∀ q ∈ rest, Pr q := fun q hq => h.pr q (by rw [e]; exact List.mem_append_right _ hq)
  have gt : ∀ p ∈ rest, d < p := fun p hp => by
    have a := low p hp
    by_cases eq : p = d
    · subst eq
      exact (c (Nat.mod_eq_zero_of_dvd (dvd_prod hp))).elim
    · omega
  refine ⟨done, rest, e, rfl, rfl, fun p hp => ?_, by split <;> omega, by split <;> omega, fun p hp => by have := dn p hp; split <;> omega⟩
  have g := gt p hp
  split
  · omega
  · by_cases eq : p = d + 1
    · have dv : 2 ∣ p := ⟨p / 2, by omega⟩
      exact ((prs p hp).2 2 (Nat.le_refl _) (by omega) dv).elim
    · omega
theorem tri_end {ps : List Nat} {d m : Nat} {fs : List (Nat × Nat)} (h : Ps ps) (t : Tri ps d d m fs) (c : m < d * d) :
    (m = 1 ∧ fs = cnt ps) ∨ (1 < m ∧ m ∉ fs.map (·.1) ∧ bump fs m = cnt ps) := by
  obtain ⟨done, rest, e, rfl, rfl, low, d2, od, dn⟩ := t
  have prs : ∀ q ∈ rest, Pr q := fun q hq => h.pr q (by rw [e]; exact List.mem_append_right _ hq)
  match rest, e, low, c, prs with
  | [], e, _, _, _ => exact .inl ⟨rfl, by rw [e, List.append_nil]⟩
  | [p], e, low, _, prs =>
    have e1 : prod [p] = p := Nat.mul_one p
    have up := h.up
    rw [e] at up
    have g := (prs p List.mem_cons_self).1
    refine .inr ⟨by rw [e1]; omega, ?_, by rw [e1, e, cnt_snoc]⟩
    rw [e1]
    intro z
    have a := dn p (cnt_keys.mp z)
    have b := low p List.mem_cons_self
    omega
  | p :: q :: r, e, low, c, prs =>
    exfalso
    have a := low p List.mem_cons_self
    have b := low q (List.mem_cons_of_mem _ List.mem_cons_self)
    have pos := prod_pos (ps := r) fun z hz => prs z (List.mem_cons_of_mem _ (List.mem_cons_of_mem _ hz))
    rw [prod_cons, prod_cons] at c
    have : d * d ≤ p * (q * prod r) := Nat.mul_le_mul a (Nat.le_trans b (Nat.le_mul_of_pos_right _ pos))
    omega
theorem tri_in {ps : List Nat} {d m : Nat} {fs : List (Nat × Nat)} (t : Tri ps d d m fs) : Tri ps (d + 1) d m fs := by
  obtain ⟨done, rest, e, a1, a2, low, d2, od, dn⟩ := t
  exact ⟨done, rest, e, a1, a2, low, d2, od, fun p hp => by have := dn p hp; omega⟩
theorem tri_pos {ps : List Nat} {u d m : Nat} {fs : List (Nat × Nat)} (h : Ps ps) (t : Tri ps u d m fs) : 1 ≤ m ∧ 2 ≤ d ∧ (fs.map (·.1)).Nodup ∧ fs.length ≤ 1000 := by
  obtain ⟨done, rest, e, rfl, rfl, low, d2, od, dn⟩ := t
  refine ⟨prod_pos fun q hq => h.pr q (by rw [e]; exact List.mem_append_right _ hq), d2, cnt_nodup _ _ rfl, ?_⟩
  have k : ∀ (l : List Nat) (a : List (Nat × Nat)), (l.foldl bump a).length ≤ a.length + l.length := by
    intro l
    induction l with
    | nil => intro a; exact Nat.le_refl _
    | cons x l ih =>
      intro a
      have b : (bump a x).length ≤ a.length + 1 := by
        unfold bump
        split
        · rw [List.length_map]
          omega
        · rw [List.length_append]
          exact Nat.le_refl _
      have := ih (bump a x)
      show (List.foldl bump (bump a x) l).length ≤ _
      rw [List.length_cons]
      omega
  have := k done []
  have f := h.few
  rw [e, List.length_append] at f
  show (cnt done).length ≤ 1000
  unfold cnt
  simp only [List.length_nil] at this
  omega
end K02

namespace K02
open PySem PySem.Spec PyProof.Rows L2
def topS (i : Nat) : Stmt := PySem.Challenge.pw_twinsheets_k02_whole_residues_and_factor.main.body.getD i (.Pass ⟨0, 0, 0, 0⟩)
abbrev s_is_integer : Stmt := topS 9
abbrev s_inverse_of : Stmt := topS 16
abbrev s__law_dice : Stmt := topS 20
abbrev s__law_roll : Stmt := topS 21
abbrev s__law_word : Stmt := topS 23
abbrev s_is_within : Stmt := topS 10
abbrev s_is_prime : Stmt := topS 11
abbrev s__law_pick : Stmt := topS 22
abbrev s_check_prime : Stmt := topS 12
abbrev s_check_count : Stmt := topS 13
abbrev s_factors : Stmt := topS 14
abbrev s_residue_inverse : Stmt := topS 15
abbrev s_residue_root : Stmt := topS 17
abbrev s_least_nonsquare : Stmt := topS 18
abbrev s__law_factors_right : Stmt := topS 25
abbrev s__law_residues_right : Stmt := topS 24
abbrev s__law_errors_right : Stmt := topS 26
abbrev s_law : Stmt := topS 27
/-! ### which of the errors an except clause takes -/
def exTab (K : PySem.W.Frag) (l : List Addr) : Bool := (List.range 3).all fun i => (List.range 3).all fun j => PySem.W.exmOne K (.ref (l.getD i 0)) (.ref (l.getD j 0)) == some (i == j)
theorem exm_tab {K : PySem.W.Frag} {l : List Addr} (h : exTab K l = true) {i j : Nat} (hi : i < 3) (hj : j < 3) : PySem.W.exmOne K (.ref (l.getD i 0)) (.ref (l.getD j 0)) = some (i == j) := by
  have a := List.all_eq_true.mp h i (List.mem_range.mpr hi)
  exact eq_of_beq (List.all_eq_true.mp a j (List.mem_range.mpr hj))
theorem un1 {k : Nat} {A : Around} (h : Room k A) : A.units + 1 < cLine := by
  have := h.units
  omega
theorem lamRoom {k : Nat} {A : Around} (h : Room k A) : A.units + 128 < cLine := by
  have := h.un
  omega

/-! ### what is said of values -/
/-- an error of a class is what its own name takes -/
theorem exm_of {K : PySem.W.Frag} {S : Addr} (h1 : PySem.W.subIn K (.ref S) (.type "BaseException") = some true) (h2 : PySem.W.isClsIn K S = true)
    (h3 : PySem.W.typeIn K (.ref S) = some (.type "type")) (h4 : PySem.W.subIn K (.ref S) (.ref S) = some true) : PySem.W.exmOne K (.ref S) (.ref S) = some true := by
  have g2 : (PySem.W.clsIn K S).isSome = true := h2
  have a : (PySem.W.subIn K (.ref S) (.type "BaseException") == some true) = true := by
    rw [h1]
    rfl
  have b : ((PySem.W.clsIn K S).isSome && PySem.W.typeIn K (.ref S) == some (.type "type")) = true := by
    rw [g2, h3]
    rfl
  unfold PySem.W.exmOne
  rw [if_pos a]
  unfold PySem.W.kitCls
  exact (if_pos b).trans h4
def edges : List Int := [10 ^ (60 : Int).toNat - 1, -(10 ^ (60 : Int).toNat - 1), 10 ^ (60 : Int).toNat, -(10 ^ (60 : Int).toNat)]
def primes : List Int := [3, 5, 7, 11, 13, 17, 19, 23, 29, 31]
abbrev top60 : Int := 999999999999999999999999999999999999999999999999999999999999
def isB : V → Bool | .bl _ => true | _ => false
def isI : V → Bool | .int _ => true | _ => false
def isS : V → Bool | .str _ => true | _ => false
/-- what kind of value stands at x -/
structure Kd (K : PySem.W.Frag) (H : Hp) (x : V) : Prop where
  ex : ∃ n : String, TyX K H x (.type n) ∧ kitB n "bool" = some (isB x) ∧ kitB n "int" = some (isB x || isI x) ∧ kitB n "str" = some (isS x)
section
variable {K : PySem.W.Frag} {H : Hp}
theorem Kd.int (i : Int) : Kd K H (.int i) := ⟨"int", .base (.int i), (show kitB "int" "bool" = some false by decide +kernel), (show kitB "int" "int" = some true by decide +kernel), (show kitB "int" "str" = some false by decide +kernel)⟩
theorem Kd.bl (b : Bool) : Kd K H (.bl b) := ⟨"bool", .base (.bl b), (show kitB "bool" "bool" = some true by decide +kernel), (show kitB "bool" "int" = some true by decide +kernel), (show kitB "bool" "str" = some false by decide +kernel)⟩
theorem Kd.non : Kd K H .non := ⟨"NoneType", .base .non, (show kitB "NoneType" "bool" = some false by decide +kernel), (show kitB "NoneType" "int" = some false by decide +kernel), (show kitB "NoneType" "str" = some false by decide +kernel)⟩
theorem Kd.str (s : Str) : Kd K H (.str s) := ⟨"str", .base (.str s), (show kitB "str" "bool" = some false by decide +kernel), (show kitB "str" "int" = some false by decide +kernel), (show kitB "str" "str" = some true by decide +kernel)⟩
theorem Kd.lst {a : Addr} {xs : List V} (h : H a = some (.lst xs)) : Kd K H (.ref a) := ⟨"list", .base (.lst h), (show kitB "list" "bool" = some false by decide +kernel), (show kitB "list" "int" = some false by decide +kernel), (show kitB "list" "str" = some false by decide +kernel)⟩
theorem Kd.tup {a : Addr} {xs : List V} (h : H a = some (.tup xs)) : Kd K H (.ref a) := ⟨"tuple", .base (.tup h), (show kitB "tuple" "bool" = some false by decide +kernel), (show kitB "tuple" "int" = some false by decide +kernel), (show kitB "tuple" "str" = some false by decide +kernel)⟩
theorem Kd.dK {a : Addr} {xs : List (Key × V)} (h : H a = some (.dK xs)) : Kd K H (.ref a) := ⟨"dict", .base (.dK h), (show kitB "dict" "bool" = some false by decide +kernel), (show kitB "dict" "int" = some false by decide +kernel), (show kitB "dict" "str" = some false by decide +kernel)⟩
end
/-- is_integer's answer -/
def intB : V → Bool | .int i => decide (-top60 ≤ i) && decide (i ≤ top60) | _ => false
/-- is_prime's -/
def primeB (x : V) : Bool := intB x && inV x (primes.map V.int)
def withinB (x : V) (lo hi : Int) : Bool := intB x && (match x with | .int i => decide (lo ≤ i) && decide (i ≤ hi) | _ => false)
def letterB (c : Nat) : Bool := decide (97 ≤ c) && decide (c ≤ 122)
def nameB : V → Bool | .str s => (decide (1 ≤ s.length) && decide (s.length ≤ 8)) && s.cps.toList.all letterB | _ => false
/-! ### the dice: a list of three ints at a; all else stays -/
def Dc (a : Addr) (H : Hp) : Prop := ∃ x y z : Int, H a = some (.lst [.int x, .int y, .int z])
structure Mv (a : Addr) (H H' : Hp) : Prop where
  keep : ∀ b o, b ≠ a → H b = some o → H' b = some o
  dice : Dc a H'
theorem Mv.refl {a : Addr} {H : Hp} (h : Dc a H) : Mv a H H := ⟨fun _ _ _ e => e, h⟩
theorem Mv.trans {a : Addr} {H H1 H2 : Hp} (h : Mv a H H1) (k : Mv a H1 H2) : Mv a H H2 := ⟨fun b o n e => k.keep b o n (h.keep b o n e), k.dice⟩
theorem Mv.roll {a : Addr} {H : Hp} (x y z : Int) : Mv a H (upd H a (.lst [.int x, .int y, .int z])) := ⟨fun b o n e => by rw [upd_ne n]; exact e, x, y, z, upd_same⟩
theorem Dc.new {a p : Addr} {H : Hp} {o : HO} (h : Dc a H) (n : H p = none) : Dc a (upd H p o) := by
  obtain ⟨x, y, z, e⟩ := h
  exact ⟨x, y, z, by rw [upd_ne (ne_of_none e n)]; exact e⟩
theorem Mv.new {a p : Addr} {H : Hp} {o : HO} (h : Dc a H) (n : H p = none) : Mv a H (upd H p o) := ⟨fun b u _ e => by rw [upd_ne (ne_of_none e n)]; exact e, h.new n⟩
theorem Mv.same {a : Addr} {H H' : Hp} (h : Dc a H) (s : Same H H') : Mv a H H' := by
  obtain ⟨x, y, z, e⟩ := h
  exact ⟨fun b o _ q => s b o q, x, y, z, s _ _ e⟩
theorem Mv.free {a p : Addr} {H H' : Hp} (m : Mv a H H') (h : Dc a H) (n : H' p = none) : H p = none := by
  cases q : H p with
  | none => rfl
  | some o =>
    by_cases e : p = a
    · obtain ⟨x, y, z, d⟩ := m.dice
      rw [e, d] at n
      cases n
    · rw [m.keep p o e q] at n
      cases n
theorem Mv.seq {K : PySem.W.Frag} {a b : Addr} {H H' : Hp} {xs : List V} (m : Mv a H H') (ne : b ≠ a) (h : SqL K H b xs) : SqL K H' b xs := by
  rcases h with (h | ⟨o, h⟩) | h
  · exact .inl (.inl (m.keep _ _ ne h))
  · exact .inl (.inr ⟨o, m.keep _ _ ne h⟩)
  · exact .inr h
theorem Dc.ne {a b : Addr} {H : Hp} (h : Dc a H) (n : H b = none) : b ≠ a := by
  intro e
  obtain ⟨x, y, z, d⟩ := h
  rw [e, d] at n
  cases n
def drawnN (n : Int) : Prop := ∃ (d : Nat) (r : Int), d ∈ [1, 2, 5, 59, 60, 61, 62] ∧ 0 ≤ r ∧ r < 9 ∧ (n = 10 ^ d - 1 - r ∨ n = -(10 ^ d - 1 - r))
/-! ### a drawn odd value: what it is, wherever the dice move -/
inductive OddAt (a : Addr) (H : Hp) : V → Prop
  | non : OddAt a H .non
  | bl (b : Bool) : OddAt a H (.bl b)
  | s3 : OddAt a H (.str "3")
  | s0 : OddAt a H (.str "")
  | tup {t : Addr} (n : t ≠ a) (h : H t = some (.tup [.int 3])) : OddAt a H (.ref t)
  | lst {t : Addr} (n : t ≠ a) (h : H t = some (.lst [])) : OddAt a H (.ref t)
  | dK {t : Addr} (n : t ≠ a) (h : H t = some (.dK [])) : OddAt a H (.ref t)
theorem OddAt.mv {a : Addr} {H H' : Hp} {v : V} (m : Mv a H H') (o : OddAt a H v) : OddAt a H' v := by
  cases o with
  | non => exact .non
  | bl b => exact .bl b
  | s3 => exact .s3
  | s0 => exact .s0
  | tup n h => exact .tup n (m.keep _ _ n h)
  | lst n h => exact .lst n (m.keep _ _ n h)
  | dK n h => exact .dK n (m.keep _ _ n h)
theorem OddAt.kd {K : PySem.W.Frag} {a : Addr} {H : Hp} {v : V} (o : OddAt a H v) : Kd K H v := by
  cases o with
  | non => exact .non
  | bl b => exact .bl b
  | s3 => exact .str _
  | s0 => exact .str _
  | tup n h => exact .tup h
  | lst n h => exact .lst h
  | dK n h => exact .dK h
theorem OddAt.int {a : Addr} {H : Hp} {v : V} (o : OddAt a H v) : intB v = false := by cases o <;> rfl
theorem OddAt.prime {a : Addr} {H : Hp} {v : V} (o : OddAt a H v) : primeB v = false := by
  unfold primeB
  rw [o.int]
  rfl
theorem OddAt.within {a : Addr} {H : Hp} {v : V} (o : OddAt a H v) (lo hi : Int) : withinB v lo hi = false := by
  unfold withinB
  rw [o.int]
  rfl
theorem OddAt.name {a : Addr} {H : Hp} {v : V} (o : OddAt a H v) : nameB v = false := by
  cases o with
  | s3 => decide +kernel
  | s0 => decide +kernel
  | _ => rfl
theorem OddAt.size {a : Addr} {H : Hp} {v : V} (o : OddAt a H v) : ∀ s, v = .str s → s.length ≤ sizeLine := by
  intro s e
  cases o with
  | s3 =>
    cases e
    exact (by decide +kernel)
  | s0 =>
    cases e
    exact (by decide +kernel)
  | _ => cases e
theorem prime_of {i : Int} (h : i ∈ primes) : 3 ≤ i ∧ i ≤ 31 := by
  unfold primes at h
  simp only [List.mem_cons, List.not_mem_nil, or_false] at h
  omega
theorem int_small {i : Int} (h1 : -1000 ≤ i) (h2 : i ≤ 1000) : intB (.int i) = true := by
  have t : top60 = 999999999999999999999999999999999999999999999999999999999999 := rfl
  show (decide (-top60 ≤ i) && decide (i ≤ top60)) = true
  rw [decide_eq_true (show -top60 ≤ i by omega), decide_eq_true (show i ≤ top60 by omega)]
  rfl
theorem primeB_of {i : Int} (h : i ∈ primes) : primeB (.int i) = true := by
  have b := prime_of h
  unfold primeB
  rw [int_small (by omega) (by omega)]
  unfold inV
  rw [Bool.true_and, List.any_eq_true]
  exact ⟨.int i, List.mem_map.mpr ⟨i, h, rfl⟩, by simp [eqV]⟩
theorem seq_law {K : PySem.W.Frag} {a p : Addr} {H H2 : Hp} {xs : List V} {o : HO} (h : SqL K H a xs) (n : H p = none) (m : Mv p (upd H p o) H2) : SqL K H2 a xs := by
  rcases h with (h | ⟨u, h⟩) | h
  · have ne : a ≠ p := ne_of_none h n
    exact .inl (.inl (m.keep _ _ ne (by rw [upd_ne ne]; exact h)))
  · have ne : a ≠ p := ne_of_none h n
    exact .inl (.inr ⟨u, m.keep _ _ ne (by rw [upd_ne ne]; exact h)⟩)
  · exact .inr h
theorem dp_ints {K : PySem.W.Frag} {H : Hp} : ∀ ns : List Int, DpAll K H (ns.map V.int) (ns.map PyData.int)
  | [] => .nil
  | n :: r => .cons (.int n) (dp_ints r)
theorem dp_bls {K : PySem.W.Frag} {H : Hp} : ∀ ns : List Bool, DpAll K H (ns.map V.bl) (ns.map PyData.bool)
  | [] => .nil
  | n :: r => .cons (.bl n) (dp_bls r)
theorem dp_strs {K : PySem.W.Frag} {H : Hp} : ∀ ns : List Str, DpAll K H (ns.map V.str) (ns.map PyData.str)
  | [] => .nil
  | n :: r => .cons (.str n) (dp_strs r)
theorem shaped_strs {ss : List Str} (h : ∀ s ∈ ss, PyData.strOk s = true) : SeqAt.shaped (.list (ss.map PyData.str)) = true := by
  unfold SeqAt.shaped
  have e1 : PyData.canLay0 (.list (ss.map PyData.str)) = true := by
    show PyData.canLayAll0 (ss.map PyData.str) = true
    rw [PyProof.Rows.canLayAll_strs', List.all_eq_true]
    exact h
  have e2 : PyData.depth (.list (ss.map PyData.str)) = 1 := by
    simp only [PyData.depth, PyProof.Rows.depthAll_strs']
  rw [e1, e2]
  rfl
theorem alpha (c : Nat) : decide (c ∈ ("abcdefghijklmnopqrstuvwxyz" : Str).cps.toList) = letterB c := by
  have e : ("abcdefghijklmnopqrstuvwxyz" : Str).cps.toList = List.range' 97 26 := by decide +kernel
  rw [e]
  unfold letterB
  rw [Bool.eq_iff_iff]
  simp only [decide_eq_true_eq, Bool.and_eq_true, List.mem_range'_1]
  omega
theorem eqv_nil (ss : List Str) : PyData.eqv (.list (ss.map PyData.str)) (.list []) = ss.isEmpty := by cases ss <;> rfl
theorem none_out (l : List Nat) : ((l.filter fun c => !letterB c).map fun c => (⟨#[c]⟩ : Str)).isEmpty = l.all letterB := by
  induction l with
  | nil => rfl
  | cons c r ih =>
    rw [List.all_cons, ← ih, List.filter_cons]
    cases letterB c <;> rfl
theorem draw_abs {n : Int} (h : drawnN n) : ∃ v : Nat, (if n < 0 then -n else n) = (v : Int) ∧ v < 10 ^ 62 ∧ (intB (.int n) = decide (v < 10 ^ 60)) := by
  obtain ⟨d, r, hd, r0, r1, e⟩ := h
  have hb : ∃ m : Int, (n = m ∨ n = -m) ∧ 0 ≤ m ∧ m < 10 ^ 62 := by
    simp only [List.mem_cons, List.not_mem_nil, or_false] at hd
    refine ⟨10 ^ d - 1 - r, e, ?_, ?_⟩ <;> rcases hd with rfl | rfl | rfl | rfl | rfl | rfl | rfl <;> omega
  obtain ⟨m, e, m0, m1⟩ := hb
  refine ⟨m.toNat, ?_, by omega, ?_⟩
  · rcases e with rfl | rfl
    · rw [if_neg (by omega)]
      omega
    · split <;> omega
  · have t : top60 = 999999999999999999999999999999999999999999999999999999999999 := rfl
    show (decide (-top60 ≤ n) && decide (n ≤ top60)) = _
    by_cases c : m.toNat < 10 ^ 60
    · rw [decide_eq_true c, decide_eq_true (show -top60 ≤ n by omega), decide_eq_true (show n ≤ top60 by omega)]
      rfl
    · rw [decide_eq_false c]
      rcases e with rfl | rfl
      · rw [decide_eq_false (show ¬ n ≤ top60 by omega), Bool.and_false]
      · rw [decide_eq_false (show ¬ -top60 ≤ -m by omega), Bool.false_and]
/-! ### the promises -/
def sp_integer (K : PySem.W.Frag) : Sp := fun vs H Q _ => ∃ x : V, vs = [x] ∧ Kd K H x ∧ Q (.bl (intB x)) H
def sp_within (K : PySem.W.Frag) : Sp := fun vs H Q _ => ∃ (x : V) (lo hi : Int), vs = [x, .int lo, .int hi] ∧ Kd K H x ∧ Q (.bl (withinB x lo hi)) H
def sp_prime (K : PySem.W.Frag) : Sp := fun vs H Q _ => ∃ x : V, vs = [x] ∧ Kd K H x ∧ Q (.bl (primeB x)) H
def sp_check (K : PySem.W.Frag) (C : Addr) : Sp := fun vs H Q E => ∃ x : V, vs = [x] ∧ Kd K H x ∧ (primeB x = true → Q .non H) ∧ (primeB x = false → E (.ref C) none H)
def sp_residue (K : PySem.W.Frag) (C : Addr) : Sp := fun vs H Q E => ∃ p x : V, vs = [p, x] ∧ Kd K H p ∧ Kd K H x ∧ (∀ i, p = .int i → primeB p = true → Q (.bl (withinB x 0 (i - 1))) H) ∧ (primeB p = false → E (.ref C) none H)
def sp_name (K : PySem.W.Frag) : Sp := fun vs H Q _ => ∃ x : V, vs = [x] ∧ Kd K H x ∧ (∀ s, x = .str s → s.length ≤ sizeLine) ∧ ∀ H', Same H H' → Q (.bl (nameB x)) H'
def sp_dice (K : PySem.W.Frag) : Sp := fun vs H Q _ => ∃ (a : Addr) (ns : List Int) (k : Nat), vs = [.ref a, .int k] ∧ SqL K H a (ns.map V.int) ∧ ∀ p x y z, H p = none → Q (.ref p) (upd H p (.lst [.int x, .int y, .int z]))
def sp_roll : Sp := fun vs H Q _ => ∃ (a : Addr) (t : Int), vs = [.ref a, .int t] ∧ Dc a H ∧ 0 < t ∧ t < 1000000000 ∧ ∀ r H', Mv a H H' → 0 ≤ r → r < t → Q (.int r) H'
def sp_pick (K : PySem.W.Frag) : Sp := fun vs H Q _ => ∃ (a b : Addr) (xs : List V), vs = [.ref a, .ref b] ∧ Dc a H ∧ b ≠ a ∧ SqL K H b xs ∧ 0 < xs.length ∧ xs.length < 1000000000 ∧ ∀ v H', Mv a H H' → v ∈ xs → Q v H'
def sp_raised : Sp := fun vs H Q _ => ∃ (b : Int) (n : Nat), vs = [.int b, .int n] ∧ n ≤ 1000 ∧ (-(2 ^ 64) < b ∧ b < 2 ^ 64) ∧ Q (.int (b ^ n)) H
def sp_idrawn : Sp := fun vs H Q _ => ∃ a : Addr, vs = [.ref a] ∧ Dc a H ∧ ∀ n H', Mv a H H' → drawnN n → Q (.int n) H'
def sp_ndrawn : Sp := fun vs H Q _ => ∃ a : Addr, vs = [.ref a] ∧ Dc a H ∧ ∀ (s : Str) H', Mv a H H' → s.length ≤ 100 → (∀ c ∈ s.cps.toList, c < 128) → Q (.str s) H'
def sp_refused (K : PySem.W.Frag) : Sp := fun vs H Q _ => ∃ p x : V, vs = [p, x] ∧ Kd K H p ∧ Kd K H x ∧ (∀ i, p = .int i → primeB p = true → Q (.bl false) H) ∧ (primeB p = false → Q (.bl true) H)
section
variable {X : Cx}
theorem vals_of : ∀ {xs : List V} {us : List Value}, xs.length = us.length → (∀ (j : Nat) (x : V) (u : Value), xs[j]? = some x → us[j]? = some u → RelV x u) → Vals xs us
  | [], [], _, _ => .nil
  | [], _ :: _, h, _ => by cases h
  | _ :: _, [], h, _ => by cases h
  | x :: xs, u :: us, h, k => .cons (k 0 x u rfl rfl) (vals_of (Nat.succ.inj h) fun j y v hy hv => k (j + 1) y v hy hv)
/-- list(text) -/
theorem call_list_s (hc : X.calm = true) : CallR X (.type "list") (fun xs H Q => ∃ z : Str, xs = [.str z] ∧ z.length ≤ sizeLine ∧ ∀ p, H p = none → Q (.ref p) (upd H p (.lst (z.cps.toList.map fun c => V.str ⟨#[c]⟩)))) := by
  intro pins s σ H xs us Q I r h
  obtain ⟨z, rfl, hz, q⟩ := h
  obtain ⟨u, rfl, rx⟩ := vals1 r
  obtain ⟨t, rfl⟩ := rx
  refine call_list_str (I.ok.hd hc) z t (fun h' tk acc' c' kp e it => ?_) hz
  have hv : Vals (z.cps.toList.map fun c => V.str ⟨#[c]⟩) acc'.toList := by
    obtain ⟨hsz, hat⟩ := it
    refine vals_of (by rw [List.length_map, Array.length_toList, Array.length_toList, hsz]) fun j x u hx hu => ?_
    rw [Array.getElem?_toList] at hu
    obtain ⟨c, t', hc', rfl⟩ := hat j u hu
    rw [List.getElem?_map, Array.getElem?_toList, hc'] at hx
    cases hx
    exact ⟨t', rfl⟩
  refine ⟨.ref s.heap.objs.size, _, I.laid (t' := tk) kp (Nat.le_refl _) (show ObjOk X.prog X.w _ h' _ (.lst _) from ⟨?_, acc'.toList, c', hv, ?_⟩), rfl, q _ (I.hok.fresh (Nat.le_refl _))⟩
  · rw [List.length_map]
    exact hz
  · rw [Array.toArray_toList]
    exact e
end
/-- a comprehension without a test -/
theorem yes_go {te : TE} {σ : L2.St} {H : Hp} {k : V → Hp → Prop} {n : Hp → Prop} (h : te σ H k) : tYes σ H (fun b H3 => if b = true then te σ H3 k else n H3) := by
  show (if true = true then te σ H k else n H)
  rw [if_pos rfl]
  exact h
/-- a comprehension over a text's signs -/
theorem lc_str {z : Str} {g : TG} {tt : TT} {te : TE} {vs : List Nat} {σ : L2.St} {H1 : Hp} {D : Addr} {Qd : Hp → Prop} (Pv : Nat → Hp → Prop)
    (h0 : Pv 0 (upd H1 D (.lst [])))
    (hs : ∀ i c H, z.cps[i]? = some c → Pv i H → g (.str ⟨#[c]⟩) (wipe σ vs) H fun σ2 H2 => wipe σ2 vs = wipe σ vs ∧ tt σ2 H2 fun b H3 =>
      if b = true then (te σ2 H3 fun y H4 => ∃ acc, H4 D = some (.lst acc) ∧ acc.length < sizeLine ∧ Pv (i + 1) (upd H4 D (.lst (acc ++ [y])))) else Pv (i + 1) H3)
    (hd : ∀ H, Pv z.cps.size H → Qd H) :
    ∃ W : Nat → Nat → Hp → Prop, (∃ m, W 0 m (upd H1 D (.lst []))) ∧ ∀ i m H, W i m H →
      ((Its z).stop i H ∧ Qd H) ∨ ((Its z).go i H ∧ ∃ Nx : Hp → Prop, (∀ H', Nx H' → ∃ m', m' < m ∧ W (i + 1) m' H') ∧ ∀ x H', (Its z).yld i H x H' → g x (wipe σ vs) H' fun σ2 H2 => wipe σ2 vs = wipe σ vs ∧ tt σ2 H2 fun b H3 =>
        if b = true then (te σ2 H3 fun y H4 => ∃ acc, H4 D = some (.lst acc) ∧ acc.length < sizeLine ∧ Nx (upd H4 D (.lst (acc ++ [y])))) else Nx H3) := by
  refine ⟨fun i m H => m = z.cps.size - i ∧ i ≤ z.cps.size ∧ Pv i H, ⟨z.cps.size, by omega, Nat.zero_le _, h0⟩, fun i m H hw => ?_⟩
  obtain ⟨rfl, hi, p⟩ := hw
  by_cases c : i < z.cps.size
  · refine .inr ⟨c, Pv (i + 1), fun H' q => ⟨z.cps.size - (i + 1), by omega, rfl, by omega, q⟩, fun x H' y => ?_⟩
    obtain ⟨rfl, k, hk, rfl⟩ := y
    exact hs i k _ hk p
  · have e : i = z.cps.size := by omega
    subst e
    exact .inl ⟨Nat.le_refl _, hd _ p⟩
theorem join_cs (cs : List Nat) : Txt.join "" (cs.map fun c => (⟨#[c]⟩ : Str)) = ⟨cs.toArray⟩ := by
  have e : Txt.join "" (cs.map fun c => (⟨#[c]⟩ : Str)) = Str.join "" (cs.map fun c => (⟨#[c]⟩ : Str)) := eq_of_beq (PyProof.Rows.join_plain_closes "" _)
  have z : ("" : Str) = ⟨#[]⟩ := by decide +kernel
  rw [e, z]
  exact PyProof.Rows.join_ones cs
theorem sum_ones : ∀ cs : List Nat, ((cs.map fun c => (⟨#[c]⟩ : Str)).map (·.length)).sum = cs.length
  | [] => rfl
  | c :: r => by
    have ih := sum_ones r
    rw [List.map_cons, List.map_cons, List.sum_cons, ih, List.length_cons]
    show 1 + r.length = r.length + 1
    omega
theorem digits_len {v : Nat} {k : Nat} (hk : 0 < k) : (Str.ofString (toString (v : Int))).length ≤ k ↔ v < 10 ^ k := by
  rw [PyProof.Rows.ofString_length]
  have e : toString (v : Int) = Nat.repr v := rfl
  rw [e, Nat.repr_eq_ofList_toDigits, String.toList_ofList]
  exact Nat.length_toDigits_le_iff (by decide) hk
theorem le97 (c : Nat) : (!decide ((⟨#[c]⟩ : Str).cps.toList < ("a" : Str).cps.toList)) = decide (97 ≤ c) := by
  have e : ("a" : Str).cps.toList = [97] := by decide +kernel
  rw [e]
  show (!decide ([c] < [97])) = decide (97 ≤ c)
  by_cases h : c < 97
  · have : [c] < [97] := List.Lex.rel h
    rw [decide_eq_true this, decide_eq_false (by omega)]
    rfl
  · have : ¬ [c] < [97] := fun q => by
      cases q with
      | rel r => exact h r
      | cons r => cases r
    rw [decide_eq_false this, decide_eq_true (by omega)]
    rfl
theorem le122 (c : Nat) : (!decide (("z" : Str).cps.toList < (⟨#[c]⟩ : Str).cps.toList)) = decide (c ≤ 122) := by
  have e : ("z" : Str).cps.toList = [122] := by decide +kernel
  rw [e]
  show (!decide ([122] < [c])) = decide (c ≤ 122)
  by_cases h : 122 < c
  · have : [122] < [c] := List.Lex.rel h
    rw [decide_eq_true this, decide_eq_false (by omega)]
    rfl
  · have : ¬ [122] < [c] := fun q => by
      cases q with
      | rel r => exact h r
      | cons r => cases r
    rw [decide_eq_false this, decide_eq_true (by omega)]
    rfl

def sp_right : Sp := fun vs H Q _ => ∃ a : Addr, vs = [.ref a] ∧ Dc a H ∧ ∀ H', Mv a H H' → Q (.bl true) H'
def sp_law (K : PySem.W.Frag) (P : Addr) : Sp := fun vs H Q _ => ∃ (a : Addr) (ns : List Int), vs = [.ref a] ∧ SqL K H a (ns.map V.int) ∧ ns.length ≤ 63 ∧ H P = some (.tbl #[]) ∧ ∀ H', Q (.bl true) H'

/-! ### what is found, as a dict holds it -/
def toD (fs : List (Nat × Nat)) : List (Key × V) := fs.map fun p => (.inl (p.1 : Int), .int (p.2 : Int))
theorem int_dec {a b : Nat} : (decide ((.inl (a : Int) : Key) = .inl (b : Int))) = decide (a = b) := by
  rw [decide_eq_decide]
  exact ⟨fun h => by injection h with h; omega, fun h => by rw [h]⟩
theorem val_toD : ∀ (fs : List (Nat × Nat)) (d : Nat), (valV (toD fs) (.inl (d : Int))).getD (.int 0) = .int (((seen fs d).getD 0 : Nat) : Int)
  | [], _ => rfl
  | p :: fs, d => by
    have ih := val_toD fs d
    unfold valV toD seen at ih ⊢
    rw [List.map_cons, List.find?_cons, List.find?_cons]
    show (Option.map _ (match decide ((.inl (p.1 : Int) : Key) = .inl (d : Int)) with | true => _ | false => _)).getD _ = _
    rw [int_dec]
    cases decide (p.1 = d) with
    | true => rfl
    | false => exact ih
theorem seen_mem : ∀ {fs : List (Nat × Nat)} {p : Nat × Nat}, (fs.map (·.1)).Nodup → p ∈ fs → seen fs p.1 = some p.2
  | q :: fs, p, nd, h => by
    rw [List.map_cons, List.nodup_cons] at nd
    unfold seen
    rw [List.find?_cons]
    rcases List.mem_cons.mp h with rfl | h
    · rw [decide_eq_true rfl]
      rfl
    · have ne : ¬ q.1 = p.1 := fun e => nd.1 (e ▸ List.mem_map.mpr ⟨p, h, rfl⟩)
      rw [decide_eq_false ne]
      exact seen_mem nd.2 h
theorem put_toD {fs : List (Nat × Nat)} {d : Nat} (nd : (fs.map (·.1)).Nodup) : putK (toD fs) (.inl (d : Int)) (.int ((((seen fs d).getD 0 : Nat) : Int) + 1)) = toD (bump fs d) := by
  have e1 : ((toD fs).any fun kv => decide (kv.1 = (.inl (d : Int) : Key))) = fs.any (fun p => decide (p.1 = d)) := by
    unfold toD
    rw [List.any_map]
    exact congrArg (fun f => List.any fs f) (funext fun p => int_dec)
  unfold putK bump
  rw [e1]
  by_cases c : fs.any (fun p => decide (p.1 = d)) = true
  · rw [if_pos c, if_pos c]
    unfold toD
    rw [List.map_map, List.map_map]
    refine List.map_congr_left fun p hp => ?_
    show (if (.inl (p.1 : Int) : Key) = .inl (d : Int) then ((.inl (p.1 : Int) : Key), V.int _) else (.inl (p.1 : Int), V.int (p.2 : Int))) = _
    by_cases e : p.1 = d
    · rw [if_pos (by rw [e])]
      show _ = ((.inl ((if p.1 = d then (p.1, p.2 + 1) else p).1 : Int) : Key), V.int ((if p.1 = d then (p.1, p.2 + 1) else p).2 : Int))
      rw [if_pos e, ← e, seen_mem nd hp]
      rfl
    · rw [if_neg (fun z => e (by injection z with z; omega))]
      show _ = ((.inl ((if p.1 = d then (p.1, p.2 + 1) else p).1 : Int) : Key), V.int ((if p.1 = d then (p.1, p.2 + 1) else p).2 : Int))
      rw [if_neg e]
  · rw [if_neg c, if_neg c]
    have e0 : seen fs d = none := by
      unfold seen
      rw [Option.map_eq_none_iff, List.find?_eq_none]
      intro x hx z
      exact c (List.any_eq_true.mpr ⟨x, hx, z⟩)
    rw [e0]
    unfold toD
    rw [List.map_append]
    rfl
theorem seen_none {fs : List (Nat × Nat)} {d : Nat} (h : d ∉ fs.map (·.1)) : seen fs d = none := by
  unfold seen
  rw [Option.map_eq_none_iff, List.find?_eq_none]
  intro x hx z
  exact h (List.mem_map.mpr ⟨x, hx, of_decide_eq_true z⟩)
theorem upd_twice {H : Hp} {p : Addr} {x y : HO} : upd (upd H p x) p y = upd H p y := by
  funext b
  unfold upd
  split <;> rfl
/-! ### the promises of this law -/
def sp_count (K : PySem.W.Frag) (C : Addr) : Sp := fun vs H Q E => ∃ (x : V) (lo hi : Int), vs = [x, .int lo, .int hi] ∧ Kd K H x ∧ (withinB x lo hi = true → Q .non H) ∧ (withinB x lo hi = false → ∀ d, H d = none → E (.ref C) (some d) (upd H d (.xd [("value", x)])))
def sp_factors (K : PySem.W.Frag) (cC cM : Addr) : Sp := fun vs H Q E => ∃ x : V, vs = [x] ∧ Kd K H x ∧
  (withinB x 1 top60 = false → ∀ d, H d = none → E (.ref cC) (some d) (upd H d (.xd [("value", x)]))) ∧
  ∀ i : Int, x = .int i → withinB x 1 top60 = true →
    (1000000000000 < i → ∀ d, H d = none → E (.ref cM) (some d) (upd H d (.xd [("limit", .int 1000000000000)]))) ∧
    (i ≤ 1000000000000 → ∃ ps : List Nat, i = prod ps ∧ Ps ps ∧ ∀ p, H p = none → Q (.ref p) (upd H p (.dK (toD (cnt ps)))))
/-! ### residues -/
def primesN : List Nat := [3, 5, 7, 11, 13, 17, 19, 23, 29, 31]
def first (f : Nat → Bool) : Nat → Nat → Option Nat
  | _, 0 => none
  | s, n + 1 => if f s = true then some s else first f (s + 1) n
theorem first_from {f : Nat → Bool} {p : Nat} : ∀ i, i ≤ p → (∀ r, r < i → f r = false) → first f 0 p = first f i (p - i)
  | 0, _, _ => rfl
  | i + 1, h, hf => by
    rw [first_from i (by omega) fun r hr => hf r (by omega)]
    have e : p - i = (p - (i + 1)) + 1 := by omega
    rw [e]
    show (if f i = true then some i else first f (i + 1) (p - (i + 1))) = _
    rw [hf i (by omega)]
    rfl
theorem first_at {f : Nat → Bool} {p i : Nat} (h : i < p) (hf : ∀ r, r < i → f r = false) (hi : f i = true) : first f 0 p = some i := by
  rw [first_from i (by omega) hf]
  have e : p - i = (p - (i + 1)) + 1 := by omega
  rw [e]
  show (if f i = true then some i else _) = _
  rw [if_pos hi]
theorem first_none {f : Nat → Bool} {p : Nat} (hf : ∀ r, r < p → f r = false) : first f 0 p = none := by
  rw [first_from p (Nat.le_refl _) hf, Nat.sub_self]
  rfl
def rootN (p n : Nat) : Option Nat := first (fun r => r * r % p == n) 0 p
def optV : Option Nat → V
  | some r => .int (r : Int)
  | none => .non
def leastN (p : Nat) : Nat := (first (fun k => decide (2 ≤ k) && (rootN p k).isNone) 0 p).getD 0
theorem inv_table : (primesN.all fun p => (List.range p).all fun n => n == 0 || (List.range p).any fun r => r * n % p == 1) = true := by decide +kernel
theorem least_table : (primesN.all fun p => decide (leastN p < p) && decide (2 ≤ leastN p) && (rootN p (leastN p)).isNone && (List.range (leastN p)).all fun k => decide (k < 2) || (rootN p k).isSome) = true := by decide +kernel
theorem has_inv {p n : Nat} (hp : p ∈ primesN) (n1 : 1 ≤ n) (np : n < p) : ∃ r, 1 ≤ r ∧ r < p ∧ r * n % p = 1 := by
  have a := List.all_eq_true.mp (List.all_eq_true.mp inv_table p hp) n (List.mem_range.mpr np)
  rw [Bool.or_eq_true] at a
  rcases a with a | a
  · have := eq_of_beq a
    omega
  · obtain ⟨r, hr, e⟩ := List.any_eq_true.mp a
    have e := eq_of_beq e
    refine ⟨r, ?_, List.mem_range.mp hr, e⟩
    cases r with
    | zero =>
      rw [Nat.zero_mul, Nat.zero_mod] at e
      cases e
    | succ r => omega
theorem least_is {p : Nat} (hp : p ∈ primesN) : leastN p < p ∧ 2 ≤ leastN p ∧ rootN p (leastN p) = none ∧ ∀ k, 2 ≤ k → k < leastN p → rootN p k ≠ none := by
  have a := List.all_eq_true.mp least_table p hp
  simp only [Bool.and_eq_true, decide_eq_true_eq, List.all_eq_true, Bool.or_eq_true, List.mem_range] at a
  obtain ⟨⟨⟨a1, a2⟩, a3⟩, a4⟩ := a
  refine ⟨a1, a2, Option.isNone_iff_eq_none.mp a3, fun k k2 kl z => ?_⟩
  rcases a4 k kl with b | b
  · omega
  · rw [z] at b
    cases b
theorem primes_cast : primes = primesN.map Int.ofNat := by decide +kernel
theorem prime_nat {i : Int} (h : i ∈ primes) : ∃ p : Nat, i = (p : Int) ∧ p ∈ primesN := by
  rw [primes_cast] at h
  obtain ⟨p, hp, e⟩ := List.mem_map.mp h
  exact ⟨p, e.symm, hp⟩
theorem nat_prime {p : Nat} (h : p ∈ primesN) : (p : Int) ∈ primes := by
  rw [primes_cast]
  exact List.mem_map.mpr ⟨p, h, rfl⟩
theorem primeN_of {p : Nat} (h : p ∈ primesN) : 3 ≤ p ∧ p ≤ 31 := by
  have := prime_of (nat_prime h)
  omega
theorem primeB_inv {x : V} (h : primeB x = true) : ∃ p : Nat, x = .int (p : Int) ∧ p ∈ primesN := by
  obtain ⟨h1, h2⟩ := Bool.and_eq_true_iff.mp (show (intB x && inV x (primes.map V.int)) = true from h)
  cases x with
  | int i =>
    unfold inV at h2
    obtain ⟨y, hy, e⟩ := List.any_eq_true.mp h2
    obtain ⟨j, hj, rfl⟩ := List.mem_map.mp hy
    have eij : i = j := by
      have z : j = i := by simpa [eqV] using e
      exact z.symm
    subst eij
    obtain ⟨p, rfl, hp⟩ := prime_nat hj
    exact ⟨p, rfl, hp⟩
  | _ => cases h1
theorem within_inv {x : V} {lo hi : Int} (h : withinB x lo hi = true) : ∃ i : Int, x = .int i ∧ lo ≤ i ∧ i ≤ hi := by
  cases x with
  | int i =>
    obtain ⟨_, h2⟩ := Bool.and_eq_true_iff.mp (show (intB (.int i) && (decide (lo ≤ i) && decide (i ≤ hi))) = true from h)
    obtain ⟨h3, h4⟩ := Bool.and_eq_true_iff.mp h2
    exact ⟨i, rfl, of_decide_eq_true h3, of_decide_eq_true h4⟩
  | _ => cases h
def sp_inv : Sp := fun vs H Q _ => ∃ p n : Nat, vs = [.int p, .int n] ∧ p ∈ primesN ∧ 1 ≤ n ∧ n < p ∧ ∀ r : Nat, 1 ≤ r → r < p → r * n % p = 1 → Q (.int r) H
def sp_rinv (K : PySem.W.Frag) (cP cC : Addr) : Sp := fun vs H Q E => ∃ p x : V, vs = [p, x] ∧ Kd K H p ∧ Kd K H x ∧ (primeB p = false → E (.ref cP) none H) ∧
  ∀ i : Nat, p = .int i → i ∈ primesN → (withinB x 1 (i - 1) = false → ∀ d, H d = none → E (.ref cC) (some d) (upd H d (.xd [("value", x)]))) ∧
    (∀ n : Nat, x = .int n → 1 ≤ n → n < i → ∀ r : Nat, 1 ≤ r → r < i → r * n % i = 1 → Q (.int r) H)
def sp_root (K : PySem.W.Frag) (cP cC : Addr) : Sp := fun vs H Q E => ∃ p x : V, vs = [p, x] ∧ Kd K H p ∧ Kd K H x ∧ (primeB p = false → E (.ref cP) none H) ∧
  ∀ i : Nat, p = .int i → i ∈ primesN → (withinB x 0 (i - 1) = false → ∀ d, H d = none → E (.ref cC) (some d) (upd H d (.xd [("value", x)]))) ∧
    (∀ n : Nat, x = .int n → n < i → Q (optV (rootN i n)) H)
def sp_least (K : PySem.W.Frag) (cP : Addr) : Sp := fun vs H Q E => ∃ p : V, vs = [p] ∧ Kd K H p ∧ (primeB p = false → E (.ref cP) none H) ∧
  ∀ i : Nat, p = .int i → i ∈ primesN → Q (.int (leastN i)) H
/-! ### the squares of a prime, with their least roots -/
theorem same_new {H : Hp} {d : Addr} {o : HO} (h : H d = none) : ∀ a u, H a = some u → upd H d o a = some u := fun a u e => by rw [upd_ne (ne_of_none e h)]; exact e
def sqStep (p : Nat) (fs : List (Nat × Nat)) (x : Nat) : List (Nat × Nat) := if (seen fs (x * x % p)).isSome = true then fs else fs ++ [(x * x % p, x)]
def sqs (p i : Nat) : List (Nat × Nat) := (List.range i).foldl (sqStep p) []
theorem sqs_succ (p i : Nat) : sqs p (i + 1) = sqStep p (sqs p i) i := by
  unfold sqs
  rw [List.range_succ, List.foldl_append]
  rfl
theorem sq_table : (primesN.all fun p => ((List.range (p + 1)).all fun i => decide ((sqs p i).length ≤ 31)) && ((List.range p).all fun n => seen (sqs p p) n == rootN p n) && (sqs p p).length == (p + 1) / 2 &&
    ((List.range p).filter fun k => (rootN p k).isNone)[0]? == some (leastN p)) = true := by decide +kernel
theorem mul_table : (primesN.all fun p => (List.range p).all fun a => (List.range p).all fun b => a == 0 || b == 0 || (rootN p (a * b % p)).isSome == ((rootN p a).isSome == (rootN p b).isSome)) = true := by decide +kernel
theorem sq_facts {p : Nat} (hp : p ∈ primesN) : (∀ i, i ≤ p → (sqs p i).length ≤ 31) ∧ (∀ n, n < p → seen (sqs p p) n = rootN p n) ∧ (sqs p p).length = (p + 1) / 2 ∧ ((List.range p).filter fun k => (rootN p k).isNone)[0]? = some (leastN p) := by
  have a := List.all_eq_true.mp sq_table p hp
  simp only [Bool.and_eq_true, List.all_eq_true, List.mem_range, decide_eq_true_eq, beq_iff_eq] at a
  obtain ⟨⟨⟨a1, a2⟩, a3⟩, a4⟩ := a
  exact ⟨fun i hi => a1 i (by omega), a2, a3, a4⟩
theorem mul_facts {p a b : Nat} (hp : p ∈ primesN) (ha : a < p) (hb : b < p) (a1 : 1 ≤ a) (b1 : 1 ≤ b) : (rootN p (a * b % p)).isSome = ((rootN p a).isSome == (rootN p b).isSome) := by
  have t := List.all_eq_true.mp (List.all_eq_true.mp (List.all_eq_true.mp mul_table p hp) a (List.mem_range.mpr ha)) b (List.mem_range.mpr hb)
  simp only [Bool.or_eq_true, beq_iff_eq] at t
  rcases t with (t | t) | t
  · omega
  · omega
  · exact t
theorem valN : ∀ (fs : List (Nat × Nat)) (d : Nat), valV (toD fs) (.inl (d : Int)) = Option.map (fun e : Nat => V.int (e : Int)) (seen fs d)
  | [], _ => rfl
  | p :: fs, d => by
    have ih := valN fs d
    unfold valV toD seen at ih ⊢
    rw [List.map_cons, List.find?_cons, List.find?_cons]
    show Option.map _ (match decide ((.inl (p.1 : Int) : Key) = .inl (d : Int)) with | true => _ | false => _) = _
    rw [int_dec]
    cases decide (p.1 = d) with
    | true => rfl
    | false => exact ih
theorem put_new {fs : List (Nat × Nat)} {d v : Nat} (h : seen fs d = none) : putK (toD fs) (.inl (d : Int)) (.int (v : Int)) = toD (fs ++ [(d, v)]) := by
  have e1 : ((toD fs).any fun kv => decide (kv.1 = (.inl (d : Int) : Key))) = false := by
    have n := valN fs d
    rw [h] at n
    unfold valV at n
    rw [Option.map_none, Option.map_eq_none_iff, List.find?_eq_none] at n
    rw [List.any_eq_false]
    exact n
  unfold putK
  rw [e1]
  rw [if_neg Bool.false_ne_true]
  unfold toD
  rw [List.map_append]
  rfl
theorem Mv.put {a d : Addr} {H H' : Hp} {o : HO} (m : Mv a H H') (n : H d = none) (ne : d ≠ a) : Mv a H (upd H' d o) := ⟨fun b u nb e => by
  rw [upd_ne (ne_of_none e n)]
  exact m.keep b u nb e, by
  obtain ⟨x, y, z, e⟩ := m.dice
  exact ⟨x, y, z, by rw [upd_ne ne.symm]; exact e⟩⟩
def parts : List Nat := [2, 3, 5, 7, 11, 13, 31, 37, 97, 101, 997, 1009, 9973]
theorem parts_pr {x : Nat} (h : x ∈ parts) : Pr x := by
  have t : (parts.all fun x => (decide (2 ≤ x) && (List.range x).all fun q => decide (q < 2) || x % q != 0)) = true := by decide +kernel
  exact pr_by (List.all_eq_true.mp t x h)
theorem parts_le {x : Nat} (h : x ∈ parts) : 2 ≤ x ∧ x ≤ 9973 := by
  unfold parts at h
  simp only [List.mem_cons, List.not_mem_nil, or_false] at h
  omega
theorem prod_snoc (qs : List Nat) (x : Nat) : prod (qs ++ [x]) = prod qs * x := by
  induction qs with
  | nil => exact Nat.mul_comm x 1
  | cons q qs ih =>
    show q * prod (qs ++ [x]) = q * prod qs * x
    rw [ih, Nat.mul_assoc]
theorem cnt_len (qs : List Nat) : (cnt qs).length ≤ qs.length := by
  have k : ∀ (l : List Nat) (a : List (Nat × Nat)), (l.foldl bump a).length ≤ a.length + l.length := by
    intro l
    induction l with
    | nil => intro a; exact Nat.le_refl _
    | cons x l ih =>
      intro a
      have b : (bump a x).length ≤ a.length + 1 := by
        unfold bump
        split
        · rw [List.length_map]
          omega
        · rw [List.length_append]
          exact Nat.le_refl _
      have := ih (bump a x)
      show (List.foldl bump (bump a x) l).length ≤ _
      rw [List.length_cons]
      omega
  have := k qs []
  simp only [List.length_nil] at this
  unfold cnt
  omega
mutual
theorem Dp.same {K : PySem.W.Frag} {H H' : Hp} (s : Same H H') : ∀ {d : PyData} {v : V}, Dp K H v d → Dp K H' v d
  | _, _, .non => .non
  | _, _, .bl b => .bl b
  | _, _, .int i => .int i
  | _, _, .str x => .str x
  | _, _, .lst h r => .lst (by
      rcases h with (h | ⟨o, h⟩) | h
      · exact .inl (.inl (s _ _ h))
      · exact .inl (.inr ⟨o, s _ _ h⟩)
      · exact .inr h) (DpAll.same s r)
  | _, _, .tup h r => .tup (by
      rcases h with (h | ⟨o, h⟩) | h
      · exact .inl (.inl (s _ _ h))
      · exact .inl (.inr ⟨o, s _ _ h⟩)
      · exact .inr h) (DpAll.same s r)
theorem DpAll.same {K : PySem.W.Frag} {H H' : Hp} (s : Same H H') : ∀ {ds : List PyData} {vs : List V}, DpAll K H vs ds → DpAll K H' vs ds
  | _, _, .nil => .nil
  | _, _, .cons h r => .cons (Dp.same s h) (DpAll.same s r)
end
theorem paired_imp {α β : Type} {F G : α → β → Prop} (h : ∀ a b, F a b → G a b) : ∀ {l : List α} {m : List β}, Paired F l m → Paired G l m
  | _, _, .nil => .nil
  | _, _, .cons a b => .cons (h _ _ a) (paired_imp h b)
/-! ### pairs put in order -/
/-- the pair that a reference names -/
def pairAt (H : Hp) : V → Int × Int
  | .ref t => match H t with
    | some (.tup [.int i, .int j]) => (i, j)
    | _ => (0, 0)
  | _ => (0, 0)
def pairN (H : Hp) (v : V) : Nat × Nat := ((pairAt H v).1.toNat, (pairAt H v).2.toNat)
def pd (q : Nat × Nat) : PyData := .tuple [.int (q.1 : Int), .int (q.2 : Int)]
/-- v names a pair of numbers -/
def IsP (H : Hp) (v : V) : Prop := ∃ (t : Addr) (i j : Nat), v = .ref t ∧ H t = some (.tup [.int (i : Int), .int (j : Int)])
theorem IsP.at {H : Hp} {v : V} (h : IsP H v) : ∃ t, v = .ref t ∧ H t = some (.tup [.int ((pairN H v).1 : Int), .int ((pairN H v).2 : Int)]) ∧ pairAt H v = (((pairN H v).1 : Int), ((pairN H v).2 : Int)) := by
  obtain ⟨t, i, j, rfl, e⟩ := h
  have a : pairAt H (.ref t) = ((i : Int), (j : Int)) := by
    show (match H t with
      | some (.tup [.int i, .int j]) => (i, j)
      | _ => ((0 : Int), (0 : Int))) = _
    rw [e]
  have b : pairN H (.ref t) = (i, j) := by
    unfold pairN
    rw [a]
    rfl
  rw [b]
  exact ⟨t, rfl, e, a⟩
theorem paired_at {H : Hp} : ∀ {ts : List Addr} {fs : List (Nat × Nat)}, Paired (fun (t : Addr) (q : Key × V) => H t = some (.tup [kV q.1, q.2])) ts (toD fs) →
    (∀ v ∈ ts.map V.ref, IsP H v) ∧ (ts.map V.ref).map (pairN H) = fs
  | [], [], _ => ⟨fun v hv => (nomatch hv), rfl⟩
  | [], _ :: _, h => nomatch h
  | _ :: _, [], h => nomatch h
  | t :: ts, q :: fs, h => by
    cases h with
    | cons h1 h2 =>
      obtain ⟨a, b⟩ := paired_at h2
      have p1 : IsP H (.ref t) := ⟨t, q.1, q.2, rfl, h1⟩
      refine ⟨fun v hv => ?_, ?_⟩
      · rcases List.mem_cons.mp hv with rfl | hv
        · exact p1
        · exact a v hv
      · have e : pairN H (.ref t) = q := by
          unfold pairN pairAt
          have h1' : H t = some (.tup [.int (q.1 : Int), .int (q.2 : Int)]) := h1
          simp only [h1']
          rfl
        show pairN H (.ref t) :: (ts.map V.ref).map (pairN H) = q :: fs
        rw [e, b]
theorem dp_pairs {K : PySem.W.Frag} {H : Hp} : ∀ {ys : List V}, (∀ v ∈ ys, IsP H v) → DpAll K H ys ((ys.map (pairN H)).map pd)
  | [], _ => .nil
  | y :: ys, h => by
    obtain ⟨t, e, e2, _⟩ := (h y List.mem_cons_self).at
    refine .cons ?_ (dp_pairs fun v hv => h v (List.mem_cons_of_mem _ hv))
    rw [e] at e2 ⊢
    exact .tup (SqT.of e2) (.cons (.int _) (.cons (.int _) .nil))
theorem put_in_order {H : Hp} {ts : List Addr} {fs : List (Nat × Nat)} {ys : List V} (pr : Paired (fun (t : Addr) (q : Key × V) => H t = some (.tup [kV q.1, q.2])) ts (toD fs)) (nd : (fs.map (·.1)).Nodup)
    (srt : SrtO.Srtd (ltP (pairAt H)) ys) (pm : ys.Perm (ts.map V.ref)) : (∀ v ∈ ys, IsP H v) ∧ (ys.map (pairN H)).Perm fs ∧ (ys.map (pairN H)).Pairwise (fun a b => a.1 < b.1) := by
  obtain ⟨a, b⟩ := paired_at pr
  have isp : ∀ v ∈ ys, IsP H v := fun v hv => a v (pm.mem_iff.mp hv)
  have perm : (ys.map (pairN H)).Perm fs := b ▸ pm.map (pairN H)
  refine ⟨isp, perm, ?_⟩
  have nd2 : ((ys.map (pairN H)).map (·.1)).Nodup := (perm.map (·.1)).nodup_iff.mpr nd
  rw [List.map_map] at nd2
  have nd3 := List.pairwise_map.mp nd2
  rw [List.pairwise_map]
  refine (List.pairwise_and_iff.mpr ⟨srt, nd3⟩).imp_of_mem fun {x y} hx hy hxy => ?_
  obtain ⟨h1, h2⟩ := hxy
  obtain ⟨_, _, _, ex⟩ := (isp x hx).at
  obtain ⟨_, _, _, ey⟩ := (isp y hy).at
  have h3 : SrtO.lexB (pairAt H y) (pairAt H x) = false := h1
  rw [ex, ey] at h3
  have h4 : ¬ SrtO.lexB (((pairN H y).1 : Int), ((pairN H y).2 : Int)) (((pairN H x).1 : Int), ((pairN H x).2 : Int)) = true := by rw [h3]; exact Bool.false_ne_true
  rw [SrtO.lexB_iff] at h4
  have h5 : (pairN H x).1 ≠ (pairN H y).1 := h2
  omega
theorem order_of (qs : List Nat) : ∃ ps : List Nat, ps.Perm qs ∧ ps.Pairwise (· ≤ ·) := by
  refine ⟨qs.mergeSort (fun a b => decide (a ≤ b)), List.mergeSort_perm _ _, ?_⟩
  refine (List.pairwise_mergeSort (fun a b c h1 h2 => ?_) (fun a b => ?_) qs).imp fun h => of_decide_eq_true h
  · exact decide_eq_true (Nat.le_trans (of_decide_eq_true h1) (of_decide_eq_true h2))
  · rcases Nat.le_total a b with h | h
    · rw [decide_eq_true h]
      rfl
    · rw [decide_eq_true h, Bool.or_true]
theorem eqv_pairs (fs : List (Nat × Nat)) : PyData.eqv (.list (fs.map pd)) (.list (fs.map pd)) = true := by
  show PyData.eqvAll (fs.map pd) (fs.map pd) = true
  induction fs with
  | nil => rfl
  | cons q fs ih =>
    rw [List.map_cons]
    simp only [PyData.eqvAll, ih, Bool.and_true]
    unfold pd
    simp only [PyData.eqv, PyData.eqvAll, beq_self_eq_true, Bool.and_true]
theorem shaped_pairs (fs : List (Nat × Nat)) : SeqAt.shaped (.list (fs.map pd)) = true := by
  have a : PyData.canLayAll0 (fs.map pd) = true := by
    induction fs with
    | nil => rfl
    | cons q fs ih =>
      rw [List.map_cons]
      simp only [PyData.canLayAll0, ih, Bool.and_true]
      rfl
  have b : PyData.depthAll (fs.map pd) ≤ 1 := by
    clear a
    induction fs with
    | nil => exact Nat.zero_le _
    | cons q fs ih =>
      rw [List.map_cons]
      simp only [PyData.depthAll]
      have e : PyData.depth (pd q) ≤ 1 := by
        unfold pd
        simp only [PyData.depth, PyData.depthAll]
        omega
      omega
  unfold SeqAt.shaped
  rw [show PyData.canLay0 (.list (fs.map pd)) = true from a, Bool.true_and]
  refine decide_eq_true ?_
  simp only [PyData.depth]
  omega
theorem out_high {i lo hi : Int} (h : hi < i) : withinB (.int i) lo hi = false := by
  show (intB (.int i) && (decide (lo ≤ i) && decide (i ≤ hi))) = false
  rw [decide_eq_false (show ¬ i ≤ hi by omega), Bool.and_false, Bool.and_false]
theorem out_low {i lo hi : Int} (h : i < 0) : withinB (.int i) lo hi = false ∨ lo < 0 := by
  by_cases c : lo < 0
  · exact .inr c
  · refine .inl ?_
    show (intB (.int i) && (decide (lo ≤ i) && decide (i ≤ hi))) = false
    rw [decide_eq_false (show ¬ lo ≤ i by omega), Bool.false_and, Bool.and_false]
theorem eqv_strs (ss : List Str) : PyData.eqv (.list (ss.map PyData.str)) (.list (ss.map PyData.str)) = true := by
  show PyData.eqvAll (ss.map PyData.str) (ss.map PyData.str) = true
  induction ss with
  | nil => rfl
  | cons x ss ih =>
    rw [List.map_cons]
    simp only [PyData.eqvAll, ih, Bool.and_true]
    simp only [PyData.eqv, beq_self_eq_true]
/-! ### odd values, and what is told of them -/
def good (d : PyData) : Bool := d.showable && decide (d.depth ≤ 60) && decide (d.shown.length ≤ 1000) && PyData.strOk ("count " ++ d.shown)
inductive Od (H : Hp) : V → PyData → Prop
  | non : Od H .non .none
  | bl (b : Bool) : Od H (.bl b) (.bool b)
  | int (i : Int) : Od H (.int i) (.int i)
  | str (s : Str) : Od H (.str s) (.str s)
  | tup {t : Addr} {k : Int} (h : H t = some (.tup [.int k])) : Od H (.ref t) (.tuple [.int k])
  | lst {t : Addr} (h : H t = some (.lst [])) : Od H (.ref t) (.list [])
  | dK {t : Addr} (h : H t = some (.dK [])) : Od H (.ref t) (.dict [])
/-- all but the dice and the tables of code stay -/
structure Rs (a : Addr) (H H' : Hp) : Prop where
  keep : ∀ b o, b ≠ a → H b = some o → (∀ ps, o ≠ .tbl ps) → H' b = some o
  dice : Dc a H'
theorem Rs.trans {a : Addr} {H H1 H2 : Hp} (h : Rs a H H1) (k : Rs a H1 H2) : Rs a H H2 := ⟨fun b o n e t => k.keep b o n (h.keep b o n e t) t, k.dice⟩
theorem Rs.mv {a : Addr} {H H' : Hp} (m : Mv a H H') : Rs a H H' := ⟨fun b o n e _ => m.keep b o n e, m.dice⟩
theorem Rs.ext {a : Addr} {H H' : Hp} (d : Dc a H) (x : LamX.ExtN H H') : Rs a H H' := ⟨fun b o _ e t => x b o e t, by
  obtain ⟨p, q, r, e⟩ := d
  exact ⟨p, q, r, x _ _ e (fun ps z => by cases z)⟩⟩
theorem Rs.new {a p : Addr} {H : Hp} {o : HO} (d : Dc a H) (n : H p = none) : Rs a H (upd H p o) := .mv (Mv.new d n)
theorem Dc.apart {a t : Addr} {H : Hp} {o : HO} (d : Dc a H) (h : H t = some o) (no : ∀ x y z : Int, o ≠ .lst [.int x, .int y, .int z]) : t ≠ a := by
  rintro rfl
  obtain ⟨x, y, z, e⟩ := d
  rw [h] at e
  cases e
  exact no _ _ _ rfl
theorem Od.rs {a : Addr} {H H' : Hp} {v : V} {da : PyData} (d : Dc a H) (r : Rs a H H') (o : Od H v da) : Od H' v da := by
  cases o with
  | non => exact .non
  | bl b => exact .bl b
  | int i => exact .int i
  | str s => exact .str s
  | tup h => exact .tup (r.keep _ _ (d.apart h fun _ _ _ z => by cases z) h (fun _ z => by cases z))
  | lst h => exact .lst (r.keep _ _ (d.apart h fun _ _ _ z => by cases z) h (fun _ z => by cases z))
  | dK h => exact .dK (r.keep _ _ (d.apart h fun _ _ _ z => by cases z) h (fun _ z => by cases z))
theorem Od.kd {K : PySem.W.Frag} {H : Hp} {v : V} {da : PyData} (o : Od H v da) : Kd K H v := by
  cases o with
  | non => exact .non
  | bl b => exact .bl b
  | int i => exact .int i
  | str s => exact .str s
  | tup h => exact .tup h
  | lst h => exact .lst h
  | dK h => exact .dK h
theorem Od.dr {K : PySem.W.Frag} {H : Hp} {v : V} {da : PyData} (o : Od H v da) : Dr K H v da := by
  cases o with
  | non => exact .inl .non
  | bl b => exact .inl (.bl b)
  | int i => exact .inl (.int i)
  | str s => exact .inl (.str s)
  | tup h => exact .inl (.tup (SqT.of h) (.cons (.int _) .nil))
  | lst h => exact .inl (.lst (SqL.of h) .nil)
  | dK h => exact .inr ⟨_, rfl, h, rfl⟩
theorem good_is {d : PyData} (h : good d = true) : d.showable = true ∧ d.depth ≤ 60 ∧ d.shown.length ≤ 1000 ∧ PyData.strOk ("count " ++ d.shown) = true := by
  unfold good at h
  simp only [Bool.and_eq_true, decide_eq_true_eq] at h
  exact ⟨h.1.1.1, h.1.1.2, h.1.2, h.2⟩
theorem tabs_mv {a : Addr} {H H' : Hp} {T : List (Addr × Str)} (d : Dc a H) (m : Mv a H H') (t : LamX.Tabs T H) : LamX.Tabs T H' := fun p hp => by
  obtain ⟨ps, h1, h2, h3⟩ := t p hp
  refine ⟨ps, m.keep _ _ (d.apart h1 fun _ _ _ z => by cases z) h1, h2, fun pos cv hc => ?_⟩
  obtain ⟨c, e, h⟩ := h3 pos cv hc
  exact ⟨c, e, m.keep _ _ (d.apart h fun _ _ _ z => by cases z) h⟩
structure Sit (a : Addr) (T : List (Addr × Str)) (H0 H : Hp) (bad odd less : V) (db dO dL : PyData) : Prop where
  rs : Rs a H0 H
  ob : Od H bad db
  oo : Od H odd dO
  ol : Od H less dL
  tabs : LamX.Tabs T H
section
variable {a : Addr} {T : List (Addr × Str)} {H0 H H1 : Hp} {bad odd less : V} {db dO dL : PyData}
theorem Sit.go (s : Sit a T H0 H bad odd less db dO dL) (r : Rs a H H1) (t : LamX.Tabs T H1) : Sit a T H0 H1 bad odd less db dO dL :=
  ⟨s.rs.trans r, s.ob.rs s.rs.dice r, s.oo.rs s.rs.dice r, s.ol.rs s.rs.dice r, t⟩
theorem Sit.ext (s : Sit a T H0 H bad odd less db dO dL) (x : LamX.ExtN H H1) (t : LamX.Tabs T H1) : Sit a T H0 H1 bad odd less db dO dL := s.go (.ext s.rs.dice x) t
theorem Sit.new {p : Addr} {o : HO} (s : Sit a T H0 H bad odd less db dO dL) (n : H p = none) : Sit a T H0 (upd H p o) bad odd less db dO dL := s.go (.new s.rs.dice n) (s.tabs.ext (same_new n))
theorem Sit.mv (s : Sit a T H0 H bad odd less db dO dL) (m : Mv a H H1) : Sit a T H0 H1 bad odd less db dO dL := s.go (.mv m) (tabs_mv s.rs.dice m s.tabs)
end
theorem pr2 : Pr 2 := parts_pr (by decide)
theorem pr5 : Pr 5 := parts_pr (by decide)
theorem ps_trillion : Ps (List.replicate 12 2 ++ List.replicate 12 5) := ⟨fun p hp => by
  rcases List.mem_append.mp hp with h | h
  · rw [List.eq_of_mem_replicate h]
    exact pr2
  · rw [List.eq_of_mem_replicate h]
    exact pr5, by decide +kernel, by decide +kernel⟩
theorem seq_law3 {K : PySem.W.Frag} {a p : Addr} {H H2 H3 : Hp} {xs : List V} {o : HO} (h : SqL K H a xs) (n : H p = none) (m : Mv p (upd H p o) H2) (r : Rs p H2 H3) : SqL K H3 a xs := by
  rcases h with (h | ⟨u, h⟩) | h
  · have ne : a ≠ p := ne_of_none h n
    exact .inl (.inl (r.keep _ _ ne (m.keep _ _ ne (by rw [upd_ne ne]; exact h)) (fun _ z => by cases z)))
  · have ne : a ≠ p := ne_of_none h n
    exact .inl (.inr ⟨u, r.keep _ _ ne (m.keep _ _ ne (by rw [upd_ne ne]; exact h)) (fun _ z => by cases z)⟩)
  · exact .inr h
theorem pr_big : Pr 1000003 := by
  have t : ((List.range 1001).all fun q => decide (q < 2) || 1000003 % q != 0) = true := by decide +kernel
  refine pr_sqrt (s := 1001) (by decide) (by decide) fun q q2 qs d => ?_
  have a := List.all_eq_true.mp t q (List.mem_range.mpr qs)
  rw [Bool.or_eq_true] at a
  rcases a with a | a
  · have := of_decide_eq_true a
    omega
  · rw [Nat.mod_eq_zero_of_dvd d] at a
    cases a
theorem ps_big : Ps [1000003] := ⟨fun p hp => by rw [List.mem_singleton.mp hp]; exact pr_big, by simp, by decide⟩
theorem ps_1 : Ps [] := ⟨fun p hp => (nomatch hp), .nil, by decide⟩
theorem ps_360 : Ps [2, 2, 2, 3, 3, 5] := ⟨fun p hp => by
  simp only [List.mem_cons, List.not_mem_nil, or_false] at hp
  exact parts_pr (by rcases hp with rfl | rfl | rfl | rfl | rfl | rfl <;> decide), by decide, by decide⟩
theorem factors_in {A : Prop} {i : Int} {ps : List Nat} (e : i = (prod ps : Int)) (h : Ps ps) (le : prod ps ≤ 1000000000000) : withinB (.int i) 1 top60 = false → A := fun z => by
  subst e
  have pos := prod_pos h.pr
  have t60 : top60 = 999999999999999999999999999999999999999999999999999999999999 := rfl
  have t : withinB (.int (prod ps : Int)) 1 top60 = true := by
    show ((decide (-top60 ≤ (prod ps : Int)) && decide ((prod ps : Int) ≤ top60)) && (decide (1 ≤ (prod ps : Int)) && decide ((prod ps : Int) ≤ top60))) = true
    rw [decide_eq_true (show -top60 ≤ (prod ps : Int) by omega), decide_eq_true (show (prod ps : Int) ≤ top60 by omega), decide_eq_true (show 1 ≤ (prod ps : Int) by omega)]
    rfl
  rw [t] at z
  cases z
theorem factors_one {A B : Prop} {R : List Nat → Prop} {i : Int} {ps : List Nat} (e : i = (prod ps : Int)) (h : Ps ps) (le : prod ps ≤ 1000000000000) (q : R ps) :
    ∀ j : Int, V.int i = V.int j → B → (1000000000000 < j → A) ∧ (j ≤ 1000000000000 → ∃ qs : List Nat, j = (prod qs : Int) ∧ Ps qs ∧ R qs) := fun j ej _ => by
  injection ej with ej
  exact ⟨fun z => by omega, fun _ => ⟨ps, by omega, h, q⟩⟩
theorem dict_eq {K : PySem.W.Frag} {H : Hp} {n : Nat} {fs : List (Nat × Nat)} (nd : (fs.map (·.1)).Nodup) : ∀ q ∈ toD fs, ∃ u, valV (toD fs) q.1 = some u ∧ EqV K H (n + 1) q.2 u := fun q hq => by
  obtain ⟨p, hp, rfl⟩ := List.mem_map.mp hq
  refine ⟨.int (p.2 : Int), ?_, .inl ⟨rfl, rfl⟩⟩
  show valV (toD fs) (.inl (p.1 : Int)) = _
  rw [valN, seen_mem nd hp]
  rfl
theorem dicts_same {K : PySem.W.Frag} {H : Hp} {n : Nat} {f g : Addr} {fs : List (Nat × Nat)} {ks : List (Key × V)} (hf : H f = some (.dK (toD fs))) (hg : H g = some (.dK ks)) (e : ks = toD fs) (nd : (fs.map (·.1)).Nodup) : EqR K H (EqV K H (n + 1)) (.ref f) (.ref g) :=
  .inr ⟨f, g, toD fs, ks, rfl, rfl, hf, hg, by rw [e], fun q hq => by rw [e]; exact dict_eq nd q hq⟩
def qLam : Str := (envOfC "_law_errors_right" (defScope (topS 26)) 0 0 .none).qual ++ "<lambda>"
/-- what the clauses of the word give -/
def WW (K : PySem.W.Frag) (cP cC cM : Addr) (Q : VK) : XK := fun cls d H' =>
  (cls = .ref cP ∧ Q (.str "prime") H') ∨
  (cls = .ref cC ∧ ∃ (dd : Addr) (v : V) (da : PyData), d = some dd ∧ H' dd = some (.xd [("value", v)]) ∧ Dr K H' v da ∧ good da = true ∧ Q (.str ("count " ++ da.shown)) H') ∨
  (cls = .ref cM ∧ ∃ (dd : Addr) (v : V) (da : PyData), d = some dd ∧ H' dd = some (.xd [("limit", v)]) ∧ Dr K H' v da ∧ good da = true ∧ Q (.str ("many " ++ da.shown)) H')
def TTw (K : PySem.W.Frag) (cP cC cM : Addr) : (XK → Hp → VK → Prop) → Hp → VK → Prop := fun tl H Q => tl (WW K cP cC cM Q) H (fun _ H' => Q (.str "none") H')
def sp_err (P : Addr) : Sp := fun vs H Q _ => ∃ a : Addr, vs = [.ref a] ∧ Dc a H ∧ LamX.Tabs [(P, qLam)] H ∧ ∀ H', Rs a H H' → LamX.Tabs [(P, qLam)] H' → Q (.bl true) H'
structure Txt (K : PySem.W.Frag) (mg : Str → Option Value) where
  f_is_integer : Addr
  fd_is_integer : FuncData
  F_is_integer : Fun K "is_integer" "is_integer" s_is_integer f_is_integer fd_is_integer
  b_is_integer : Binds K fd_is_integer ["value"] []
  g_is_integer : mg "is_integer" = some (.ref f_is_integer)
  f_inverse_of : Addr
  fd_inverse_of : FuncData
  F_inverse_of : Fun K "inverse_of" "inverse_of" s_inverse_of f_inverse_of fd_inverse_of
  b_inverse_of : Binds K fd_inverse_of ["prime", "number"] []
  g_inverse_of : mg "inverse_of" = some (.ref f_inverse_of)
  f__law_dice : Addr
  fd__law_dice : FuncData
  F__law_dice : Fun K "_law_dice" "_law_dice" s__law_dice f__law_dice fd__law_dice
  b__law_dice : Binds K fd__law_dice ["_law_script", "_law_spot"] []
  g__law_dice : mg "_law_dice" = some (.ref f__law_dice)
  f__law_roll : Addr
  fd__law_roll : FuncData
  F__law_roll : Fun K "_law_roll" "_law_roll" s__law_roll f__law_roll fd__law_roll
  b__law_roll : Binds K fd__law_roll ["_law_dice_here", "_law_total"] []
  g__law_roll : mg "_law_roll" = some (.ref f__law_roll)
  f__law_word : Addr
  fd__law_word : FuncData
  F__law_word : Fun K "_law_word" "_law_word" s__law_word f__law_word fd__law_word
  b__law_word : Binds K fd__law_word ["_law_call"] []
  g__law_word : mg "_law_word" = some (.ref f__law_word)
  f_is_within : Addr
  fd_is_within : FuncData
  F_is_within : Fun K "is_within" "is_within" s_is_within f_is_within fd_is_within
  b_is_within : Binds K fd_is_within ["value", "low", "high"] []
  g_is_within : mg "is_within" = some (.ref f_is_within)
  f_is_prime : Addr
  fd_is_prime : FuncData
  F_is_prime : Fun K "is_prime" "is_prime" s_is_prime f_is_prime fd_is_prime
  b_is_prime : Binds K fd_is_prime ["value"] []
  g_is_prime : mg "is_prime" = some (.ref f_is_prime)
  f__law_pick : Addr
  fd__law_pick : FuncData
  F__law_pick : Fun K "_law_pick" "_law_pick" s__law_pick f__law_pick fd__law_pick
  b__law_pick : Binds K fd__law_pick ["_law_dice_here", "_law_items"] []
  g__law_pick : mg "_law_pick" = some (.ref f__law_pick)
  f_check_prime : Addr
  fd_check_prime : FuncData
  F_check_prime : Fun K "check_prime" "check_prime" s_check_prime f_check_prime fd_check_prime
  b_check_prime : Binds K fd_check_prime ["prime"] []
  g_check_prime : mg "check_prime" = some (.ref f_check_prime)
  f_check_count : Addr
  fd_check_count : FuncData
  F_check_count : Fun K "check_count" "check_count" s_check_count f_check_count fd_check_count
  b_check_count : Binds K fd_check_count ["value", "low", "high"] []
  g_check_count : mg "check_count" = some (.ref f_check_count)
  f_factors : Addr
  fd_factors : FuncData
  F_factors : Fun K "factors" "factors" s_factors f_factors fd_factors
  b_factors : Binds K fd_factors ["number"] []
  g_factors : mg "factors" = some (.ref f_factors)
  f_residue_inverse : Addr
  fd_residue_inverse : FuncData
  F_residue_inverse : Fun K "residue_inverse" "residue_inverse" s_residue_inverse f_residue_inverse fd_residue_inverse
  b_residue_inverse : Binds K fd_residue_inverse ["prime", "number"] []
  g_residue_inverse : mg "residue_inverse" = some (.ref f_residue_inverse)
  f_residue_root : Addr
  fd_residue_root : FuncData
  F_residue_root : Fun K "residue_root" "residue_root" s_residue_root f_residue_root fd_residue_root
  b_residue_root : Binds K fd_residue_root ["prime", "number"] []
  g_residue_root : mg "residue_root" = some (.ref f_residue_root)
  f_least_nonsquare : Addr
  fd_least_nonsquare : FuncData
  F_least_nonsquare : Fun K "least_nonsquare" "least_nonsquare" s_least_nonsquare f_least_nonsquare fd_least_nonsquare
  b_least_nonsquare : Binds K fd_least_nonsquare ["prime"] []
  g_least_nonsquare : mg "least_nonsquare" = some (.ref f_least_nonsquare)
  f__law_factors_right : Addr
  fd__law_factors_right : FuncData
  F__law_factors_right : Fun K "_law_factors_right" "_law_factors_right" s__law_factors_right f__law_factors_right fd__law_factors_right
  b__law_factors_right : Binds K fd__law_factors_right ["_law_dice_here"] []
  g__law_factors_right : mg "_law_factors_right" = some (.ref f__law_factors_right)
  f__law_residues_right : Addr
  fd__law_residues_right : FuncData
  F__law_residues_right : Fun K "_law_residues_right" "_law_residues_right" s__law_residues_right f__law_residues_right fd__law_residues_right
  b__law_residues_right : Binds K fd__law_residues_right ["_law_dice_here"] []
  g__law_residues_right : mg "_law_residues_right" = some (.ref f__law_residues_right)
  f__law_errors_right : Addr
  fd__law_errors_right : FuncData
  F__law_errors_right : Fun K "_law_errors_right" "_law_errors_right" s__law_errors_right f__law_errors_right fd__law_errors_right
  b__law_errors_right : Binds K fd__law_errors_right ["_law_dice_here"] []
  g__law_errors_right : mg "_law_errors_right" = some (.ref f__law_errors_right)
  f_law : Addr
  fd_law : FuncData
  F_law : Fun K "law" "law" s_law f_law fd_law
  b_law : Binds K fd_law ["_law_script"] []
  g_law : mg "law" = some (.ref f_law)
  z_isinstance : mg "isinstance" = none
  z_int : mg "int" = none
  z_bool : mg "bool" = none
  z_abs : mg "abs" = none
  z_max : mg "max" = none
  z_len : mg "len" = none
  z_range : mg "range" = none
  z_list : mg "list" = none
  z_sorted : mg "sorted" = none
  z_repr : mg "repr" = none
  z_min : mg "min" = none
  a_PRIMES : Addr
  g_PRIMES : mg "PRIMES" = some (.ref a_PRIMES)
  q_PRIMES : ∀ H, SqT K H a_PRIMES (primes.map V.int)
  t_MAX_INTEGER : Tok
  g_MAX_INTEGER : mg "MAX_INTEGER" = some (.int 999999999999999999999999999999999999999999999999999999999999 t_MAX_INTEGER)
  t_MAX_FACTORED : Tok
  g_MAX_FACTORED : mg "MAX_FACTORED" = some (.int 1000000000000 t_MAX_FACTORED)
  c_InvalidPrime : Addr
  g_InvalidPrime : mg "InvalidPrime" = some (.ref c_InvalidPrime)
  x_InvalidPrime : PySem.W.excIn K c_InvalidPrime [.type "ValueError", .type "Exception", .type "BaseException", .type "object"] "ValueError.__new__" = true
  k_InvalidPrime : PySem.W.keepIn K (.ref c_InvalidPrime) = true
  s_InvalidPrime : PySem.W.subIn K (.ref c_InvalidPrime) (.type "BaseException") = some true
  t_InvalidPrime : PySem.W.typeIn K (.ref c_InvalidPrime) = some (.type "type")
  c_InvalidCount : Addr
  i_InvalidCount : Addr
  k_InvalidCount : PySem.ERR.InvalidCount.Txt K mg c_InvalidCount i_InvalidCount
  c_TooMany : Addr
  i_TooMany : Addr
  k_TooMany : PySem.ERR.TooMany.Txt K mg c_TooMany i_TooMany
  tab : exTab K [c_InvalidPrime, c_InvalidCount, c_TooMany] = true
  c_lam : Addr
  p_lam : Addr
  co_lam : fd__law_errors_right.code = .ref c_lam
abbrev N_is_integer : List Str := ["value"]
theorem sc_is_integer : FnScope N_is_integer ["value"] (defScope s_is_integer) := ⟨rfl, rfl, rfl, by decide +kernel, rfl, by decide +kernel, by decide +kernel⟩
section
variable {P : Program} {w : World} {K : PySem.W.Frag} {mg : Str → Option Value} {base : Heap}
theorem ok_is_integer (T : Txt K mg) : FnOk P w K mg base CX0 1 T.f_is_integer T.fd_is_integer ["value"] (sp_integer K) := by
  refine T.F_is_integer.ok sc_is_integer (fun vs H Q E h => ?_) (fun cdv A outer s H vs Q E hr h => ?_)
  · obtain ⟨x, rfl, kd, q⟩ := h
    rfl
  · obtain ⟨x, rfl, kd, q⟩ := h
    refine ⟨_, (pss_cons (ps_if (PW.pt (pw_or (pt_val (pe_callB call_isi (by rfl) T.z_isinstance (by decide +kernel) (pa_cons (pv 0) (pa_cons (pe_bltn (v := V.ty "bool") (by rfl) T.z_bool (by decide +kernel) rfl) pa_nil)))) (pw_or1 (pt_not (pt_val (pe_callB call_isi (by rfl) T.z_isinstance (by decide +kernel) (pa_cons (pv 0) (pa_cons (pe_bltn (v := V.ty "int") (by rfl) T.z_int (by decide +kernel) rfl) pa_nil)))))))) (pss_one (ps_ret pe_bl)) pss_nil)
      (pss_one (ps_ret (pe_chain op_le op_le (pe_un un_neg (pe_glob (v := V.int top60) (by rfl) T.g_MAX_INTEGER ⟨_, rfl⟩)) (pv 0) (pe_glob (v := V.int top60) (by rfl) T.g_MAX_INTEGER ⟨_, rfl⟩))))), ?_⟩
    obtain ⟨n, ty, h1, h2, _⟩ := kd.ex
    refine ⟨_, rfl, x, _, _, _, _, rfl, .ty _, ty, kit_ty h1, _, rfl, ?_⟩
    cases x with
    | bl b => exact q
    | int i =>
      refine ⟨_, rfl, .int i, _, _, _, _, rfl, .ty _, ty, kit_ty h2, _, rfl, ?_⟩
      refine iteF ?_
      refine ⟨_, rfl, .int i, rfl, _, _, rfl, rfl, _, rfl, ?_⟩
      have e : intB (.int i) = (decide (-top60 ≤ i) && decide (i ≤ top60)) := rfl
      rw [e] at q
      by_cases c : -top60 ≤ i
      · rw [decide_eq_true c] at q ⊢
        refine iteT ?_
        exact ⟨_, _, rfl, rfl, q⟩
      · rw [decide_eq_false c] at q ⊢
        exact q
    | _ =>
      refine ⟨_, rfl, _, _, _, _, _, rfl, .ty _, ty, kit_ty h2, _, rfl, ?_⟩
      exact q
end
abbrev N_inverse_of : List Str := ["prime", "number", "inverse"]
theorem sc_inverse_of : FnScope N_inverse_of ["prime", "number"] (defScope s_inverse_of) := ⟨rfl, rfl, rfl, by decide +kernel, rfl, by decide +kernel, by decide +kernel⟩
section
variable {P : Program} {w : World} {K : PySem.W.Frag} {mg : Str → Option Value} {base : Heap}
theorem ok_inverse_of (T : Txt K mg) : FnOk P w K mg base CX0 1 T.f_inverse_of T.fd_inverse_of ["prime", "number"] (sp_inv) := by
  refine T.F_inverse_of.ok sc_inverse_of (fun vs H Q E h => ?_) (fun cdv A outer s H vs Q E hr h => ?_)
  · obtain ⟨p, n, rfl, hp, n1, np, q⟩ := h
    rfl
  · obtain ⟨p, n, rfl, hp, n1, np, q⟩ := h
    refine ⟨_, (pss_cons (ps_set (i := 2) sc_inverse_of.nd rfl (Or.inl rfl) pe_int)
      (pss_cons (ps_while PassesOwn.never (pt_cmpR op_ne (pe_op op_mod (pe_op op_mul (pv 2) (pv 1)) (pv 0)) pe_int (nomark _)) (pss_one (ps_set (i := 2) sc_inverse_of.nd rfl (Or.inl rfl) (pe_op op_add (pv 2) pe_int))))
      (pss_one (ps_ret (pv 2))))), ?_⟩
    obtain ⟨p3, p31⟩ := primeN_of hp
    obtain ⟨r, r1, rp, hr⟩ := has_inv hp n1 np
    refine ⟨fun k σ H' => ∃ i : Nat, σ = [some (.int p), some (.int n), some (.int i)] ∧ H' = H ∧ 1 ≤ i ∧ i ≤ r ∧ r - i = k, ⟨_, 1, rfl, rfl, by omega, r1, rfl⟩, ?_⟩
    rintro k σ H' ⟨i, rfl, rfl, i1, ir, rfl⟩
    refine ⟨_, rfl, _, rfl, _, _, rfl, rfl, .inl ⟨by omega, by omega⟩, _, rfl, _, _, rfl, rfl, (by omega), rfl, _, rfl, ?_⟩
    by_cases c : i * n % p = 1
    · have e : V.int ((i : Int) * (n : Int) % (p : Int)) = V.int 1 := congrArg V.int (by exact_mod_cast c)
      exact iteNS e ⟨_, rfl, q i i1 (by omega) c⟩
    · have e : decide (V.int ((i : Int) * (n : Int) % (p : Int)) = V.int 1) = false := decide_eq_false fun z => c (by
        injection z with z
        exact_mod_cast z)
      have ne : i ≠ r := fun z => c (z ▸ hr)
      show if (!decide (V.int ((i : Int) * (n : Int) % (p : Int)) = V.int 1)) = true then _ else _
      rw [e]
      exact iteT ⟨fun σ' H2 => σ' = [some (.int p), some (.int n), some (.int ((i : Int) + 1))] ∧ H2 = H', fun σ' H2 ⟨a1, a2⟩ => ⟨r - (i + 1), by omega, i + 1, a1, a2, by omega, by omega, rfl⟩, _, rfl, _, _, rfl, rfl, rfl, rfl⟩
end
abbrev N__law_dice : List Str := ["_law_script", "_law_spot", "_law_cell", "_law_left"]
theorem sc__law_dice : FnScope N__law_dice ["_law_script", "_law_spot"] (defScope s__law_dice) := ⟨rfl, rfl, rfl, by decide +kernel, rfl, by decide +kernel, by decide +kernel⟩
section
variable {P : Program} {w : World} {K : PySem.W.Frag} {mg : Str → Option Value} {base : Heap}
theorem ok__law_dice (T : Txt K mg) : FnOk P w K mg base CX0 1 T.f__law_dice T.fd__law_dice ["_law_script", "_law_spot"] (sp_dice K) := by
  refine T.F__law_dice.ok sc__law_dice (fun vs H Q E h => ?_) (fun cdv A outer s H vs Q E hr h => ?_)
  · obtain ⟨a, ns, k, rfl, hS, q⟩ := h
    rfl
  · obtain ⟨a, ns, k, rfl, hS, q⟩ := h
    refine ⟨_, (pss_cons (ps_set (i := 2) sc__law_dice.nd rfl (Or.inl rfl) (pe_ifExp (pt_cmpR op_lt (pv 1) (pe_callB call_len (by rfl) T.z_len (by decide +kernel) (pa_cons (pv 0) pa_nil)) (nomark _)) (pe_callTy call_int1 (by rfl) T.z_int (by decide +kernel) (pa_cons (pe_ix ix_list (pv 0) (pv 1) (fun _ _ => rfl)) pa_nil)) (pe_op op_add (pe_op op_mul pe_int (pv 1)) pe_int)))
      (pss_cons (ps_set (i := 3) sc__law_dice.nd rfl (Or.inl rfl) (pe_op op_mod (pe_callB (call_max2 rfl) (by rfl) T.z_max (by decide +kernel) (pa_cons pe_int (pa_cons (pe_op op_sub (pe_callB call_abs (by rfl) T.z_abs (by decide +kernel) (pa_cons (pv 2) pa_nil)) (pe_op op_pow pe_int pe_int)) pa_nil))) (pe_op op_mulW (pe_op op_pow pe_int pe_int) (pe_op op_pow pe_int pe_int))))
      (pss_one (ps_ret (pe_lst (pa_cons (pv 3) (pa_cons (pe_op op_add (pe_op op_add (pe_op op_add (pe_op op_mul (pe_op op_mod (pe_callB call_abs (by rfl) T.z_abs (by decide +kernel) (pa_cons (pv 2) pa_nil)) pe_int) pe_int) (pe_op op_mul pe_int (pv 1))) (pe_op op_mul pe_int (pe_callTy call_int1 (by rfl) T.z_int (by decide +kernel) (pa_cons (pe_cmpR op_lt (pv 2) pe_int (nomark _)) pa_nil)))) pe_int) (pa_cons pe_int pa_nil)))))))), ?_⟩
    refine ⟨_, rfl, _, rfl, _, _, rfl, .inl ⟨_, hS, rfl⟩, _, _, rfl, rfl, _, rfl, ?_⟩
    rw [List.length_map]
    refine ite2 (fun c => ?_) (fun c => ?_)
    · have hk : k < ns.length := by have := of_decide_eq_true c; omega
      refine ⟨_, rfl, _, rfl, a, _, _, .int ns[k], rfl, rfl, hS, atI_nat (by rw [List.getElem?_map, List.getElem?_eq_getElem hk]; rfl), .inl ⟨_, rfl, ?_⟩⟩
      refine ⟨_, rfl, _, rfl, _, _, rfl, rfl, ⟨by decide, by decide, by decide⟩, _, _, rfl, rfl, _, _, rfl, _, _, rfl, rfl, ⟨by decide, by decide, by decide⟩, _, _, rfl, rfl, ⟨by decide, by decide, by decide⟩, _, _, rfl, rfl, (show (Int.natAbs _).log2 + (Int.natAbs _).log2 < 1000000 by decide +kernel), _, _, rfl, rfl, (show (0 : Int) < _ by decide +kernel), ?_⟩
      refine ⟨_, rfl, _, rfl, _, rfl, _, _, rfl, rfl, (show (0 : Int) < _ by decide), _, _, rfl, rfl, .inr ⟨by decide, by decide⟩, _, rfl, _, _, rfl, rfl, .inl ⟨by decide, by decide⟩, _, _, rfl, rfl, _, rfl, _, _, rfl, rfl, .inr ⟨_, rfl, _, _, rfl, rfl, .inl ⟨by decide, by decide⟩, _, _, rfl, rfl, _, _, rfl, rfl, (by show 3 ≤ sizeLine; decide), fun p hp => q p _ _ _ hp⟩⟩
    · refine ⟨_, rfl, _, _, rfl, rfl, .inl ⟨by decide, by decide⟩, _, _, rfl, rfl, ?_⟩
      refine ⟨_, rfl, _, rfl, _, _, rfl, rfl, ⟨by decide, by decide, by decide⟩, _, _, rfl, rfl, _, _, rfl, _, _, rfl, rfl, ⟨by decide, by decide, by decide⟩, _, _, rfl, rfl, ⟨by decide, by decide, by decide⟩, _, _, rfl, rfl, (show (Int.natAbs _).log2 + (Int.natAbs _).log2 < 1000000 by decide +kernel), _, _, rfl, rfl, (show (0 : Int) < _ by decide +kernel), ?_⟩
      refine ⟨_, rfl, _, rfl, _, rfl, _, _, rfl, rfl, (show (0 : Int) < _ by decide), _, _, rfl, rfl, .inr ⟨by decide, by decide⟩, _, rfl, _, _, rfl, rfl, .inl ⟨by decide, by decide⟩, _, _, rfl, rfl, _, rfl, _, _, rfl, rfl, .inr ⟨_, rfl, _, _, rfl, rfl, .inl ⟨by decide, by decide⟩, _, _, rfl, rfl, _, _, rfl, rfl, (by show 3 ≤ sizeLine; decide), fun p hp => q p _ _ _ hp⟩⟩
end
abbrev N__law_roll : List Str := ["_law_dice_here", "_law_total", "_law_found", "_law_one", "_law_two"]
theorem sc__law_roll : FnScope N__law_roll ["_law_dice_here", "_law_total"] (defScope s__law_roll) := ⟨rfl, rfl, rfl, by decide +kernel, rfl, by decide +kernel, by decide +kernel⟩
section
variable {P : Program} {w : World} {K : PySem.W.Frag} {mg : Str → Option Value} {base : Heap}
theorem ok__law_roll (T : Txt K mg) : FnOk P w K mg base CX0 1 T.f__law_roll T.fd__law_roll ["_law_dice_here", "_law_total"] (sp_roll) := by
  refine T.F__law_roll.ok sc__law_roll (fun vs H Q E h => ?_) (fun cdv A outer s H vs Q E hr h => ?_)
  · obtain ⟨a, t, rfl, ⟨x, y, z, hd⟩, h0, h1, q⟩ := h
    rfl
  · obtain ⟨a, t, rfl, ⟨x, y, z, hd⟩, h0, h1, q⟩ := h
    refine ⟨_, (pss_cons (ps_if (pt_cmpR op_gt (pe_ix ix_list (pv 0) pe_int (fun _ _ => rfl)) pe_int (nomark _)) (pss_cons (ps_set (i := 2) sc__law_roll.nd rfl (Or.inl rfl) (pe_op op_mod (pe_callTy call_int1 (by rfl) T.z_int (by decide +kernel) (pa_cons (pe_ix ix_list (pv 0) pe_int (fun _ _ => rfl)) pa_nil)) (pv 1)))
      (pss_cons (ps_asg (pe_op op_fdivN (pe_ix ix_list (pv 0) pe_int (fun _ _ => rfl)) (pv 1)) (pg_sub (pv 0) pe_int set_list))
      (pss_one (ps_ret (pv 2))))) pss_nil)
      (pss_cons (ps_asg (pe_op op_add (pe_ix ix_list (pv 0) pe_int (fun _ _ => rfl)) pe_int) (pg_sub (pv 0) pe_int set_list))
      (pss_cons (ps_set (i := 3) sc__law_roll.nd rfl (Or.inl rfl) (pe_op op_mod (pe_callTy call_int1 (by rfl) T.z_int (by decide +kernel) (pa_cons (pe_op op_add (pe_ix ix_list (pv 0) pe_int (fun _ _ => rfl)) (pe_op op_mul pe_int (pe_ix ix_list (pv 0) pe_int (fun _ _ => rfl)))) pa_nil)) pe_int))
      (pss_cons (ps_set (i := 4) sc__law_roll.nd rfl (Or.inl rfl) (pe_op op_add (pe_op op_mul (pe_op op_mod (pe_callTy call_int1 (by rfl) T.z_int (by decide +kernel) (pa_cons (pe_op op_add (pe_op op_mul (pv 3) (pv 3)) (pe_op op_mul pe_int (pe_ix ix_list (pv 0) pe_int (fun _ _ => rfl)))) pa_nil)) pe_int) pe_int) (pv 3)))
      (pss_one (ps_ret (pe_op op_mod (pe_callTy call_int1 (by rfl) T.z_int (by decide +kernel) (pa_cons (pe_op op_fdivN (pv 4) pe_int) pa_nil)) (pv 1)))))))), ?_⟩
    refine ⟨_, rfl, _, _, _, _, rfl, rfl, SqL.of hd, rfl, _, _, rfl, rfl, _, rfl, ?_⟩
    refine ite2 (fun c => ?_) (fun c => ?_)
    · refine ⟨_, rfl, _, _, _, _, rfl, rfl, SqL.of hd, rfl, .inl ⟨_, rfl, _, rfl, _, _, rfl, rfl, h0, ?_⟩⟩
      refine ⟨_, rfl, _, _, _, _, rfl, rfl, SqL.of hd, rfl, _, rfl, _, _, rfl, rfl, ⟨by omega, by omega⟩, _, rfl, _, _, _, _, rfl, rfl, hd, rfl, ?_⟩
      exact ⟨_, rfl, q _ _ (Mv.roll _ _ _) (Int.emod_nonneg _ (by omega)) (Int.emod_lt_of_pos _ h0)⟩
    · refine ⟨_, rfl, _, _, _, _, rfl, rfl, SqL.of hd, rfl, _, _, rfl, rfl, _, rfl, _, _, _, _, rfl, rfl, hd, rfl, ?_⟩
      refine ⟨_, rfl, _, _, _, _, rfl, rfl, SqL.of upd_same, rfl, _, rfl, _, _, _, _, rfl, rfl, SqL.of upd_same, rfl, _, _, rfl, rfl, .inl ⟨by decide, by decide⟩, _, _, rfl, rfl, .inl ⟨_, rfl, _, _, rfl, rfl, (show (0 : Int) < _ by decide), ?_⟩⟩
      refine ⟨_, rfl, _, rfl, _, _, rfl, rfl, .inl ⟨by omega, by omega⟩, _, rfl, _, _, _, _, rfl, rfl, SqL.of upd_same, rfl, _, _, rfl, rfl, .inl ⟨by decide, by decide⟩, _, _, rfl, rfl, .inl ⟨_, rfl, _, _, rfl, rfl, (show (0 : Int) < _ by decide), _, _, rfl, rfl, .inr ⟨by decide, by decide⟩, _, rfl, _, _, rfl, rfl, ?_⟩⟩
      exact ⟨_, rfl, _, _, rfl, rfl, ⟨by decide, by decide⟩, .inl ⟨_, rfl, _, rfl, _, _, rfl, rfl, h0, q _ _ (Mv.roll _ _ _) (Int.emod_nonneg _ (by omega)) (Int.emod_lt_of_pos _ h0)⟩⟩
end
abbrev N_is_within : List Str := ["value", "low", "high"]
theorem sc_is_within : FnScope N_is_within ["value", "low", "high"] (defScope s_is_within) := ⟨rfl, rfl, rfl, by decide +kernel, rfl, by decide +kernel, by decide +kernel⟩
section
variable {P : Program} {w : World} {K : PySem.W.Frag} {mg : Str → Option Value} {base : Heap}
theorem ok_is_within (T : Txt K mg) : FnOk P w K mg base CX0 2 T.f_is_within T.fd_is_within ["value", "low", "high"] (sp_within K) := by
  refine T.F_is_within.ok sc_is_within (fun vs H Q E h => ?_) (fun cdv A outer s H vs Q E hr h => ?_)
  · obtain ⟨x, lo, hi, rfl, kd, q⟩ := h
    rfl
  · obtain ⟨x, lo, hi, rfl, kd, q⟩ := h
    refine ⟨_, (pss_one (ps_ret (pe_and (pe_call (ok_is_integer T) (hr.mono (by decide)) (by rfl) T.g_is_integer T.F_is_integer.kp T.b_is_integer .nil pass0 (pa_cons (pv 0) pa_nil)) (pe_one (pe_chain op_le op_le (pv 1) (pv 0) (pv 2)))))), ?_⟩
    refine ⟨_, rfl, x, rfl, kd, _, rfl, ?_⟩
    cases x with
    | int i =>
      have e : withinB (.int i) lo hi = (intB (.int i) && (decide (lo ≤ i) && decide (i ≤ hi))) := rfl
      rw [e] at q
      by_cases c : intB (.int i) = true
      · rw [c] at q ⊢
        refine iteT ?_
        refine ⟨_, rfl, _, rfl, _, _, rfl, rfl, _, rfl, ?_⟩
        by_cases c2 : lo ≤ i
        · rw [decide_eq_true c2] at q ⊢
          refine iteT ?_
          exact ⟨_, rfl, _, _, rfl, rfl, q⟩
        · rw [decide_eq_false c2] at q ⊢
          exact q
      · rw [Bool.not_eq_true] at c
        rw [c] at q ⊢
        exact q
    | _ => exact q
end
abbrev N_is_prime : List Str := ["value"]
theorem sc_is_prime : FnScope N_is_prime ["value"] (defScope s_is_prime) := ⟨rfl, rfl, rfl, by decide +kernel, rfl, by decide +kernel, by decide +kernel⟩
section
variable {P : Program} {w : World} {K : PySem.W.Frag} {mg : Str → Option Value} {base : Heap}
theorem ok_is_prime (T : Txt K mg) : FnOk P w K mg base CX0 2 T.f_is_prime T.fd_is_prime ["value"] (sp_prime K) := by
  refine T.F_is_prime.ok sc_is_prime (fun vs H Q E h => ?_) (fun cdv A outer s H vs Q E hr h => ?_)
  · obtain ⟨x, rfl, kd, q⟩ := h
    rfl
  · obtain ⟨x, rfl, kd, q⟩ := h
    refine ⟨_, (pss_one (ps_ret (pe_and (pe_call (ok_is_integer T) (hr.mono (by decide)) (by rfl) T.g_is_integer T.F_is_integer.kp T.b_is_integer .nil pass0 (pa_cons (pv 0) pa_nil)) (pe_one (pe_cmpR op_in_seq (pv 0) (pe_glob (v := V.ref T.a_PRIMES) (by rfl) T.g_PRIMES rfl) (by rfl)))))), ?_⟩
    refine ⟨_, rfl, x, rfl, kd, _, rfl, ?_⟩
    have e : primeB x = (intB x && inV x (primes.map V.int)) := rfl
    rw [e] at q
    by_cases c : intB x = true
    · rw [c] at q ⊢
      refine iteT ?_
      refine ⟨_, rfl, _, _, rfl, .inr (T.q_PRIMES _), ?_, by decide, q⟩
      cases x <;> first | rfl | cases c
    · rw [Bool.not_eq_true] at c
      rw [c] at q ⊢
      exact q
end
abbrev N__law_pick : List Str := ["_law_dice_here", "_law_items"]
theorem sc__law_pick : FnScope N__law_pick ["_law_dice_here", "_law_items"] (defScope s__law_pick) := ⟨rfl, rfl, rfl, by decide +kernel, rfl, by decide +kernel, by decide +kernel⟩
section
variable {P : Program} {w : World} {K : PySem.W.Frag} {mg : Str → Option Value} {base : Heap}
theorem ok__law_pick (T : Txt K mg) : FnOk P w K mg base CX0 2 T.f__law_pick T.fd__law_pick ["_law_dice_here", "_law_items"] (sp_pick K) := by
  refine T.F__law_pick.ok sc__law_pick (fun vs H Q E h => ?_) (fun cdv A outer s H vs Q E hr h => ?_)
  · obtain ⟨a, b, xs, rfl, hd, ne, hS, h0, h1, q⟩ := h
    rfl
  · obtain ⟨a, b, xs, rfl, hd, ne, hS, h0, h1, q⟩ := h
    refine ⟨_, (pss_one (ps_ret (pe_ix ix_list (pv 1) (pe_call (ok__law_roll T) (hr.mono (by decide)) (by rfl) T.g__law_roll T.F__law_roll.kp T.b__law_roll .nil pass0 (pa_cons (pv 0) (pa_cons (pe_callB call_len (by rfl) T.z_len (by decide +kernel) (pa_cons (pv 1) pa_nil)) pa_nil))) (fun _ _ => rfl)))), ?_⟩
    refine ⟨_, rfl, _, rfl, _, rfl, _, _, rfl, .inl ⟨_, hS, rfl⟩, a, _, rfl, hd, by omega, by omega, fun r H' m r0 r1 => ?_⟩
    have hi : r.toNat < xs.length := by omega
    have hr' : atI xs r = some xs[r.toNat] := by
      have e : (r.toNat : Int) = r := by omega
      have g := atI_nat (List.getElem?_eq_getElem hi)
      rw [e] at g
      exact g
    exact ⟨b, xs, r, _, rfl, rfl, m.seq ne hS, hr', q _ _ m (List.getElem_mem hi)⟩
end
abbrev N_check_prime : List Str := ["prime"]
theorem sc_check_prime : FnScope N_check_prime ["prime"] (defScope s_check_prime) := ⟨rfl, rfl, rfl, by decide +kernel, rfl, by decide +kernel, by decide +kernel⟩
section
variable {P : Program} {w : World} {K : PySem.W.Frag} {mg : Str → Option Value} {base : Heap}
theorem ok_check_prime (T : Txt K mg) : FnOk P w K mg base (L2.CX P w) 3 T.f_check_prime T.fd_check_prime ["prime"] (sp_check K T.c_InvalidPrime) := by
  refine T.F_check_prime.okX sc_check_prime (fun vs H Q E h => ?_) (fun cdv A outer s H vs Q E hr h => ?_)
  · obtain ⟨x, rfl, kd, q, k⟩ := h
    rfl
  · obtain ⟨x, rfl, kd, q, k⟩ := h
    refine ⟨_, (pss_one (ps_if (pt_not (pt_val (pe_call (ok_is_prime T) (hr.mono (by decide)) (by rfl) T.g_is_prime T.F_is_prime.kp T.b_is_prime .nil pass0 (pa_cons (pv 0) pa_nil)))) (pss_one (ps_raise rfl (takes_of rfl rfl rfl rfl) (pmk_own PySem.F.excBase_ValueError T.x_InvalidPrime T.g_InvalidPrime T.k_InvalidPrime (raises_own T.s_InvalidPrime T.t_InvalidPrime) (by rfl)))) pss_nil)), ?_⟩
    refine ⟨_, rfl, x, rfl, kd, _, rfl, ?_⟩
    by_cases c : primeB x = true
    · have q' := q c
      rw [c]
      exact q'
    · rw [Bool.not_eq_true] at c
      have k' := k c
      rw [c]
      exact k'
end
abbrev N_check_count : List Str := ["value", "low", "high"]
theorem sc_check_count : FnScope N_check_count ["value", "low", "high"] (defScope s_check_count) := ⟨rfl, rfl, rfl, by decide +kernel, rfl, by decide +kernel, by decide +kernel⟩
section
variable {P : Program} {w : World} {K : PySem.W.Frag} {mg : Str → Option Value} {base : Heap}
theorem ok_check_count (T : Txt K mg) : FnOk P w K mg base (L2.CX P w) 3 T.f_check_count T.fd_check_count ["value", "low", "high"] (sp_count K T.c_InvalidCount) := by
  refine T.F_check_count.okX sc_check_count (fun vs H Q E h => ?_) (fun cdv A outer s H vs Q E hr h => ?_)
  · obtain ⟨x, lo, hi, rfl, kd, q, k⟩ := h
    rfl
  · obtain ⟨x, lo, hi, rfl, kd, q, k⟩ := h
    refine ⟨_, (pss_one (ps_if (pt_not (pt_val (pe_call (ok_is_within T) (hr.mono (by decide)) (by rfl) T.g_is_within T.F_is_within.kp T.b_is_within .nil pass0 (pa_cons (pv 0) (pa_cons (pv 1) (pa_cons (pv 2) pa_nil)))))) (pss_one (ps_raise rfl (takes_of rfl rfl rfl rfl) (EInvalidCount.pmk T.k_InvalidCount (hr.mono (Nat.zero_le _)) (pa_cons (pv 0) pa_nil)))) pss_nil)), ?_⟩
    refine ⟨_, rfl, _, rfl, _, rfl, x, lo, hi, rfl, kd, _, rfl, ?_⟩
    cases c : withinB x lo hi with
    | true => exact q c
    | false => exact ⟨_, rfl, x, rfl, k c⟩
end
abbrev N_factors : List Str := ["number", "found", "divisor"]
theorem sc_factors : FnScope N_factors ["number"] (defScope s_factors) := ⟨rfl, rfl, rfl, by decide +kernel, rfl, by decide +kernel, by decide +kernel⟩
section
variable {P : Program} {w : World} {K : PySem.W.Frag} {mg : Str → Option Value} {base : Heap}
theorem ok_factors (T : Txt K mg) : FnOk P w K mg base (L2.CX P w) 4 T.f_factors T.fd_factors ["number"] (sp_factors K T.c_InvalidCount T.c_TooMany) := by
  refine T.F_factors.okX sc_factors (fun vs H Q E h => ?_) (fun cdv A outer s H vs Q E hr h => ?_)
  · obtain ⟨x, rfl, kd, qc, q⟩ := h
    rfl
  · obtain ⟨x, rfl, kd, qc, q⟩ := h
    refine ⟨_, (pss_cons (ps_expr (pe_call (ok_check_count T) (hr.mono (by decide)) (by rfl) T.g_check_count T.F_check_count.kp T.b_check_count .nil (passes_call (takes_of rfl rfl rfl rfl) (fun _ _ _ _ h => h)) (pa_cons (pv 0) (pa_cons pe_int (pa_cons (pe_glob (v := V.int top60) (by rfl) T.g_MAX_INTEGER ⟨_, rfl⟩) pa_nil)))))
      (pss_cons (ps_if (pt_cmpR op_gt (pv 0) (pe_glob (v := V.int 1000000000000) (by rfl) T.g_MAX_FACTORED ⟨_, rfl⟩) (nomark _)) (pss_one (ps_raise rfl (takes_of rfl rfl rfl rfl) (ETooMany.pmk T.k_TooMany (hr.mono (Nat.zero_le _)) (pa_cons (pe_glob (v := V.int 1000000000000) (by rfl) T.g_MAX_FACTORED ⟨_, rfl⟩) pa_nil)))) pss_nil)
      (pss_cons (ps_set (i := 1) sc_factors.nd rfl (Or.inl rfl) pe_dnewK)
      (pss_cons (ps_set (i := 2) sc_factors.nd rfl (Or.inl rfl) pe_int)
      (pss_cons (ps_while (passes_of rfl) (pt_cmpR op_le (pe_op op_mul (pv 2) (pv 2)) (pv 0) (nomark _)) (pss_cons (ps_while (passes_of rfl) (pt_cmpR op_eq (pe_op op_mod (pv 0) (pv 2)) pe_int (nomark _)) (pss_cons (ps_dput (un1 hr) (pv 1) (pv 2) (pe_op op_add (pe_dget2 (un1 hr) (pv 1) (pv 2) pe_int ⟨rfl, rfl, rfl, rfl⟩) pe_int) rfl)
      (pss_one (ps_set (i := 0) sc_factors.nd rfl (Or.inl rfl) (pe_op op_fdivNN (pv 0) (pv 2))))))
      (pss_one (ps_set (i := 2) sc_factors.nd rfl (Or.inl rfl) (pe_ifExp (pt_cmpR op_eq (pv 2) pe_int (nomark _)) (pe_op op_add (pv 2) pe_int) (pe_op op_add (pv 2) pe_int))))))
      (pss_cons (ps_if (pt_cmpR op_gt (pv 0) pe_int (nomark _)) (pss_one (ps_dput (un1 hr) (pv 1) (pv 0) pe_int rfl)) pss_nil)
      (pss_one (ps_ret (pv 1))))))))), ?_⟩
    refine ⟨_, rfl, x, 1, _, rfl, kd, fun c => ?_, fun c => qc c⟩
    obtain ⟨i, rfl⟩ : ∃ i, x = .int i := by
      cases x with
      | int i => exact ⟨i, rfl⟩
      | _ => cases c
    obtain ⟨qm, q⟩ := q i rfl c
    refine ⟨_, rfl, _, _, rfl, rfl, _, rfl, ite2 (fun c => ?_) (fun c => ?_)⟩
    · exact ⟨_, rfl, qm (of_decide_eq_true c)⟩
    have le : i ≤ 1000000000000 := by
      rw [decide_eq_true_eq] at c
      omega
    obtain ⟨ps, rfl, hps, q⟩ := q le
    intro p hp
    refine ⟨fun k σ H' => ∃ (m d : Nat) (fs : List (Nat × Nat)), σ = [some (.int m), some (.ref p), some (.int d)] ∧ H' = upd H p (.dK (toD fs)) ∧ Tri ps d d m fs ∧ m ≤ 1000000000000 ∧ d ≤ 1000002 ∧ k = 1000003 - d, ⟨_, _, 2, [], rfl, rfl, tri_start hps, by omega, by omega, rfl⟩, ?_⟩
    rintro k σ H' ⟨m, d, fs, rfl, rfl, tri, hm, hd, rfl⟩
    refine ⟨_, rfl, _, rfl, _, _, rfl, rfl, .inl ⟨by omega, by omega⟩, _, rfl, _, _, rfl, rfl, _, rfl, ite2 (fun c => ?_) (fun c => ?_)⟩
    · rw [decide_eq_true_eq] at c
      have dd : d * d ≤ m := by exact_mod_cast c
      have d2 := (tri_pos hps tri).2.1
      have dk : d ≤ 1000000 := by
        by_cases z : d ≤ 1000000
        · exact z
        · have : 1000001 * 1000001 ≤ d * d := Nat.mul_le_mul (by omega) (by omega)
          omega
      refine ⟨fun σ' H' => ∃ (m' d' : Nat) (fs' : List (Nat × Nat)), σ' = [some (.int m'), some (.ref p), some (.int d')] ∧ H' = upd H p (.dK (toD fs')) ∧ Tri ps d' d' m' fs' ∧ m' ≤ 1000000000000 ∧ d' ≤ 1000002 ∧ d < d', fun σ' H' ⟨m', d', fs', a1, a2, a3, a4, a5, a6⟩ => ⟨_, by omega, m', d', fs', a1, a2, a3, a4, a5, rfl⟩, ?_⟩
      refine ⟨fun k σ H' => ∃ (m' : Nat) (fs' : List (Nat × Nat)), σ = [some (.int m'), some (.ref p), some (.int d)] ∧ H' = upd H p (.dK (toD fs')) ∧ Tri ps (d + 1) d m' fs' ∧ m' ≤ 1000000000000 ∧ m' = k, ⟨_, m, fs, rfl, rfl, tri_in tri, hm, rfl⟩, ?_⟩
      rintro k σ H' ⟨m', fs', rfl, rfl, tri', hm', rfl⟩
      obtain ⟨pos, _, nd, few⟩ := tri_pos hps tri'
      refine ⟨_, rfl, _, rfl, _, _, rfl, rfl, (by omega), rfl, _, rfl, ite2 (fun c => ?_) (fun c => ?_)⟩
      · have c0 : m' % d = 0 := by
          have : V.int ((m' : Int) % (d : Int)) = V.int 0 := of_decide_eq_true c
          injection this with this
          exact_mod_cast this
        obtain ⟨t2, lt⟩ := tri_yes hps tri' c0
        refine ⟨fun σ' H' => ∃ fs'' : List (Nat × Nat), σ' = [some (.int ((m' / d : Nat) : Int)), some (.ref p), some (.int d)] ∧ H' = upd H p (.dK (toD fs'')) ∧ Tri ps (d + 1) d (m' / d) fs'', fun σ' H' ⟨fs'', a1, a2, a3⟩ => ⟨m' / d, lt, _, fs'', a1, a2, a3, by omega, rfl⟩, ?_⟩
        refine ⟨_, rfl, p, rfl, .inl ⟨_, .inl upd_same⟩, _, rfl, _, DGet.k (k := .inl (d : Int)) upd_same, _, _, val_toD _ _, rfl, _, rfl, _, rfl, p, _, rfl, DPut.k (k := .inl (d : Int)) upd_same ?_, ?_⟩
        · unfold toD
          rw [List.length_map]
          exact Nat.lt_of_le_of_lt few (by decide)
        refine ⟨_, rfl, _, rfl, m', d, rfl, rfl, ⟨by omega, by omega⟩, _, rfl, ?_, t2⟩
        rw [upd_twice, put_toD nd]
      · have c0 : m' % d ≠ 0 := fun z => c (by
          have : ((m' : Int) % (d : Int)) = 0 := by exact_mod_cast z
          show decide (V.int ((m' : Int) % (d : Int)) = V.int 0) = true
          rw [this]
          rfl)
        have t2 := tri_no hps tri' c0
        refine ⟨_, rfl, rfl, _, rfl, ite2 (fun c => ?_) (fun c => ?_)⟩
        · have e : d = 2 := by
            have : V.int (d : Int) = V.int 2 := of_decide_eq_true c
            injection this with this
            exact_mod_cast this
          rw [if_pos e] at t2
          exact ⟨_, rfl, _, _, rfl, rfl, m', d + 1, fs', rfl, rfl, t2, hm', by omega, by omega⟩
        · have e : ¬ d = 2 := fun z => c (by rw [z]; rfl)
          rw [if_neg e] at t2
          exact ⟨_, rfl, _, _, rfl, rfl, m', d + 2, fs', rfl, rfl, t2, hm', by omega, by omega⟩
    · rw [decide_eq_true_eq] at c
      have dd : m < d * d := by
        have : ¬ d * d ≤ m := fun z => c (by exact_mod_cast z)
        omega
      obtain ⟨_, _, _, few⟩ := tri_pos hps tri
      rcases tri_end hps tri dd with ⟨rfl, rfl⟩ | ⟨m1, out, e⟩
      · exact ⟨_, rfl, _, _, rfl, rfl, _, rfl, iteF ⟨_, rfl, q p hp⟩⟩
      · refine ⟨_, rfl, _, _, rfl, rfl, _, rfl, ?_⟩
        rw [decide_eq_true (show (1 : Int) < (m : Int) by omega)]
        refine iteT ⟨_, rfl, _, rfl, p, _, rfl, DPut.k (k := .inl (m : Int)) upd_same ?_, _, rfl, ?_⟩
        · unfold toD
          rw [List.length_map]
          exact Nat.lt_of_le_of_lt few (by decide)
        have b := put_toD (fs := fs) (d := m) (tri_pos hps tri).2.2.1
        rw [seen_none out] at b
        have b2 : putK (toD fs) (.inl (m : Int)) (.int 1) = toD (cnt ps) := b.trans (by rw [e])
        rw [upd_twice, b2]
        exact q p hp
end
abbrev N_residue_inverse : List Str := ["prime", "number"]
theorem sc_residue_inverse : FnScope N_residue_inverse ["prime", "number"] (defScope s_residue_inverse) := ⟨rfl, rfl, rfl, by decide +kernel, rfl, by decide +kernel, by decide +kernel⟩
section
variable {P : Program} {w : World} {K : PySem.W.Frag} {mg : Str → Option Value} {base : Heap}
theorem ok_residue_inverse (T : Txt K mg) : FnOk P w K mg base (L2.CX P w) 4 T.f_residue_inverse T.fd_residue_inverse ["prime", "number"] (sp_rinv K T.c_InvalidPrime T.c_InvalidCount) := by
  refine T.F_residue_inverse.okX sc_residue_inverse (fun vs H Q E h => ?_) (fun cdv A outer s H vs Q E hr h => ?_)
  · obtain ⟨p, x, rfl, kp, kx, qp, q⟩ := h
    rfl
  · obtain ⟨p, x, rfl, kp, kx, qp, q⟩ := h
    refine ⟨_, (pss_cons (ps_expr (pe_call (ok_check_prime T) (hr.mono (by decide)) (by rfl) T.g_check_prime T.F_check_prime.kp T.b_check_prime .nil (passes_call (takes_of rfl rfl rfl rfl) (fun _ _ _ _ h => h)) (pa_cons (pv 0) pa_nil)))
      (pss_cons (ps_expr (pe_call (ok_check_count T) (hr.mono (by decide)) (by rfl) T.g_check_count T.F_check_count.kp T.b_check_count .nil (passes_call (takes_of rfl rfl rfl rfl) (fun _ _ _ _ h => h)) (pa_cons (pv 1) (pa_cons pe_int (pa_cons (pe_op op_sub (pv 0) pe_int) pa_nil)))))
      (pss_one (ps_ret (pe_call (ok_inverse_of T) (hr.mono (by decide)) (by rfl) T.g_inverse_of T.F_inverse_of.kp T.b_inverse_of .nil pass0 (pa_cons (pv 0) (pa_cons (pv 1) pa_nil))))))), ?_⟩
    refine ⟨_, rfl, p, rfl, kp, fun c => ?_, fun c => qp c⟩
    obtain ⟨i, rfl, hi⟩ := primeB_inv c
    obtain ⟨qc, q⟩ := q i rfl hi
    refine ⟨_, rfl, _, rfl, _, _, rfl, rfl, x, 1, _, rfl, kx, fun c => ?_, fun c => qc c⟩
    obtain ⟨j, rfl, j1, j2⟩ := within_inv c
    obtain ⟨n, rfl⟩ : ∃ n : Nat, j = n := ⟨j.toNat, by omega⟩
    exact ⟨_, rfl, _, rfl, i, n, rfl, hi, by omega, by omega, q n rfl (by omega) (by omega)⟩
end
abbrev N_residue_root : List Str := ["prime", "number", "root"]
theorem sc_residue_root : FnScope N_residue_root ["prime", "number"] (defScope s_residue_root) := ⟨rfl, rfl, rfl, by decide +kernel, rfl, by decide +kernel, by decide +kernel⟩
section
variable {P : Program} {w : World} {K : PySem.W.Frag} {mg : Str → Option Value} {base : Heap}
theorem ok_residue_root (T : Txt K mg) : FnOk P w K mg base (L2.CX P w) 4 T.f_residue_root T.fd_residue_root ["prime", "number"] (sp_root K T.c_InvalidPrime T.c_InvalidCount) := by
  refine T.F_residue_root.okX sc_residue_root (fun vs H Q E h => ?_) (fun cdv A outer s H vs Q E hr h => ?_)
  · obtain ⟨p, x, rfl, kp, kx, qp, q⟩ := h
    rfl
  · obtain ⟨p, x, rfl, kp, kx, qp, q⟩ := h
    refine ⟨_, (pss_cons (ps_expr (pe_call (ok_check_prime T) (hr.mono (by decide)) (by rfl) T.g_check_prime T.F_check_prime.kp T.b_check_prime .nil (passes_call (takes_of rfl rfl rfl rfl) (fun _ _ _ _ h => h)) (pa_cons (pv 0) pa_nil)))
      (pss_cons (ps_expr (pe_call (ok_check_count T) (hr.mono (by decide)) (by rfl) T.g_check_count T.F_check_count.kp T.b_check_count .nil (passes_call (takes_of rfl rfl rfl rfl) (fun _ _ _ _ h => h)) (pa_cons (pv 1) (pa_cons pe_int (pa_cons (pe_op op_sub (pv 0) pe_int) pa_nil)))))
      (pss_cons (ps_for (passes_of rfl) rfl (pi_range1 (by rfl) T.z_range (pa_cons (pv 0) pa_nil)) (pg_name (i := 2) sc_residue_root.nd rfl (Or.inl rfl)) (pss_one (ps_if (pt_cmpR op_eq (pe_op op_mod (pe_op op_mul (pv 2) (pv 2)) (pv 0)) (pv 1) (nomark _)) (pss_one (ps_ret (pv 2))) pss_nil)))
      (pss_one (ps_ret pe_non))))), ?_⟩
    refine ⟨_, rfl, p, rfl, kp, fun c => ?_, fun c => qp c⟩
    obtain ⟨i, rfl, hi⟩ := primeB_inv c
    obtain ⟨p3, p31⟩ := primeN_of hi
    obtain ⟨qc, q⟩ := q i rfl hi
    refine ⟨_, rfl, _, rfl, _, _, rfl, rfl, x, 0, _, rfl, kx, fun c => ?_, fun c => qc c⟩
    obtain ⟨j, rfl, j1, j2⟩ := within_inv c
    obtain ⟨n, rfl⟩ : ∃ n : Nat, j = n := ⟨j.toNat, by omega⟩
    have q := q n rfl (by omega)
    refine ⟨_, rfl, _, rfl, by omega, by omega, ?_⟩
    refine for_range (lo := 0) (n := ((i : Int)).toNat) (fun k σ H' => ∃ v, σ = [some (.int i), some (.int n), v] ∧ H' = H ∧ ∀ r, r < k → (r * r % i == n) = false) ⟨none, rfl, rfl, fun r hr => by omega⟩ ?_ ?_
    · rintro k σ H' hk ⟨v, rfl, rfl, before⟩
      rw [Int.toNat_natCast] at hk
      rw [Int.zero_add]
      refine ⟨_, rfl, _, rfl, _, _, rfl, rfl, .inl ⟨by omega, by omega⟩, _, rfl, _, _, rfl, rfl, (by omega), _, rfl, rfl, _, rfl, ?_⟩
      show if decide (V.int ((k : Int) * (k : Int) % (i : Int)) = V.int (n : Int)) = true then _ else _
      by_cases c : k * k % i = n
      · have e : V.int ((k : Int) * (k : Int) % (i : Int)) = V.int (n : Int) := congrArg V.int (by exact_mod_cast c)
        rw [decide_eq_true e]
        refine iteT ⟨_, rfl, ?_⟩
        have e2 : rootN i n = some k := first_at (f := fun r => r * r % i == n) hk before (by show (k * k % i == n) = true; rw [c]; exact beq_self_eq_true _)
        rw [e2] at q
        exact q
      · have e : decide (V.int ((k : Int) * (k : Int) % (i : Int)) = V.int (n : Int)) = false := decide_eq_false fun z => c (by
          injection z with z
          exact_mod_cast z)
        rw [e]
        refine iteF ⟨_, rfl, rfl, fun r hr => ?_⟩
        by_cases z : r = k
        · subst z
          exact beq_eq_false_iff_ne.mpr c
        · exact before r (by omega)
    · rintro σ H' ⟨v, rfl, rfl, before⟩
      rw [Int.toNat_natCast] at before
      have e2 : rootN i n = none := first_none before
      rw [e2] at q
      exact q
end
abbrev N_least_nonsquare : List Str := ["prime", "number"]
theorem sc_least_nonsquare : FnScope N_least_nonsquare ["prime"] (defScope s_least_nonsquare) := ⟨rfl, rfl, rfl, by decide +kernel, rfl, by decide +kernel, by decide +kernel⟩
section
variable {P : Program} {w : World} {K : PySem.W.Frag} {mg : Str → Option Value} {base : Heap}
theorem ok_least_nonsquare (T : Txt K mg) : FnOk P w K mg base (L2.CX P w) 5 T.f_least_nonsquare T.fd_least_nonsquare ["prime"] (sp_least K T.c_InvalidPrime) := by
  refine T.F_least_nonsquare.okX sc_least_nonsquare (fun vs H Q E h => ?_) (fun cdv A outer s H vs Q E hr h => ?_)
  · obtain ⟨p, rfl, kp, qp, q⟩ := h
    rfl
  · obtain ⟨p, rfl, kp, qp, q⟩ := h
    refine ⟨_, (pss_cons (ps_expr (pe_call (ok_check_prime T) (hr.mono (by decide)) (by rfl) T.g_check_prime T.F_check_prime.kp T.b_check_prime .nil (passes_call (takes_of rfl rfl rfl rfl) (fun _ _ _ _ h => h)) (pa_cons (pv 0) pa_nil)))
      (pss_cons (ps_set (i := 1) sc_least_nonsquare.nd rfl (Or.inl rfl) pe_int)
      (pss_cons (ps_while (passes_of rfl) (pt_cmpR op_notN1 (pe_call (ok_residue_root T) (hr.mono (by decide)) (by rfl) T.g_residue_root T.F_residue_root.kp T.b_residue_root .nil (passes_call (takes_of rfl rfl rfl rfl) (fun _ _ _ _ h => h)) (pa_cons (pv 0) (pa_cons (pv 1) pa_nil))) pe_non (nomark _)) (pss_one (ps_set (i := 1) sc_least_nonsquare.nd rfl (Or.inl rfl) (pe_op op_add (pv 1) pe_int))))
      (pss_one (ps_ret (pv 1)))))), ?_⟩
    refine ⟨_, rfl, p, rfl, kp, fun c => ?_, fun c => qp c⟩
    obtain ⟨i, rfl, hi⟩ := primeB_inv c
    obtain ⟨p3, p31⟩ := primeN_of hi
    have q := q i rfl hi
    obtain ⟨l1, l2, l3, l4⟩ := least_is hi
    refine ⟨fun k σ H' => ∃ n : Nat, σ = [some (.int i), some (.int n)] ∧ H' = H ∧ 2 ≤ n ∧ n ≤ leastN i ∧ leastN i - n = k, ⟨_, 2, rfl, rfl, by omega, l2, rfl⟩, ?_⟩
    rintro k σ H' ⟨n, rfl, rfl, n2, nl, rfl⟩
    refine ⟨_, rfl, _, rfl, .int i, .int n, rfl, Kd.int _, Kd.int _, fun z => (by rw [primeB_of (nat_prime hi)] at z; cases z), fun i' e hi' => ?_⟩
    have ei : i' = i := by
      injection e with e
      omega
    subst ei
    refine ⟨fun z => ?_, fun n' e2 hn' => ?_⟩
    · have t : withinB (.int (n : Int)) 0 ((i' : Int) - 1) = true := by
        show (intB (.int (n : Int)) && (decide (0 ≤ (n : Int)) && decide ((n : Int) ≤ (i' : Int) - 1))) = true
        rw [int_small (by omega) (by omega), decide_eq_true (show (0 : Int) ≤ (n : Int) by omega), decide_eq_true (show (n : Int) ≤ (i' : Int) - 1 by omega)]
        rfl
      rw [t] at z
      cases z
    · have en : n' = n := by
        injection e2 with e2
        omega
      subst en
      cases er : rootN i' n' with
      | some r =>
        have lt : n' < leastN i' := by
          by_cases z : n' = leastN i'
          · rw [z, l3] at er
            cases er
          · omega
        exact ⟨rfl, _, rfl, iteT ⟨fun σ' H2 => σ' = [some (.int i'), some (.int ((n' : Int) + 1))] ∧ H2 = H', fun σ' H2 ⟨a1, a2⟩ => ⟨leastN i' - (n' + 1), by omega, n' + 1, a1, a2, by omega, by omega, rfl⟩, _, rfl, _, _, rfl, rfl, rfl, rfl⟩⟩
      | none =>
        have eq : n' = leastN i' := by
          by_cases z : n' = leastN i'
          · exact z
          · exact (l4 n' n2 (by omega) er).elim
        exact ⟨rfl, _, rfl, iteF ⟨_, rfl, eq ▸ q⟩⟩
end
abbrev N__law_factors_right : List Str := ["_law_dice_here", "_law_number", "_law_due", "_law_turn", "_law_part"]
theorem sc__law_factors_right : FnScope N__law_factors_right ["_law_dice_here"] (defScope s__law_factors_right) := ⟨rfl, rfl, rfl, by decide +kernel, rfl, by decide +kernel, by decide +kernel⟩
section
variable {P : Program} {w : World} {K : PySem.W.Frag} {mg : Str → Option Value} {base : Heap}
theorem ok__law_factors_right (T : Txt K mg) : FnOk P w K mg base CX0 5 T.f__law_factors_right T.fd__law_factors_right ["_law_dice_here"] (sp_right) := by
  refine T.F__law_factors_right.ok sc__law_factors_right (fun vs H Q E h => ?_) (fun cdv A outer s H vs Q E hr h => ?_)
  · obtain ⟨a, rfl, hd, q⟩ := h
    rfl
  · obtain ⟨a, rfl, hd, q⟩ := h
    refine ⟨_, (pss_cons (ps_par (i := 1) (j := 2) (by rfl) sc__law_factors_right.nd rfl rfl (by decide) rfl rfl (pa_cons pe_int (pa_cons pe_dnewK pa_nil)) (by rfl))
      (pss_cons (ps_for PassesOwn.never rfl (pi_range1 (by rfl) T.z_range (pa_cons (pe_call (ok__law_roll T) (hr.mono (by decide)) (by rfl) T.g__law_roll T.F__law_roll.kp T.b__law_roll .nil pass0 (pa_cons (pv 0) (pa_cons pe_int pa_nil))) pa_nil)) (pg_name (i := 3) sc__law_factors_right.nd rfl (Or.inl rfl)) (pss_cons (ps_set (i := 4) sc__law_factors_right.nd rfl (Or.inl rfl) (pe_call (ok__law_pick T) (hr.mono (by decide)) (by rfl) T.g__law_pick T.F__law_pick.kp T.b__law_pick .nil pass0 (pa_cons (pv 0) (pa_cons (pe_lst (pa_cons pe_int (pa_cons pe_int (pa_cons pe_int (pa_cons pe_int (pa_cons pe_int (pa_cons pe_int (pa_cons pe_int (pa_cons pe_int (pa_cons pe_int (pa_cons pe_int (pa_cons pe_int (pa_cons pe_int (pa_cons pe_int pa_nil)))))))))))))) pa_nil))))
      (pss_one (ps_if (pt_cmpR op_le (pe_op op_mul (pv 1) (pv 4)) (pe_op op_pow pe_int pe_int) (nomark _)) (pss_one (ps_asg (pe_tup (pa_cons (pe_op op_mul (pv 1) (pv 4)) (pa_cons (pe_op op_add (pe_dget2 (un1 hr) (pv 2) (pv 4) pe_int ⟨rfl, rfl, rfl, rfl⟩) pe_int) pa_nil))) (pg_tup rfl (pgs_cons (pg_name (i := 1) sc__law_factors_right.nd rfl (Or.inl rfl)) (pgs_cons (pg_sub (pv 2) (pv 4) (set_dict (un1 hr))) pgs_nil))))) pss_nil))))
      (pss_one (ps_ret (pe_cmpR (op_eqD hr.units) (LiI.pe_listItems rfl (pe_call (ok_factors T) (hr.mono (by decide)) (by rfl) T.g_factors T.F_factors.kp T.b_factors .nil passL (pa_cons (pv 1) pa_nil)) (by rfl) T.z_list (by decide +kernel)) (pe_callB cr_sortedPO (by rfl) T.z_sorted (by decide +kernel) (pa_cons (LiI.pe_listItems rfl (pv 2) (by rfl) T.z_list (by decide +kernel)) pa_nil)) (nomark _)))))), ?_⟩
    intro dd hdd
    refine ⟨_, _, rfl, ?_⟩
    have nd : dd ≠ a := hd.ne hdd
    refine ⟨_, rfl, a, 7, rfl, hd.new hdd, by decide, by decide, fun r H1 m1 r0 r1 => ⟨r, rfl, by omega, by omega, ?_⟩⟩
    have mA : Mv a H H1 := (Mv.new hd hdd).trans m1
    refine for_range (lo := 0) (n := r.toNat) (fun i σ H' => ∃ (qs : List Nat) (v3 v4 : Option V), σ = [some (.ref a), some (.int (prod qs)), some (.ref dd), v3, v4] ∧ Mv a H H' ∧ H' dd = some (.dK (toD (cnt qs))) ∧ (∀ x ∈ qs, x ∈ parts) ∧ prod qs ≤ 1000000000 ∧ qs.length ≤ i) ⟨[], none, none, rfl, mA, m1.keep _ _ nd upd_same, fun x hx => (nomatch hx), by decide, Nat.le_refl _⟩ ?_ ?_
    · rintro i σ H' hi ⟨qs, v3, v4, rfl, m2, hd2, inP, le, len⟩
      refine ⟨_, rfl, (by show 13 ≤ sizeLine; decide), fun l hl => ⟨a, l, _, rfl, m2.dice.new hl, m2.dice.ne hl, SqL.of upd_same, by show 0 < 13; decide, by show 13 < 1000000000; decide, fun pv H3 m3 hpv => ?_⟩⟩
      obtain ⟨x, hx, rfl⟩ : ∃ x : Nat, x ∈ parts ∧ pv = .int (x : Int) := by
        simp only [List.mem_cons, List.not_mem_nil, or_false] at hpv
        rcases hpv with rfl | rfl | rfl | rfl | rfl | rfl | rfl | rfl | rfl | rfl | rfl | rfl | rfl
        all_goals exact ⟨_, by decide, rfl⟩
      have hd3 : H3 dd = some (.dK (toD (cnt qs))) := m3.keep _ _ nd (same_new hl _ _ hd2)
      have m13 : Mv a H H3 := (m2.trans (Mv.new m2.dice hl)).trans m3
      obtain ⟨x2, x9⟩ := parts_le hx
      have few : (toD (cnt qs)).length < sizeLine := by
        unfold toD
        rw [List.length_map]
        refine Nat.lt_of_le_of_lt (cnt_len qs) ?_
        exact Nat.lt_of_lt_of_le (show qs.length < 8 by omega) (by decide)
      refine ⟨_, rfl, _, rfl, _, _, rfl, rfl, .inl ⟨by omega, by omega⟩, _, _, rfl, rfl, ⟨by decide, by decide, by decide⟩, _, _, rfl, rfl, _, rfl, ite2 (fun c => ?_) (fun c => ?_)⟩
      · have c1 : (prod qs : Int) * (x : Int) ≤ 1000000000 := of_decide_eq_true c
        have c2 : prod qs * x ≤ 1000000000 := by
          have c3 : ((prod qs * x : Nat) : Int) ≤ 1000000000 := by rw [Int.natCast_mul]; exact c1
          omega
        refine ⟨_, rfl, _, rfl, _, _, rfl, rfl, .inl ⟨by omega, by omega⟩, _, rfl, dd, rfl, .inl ⟨_, .inl hd3⟩, _, rfl, _, DGet.k (k := .inl (x : Int)) hd3, _, _, val_toD _ _, rfl, (by show 2 ≤ sizeLine; decide), fun t ht => ⟨t, _, rfl, SqT.of upd_same, rfl, _, _, rfl, _, _, rfl, _, rfl, _, rfl, dd, _, rfl, DPut.k (k := .inl (x : Int)) (same_new ht _ _ hd3) few, rfl, qs ++ [x], some (.int (0 + (i : Int))), some (.int (x : Int)), ?_, (m13.trans (Mv.new m13.dice ht)).put hdd nd, ?_, fun y hy => ?_, ?_, ?_⟩⟩
        · rw [prod_snoc, Int.natCast_mul]
          rfl
        · rw [upd_same, put_toD (cnt_nodup _ qs rfl), cnt_snoc]
        · rcases List.mem_append.mp hy with z | z
          · exact inP y z
          · rw [List.mem_singleton.mp z]
            exact hx
        · rw [prod_snoc]
          exact c2
        · rw [List.length_append]
          exact Nat.succ_le_succ len
      · exact ⟨qs, _, _, rfl, m13, hd3, inP, le, by omega⟩
    · rintro σ H' ⟨qs, v3, v4, rfl, m2, hd2, inP, le, len⟩
      obtain ⟨ps, perm, up⟩ := order_of qs
      have hps : Ps ps := ⟨fun p hp => parts_pr (inP p (perm.mem_iff.mp hp)), up, by rw [perm.length_eq]; omega⟩
      have pe : prod ps = prod qs := prod_perm perm
      have pos : 1 ≤ prod ps := prod_pos hps.pr
      refine ⟨_, rfl, .int (prod qs), rfl, Kd.int _, fun z => ?_, fun i e _ => ⟨fun z => ?_, fun _ => ⟨ps, ?_, hps, fun fp hfp => ?_⟩⟩⟩
      · have t : withinB (.int (prod qs : Int)) 1 top60 = true := by
          have t60 : top60 = 999999999999999999999999999999999999999999999999999999999999 := rfl
          show ((decide (-top60 ≤ (prod qs : Int)) && decide ((prod qs : Int) ≤ top60)) && (decide (1 ≤ (prod qs : Int)) && decide ((prod qs : Int) ≤ top60))) = true
          rw [decide_eq_true (show -top60 ≤ (prod qs : Int) by omega), decide_eq_true (show (prod qs : Int) ≤ top60 by omega), decide_eq_true (show 1 ≤ (prod qs : Int) by omega)]
          rfl
        rw [t] at z
        cases z
      · injection e with e
        omega
      · injection e with e
        rw [← e, pe]
      have hd4 := same_new (o := .dK (toD (cnt ps))) hfp _ _ hd2
      refine ⟨fp, _, rfl, upd_same, fun H6 p6 ts6 k6 n6 nt6 np6 hp6 pr6 => ⟨_, rfl, dd, _, rfl, k6 _ _ hd4, fun H7 p7 ts7 k7 n7 nt7 np7 hp7 pr7 => ?_⟩⟩
      obtain ⟨isp7, map7⟩ := paired_at pr7
      refine ⟨p7, ts7.map V.ref, pairAt H7, rfl, SqL.of hp7, fun x hx => ?_, fun ys p8 srt stb hp8 => ?_⟩
      · obtain ⟨t, e1, e2, e3⟩ := (isp7 x hx).at
        exact ⟨t, e1, by rw [e3]; exact e2⟩
      obtain ⟨ispY, permY, upY⟩ := put_in_order pr7 (cnt_nodup _ qs rfl) srt stb.perm
      have eY : ys.map (pairN H7) = cnt ps := cnt_of_perm perm up permY upY
      have pr6' : Paired (fun (t : Addr) (q : Key × V) => H7 t = some (.tup [kV q.1, q.2])) ts6 (toD (cnt ps)) := paired_imp (fun _ _ e => k7 _ _ e) pr6
      obtain ⟨isp6, map6⟩ := paired_at pr6'
      refine ⟨.list ((cnt ps).map pd), .list ((cnt ps).map pd), .lst (SqL.of (same_new hp8 _ _ (k7 _ _ hp6))) ?_, .lst (SqL.of upd_same) ?_, shaped_pairs _, shaped_pairs _, ?_⟩
      · have d6 := dp_pairs (K := K) isp6
        rw [map6] at d6
        exact DpAll.same (same_new hp8) d6
      · have dY := dp_pairs (K := K) ispY
        rw [eY] at dY
        exact DpAll.same (same_new hp8) dY
      · rw [eqv_pairs]
        have mF : Mv a H' H7 := ⟨fun b o nb e => k7 _ _ (k6 _ _ (same_new hfp _ _ e)), by
          obtain ⟨x, y, z, e⟩ := m2.dice
          exact ⟨x, y, z, k7 _ _ (k6 _ _ (same_new hfp _ _ e))⟩⟩
        exact q _ ((m2.trans mF).trans (Mv.new mF.dice hp8))
end
abbrev N__law_residues_right : List Str := ["_law_dice_here", "_law_prime", "_law_squares", "_law_one", "_law_first", "_law_other", "_law_both"]
theorem sc__law_residues_right : FnScope N__law_residues_right ["_law_dice_here"] (defScope s__law_residues_right) := ⟨rfl, rfl, rfl, by decide +kernel, rfl, by decide +kernel, by decide +kernel⟩
section
variable {P : Program} {w : World} {K : PySem.W.Frag} {mg : Str → Option Value} {base : Heap}
theorem ok__law_residues_right (T : Txt K mg) : FnOk P w K mg base CX0 6 T.f__law_residues_right T.fd__law_residues_right ["_law_dice_here"] (sp_right) := by
  refine T.F__law_residues_right.ok sc__law_residues_right (fun vs H Q E h => ?_) (fun cdv A outer s H vs Q E hr h => ?_)
  · obtain ⟨a, rfl, hd, q⟩ := h
    rfl
  · obtain ⟨a, rfl, hd, q⟩ := h
    refine ⟨_, (pss_cons (ps_asg (pe_tup (pa_cons (pe_call (ok__law_pick T) (hr.mono (by decide)) (by rfl) T.g__law_pick T.F__law_pick.kp T.b__law_pick .nil pass0 (pa_cons (pv 0) (pa_cons (pe_callTy call_list_of (by rfl) T.z_list (by decide +kernel) (pa_cons (pe_glob (v := V.ref T.a_PRIMES) (by rfl) T.g_PRIMES rfl) pa_nil)) pa_nil))) (pa_cons pe_dnewK pa_nil))) (pg_tup rfl (pgs_cons (pg_name (i := 1) sc__law_residues_right.nd rfl (Or.inl rfl)) (pgs_cons (pg_name (i := 2) sc__law_residues_right.nd rfl (Or.inr rfl)) pgs_nil))))
      (pss_cons (ps_for PassesOwn.never rfl (pi_range1 (by rfl) T.z_range (pa_cons (pv 1) pa_nil)) (pg_name (i := 3) sc__law_residues_right.nd rfl (Or.inl rfl)) (pss_one (ps_expr (pe_dsetd (pv 2) (pe_op op_mod (pe_callTy call_int1 (by rfl) T.z_int (by decide +kernel) (pa_cons (pe_op op_mul (pv 3) (pv 3)) pa_nil)) (pv 1)) (pv 3) ⟨rfl, rfl, rfl, rfl⟩))))
      (pss_cons (ps_for PassesOwn.never rfl (pi_range1 (by rfl) T.z_range (pa_cons (pv 1) pa_nil)) (pg_name (i := 3) sc__law_residues_right.nd rfl (Or.inl rfl)) (pss_cons (ps_if (pt_cmpR op_ne (pe_call (ok_residue_root T) (hr.mono (by decide)) (by rfl) T.g_residue_root T.F_residue_root.kp T.b_residue_root .nil passL (pa_cons (pv 1) (pa_cons (pv 3) pa_nil))) (pe_dget1 (un1 hr) (pv 2) (pv 3) ⟨rfl, rfl, rfl, rfl⟩) (nomark _)) (pss_one (ps_ret pe_bl)) pss_nil)
      (pss_one (ps_if (PW.pt (pw_and (pt_cmpR op_gt (pv 3) pe_int (nomark _)) (pw_and1 (pt_cmpR op_ne (pe_op op_mod (pe_callTy call_int1 (by rfl) T.z_int (by decide +kernel) (pa_cons (pe_op op_mul (pv 3) (pe_call (ok_residue_inverse T) (hr.mono (by decide)) (by rfl) T.g_residue_inverse T.F_residue_inverse.kp T.b_residue_inverse .nil passL (pa_cons (pv 1) (pa_cons (pv 3) pa_nil)))) pa_nil)) (pv 1)) pe_int (nomark _))))) (pss_one (ps_ret pe_bl)) pss_nil))))
      (pss_cons (ps_set (i := 4) sc__law_residues_right.nd rfl (Or.inl rfl) (pe_ix ix_list (pe_lc (own := [("_law_one", 3)]) (g := gName 3) rfl sc__law_residues_right.nd (pi_range1 (by rfl) T.z_range (pa_cons (pv 1) pa_nil)) (blkOk_by (own := [("_law_one", 3)]) (N := N__law_residues_right) (sc := defScope s__law_residues_right) (by decide +kernel)) (fun _ _ _ _ _ => pg_name (i := 3) sc__law_residues_right.nd rfl (Or.inl rfl)) (fun _ _ _ _ _ => (pts_one (pt_cmp (pc_dnotin (un1 hr) (pv 3) (pv 2))))) (fun _ _ _ _ _ => (pv 3))) pe_int (fun _ _ => rfl)))
      (pss_cons (ps_if (PW.pt (pw_or (pt_cmpR op_ne (pe_call (ok_least_nonsquare T) (hr.mono (by decide)) (by rfl) T.g_least_nonsquare T.F_least_nonsquare.kp T.b_least_nonsquare .nil passL (pa_cons (pv 1) pa_nil)) (pv 4) (nomark _)) (pw_or1 (pt_cmpR op_ne (pe_callB call_lenD (by rfl) T.z_len (by decide +kernel) (pa_cons (pv 2) pa_nil)) (pe_op op_fdivN (pe_op op_add (pv 1) pe_int) pe_int) (nomark _))))) (pss_one (ps_ret pe_bl)) pss_nil)
      (pss_cons (ps_par (i := 3) (j := 5) (by rfl) sc__law_residues_right.nd rfl rfl (by decide) rfl rfl (pa_cons (pe_op op_add pe_int (pe_call (ok__law_roll T) (hr.mono (by decide)) (by rfl) T.g__law_roll T.F__law_roll.kp T.b__law_roll .nil pass0 (pa_cons (pv 0) (pa_cons (pe_op op_sub (pv 1) pe_int) pa_nil)))) (pa_cons (pe_op op_add pe_int (pe_call (ok__law_roll T) (hr.mono (by decide)) (by rfl) T.g__law_roll T.F__law_roll.kp T.b__law_roll .nil pass0 (pa_cons (pv 0) (pa_cons (pe_op op_sub (pv 1) pe_int) pa_nil)))) pa_nil)) (by rfl))
      (pss_cons (ps_set (i := 6) sc__law_residues_right.nd rfl (Or.inl rfl) (pe_cmpR op_notN1 (pe_call (ok_residue_root T) (hr.mono (by decide)) (by rfl) T.g_residue_root T.F_residue_root.kp T.b_residue_root .nil passL (pa_cons (pv 1) (pa_cons (pe_op op_mod (pe_callTy call_int1 (by rfl) T.z_int (by decide +kernel) (pa_cons (pe_op op_mul (pv 3) (pv 5)) pa_nil)) (pv 1)) pa_nil))) pe_non (nomark _)))
      (pss_one (ps_ret (pe_cmpR op_eq (pv 6) (pe_cmpR op_eq (pe_cmp (pc_din (un1 hr) (pv 3) (pv 2))) (pe_cmp (pc_din (un1 hr) (pv 5) (pv 2))) (nomark _)) (nomark _))))))))))), ?_⟩
    refine ⟨_, rfl, _, _, rfl, .inr (T.q_PRIMES _), fun l hl => ⟨a, l, _, rfl, hd.new hl, hd.ne hl, SqL.of upd_same, by decide, by decide, fun pv H1 m1 hpv => ?_⟩⟩
    obtain ⟨pi, hpi, rfl⟩ := List.mem_map.mp hpv
    obtain ⟨p, rfl, hp⟩ := prime_nat hpi
    obtain ⟨p3, p31⟩ := primeN_of hp
    intro d hdn
    refine ⟨(by show 2 ≤ sizeLine; decide), fun t ht => ⟨t, _, rfl, SqT.of upd_same, rfl, _, _, rfl, _, _, rfl, rfl, ?_⟩⟩
    have m0 : Mv a H H1 := (Mv.new hd hl).trans m1
    have nd : H d = none := m0.free hd hdn
    have nda : d ≠ a := hd.ne nd
    have mT : Mv a H (upd (upd H1 d (.dK [])) t (.tup [.int p, .ref d])) := (m0.trans (Mv.new m1.dice hdn)).trans (Mv.new (m1.dice.new hdn) ht)
    have dT : (upd (upd H1 d (.dK [])) t (.tup [.int p, .ref d])) d = some (.dK (toD [])) := same_new ht _ _ upd_same
    obtain ⟨f1, f2, f3, f4⟩ := sq_facts hp
    refine ⟨_, rfl, _, rfl, by omega, by omega, ?_⟩
    refine for_range (lo := 0) (n := ((p : Int)).toNat) (fun i σ H' => ∃ v3, σ = [some (.ref a), some (.int p), some (.ref d), v3, none, none, none] ∧ Mv a H H' ∧ H' d = some (.dK (toD (sqs p i)))) ⟨none, rfl, mT, dT⟩ ?_ ?_
    · rintro i σ H' hi ⟨v3, rfl, m2, hd2⟩
      rw [Int.toNat_natCast] at hi
      rw [Int.zero_add]
      refine ⟨_, rfl, d, rfl, .inl ⟨_, .inl hd2⟩, _, rfl, _, rfl, _, _, rfl, rfl, .inl ⟨by omega, by omega⟩, .inl ⟨_, rfl, _, rfl, _, _, rfl, rfl, by omega, _, rfl, _, .inl ((i * i % p : Nat) : Int), hd2, ?_, ?_, ?_, ?_⟩⟩
      · show V.int ((i : Int) * (i : Int) % (p : Int)) = V.int ((i * i % p : Nat) : Int)
        exact congrArg V.int (by rw [Int.natCast_emod, Int.natCast_mul])
      · unfold toD
        rw [List.length_map]
        exact Nat.lt_of_le_of_lt (f1 i (by omega)) (by decide)
      · intro v hv
        rw [valN] at hv
        refine ⟨_, rfl, m2, ?_⟩
        rw [sqs_succ]
        unfold sqStep
        cases e : seen (sqs p i) (i * i % p) with
        | none =>
          rw [e] at hv
          cases hv
        | some r => exact hd2
      · intro hv
        rw [valN] at hv
        have e : seen (sqs p i) (i * i % p) = none := by
          cases e : seen (sqs p i) (i * i % p) with
          | none => rfl
          | some r =>
            rw [e] at hv
            cases hv
        refine ⟨_, rfl, m2.put nd nda, ?_⟩
        rw [upd_same, put_new e, sqs_succ]
        unfold sqStep
        rw [e]
        rfl
    rintro σ H' ⟨v3, rfl, m2, hd2⟩
    rw [Int.toNat_natCast] at hd2
    refine ⟨_, rfl, _, rfl, by omega, by omega, ?_⟩
    refine for_range (lo := 0) (n := ((p : Int)).toNat) (fun i σ H2 => ∃ v3, σ = [some (.ref a), some (.int p), some (.ref d), v3, none, none, none] ∧ H2 = H') ⟨v3, rfl, rfl⟩ ?_ ?_
    · rintro i σ H2 hi ⟨v3, rfl, rfl⟩
      rw [Int.toNat_natCast] at hi
      rw [Int.zero_add]
      have wi : ∀ {A : Prop}, ∀ lo : Int, lo ≤ i → withinB (.int (i : Int)) lo ((p : Int) - 1) = false → A := fun lo hlo z => by
        have t : withinB (.int (i : Int)) lo ((p : Int) - 1) = true := by
          show (intB (.int (i : Int)) && (decide (lo ≤ (i : Int)) && decide ((i : Int) ≤ (p : Int) - 1))) = true
          rw [int_small (by omega) (by omega), decide_eq_true hlo, decide_eq_true (show (i : Int) ≤ (p : Int) - 1 by omega)]
          rfl
        rw [t] at z
        cases z
      have wp : ∀ {A : Prop}, primeB (.int (p : Int)) = false → A := fun z => by
        rw [primeB_of (nat_prime hp)] at z
        cases z
      have same : ∀ {i' : Nat}, V.int (p : Int) = V.int (i' : Int) → i' = p := fun e => by
        injection e with e
        omega
      have same2 : ∀ {i' : Nat}, V.int (i : Int) = V.int (i' : Int) → i' = i := fun e => by
        injection e with e
        omega
      refine ⟨_, rfl, _, rfl, .int p, .int i, rfl, Kd.int _, Kd.int _, wp, fun i' e _ => ?_⟩
      cases same e
      refine ⟨wi 0 (by omega), fun n' e2 _ => ?_⟩
      cases same2 e2
      refine ⟨_, rfl, d, rfl, .inl ⟨_, .inl hd2⟩, _, rfl, _, DGet.k (k := .inl (i : Int)) hd2, ?_⟩
      have e3 : (valV (toD (sqs p p)) (.inl (i : Int))).getD .non = optV (rootN p i) := by
        rw [valN, f2 i hi]
        cases rootN p i <;> rfl
      rw [e3]
      have sc : scal (optV (rootN p i)) (optV (rootN p i)) = true := by cases rootN p i <;> rfl
      refine ⟨sc, _, rfl, iteNS rfl ?_⟩
      refine ⟨_, rfl, _, _, rfl, rfl, _, rfl, ?_⟩
      cases i with
      | zero => exact iteF ⟨_, rfl, rfl⟩
      | succ j =>
        rw [decide_eq_true (show (0 : Int) < ((j + 1 : Nat) : Int) by omega)]
        obtain ⟨r, r1, rp, hr⟩ := has_inv hp (show 1 ≤ j + 1 by omega) hi
        refine iteT ⟨_, rfl, _, rfl, _, rfl, .int p, .int ((j + 1 : Nat) : Int), rfl, Kd.int _, Kd.int _, wp, fun i' e _ => ?_⟩
        cases same e
        refine ⟨wi 1 (by omega), fun n' e2 _ _ r' r1' rp' hr' => ?_⟩
        cases same2 e2
        refine ⟨_, _, rfl, rfl, .inl ⟨by omega, by omega⟩, .inl ⟨_, rfl, _, rfl, _, _, rfl, rfl, by omega, rfl, _, rfl, iteNS ?_ ⟨_, rfl, rfl⟩⟩⟩
        refine congrArg V.int ?_
        rw [Int.mul_comm]
        exact_mod_cast hr'
    rintro σ H2 ⟨v3, rfl, rfl⟩
    refine ⟨_, rfl, _, rfl, by omega, by omega, fun D hD => ?_⟩
    have nD : H D = none := m2.free hd hD
    have dD : d ≠ D := ne_of_none hd2 hD
    refine lc_range (lo := 0) (n := ((p : Int)).toNat) (fun i H3 => Mv a H H3 ∧ H3 d = some (.dK (toD (sqs p p))) ∧ H3 D = some (.lst (((List.range i).filter fun k => (rootN p k).isNone).map fun k : Nat => V.int (k : Int)))) ⟨m2.trans (Mv.new m2.dice hD), same_new hD _ _ hd2, upd_same⟩ ?_ ?_
    · rintro i H3 hi ⟨m3, hd3, hD3⟩
      rw [Int.toNat_natCast] at hi
      rw [Int.zero_add]
      refine ⟨rfl, _, rfl, _, rfl, d, _, rfl, DGet.k (k := .inl (i : Int)) hd3, _, rfl, ?_⟩
      rw [valN, f2 i hi]
      have len : (((List.range i).filter fun k => (rootN p k).isNone).map fun k : Nat => V.int (k : Int)).length < sizeLine := by
        rw [List.length_map]
        refine Nat.lt_of_le_of_lt (List.length_filter_le _ _) ?_
        rw [List.length_range]
        exact Nat.lt_of_lt_of_le (show i < 31 by omega) (by decide)
      cases e : rootN p i with
      | none =>
        refine iteT ⟨_, rfl, _, hD3, len, m3.put nD (hd.ne nD), by rw [upd_ne dD]; exact hd3, ?_⟩
        rw [upd_same, List.range_succ, List.filter_append, List.map_append, List.filter_cons, e]
        rfl
      | some r =>
        refine iteF ⟨m3, hd3, ?_⟩
        rw [hD3, List.range_succ, List.filter_append, List.filter_cons, e]
        show _ = some (HO.lst ((((List.range i).filter fun k => (rootN p k).isNone) ++ []).map _))
        rw [List.append_nil]
    rintro H3 ⟨m3, hd3, hD3⟩
    rw [Int.toNat_natCast] at hD3
    refine ⟨D, _, 0, .int (leastN p), rfl, rfl, SqL.of hD3, atI_nat (j := 0) (by rw [List.getElem?_map, f4]; rfl), ?_⟩
    have wp : ∀ {A : Prop}, primeB (.int (p : Int)) = false → A := fun z => by
      rw [primeB_of (nat_prime hp)] at z
      cases z
    have same : ∀ {i' : Nat}, V.int (p : Int) = V.int (i' : Int) → i' = p := fun e => by
      injection e with e
      omega
    refine ⟨_, rfl, .int p, rfl, Kd.int _, wp, fun i' e _ => ?_⟩
    cases same e
    refine ⟨_, rfl, rfl, _, rfl, iteNS rfl ?_⟩
    refine ⟨_, rfl, d, _, rfl, hd3, _, rfl, _, _, rfl, rfl, _, _, rfl, rfl, ⟨by decide, by decide⟩, rfl, _, rfl, iteNS (congrArg V.int ?_) ?_⟩
    · unfold toD
      rw [List.length_map, f3, Int.fdiv_eq_ediv_of_nonneg _ (by decide)]
      omega
    refine ⟨_, rfl, _, rfl, _, _, rfl, rfl, a, _, rfl, m3.dice, by omega, by omega, fun r1 H4 m4 r10 r1p => ⟨_, _, rfl, rfl, _, rfl, _, rfl, _, _, rfl, rfl, a, _, rfl, m4.dice, by omega, by omega, fun r2 H5 m5 r20 r2p => ?_⟩⟩
    have hd5 : H5 d = some (.dK (toD (sqs p p))) := m5.keep _ _ nda (m4.keep _ _ nda hd3)
    obtain ⟨u, hu⟩ : ∃ u : Nat, 1 + r1 = (u : Int) := ⟨(1 + r1).toNat, by omega⟩
    obtain ⟨w, hw⟩ : ∃ w : Nat, 1 + r2 = (w : Int) := ⟨(1 + r2).toNat, by omega⟩
    refine ⟨_, _, rfl, rfl, .int u, .int w, (by show [V.int (1 + r1), V.int (1 + r2)] = _; rw [hu, hw]), ?_⟩
    have up : u < p := by omega
    have wpl : w < p := by omega
    refine ⟨_, rfl, _, rfl, _, rfl, _, _, rfl, rfl, .inl ⟨by omega, by omega⟩, .inl ⟨_, rfl, _, rfl, _, _, rfl, rfl, by omega, .int p, _, rfl, Kd.int _, Kd.int _, wp, fun i' e _ => ?_⟩⟩
    cases same e
    have ek : ((u : Int) * (w : Int) % (p : Int)) = ((u * w % p : Nat) : Int) := by rw [Int.natCast_emod, Int.natCast_mul]
    have kp : u * w % p < p := Nat.mod_lt _ (by omega)
    refine ⟨fun z => ?_, fun n' e2 _ => ?_⟩
    · have t : withinB (.int ((u : Int) * (w : Int) % (p : Int))) 0 ((p : Int) - 1) = true := by
        rw [ek]
        show (intB (.int ((u * w % p : Nat) : Int)) && (decide (0 ≤ ((u * w % p : Nat) : Int)) && decide (((u * w % p : Nat) : Int) ≤ (p : Int) - 1))) = true
        rw [int_small (by omega) (by omega), decide_eq_true (show (0 : Int) ≤ ((u * w % p : Nat) : Int) by omega), decide_eq_true (show ((u * w % p : Nat) : Int) ≤ (p : Int) - 1 by omega)]
        rfl
      rw [t] at z
      cases z
    have en : n' = u * w % p := by
      injection e2 with e2
      rw [ek] at e2
      omega
    subst en
    refine ⟨rfl, _, rfl, _, rfl, _, rfl, d, _, rfl, DGet.k (k := .inl (u : Int)) hd5, _, rfl, _, rfl, d, _, rfl, DGet.k (k := .inl (w : Int)) hd5, rfl, rfl, ?_⟩
    have eb : ∀ o : Option Nat, (!decide (optV o = V.non)) = o.isSome := fun o => by
      cases o with
      | none => rfl
      | some r =>
        rw [decide_eq_false (fun z => by cases z)]
        rfl
    have es : ∀ k : Nat, k < p → (valV (toD (sqs p p)) (.inl (k : Int))).isSome = (rootN p k).isSome := fun k hk => by
      rw [valN, f2 k hk, Option.isSome_map]
    rw [eb, es u up, es w wpl, mul_facts hp up wpl (by omega) (by omega)]
    have fin : decide (V.bl ((rootN p u).isSome == (rootN p w).isSome) = V.bl (decide (V.bl (rootN p u).isSome = V.bl (rootN p w).isSome))) = true := by
      cases (rootN p u).isSome <;> cases (rootN p w).isSome <;> rfl
    rw [fin]
    exact q _ ((m3.trans m4).trans m5)
end
abbrev N__law_errors_right : List Str := ["_law_dice_here", "_law_bad", "_law_prime", "_law_odd", "_law_less", "_law_told", "_law_word_here", "_law_due"]
theorem sc__law_errors_right : FnScope N__law_errors_right ["_law_dice_here"] (defScope s__law_errors_right) := ⟨rfl, rfl, rfl, by decide +kernel, rfl, by decide +kernel, by decide +kernel⟩
abbrev N__law_word : List Str := ["_law_call", "e"]
theorem sc__law_word : FnScope N__law_word ["_law_call"] (defScope s__law_word) := ⟨rfl, rfl, rfl, by decide +kernel, rfl, by decide +kernel, by decide +kernel⟩
section
variable {P : Program} {w : World} {K : PySem.W.Frag} {mg : Str → Option Value} {base : Heap}
theorem takes_len {X : Cx} {W : WX} {n : Nat} (tk : Takes X W) (hn : X.N.length = n := by rfl) : Takes X (fun cls d σ H => σ.length = n → W cls d σ H) := fun u s' xx => by
  obtain ⟨a, B, sI, pins, σ, H, cls, d, e, I, nb, up, sky, na, os, ag, w⟩ := xx
  exact tk u s' ⟨a, B, sI, pins, σ, H, cls, d, e, I, nb, up, sky, na, os, ag, w (I.len.trans hn)⟩
theorem word_gives {CX1 : CXT} {N1 : List Str} {sc1 : Scope} {f1 : Addr} {cd1 : Value} {A : Around} {outer : List Env} {s1 : Shared} {H1 : Hp} {E1 : XK} {gf : Addr} {cdg : Value} (T : Txt K mg) (g : Quiet A)
    (hr : (A.deeper (envOfC "_law_errors_right" sc1 s1.heap.objs.size f1 cd1)).units + 128 < cLine) :
    LamX.GivesTo ((cxOf CX1 P w K mg base N1 "_law_errors_right" sc1 f1 cd1 A outer s1 H1 E1).nox) N__law_word "_law_word" (defScope s__law_word) gf cdg (defBody s__law_word) "_law_call" qLam (TTw K T.c_InvalidPrime T.c_InvalidCount T.c_TooMany) := by
  intro f c' s H Q tl act hc h
  refine ⟨_, pss_cons (ps_try_mix (X := (cxOf C8.CX0 P w K mg base N__law_word "_law_word" (defScope s__law_word) gf cdg ((cxOf CX1 P w K mg base N1 "_law_errors_right" sc1 f1 cd1 A outer s1 H1 E1).nox).A ((cxOf CX1 P w K mg base N1 "_law_errors_right" sc1 f1 cd1 A outer s1 H1 E1).nox).stack s H C8.E0).nox)
      (tb := fun W D σ H => ∃ Ech : XK, (∀ cls d σ' H', σ'.length = 2 → Ech cls d H' → W cls d σ' H') ∧ σ[0]? = some (some (.ref f)) ∧ H c' = some (LamX.CodeO c' qLam) ∧ tl Ech H (fun _ H' => D.nx σ H'))
      rfl rfl sc__law_word.nd LamX.takes0 (fun W pn xe tk _ => ?_)
      (.bare ⟨rfl, by decide, .inl T.g_InvalidPrime⟩ (fun a oe cls d pn hz hf => pss_one (ps_ret pe_str))
        (.as (i := 1) rfl rfl ⟨rfl, by decide, .inl T.k_InvalidCount.gC⟩ (fun a oe cls d pn hz hf => pss_one (ps_ret (pe_op op_add_str pe_str (pe_callB (X := ((cxOf C8.CX0 P w K mg base N__law_word "_law_word" (defScope s__law_word) gf cdg ((cxOf CX1 P w K mg base N1 "_law_errors_right" sc1 f1 cd1 A outer s1 H1 E1).nox).A ((cxOf CX1 P w K mg base N1 "_law_errors_right" sc1 f1 cd1 A outer s1 H1 E1).nox).stack s H C8.E0).nox.suite a ((a, oe) :: pn))) (id := "repr") (r := rRepr K) (call_repr (X := ((cxOf C8.CX0 P w K mg base N__law_word "_law_word" (defScope s__law_word) gf cdg ((cxOf CX1 P w K mg base N1 "_law_errors_right" sc1 f1 cd1 A outer s1 H1 E1).nox).A ((cxOf CX1 P w K mg base N1 "_law_errors_right" sc1 f1 cd1 A outer s1 H1 E1).nox).stack s H C8.E0).nox.suite a ((a, oe) :: pn))) (show A.guards = some [] from g) (by show A.units + 3 + 3 + 64 < cLine; have hr2 : A.units + 3 + 128 < cLine := hr; omega)) (by rfl) T.z_repr (by decide +kernel) (pa_cons (pe_xf (EInvalidCount.xf T.k_InvalidCount) T.k_InvalidCount.noN hz hf (pv 1)) pa_nil)))))
          (.as (i := 1) rfl rfl ⟨rfl, by decide, .inl T.k_TooMany.gC⟩ (fun a oe cls d pn hz hf => pss_one (ps_ret (pe_op op_add_str pe_str (pe_callB (X := ((cxOf C8.CX0 P w K mg base N__law_word "_law_word" (defScope s__law_word) gf cdg ((cxOf CX1 P w K mg base N1 "_law_errors_right" sc1 f1 cd1 A outer s1 H1 E1).nox).A ((cxOf CX1 P w K mg base N1 "_law_errors_right" sc1 f1 cd1 A outer s1 H1 E1).nox).stack s H C8.E0).nox.suite a ((a, oe) :: pn))) (id := "repr") (r := rRepr K) (call_repr (X := ((cxOf C8.CX0 P w K mg base N__law_word "_law_word" (defScope s__law_word) gf cdg ((cxOf CX1 P w K mg base N1 "_law_errors_right" sc1 f1 cd1 A outer s1 H1 E1).nox).A ((cxOf CX1 P w K mg base N1 "_law_errors_right" sc1 f1 cd1 A outer s1 H1 E1).nox).stack s H C8.E0).nox.suite a ((a, oe) :: pn))) (show A.guards = some [] from g) (by show A.units + 3 + 3 + 64 < cLine; have hr2 : A.units + 3 + 128 < cLine := hr; omega)) (by rfl) T.z_repr (by decide +kernel) (pa_cons (pe_xf (ETooMany.xf T.k_TooMany) T.k_TooMany.noN hz hf (pv 1)) pa_nil)))))
            .nil)))) (pss_one (ps_ret pe_str)), ?_⟩
  · refine ⟨fun pins s' σ H' D I h' => ?_⟩
    obtain ⟨Ech, hW, h1, h2, h3⟩ := h'
    exact (pss_one (ps_expr (act (fun cls d σ H => σ.length = 2 → W cls d σ H) pn xe Ech _ _ (takes_len tk) (fun cls d σ' H' e l => hW cls d σ' H' l e)))).run pins s' σ H' D I ⟨h1, h2, h3⟩
  · refine ⟨WW K T.c_InvalidPrime T.c_InvalidCount T.c_TooMany Q, fun cls d σ' H' hl hw => ?_, rfl, hc, h⟩
    obtain ⟨v0, v1, rfl⟩ : ∃ v0 v1, σ' = [v0, v1] := by
      match σ', hl with
      | [v0, v1], _ => exact ⟨v0, v1, rfl⟩
    rcases hw with ⟨rfl, q⟩ | ⟨rfl, dd, v, da, rfl, e, dr, gd, q⟩ | ⟨rfl, dd, v, da, rfl, e, dr, gd, q⟩
    · exact ⟨true, exm_tab T.tab (i := 0) (j := 0) (by decide) (by decide), fun _ _ _ => q, fun z => Bool.noConfusion z⟩
    · obtain ⟨g1, g2, g3, _⟩ := good_is gd
      refine ⟨false, exm_tab T.tab (i := 1) (j := 0) (by decide) (by decide), fun z => Bool.noConfusion z, fun _ => ⟨true, exm_tab T.tab (i := 1) (j := 1) (by decide) (by decide), fun _ a0 n0 => ?_, fun z => Bool.noConfusion z⟩⟩
      exact ⟨_, rfl, rfl, rfl, dd, _, v, rfl, e, rfl, v, da, rfl, dr, g1, g2, Nat.le_trans g3 (by decide), _, _, rfl, rfl, Nat.le_trans (Nat.add_le_add (show Str.length "count " ≤ 6 by decide) g3) (by decide), q⟩
    · obtain ⟨g1, g2, g3, _⟩ := good_is gd
      refine ⟨false, exm_tab T.tab (i := 2) (j := 0) (by decide) (by decide), fun z => Bool.noConfusion z, fun _ => ⟨false, exm_tab T.tab (i := 2) (j := 1) (by decide) (by decide), fun z => Bool.noConfusion z, fun _ => ⟨true, exm_tab T.tab (i := 2) (j := 2) (by decide) (by decide), fun _ a0 n0 => ?_, fun z => Bool.noConfusion z⟩⟩⟩
      exact ⟨_, rfl, rfl, rfl, dd, _, v, rfl, e, rfl, v, da, rfl, dr, g1, g2, Nat.le_trans g3 (by decide), _, _, rfl, rfl, Nat.le_trans (Nat.add_le_add (show Str.length "many " ≤ 6 by decide) g3) (by decide), q⟩
end
section
variable {P : Program} {w : World} {K : PySem.W.Frag} {mg : Str → Option Value} {base : Heap}
theorem ok__law_errors_right (T : Txt K mg) (TB : LamX.TabB base mg T.c_lam T.p_lam) : FnG P w K mg base CX0 8 T.f__law_errors_right T.fd__law_errors_right ["_law_dice_here"] (sp_err T.p_lam) := by
  refine T.F__law_errors_right.okGC T.co_lam sc__law_errors_right (fun vs H Q E h => ?_) (fun A outer s H vs Q E g hr h => ?_)
  · obtain ⟨a, rfl, hd, tabs, q⟩ := h
    rfl
  · obtain ⟨a, rfl, hd, tabs, q⟩ := h
    obtain ⟨oc_w, od_w, kV_w, dc_w, pm_w, an_w, cdw, ct_w, sl_w, ew, lkw, hcw⟩ := T.F__law_word.ex
    have hbw := T.b__law_word
    rw [ew] at lkw hbw
    refine ⟨_, (pss_cons (ps_asg (pe_tup (pa_cons (pe_call (ok__law_pick T) (hr.mono (by decide)) (by rfl) T.g__law_pick T.F__law_pick.kp T.b__law_pick .nil pass0 (pa_cons (pv 0) (pa_cons (pe_lst (pa_cons pe_non (pa_cons pe_int (pa_cons pe_int (pa_cons pe_int (pa_cons pe_int (pa_cons (pe_un un_neg pe_int) (pa_cons pe_bl (pa_cons pe_str (pa_cons (pe_tup (pa_cons pe_int pa_nil)) (pa_cons (pe_lst pa_nil) pa_nil))))))))))) pa_nil))) (pa_cons (pe_call (ok__law_pick T) (hr.mono (by decide)) (by rfl) T.g__law_pick T.F__law_pick.kp T.b__law_pick .nil pass0 (pa_cons (pv 0) (pa_cons (pe_callTy call_list_of (by rfl) T.z_list (by decide +kernel) (pa_cons (pe_glob (v := V.ref T.a_PRIMES) (by rfl) T.g_PRIMES rfl) pa_nil)) pa_nil))) pa_nil))) (pg_tup rfl (pgs_cons (pg_name (i := 1) sc__law_errors_right.nd rfl (Or.inr rfl)) (pgs_cons (pg_name (i := 2) sc__law_errors_right.nd rfl (Or.inr rfl)) pgs_nil))))
      (pss_cons (ps_set (i := 3) sc__law_errors_right.nd rfl (Or.inr rfl) (pe_call (ok__law_pick T) (hr.mono (by decide)) (by rfl) T.g__law_pick T.F__law_pick.kp T.b__law_pick .nil pass0 (pa_cons (pv 0) (pa_cons (pe_lst (pa_cons pe_non (pa_cons (pe_un un_neg pe_int) (pa_cons (pv 2) (pa_cons (pe_op op_pow pe_int pe_int) (pa_cons pe_bl (pa_cons pe_str (pa_cons (pe_tup (pa_cons pe_int pa_nil)) (pa_cons pe_dnewK pa_nil))))))))) pa_nil))))
      (pss_cons (ps_set (i := 4) sc__law_errors_right.nd rfl (Or.inr rfl) (pe_call (ok__law_pick T) (hr.mono (by decide)) (by rfl) T.g__law_pick T.F__law_pick.kp T.b__law_pick .nil pass0 (pa_cons (pv 0) (pa_cons (pe_lst (pa_cons pe_non (pa_cons pe_int (pa_cons (pe_un un_neg pe_int) (pa_cons pe_bl (pa_cons pe_str (pa_cons (pe_tup (pa_cons pe_int pa_nil)) (pa_cons (pe_op op_pow pe_int pe_int) (pa_cons pe_dnewK pa_nil))))))))) pa_nil))))
      (pss_cons (ps_set (i := 5) sc__law_errors_right.nd rfl (Or.inl rfl) (pe_lst (pa_cons (LamX.pe_lamcall (T := [(T.p_lam, qLam)]) (TT := TTw K T.c_InvalidPrime T.c_InvalidCount T.c_TooMany) (c := T.c_lam) (P := T.p_lam) (k := 5) (by rfl) T.g__law_word T.F__law_word.kp lkw hcw hbw sc__law_word rfl (Or.inl rfl) (word_gives T g (lamRoom hr)) TB rfl (List.mem_singleton.mpr rfl) (fun p hp _ => by rw [List.mem_singleton.mp hp]; rfl) (hr.mono (by decide)) (LamX.lamS_by (sc := defScope s__law_errors_right) (by decide +kernel)) rfl (fun _ _ _ _ _ => rfl) (fun A2 outer2 s2 H2 E2 f2 c2 hr2 => (pe_call (ok_residue_inverse T) (hr2.mono (by decide)) (by rfl) T.g_residue_inverse T.F_residue_inverse.kp T.b_residue_inverse .nil (passes_call (takes_of rfl rfl rfl rfl) (fun _ _ _ _ h => h)) (pa_cons (pv 1) (pa_cons (pv 3) pa_nil))))) (pa_cons (LamX.pe_lamcall (T := [(T.p_lam, qLam)]) (TT := TTw K T.c_InvalidPrime T.c_InvalidCount T.c_TooMany) (c := T.c_lam) (P := T.p_lam) (k := 5) (by rfl) T.g__law_word T.F__law_word.kp lkw hcw hbw sc__law_word rfl (Or.inl rfl) (word_gives T g (lamRoom hr)) TB rfl (List.mem_singleton.mpr rfl) (fun p hp _ => by rw [List.mem_singleton.mp hp]; rfl) (hr.mono (by decide)) (LamX.lamS_by (sc := defScope s__law_errors_right) (by decide +kernel)) rfl (fun _ _ _ _ _ => rfl) (fun A2 outer2 s2 H2 E2 f2 c2 hr2 => (pe_call (ok_residue_inverse T) (hr2.mono (by decide)) (by rfl) T.g_residue_inverse T.F_residue_inverse.kp T.b_residue_inverse .nil (passes_call (takes_of rfl rfl rfl rfl) (fun _ _ _ _ h => h)) (pa_cons (pv 2) (pa_cons (pv 3) pa_nil))))) (pa_cons (LamX.pe_lamcall (T := [(T.p_lam, qLam)]) (TT := TTw K T.c_InvalidPrime T.c_InvalidCount T.c_TooMany) (c := T.c_lam) (P := T.p_lam) (k := 5) (by rfl) T.g__law_word T.F__law_word.kp lkw hcw hbw sc__law_word rfl (Or.inl rfl) (word_gives T g (lamRoom hr)) TB rfl (List.mem_singleton.mpr rfl) (fun p hp _ => by rw [List.mem_singleton.mp hp]; rfl) (hr.mono (by decide)) (LamX.lamS_by (sc := defScope s__law_errors_right) (by decide +kernel)) rfl (fun _ _ _ _ _ => rfl) (fun A2 outer2 s2 H2 E2 f2 c2 hr2 => (pe_call (ok_residue_inverse T) (hr2.mono (by decide)) (by rfl) T.g_residue_inverse T.F_residue_inverse.kp T.b_residue_inverse .nil (passes_call (takes_of rfl rfl rfl rfl) (fun _ _ _ _ h => h)) (pa_cons (pv 2) (pa_cons pe_int pa_nil))))) (pa_cons (LamX.pe_lamcall (T := [(T.p_lam, qLam)]) (TT := TTw K T.c_InvalidPrime T.c_InvalidCount T.c_TooMany) (c := T.c_lam) (P := T.p_lam) (k := 5) (by rfl) T.g__law_word T.F__law_word.kp lkw hcw hbw sc__law_word rfl (Or.inl rfl) (word_gives T g (lamRoom hr)) TB rfl (List.mem_singleton.mpr rfl) (fun p hp _ => by rw [List.mem_singleton.mp hp]; rfl) (hr.mono (by decide)) (LamX.lamS_by (sc := defScope s__law_errors_right) (by decide +kernel)) rfl (fun _ _ _ _ _ => rfl) (fun A2 outer2 s2 H2 E2 f2 c2 hr2 => (pe_call (ok_residue_root T) (hr2.mono (by decide)) (by rfl) T.g_residue_root T.F_residue_root.kp T.b_residue_root .nil (passes_call (takes_of rfl rfl rfl rfl) (fun _ _ _ _ h => h)) (pa_cons (pv 1) (pa_cons (pv 3) pa_nil))))) (pa_cons (LamX.pe_lamcall (T := [(T.p_lam, qLam)]) (TT := TTw K T.c_InvalidPrime T.c_InvalidCount T.c_TooMany) (c := T.c_lam) (P := T.p_lam) (k := 5) (by rfl) T.g__law_word T.F__law_word.kp lkw hcw hbw sc__law_word rfl (Or.inl rfl) (word_gives T g (lamRoom hr)) TB rfl (List.mem_singleton.mpr rfl) (fun p hp _ => by rw [List.mem_singleton.mp hp]; rfl) (hr.mono (by decide)) (LamX.lamS_by (sc := defScope s__law_errors_right) (by decide +kernel)) rfl (fun _ _ _ _ _ => rfl) (fun A2 outer2 s2 H2 E2 f2 c2 hr2 => (pe_call (ok_residue_root T) (hr2.mono (by decide)) (by rfl) T.g_residue_root T.F_residue_root.kp T.b_residue_root .nil (passes_call (takes_of rfl rfl rfl rfl) (fun _ _ _ _ h => h)) (pa_cons (pv 2) (pa_cons (pv 3) pa_nil))))) (pa_cons (LamX.pe_lamcall (T := [(T.p_lam, qLam)]) (TT := TTw K T.c_InvalidPrime T.c_InvalidCount T.c_TooMany) (c := T.c_lam) (P := T.p_lam) (k := 5) (by rfl) T.g__law_word T.F__law_word.kp lkw hcw hbw sc__law_word rfl (Or.inl rfl) (word_gives T g (lamRoom hr)) TB rfl (List.mem_singleton.mpr rfl) (fun p hp _ => by rw [List.mem_singleton.mp hp]; rfl) (hr.mono (by decide)) (LamX.lamS_by (sc := defScope s__law_errors_right) (by decide +kernel)) rfl (fun _ _ _ _ _ => rfl) (fun A2 outer2 s2 H2 E2 f2 c2 hr2 => (pe_call (ok_least_nonsquare T) (hr2.mono (by decide)) (by rfl) T.g_least_nonsquare T.F_least_nonsquare.kp T.b_least_nonsquare .nil (passes_call (takes_of rfl rfl rfl rfl) (fun _ _ _ _ h => h)) (pa_cons (pv 1) pa_nil)))) (pa_cons (LamX.pe_lamcall (T := [(T.p_lam, qLam)]) (TT := TTw K T.c_InvalidPrime T.c_InvalidCount T.c_TooMany) (c := T.c_lam) (P := T.p_lam) (k := 5) (by rfl) T.g__law_word T.F__law_word.kp lkw hcw hbw sc__law_word rfl (Or.inl rfl) (word_gives T g (lamRoom hr)) TB rfl (List.mem_singleton.mpr rfl) (fun p hp _ => by rw [List.mem_singleton.mp hp]; rfl) (hr.mono (by decide)) (LamX.lamS_by (sc := defScope s__law_errors_right) (by decide +kernel)) rfl (fun _ _ _ _ _ => rfl) (fun A2 outer2 s2 H2 E2 f2 c2 hr2 => (pe_call (ok_factors T) (hr2.mono (by decide)) (by rfl) T.g_factors T.F_factors.kp T.b_factors .nil (passes_call (takes_of rfl rfl rfl rfl) (fun _ _ _ _ h => h)) (pa_cons (pv 4) pa_nil)))) (pa_cons (LamX.pe_lamcall (T := [(T.p_lam, qLam)]) (TT := TTw K T.c_InvalidPrime T.c_InvalidCount T.c_TooMany) (c := T.c_lam) (P := T.p_lam) (k := 5) (by rfl) T.g__law_word T.F__law_word.kp lkw hcw hbw sc__law_word rfl (Or.inl rfl) (word_gives T g (lamRoom hr)) TB rfl (List.mem_singleton.mpr rfl) (fun p hp _ => by rw [List.mem_singleton.mp hp]; rfl) (hr.mono (by decide)) (LamX.lamS_by (sc := defScope s__law_errors_right) (by decide +kernel)) rfl (fun _ _ _ _ _ => rfl) (fun A2 outer2 s2 H2 E2 f2 c2 hr2 => (pe_call (ok_factors T) (hr2.mono (by decide)) (by rfl) T.g_factors T.F_factors.kp T.b_factors .nil (passes_call (takes_of rfl rfl rfl rfl) (fun _ _ _ _ h => h)) (pa_cons (pe_op op_add (pe_op op_add (pe_op op_pow pe_int pe_int) pe_int) (pe_call (ok__law_roll T) (hr2.mono (by decide)) (by rfl) T.g__law_roll T.F__law_roll.kp T.b__law_roll .nil pass0 (pa_cons (pv 0) (pa_cons (pe_op op_pow pe_int pe_int) pa_nil)))) pa_nil)))) (pa_cons (LamX.pe_lamcall (T := [(T.p_lam, qLam)]) (TT := TTw K T.c_InvalidPrime T.c_InvalidCount T.c_TooMany) (c := T.c_lam) (P := T.p_lam) (k := 5) (by rfl) T.g__law_word T.F__law_word.kp lkw hcw hbw sc__law_word rfl (Or.inl rfl) (word_gives T g (lamRoom hr)) TB rfl (List.mem_singleton.mpr rfl) (fun p hp _ => by rw [List.mem_singleton.mp hp]; rfl) (hr.mono (by decide)) (LamX.lamS_by (sc := defScope s__law_errors_right) (by decide +kernel)) rfl (fun _ _ _ _ _ => rfl) (fun A2 outer2 s2 H2 E2 f2 c2 hr2 => (pe_call (ok_factors T) (hr2.mono (by decide)) (by rfl) T.g_factors T.F_factors.kp T.b_factors .nil (passes_call (takes_of rfl rfl rfl rfl) (fun _ _ _ _ h => h)) (pa_cons (pe_op op_pow pe_int pe_int) pa_nil)))) pa_nil)))))))))))
      (pss_cons (ps_set (i := 6) sc__law_errors_right.nd rfl (Or.inl rfl) (pe_op op_add_str pe_str (pe_callB (call_repr g hr.units) (by rfl) T.z_repr (by decide +kernel) (pa_cons (pv 3) pa_nil))))
      (pss_cons (ps_set (i := 7) sc__law_errors_right.nd rfl (Or.inl rfl) (pe_lst (pa_cons pe_str (pa_cons (pv 6) (pa_cons pe_str (pa_cons pe_str (pa_cons (pv 6) (pa_cons pe_str (pa_cons (pe_op op_add_str pe_str (pe_callB (call_repr g hr.units) (by rfl) T.z_repr (by decide +kernel) (pa_cons (pv 4) pa_nil))) (pa_cons pe_str (pa_cons pe_str pa_nil)))))))))))
      (pss_one (ps_ret (pe_cmpR (op_eqD hr.units) (pv 5) (pv 7) (nomark _)))))))))), ?_⟩
    -- the bad one and a prime
    refine ⟨_, rfl, _, rfl, (by show 1 ≤ sizeLine; decide), fun t1 ht1 => ⟨(by show 0 ≤ sizeLine; decide), fun l1 hl1 => ⟨(by show 10 ≤ sizeLine; decide), fun L1 hL1 => ?_⟩⟩⟩
    have d1 := hd.new (o := .tup [.int 3]) ht1
    have d2 := d1.new (o := .lst []) hl1
    refine ⟨a, L1, _, rfl, d2.new hL1, d2.ne hL1, SqL.of upd_same, (by show 0 < 10; decide), (by show 10 < 1000000000; decide), fun bad H1 m1 hbad => ?_⟩
    have ht1' : H1 t1 = some (.tup [.int 3]) := m1.keep _ _ (hd.ne ht1) (same_new hL1 _ _ (same_new hl1 _ _ upd_same))
    have hl1' : H1 l1 = some (.lst []) := m1.keep _ _ (d1.ne hl1) (same_new hL1 _ _ upd_same)
    obtain ⟨db, ob1, nb⟩ : ∃ db, Od H1 bad db ∧ primeB bad = false := by
      simp only [List.mem_cons, List.not_mem_nil, or_false] at hbad
      rcases hbad with rfl | rfl | rfl | rfl | rfl | rfl | rfl | rfl | rfl | rfl
      · exact ⟨_, .non, rfl⟩
      · exact ⟨_, .int _, by decide +kernel⟩
      · exact ⟨_, .int _, by decide +kernel⟩
      · exact ⟨_, .int _, by decide +kernel⟩
      · exact ⟨_, .int _, by decide +kernel⟩
      · exact ⟨_, .int _, by decide +kernel⟩
      · exact ⟨_, .bl _, rfl⟩
      · exact ⟨_, .str _, rfl⟩
      · exact ⟨_, .tup ht1', rfl⟩
      · exact ⟨_, .lst hl1', rfl⟩
    have r1 : Rs a H H1 := (((Rs.new hd ht1).trans (Rs.new d1 hl1)).trans (Rs.new d2 hL1)).trans (.mv m1)
    have tb1 : LamX.Tabs [(T.p_lam, qLam)] H1 := tabs_mv (d2.new hL1) m1 (((tabs.ext (same_new ht1)).ext (same_new hl1)).ext (same_new hL1))
    refine ⟨_, rfl, _, _, rfl, .inr (T.q_PRIMES _), fun l hl => ⟨a, l, _, rfl, m1.dice.new hl, m1.dice.ne hl, SqL.of upd_same, by decide, by decide, fun pv H2 m2 hpv => ?_⟩⟩
    obtain ⟨pi, hpi, rfl⟩ := List.mem_map.mp hpv
    obtain ⟨p, rfl, hp⟩ := prime_nat hpi
    obtain ⟨p3, p31⟩ := primeN_of hp
    refine ⟨(by show 2 ≤ sizeLine; decide), fun t ht => ⟨t, _, rfl, SqT.of upd_same, rfl, _, _, rfl, _, _, rfl, rfl, ?_⟩⟩
    have m3 : Mv a H1 (upd H2 t (.tup [bad, .int (p : Int)])) := ((Mv.new m1.dice hl).trans m2).trans (Mv.new m2.dice ht)
    have ob3 : Od (upd H2 t (.tup [bad, .int (p : Int)])) bad db := ob1.rs m1.dice (.mv m3)
    have tb3 := tabs_mv m1.dice m3 tb1
    have r3 := r1.trans (.mv m3)
    generalize upd H2 t (.tup [bad, .int (p : Int)]) = H3 at m3 ob3 tb3 r3 ⊢
    -- the odd one
    refine ⟨_, rfl, _, rfl, _, rfl, _, _, rfl, rfl, ⟨by decide, by decide, by decide⟩, (by show 1 ≤ sizeLine; decide), fun t2 ht2 => ?_⟩
    intro e2 he2
    refine ⟨(by show 8 ≤ sizeLine; decide), fun L2 hL2 => ?_⟩
    have d4 := m3.dice.new (o := .tup [.int 1]) ht2
    have d5 := d4.new (o := .dK []) he2
    refine ⟨a, L2, _, rfl, d5.new hL2, d5.ne hL2, SqL.of upd_same, (by show 0 < 8; decide), (by show 8 < 1000000000; decide), fun odd H4 m4 hodd => ?_⟩
    have ht4 : H4 t2 = some (.tup [.int 1]) := m4.keep _ _ (m3.dice.ne ht2) (same_new hL2 _ _ (same_new he2 _ _ upd_same))
    have he4 : H4 e2 = some (.dK []) := m4.keep _ _ (d4.ne he2) (same_new hL2 _ _ upd_same)
    obtain ⟨dO, oo4, gO, wO⟩ : ∃ dO, Od H4 odd dO ∧ good dO = true ∧ ∀ lo : Int, withinB odd lo ((p : Int) - 1) = false ∨ lo < 0 := by
      simp only [List.mem_cons, List.not_mem_nil, or_false] at hodd
      rcases hodd with rfl | rfl | rfl | rfl | rfl | rfl | rfl | rfl
      · exact ⟨_, .non, by decide +kernel, fun _ => .inl rfl⟩
      · exact ⟨_, .int _, by decide +kernel, fun lo => out_low (by omega)⟩
      · refine ⟨_, .int _, ?_, fun lo => .inl (out_high (by omega))⟩
        exact List.all_eq_true.mp (show (primesN.all fun q => good (.int (q : Int))) = true by decide +kernel) p hp
      · exact ⟨_, .int _, by decide +kernel, fun lo => .inl (out_high (show (p : Int) - 1 < 10 ^ (50 : Int).toNat by
          have : (31 : Int) < 10 ^ (50 : Int).toNat := by decide +kernel
          omega))⟩
      · exact ⟨_, .bl _, by decide +kernel, fun _ => .inl rfl⟩
      · exact ⟨_, .str _, by decide +kernel, fun _ => .inl rfl⟩
      · exact ⟨_, .tup ht4, by decide +kernel, fun _ => .inl rfl⟩
      · exact ⟨_, .dK he4, by decide +kernel, fun _ => .inl rfl⟩
    have m34 : Mv a H3 H4 := (((Mv.new m3.dice ht2).trans (Mv.new d4 he2)).trans (Mv.new d5 hL2)).trans m4
    have ob4 := ob3.rs m3.dice (.mv m34)
    have tb4 := tabs_mv m3.dice m34 tb3
    have r4 := r3.trans (.mv m34)
    -- the one below
    refine ⟨_, rfl, _, rfl, (by show 1 ≤ sizeLine; decide), fun t5 ht5 => ⟨_, _, rfl, rfl, ⟨by decide, by decide, by decide⟩, fun e5 he5 => ⟨(by show 8 ≤ sizeLine; decide), fun L5 hL5 => ?_⟩⟩⟩
    have d6 := m4.dice.new (o := .tup [.int 1]) ht5
    have d7 := d6.new (o := .dK []) he5
    refine ⟨a, L5, _, rfl, d7.new hL5, d7.ne hL5, SqL.of upd_same, (by show 0 < 8; decide), (by show 8 < 1000000000; decide), fun less H5 m5 hless => ?_⟩
    have ht5' : H5 t5 = some (.tup [.int 1]) := m5.keep _ _ (m4.dice.ne ht5) (same_new hL5 _ _ (same_new he5 _ _ upd_same))
    have he5' : H5 e5 = some (.dK []) := m5.keep _ _ (d6.ne he5) (same_new hL5 _ _ upd_same)
    obtain ⟨dL, ol, gL, wL⟩ : ∃ dL, Od H5 less dL ∧ good dL = true ∧ withinB less 1 top60 = false := by
      simp only [List.mem_cons, List.not_mem_nil, or_false] at hless
      rcases hless with rfl | rfl | rfl | rfl | rfl | rfl | rfl | rfl
      · exact ⟨_, .non, by decide +kernel, rfl⟩
      · exact ⟨_, .int _, by decide +kernel, by decide +kernel⟩
      · exact ⟨_, .int _, by decide +kernel, by decide +kernel⟩
      · exact ⟨_, .bl _, by decide +kernel, rfl⟩
      · exact ⟨_, .str _, by decide +kernel, rfl⟩
      · exact ⟨_, .tup ht5', by decide +kernel, rfl⟩
      · exact ⟨_, .int _, by decide +kernel, by decide +kernel⟩
      · exact ⟨_, .dK he5', by decide +kernel, rfl⟩
    have m45 : Mv a H4 H5 := (((Mv.new m4.dice ht5).trans (Mv.new d6 he5)).trans (Mv.new d7 hL5)).trans m5
    have ob := ob4.rs m4.dice (.mv m45)
    have oo := oo4.rs m4.dice (.mv m45)
    have tb5 := tabs_mv m4.dice m45 tb4
    have r5 := r4.trans (.mv m45)
    have dc := m45.dice
    have wO1 : withinB odd 1 ((p : Int) - 1) = false := (wO 1).resolve_right (by decide)
    have wO0 : withinB odd 0 ((p : Int) - 1) = false := (wO 0).resolve_right (by decide)
    clear m45 m5 m34 m4 m3 m2 m1 tabs tb1 tb3 tb4 r1 r3 r4 ob1 ob3 ob4 oo4 d1 d2 d4 d5 d6 d7
    have wp : ∀ {A : Prop}, primeB (.int (p : Int)) = false → A := fun z => by
      rw [primeB_of (nat_prime hp)] at z
      cases z
    have nbad : ∀ {A : Prop} {i : Nat}, bad = .int (i : Int) → i ∈ primesN → A := fun e hi => by
      rw [e, primeB_of (nat_prime hi)] at nb
      cases nb
    have same : ∀ {i' : Nat}, V.int (p : Int) = V.int (i' : Int) → i' = p := fun e => by
      injection e with e
      omega
    have inside : ∀ {A : Prop} {n : Nat} {lo : Int}, odd = .int (n : Int) → withinB odd lo ((p : Int) - 1) = false → lo ≤ n → n < p → A := fun {A n lo} e w h1 h2 => by
      have t : withinB odd lo ((p : Int) - 1) = true := by
        rw [e]
        show (intB (.int (n : Int)) && (decide (lo ≤ (n : Int)) && decide ((n : Int) ≤ (p : Int) - 1))) = true
        rw [int_small (by omega) (by omega), decide_eq_true h1, decide_eq_true (show (n : Int) ≤ (p : Int) - 1 by omega)]
        rfl
      rw [t] at w
      cases w
    have s5 : Sit a [(T.p_lam, qLam)] H H5 bad odd less db dO dL := ⟨r5, ob, oo, ol, tb5⟩
    clear ob oo ol tb5 r5 dc ht1' hl1' ht4 he4 ht5' he5'
    have inp : ∀ (v : Int) (lo hi : Int), lo ≤ v → v ≤ hi → -1000 ≤ v → v ≤ 1000 → withinB (.int v) lo hi = true := fun v lo hi h1 h2 h3 h4 => by
      show (intB (.int v) && (decide (lo ≤ v) && decide (v ≤ hi))) = true
      rw [int_small h3 h4, decide_eq_true h1, decide_eq_true h2]
      rfl
    -- 1: residue_inverse(bad, odd)
    refine ⟨s5.tabs, fun H6 e6 tb6 => ?_⟩
    have s6 := s5.ext e6 tb6
    refine ⟨_, rfl, _, rfl, bad, odd, rfl, s6.ob.kd, s6.oo.kd, fun _ => .inl ⟨rfl, ?_⟩, fun i e hi => nbad e hi⟩
    -- 2: residue_inverse(prime, odd)
    refine ⟨s6.tabs, fun H7 e7 tb7 => ?_⟩
    have s7 := s6.ext e7 tb7
    refine ⟨_, rfl, _, rfl, .int p, odd, rfl, Kd.int _, s7.oo.kd, wp, fun i e hi => ?_⟩
    cases same e
    refine ⟨fun _ x7 hx7 => .inr (.inl ⟨rfl, x7, odd, dO, rfl, upd_same, (s7.new hx7).oo.dr, gO, ?_⟩), fun n e2 n1 np => inside e2 wO1 (by omega) np⟩
    have s8 := s7.new (o := .xd [("value", odd)]) hx7
    -- 3: residue_inverse(prime, 0)
    refine ⟨s8.tabs, fun H9 e9 tb9 => ?_⟩
    have s9 := s8.ext e9 tb9
    refine ⟨_, rfl, .int p, .int 0, rfl, Kd.int _, Kd.int _, wp, fun i e hi => ?_⟩
    cases same e
    refine ⟨fun _ x9 hx9 => .inr (.inl ⟨rfl, x9, .int 0, .int 0, rfl, upd_same, .inl (.int _), by decide +kernel, ?_⟩), fun n e2 n1 np => (by injection e2 with e2; omega)⟩
    rw [show ("count " ++ PyData.shown (.int 0) : Str) = "count 0" from by decide +kernel]
    have s10 := s9.new (o := .xd [("value", .int 0)]) hx9
    -- 4: residue_root(bad, odd)
    refine ⟨s10.tabs, fun H11 e11 tb11 => ?_⟩
    have s11 := s10.ext e11 tb11
    refine ⟨_, rfl, _, rfl, bad, odd, rfl, s11.ob.kd, s11.oo.kd, fun _ => .inl ⟨rfl, ?_⟩, fun i e hi => nbad e hi⟩
    -- 5: residue_root(prime, odd)
    refine ⟨s11.tabs, fun H12 e12 tb12 => ?_⟩
    have s12 := s11.ext e12 tb12
    refine ⟨_, rfl, _, rfl, .int p, odd, rfl, Kd.int _, s12.oo.kd, wp, fun i e hi => ?_⟩
    cases same e
    refine ⟨fun _ x12 hx12 => .inr (.inl ⟨rfl, x12, odd, dO, rfl, upd_same, (s12.new hx12).oo.dr, gO, ?_⟩), fun n e2 np => inside e2 wO0 (by omega) np⟩
    have s13 := s12.new (o := .xd [("value", odd)]) hx12
    -- 6: least_nonsquare(bad)
    refine ⟨s13.tabs, fun H14 e14 tb14 => ?_⟩
    have s14 := s13.ext e14 tb14
    refine ⟨_, rfl, bad, rfl, s14.ob.kd, fun _ => .inl ⟨rfl, ?_⟩, fun i e hi => nbad e hi⟩
    -- 7: factors(less)
    refine ⟨s14.tabs, fun H15 e15 tb15 => ?_⟩
    have s15 := s14.ext e15 tb15
    refine ⟨_, rfl, less, rfl, s15.ol.kd, fun _ x15 hx15 => .inr (.inl ⟨rfl, x15, less, dL, rfl, upd_same, (s15.new hx15).ol.dr, gL, ?_⟩), fun i e z => (by rw [wL] at z; cases z)⟩
    have s16 := s15.new (o := .xd [("value", less)]) hx15
    -- 8: factors(10 ** 12 + 1 + ..)
    refine ⟨s16.tabs, fun H17 e17 tb17 => ?_⟩
    have s17 := s16.ext e17 tb17
    refine ⟨_, _, rfl, rfl, ⟨by decide, by decide, by decide⟩, _, _, rfl, rfl, _, rfl, _, _, rfl, rfl, ⟨by decide, by decide, by decide⟩, a, _, rfl, s17.rs.dice, by decide +kernel, by decide +kernel, fun r H18 m18 r0 rlt => ?_⟩
    have s18 := s17.mv m18
    have big : (10 : Int) ^ (12 : Int).toNat = 1000000000000 := by decide +kernel
    have mil : (10 : Int) ^ (6 : Int).toNat = 1000000 := by decide +kernel
    rw [mil] at rlt
    have t60 : top60 = 999999999999999999999999999999999999999999999999999999999999 := rfl
    have wB : withinB (.int ((10 : Int) ^ (12 : Int).toNat + 1 + r)) 1 top60 = true := by
      rw [big]
      show ((decide (-top60 ≤ (1000000000000 + 1 + r : Int)) && decide ((1000000000000 + 1 + r : Int) ≤ top60)) && (decide (1 ≤ (1000000000000 + 1 + r : Int)) && decide ((1000000000000 + 1 + r : Int) ≤ top60))) = true
      rw [decide_eq_true (show -top60 ≤ (1000000000000 + 1 + r : Int) by omega), decide_eq_true (show (1000000000000 + 1 + r : Int) ≤ top60 by omega), decide_eq_true (show (1 : Int) ≤ (1000000000000 + 1 + r : Int) by omega)]
      rfl
    refine ⟨_, _, rfl, rfl, .int ((10 : Int) ^ (12 : Int).toNat + 1 + r), rfl, Kd.int _, fun z => (by rw [wB] at z; cases z), fun i e _ => ⟨fun _ x18 hx18 => .inr (.inr ⟨rfl, x18, .int 1000000000000, .int 1000000000000, rfl, upd_same, .inl (.int _), by decide +kernel, ?_⟩), fun le => ?_⟩⟩
    rotate_left
    · injection e with e
      rw [big] at e
      omega
    rw [show ("many " ++ PyData.shown (.int 1000000000000) : Str) = "many 1000000000000" from by decide +kernel]
    have s19 := s18.new (o := .xd [("limit", .int 1000000000000)]) hx18
    -- 9: factors(10 ** 12)
    refine ⟨s19.tabs, fun H20 e20 tb20 => ?_⟩
    have s20 := s19.ext e20 tb20
    refine ⟨_, _, rfl, rfl, ⟨by decide, by decide, by decide⟩, .int ((10 : Int) ^ (12 : Int).toNat), rfl, Kd.int _, fun z => ?_, fun i e _ => ⟨fun z => ?_, fun _ => ⟨List.replicate 12 2 ++ List.replicate 12 5, ?_, ps_trillion, fun x20 hx20 => ?_⟩⟩⟩
    · rw [show withinB (.int ((10 : Int) ^ (12 : Int).toNat)) 1 top60 = true from by decide +kernel] at z
      cases z
    · injection e with e
      rw [big] at e
      omega
    · injection e with e
      rw [← e]
      decide +kernel
    have s21 := s20.new (o := .dK (toD (cnt (List.replicate 12 2 ++ List.replicate 12 5)))) hx20
    -- the words
    obtain ⟨go1, go2, go3, go4⟩ := good_is gO
    obtain ⟨gl1, gl2, gl3, gl4⟩ := good_is gL
    have len : ∀ {d : PyData}, d.shown.length ≤ 1000 → Str.length "count " + d.shown.length ≤ sizeLine := fun h => Nat.le_trans (Nat.add_le_add (show Str.length "count " ≤ 6 by decide) h) (by decide)
    refine ⟨(by show 9 ≤ sizeLine; decide), fun LT hLT => ?_⟩
    refine ⟨_, rfl, odd, dO, rfl, (s21.new hLT).oo.dr, go1, go2, Nat.le_trans go3 (by decide), _, _, rfl, rfl, len go3, ?_⟩
    refine ⟨_, rfl, _, rfl, _, rfl, less, dL, rfl, (s21.new hLT).ol.dr, gl1, gl2, Nat.le_trans gl3 (by decide), _, _, rfl, rfl, len gl3, (by show 9 ≤ sizeLine; decide), fun LD hLD => ?_⟩
    let ss : List Str := ["prime", "count " ++ dO.shown, "count 0", "prime", "count " ++ dO.shown, "prime", "count " ++ dL.shown, "many 1000000000000", "none"]
    have ok : ∀ z ∈ ss, PyData.strOk z = true := fun z hz => by
      simp only [ss, List.mem_cons, List.not_mem_nil, or_false] at hz
      rcases hz with rfl | rfl | rfl | rfl | rfl | rfl | rfl | rfl | rfl
      · decide +kernel
      · exact go4
      · decide +kernel
      · decide +kernel
      · exact go4
      · decide +kernel
      · exact gl4
      · decide +kernel
      · decide +kernel
    refine ⟨_, rfl, _, rfl, .list (ss.map PyData.str), .list (ss.map PyData.str), .lst (SqL.of (same_new hLD _ _ upd_same)) (dp_strs ss), .lst (SqL.of upd_same) (dp_strs ss), shaped_strs ok, shaped_strs ok, ?_⟩
    rw [eqv_strs]
    exact q _ ((s21.new hLT).new hLD).rs ((s21.new hLT).new hLD).tabs
end
abbrev N_law : List Str := ["_law_script", "_law_spot", "_law_dice_here", "_law_told"]
theorem sc_law : FnScope N_law ["_law_script"] (defScope s_law) := ⟨rfl, rfl, rfl, by decide +kernel, rfl, by decide +kernel, by decide +kernel⟩
section
variable {P : Program} {w : World} {K : PySem.W.Frag} {mg : Str → Option Value} {base : Heap}
theorem ok_law (T : Txt K mg) (TB : LamX.TabB base mg T.c_lam T.p_lam) : FnG P w K mg base CX0 9 T.f_law T.fd_law ["_law_script"] (sp_law K T.p_lam) := by
  refine T.F_law.okG sc_law (fun vs H Q E h => ?_) (fun cdv A outer s H vs Q E g hr h => ?_)
  · obtain ⟨a, ns, rfl, hS, hl, ht, q⟩ := h
    rfl
  · obtain ⟨a, ns, rfl, hS, hl, ht, q⟩ := h
    refine ⟨_, (pss_cons (ps_for PassesOwn.never rfl (pi_range1 (by rfl) T.z_range (pa_cons (pe_callB (call_max2 rfl) (by rfl) T.z_max (by decide +kernel) (pa_cons pe_int (pa_cons (pe_callB (call_min2 rfl) (by rfl) T.z_min (by decide +kernel) (pa_cons pe_int (pa_cons (pe_callB call_len (by rfl) T.z_len (by decide +kernel) (pa_cons (pv 0) pa_nil)) pa_nil))) pa_nil))) pa_nil)) (pg_name (i := 1) sc_law.nd rfl (Or.inl rfl)) (pss_cons (ps_set (i := 2) sc_law.nd rfl (Or.inl rfl) (pe_call (ok__law_dice T) (hr.mono (by decide)) (by rfl) T.g__law_dice T.F__law_dice.kp T.b__law_dice .nil pass0 (pa_cons (pv 0) (pa_cons (pv 1) pa_nil))))
      (pss_one (ps_if (PW.pt (pw_or (pt_not (pt_val (pe_call (ok__law_residues_right T) (hr.mono (by decide)) (by rfl) T.g__law_residues_right T.F__law_residues_right.kp T.b__law_residues_right .nil pass0 (pa_cons (pv 2) pa_nil)))) (pw_or (pt_not (pt_val (pe_call (ok__law_factors_right T) (hr.mono (by decide)) (by rfl) T.g__law_factors_right T.F__law_factors_right.kp T.b__law_factors_right .nil pass0 (pa_cons (pv 2) pa_nil)))) (pw_or1 (pt_not (pt_val (pe_callG (ok__law_errors_right T TB) g (hr.mono (by decide)) (by rfl) T.g__law_errors_right T.F__law_errors_right.kp T.b__law_errors_right .nil pass0 (pa_cons (pv 2) pa_nil)))))))) (pss_one (ps_ret pe_bl)) pss_nil))))
      (pss_cons (ps_set (i := 3) sc_law.nd rfl (Or.inl rfl) (pe_lst (pa_cons (pe_call (ok_factors T) (hr.mono (by decide)) (by rfl) T.g_factors T.F_factors.kp T.b_factors .nil passL (pa_cons pe_int pa_nil)) (pa_cons (pe_call (ok_factors T) (hr.mono (by decide)) (by rfl) T.g_factors T.F_factors.kp T.b_factors .nil passL (pa_cons pe_int pa_nil)) (pa_cons (pe_call (ok_factors T) (hr.mono (by decide)) (by rfl) T.g_factors T.F_factors.kp T.b_factors .nil passL (pa_cons pe_int pa_nil)) (pa_cons (pe_call (ok_residue_inverse T) (hr.mono (by decide)) (by rfl) T.g_residue_inverse T.F_residue_inverse.kp T.b_residue_inverse .nil passL (pa_cons pe_int (pa_cons pe_int pa_nil))) (pa_cons (pe_call (ok_residue_root T) (hr.mono (by decide)) (by rfl) T.g_residue_root T.F_residue_root.kp T.b_residue_root .nil passL (pa_cons pe_int (pa_cons pe_int pa_nil))) (pa_cons (pe_call (ok_residue_root T) (hr.mono (by decide)) (by rfl) T.g_residue_root T.F_residue_root.kp T.b_residue_root .nil passL (pa_cons pe_int (pa_cons pe_int pa_nil))) pa_nil))))))))
      (pss_one (ps_ret (pe_and (pe_cmpR (op_eqV hr.units) (pv 3) (pe_lst (pa_cons (pe_disp (pps_cons pe_int pe_int (pps_cons pe_int pe_int (pps_cons pe_int pe_int pps_nil))) (by rfl) (by rfl) (fun z => by cases z) (by decide)) (pa_cons pe_dnewK (pa_cons (pe_disp (pps_cons pe_int pe_int pps_nil) (by rfl) (by rfl) (fun z => by cases z) (by decide)) (pa_cons pe_int (pa_cons pe_int (pa_cons pe_int pa_nil))))))) (nomark _)) (pe_one (pe_cmpR (op_eqV hr.units) (pe_call (ok_factors T) (hr.mono (by decide)) (by rfl) T.g_factors T.F_factors.kp T.b_factors .nil passL (pa_cons (pe_op op_pow pe_int pe_int) pa_nil)) (pe_disp (pps_cons pe_int pe_int (pps_cons pe_int pe_int pps_nil)) (by rfl) (by rfl) (fun z => by cases z) (by decide)) (nomark _)))))))), ?_⟩
    refine ⟨_, rfl, _, _, rfl, .inl ⟨_, hS, rfl⟩, _, _, rfl, _, _, rfl, _, rfl, ?_, ?_, ?_⟩
    · split <;> (try split) <;> omega
    · split <;> (try split) <;> omega
    have tabs : LamX.Tabs [(T.p_lam, qLam)] H := fun p hp => by
      rw [List.mem_singleton.mp hp]
      exact LamX.TabS.nil ht
    refine for_range (lo := 0) (n := _) (fun i σ H' => ∃ v2 v3, σ = [some (.ref a), v2, v3, none] ∧ SqL K H' a (ns.map V.int) ∧ LamX.Tabs [(T.p_lam, qLam)] H') ⟨none, none, rfl, hS, tabs⟩ ?_ ?_
    · rintro i σ H' hi ⟨v2, v3, rfl, hS', tb⟩
      refine ⟨_, rfl, _, rfl, a, ns, i, (by rw [Int.zero_add]; rfl), hS', fun p x y z hp => ?_⟩
      have dp : Dc p (upd H' p (.lst [.int x, .int y, .int z])) := ⟨x, y, z, upd_same⟩
      refine ⟨_, rfl, p, rfl, dp, fun H1 m1 => ⟨_, rfl, iteF ⟨_, rfl, p, rfl, m1.dice, fun H2 m2 => ⟨_, rfl, iteF ?_⟩⟩⟩⟩
      have tb2 : LamX.Tabs [(T.p_lam, qLam)] H2 := tabs_mv dp (m1.trans m2) (tb.ext (same_new hp))
      refine ⟨_, rfl, p, rfl, m2.dice, tb2, fun H3 r3 tb3 => ⟨_, rfl, iteF ⟨_, _, rfl, ?_, tb3⟩⟩⟩
      exact seq_law3 hS' hp (m1.trans m2) r3
    · rintro σ H' ⟨v2, v3, rfl, hS', tb⟩
      refine ⟨.int 360, rfl, Kd.int _, factors_in (i := 360) (ps := [2, 2, 2, 3, 3, 5]) (by decide) ps_360 (by decide), factors_one (i := 360) (ps := [2, 2, 2, 3, 3, 5]) (by decide) ps_360 (by decide) (fun f1 hf1 => ?_)⟩
      refine ⟨.int 1, rfl, Kd.int _, factors_in (i := 1) (ps := []) (by decide) ps_1 (by decide), factors_one (i := 1) (ps := []) (by decide) ps_1 (by decide) (fun f2 hf2 => ?_)⟩
      refine ⟨.int 1000003, rfl, Kd.int _, factors_in (i := 1000003) (ps := [1000003]) (by decide) ps_big (by decide), factors_one (i := 1000003) (ps := [1000003]) (by decide) ps_big (by decide) (fun f3 hf3 => ?_)⟩
      have wp : ∀ {A : Prop} {p : Nat}, p ∈ primesN → primeB (.int (p : Int)) = false → A := fun hp z => by
        rw [primeB_of (nat_prime hp)] at z
        cases z
      refine ⟨.int 7, .int 3, rfl, Kd.int _, Kd.int _, wp (p := 7) (by decide), fun i e hi => ⟨fun z => ?_, fun n e2 _ _ r r1 rp hr => ?_⟩⟩
      · have e' : i = 7 := by
          injection e with e
          omega
        subst e'
        rw [show withinB (.int 3) 1 (((7 : Nat) : Int) - 1) = true from by decide +kernel] at z
        cases z
      have r5 : r = 5 := by
        injection e with e
        injection e2 with e2
        have e' : i = 7 := by omega
        have e2' : n = 3 := by omega
        subst e'
        subst e2'
        omega
      subst r5
      refine ⟨.int 7, .int 2, rfl, Kd.int _, Kd.int _, wp (p := 7) (by decide), fun i e hi => ⟨fun z => ?_, fun n e2 _ => ?_⟩⟩
      · have e' : i = 7 := by
          injection e with e
          omega
        subst e'
        rw [show withinB (.int 2) 0 (((7 : Nat) : Int) - 1) = true from by decide +kernel] at z
        cases z
      have r3 : optV (rootN i n) = .int 3 := by
        injection e with e
        injection e2 with e2
        have e' : i = 7 := by omega
        have e2' : n = 2 := by omega
        rw [e', e2', show rootN 7 2 = some 3 from by decide +kernel]
        rfl
      rw [r3]
      refine ⟨.int 5, .int 0, rfl, Kd.int _, Kd.int _, wp (p := 5) (by decide), fun i e hi => ⟨fun z => ?_, fun n e2 _ => ?_⟩⟩
      · have e' : i = 5 := by
          injection e with e
          omega
        subst e'
        rw [show withinB (.int 0) 0 (((5 : Nat) : Int) - 1) = true from by decide +kernel] at z
        cases z
      have r0 : optV (rootN i n) = .int 0 := by
        injection e with e
        injection e2 with e2
        have e' : i = 5 := by omega
        have e2' : n = 0 := by omega
        rw [e', e2', show rootN 5 0 = some 0 from by decide +kernel]
        rfl
      rw [r0]
      refine ⟨(by show 6 ≤ sizeLine; decide), fun TL hTL => ?_⟩
      refine ⟨_, rfl, fun g1 hg1 => ⟨upd_same, [(.inl 2, .int 3), (.inl 3, .int 2), (.inl 5, .int 1)], rfl, (by show 3 ≤ 15; decide), fun g2 hg2 g3 hg3 => ⟨upd_same, [(.inl 1000003, .int 1)], rfl, (by show 1 ≤ 15; decide), (by show 6 ≤ sizeLine; decide), fun LD hLD => ?_⟩⟩⟩
      simp only [upd_twice] at hg2 hg3 hLD ⊢
      have kf1 := same_new (o := .lst [.ref g1, .ref g2, .ref g3, .int 5, .int 3, .int 0]) hLD _ _ (same_new hg3 _ _ (same_new hg2 _ _ (same_new hg1 _ _ (same_new hTL _ _ (same_new hf3 _ _ (same_new hf2 _ _ upd_same))))))
      have kf2 := same_new (o := .lst [.ref g1, .ref g2, .ref g3, .int 5, .int 3, .int 0]) hLD _ _ (same_new hg3 _ _ (same_new hg2 _ _ (same_new hg1 _ _ (same_new hTL _ _ (same_new hf3 _ _ upd_same)))))
      have kf3 := same_new (o := .lst [.ref g1, .ref g2, .ref g3, .int 5, .int 3, .int 0]) hLD _ _ (same_new hg3 _ _ (same_new hg2 _ _ (same_new hg1 _ _ (same_new hTL _ _ upd_same))))
      have kTL := same_new (o := .lst [.ref g1, .ref g2, .ref g3, .int 5, .int 3, .int 0]) hLD _ _ (same_new hg3 _ _ (same_new hg2 _ _ (same_new hg1 _ _ upd_same)))
      have kg1 := same_new (o := .lst [.ref g1, .ref g2, .ref g3, .int 5, .int 3, .int 0]) hLD _ _ (same_new hg3 _ _ (same_new hg2 _ _ upd_same))
      have kg2 := same_new (o := .lst [.ref g1, .ref g2, .ref g3, .int 5, .int 3, .int 0]) hLD _ _ (same_new hg3 _ _ upd_same)
      have kg3 := same_new (o := .lst [.ref g1, .ref g2, .ref g3, .int 5, .int 3, .int 0]) hLD _ _ upd_same
      refine ⟨2, by decide, .inl ⟨TL, LD, _, _, rfl, rfl, SqL.of kTL, SqL.of upd_same, ?_⟩, _, rfl, iteT ?_⟩
      · refine .cons (.inr (.inr (dicts_same kf1 kg1 (by decide +kernel) (by decide +kernel)))) (.cons (.inr (.inr (dicts_same kf2 kg2 (by decide +kernel) (by decide +kernel)))) (.cons (.inr (.inr (dicts_same kf3 kg3 (by decide +kernel) (by decide +kernel)))) (.cons (.inl ⟨rfl, rfl⟩) (.cons (.inl ⟨rfl, rfl⟩) (.cons (.inl ⟨rfl, rfl⟩) .nil)))))
      · refine ⟨_, _, rfl, rfl, ⟨by decide, by decide, by decide⟩, .int ((10 : Int) ^ (12 : Int).toNat), rfl, Kd.int _, factors_in (ps := List.replicate 12 2 ++ List.replicate 12 5) (by decide +kernel) ps_trillion (by decide +kernel), factors_one (ps := List.replicate 12 2 ++ List.replicate 12 5) (by decide +kernel) ps_trillion (by decide +kernel) (fun f4 hf4 => ?_)⟩
        intro g4 hg4
        refine ⟨upd_same, [(.inl 2, .int 12), (.inl 5, .int 12)], rfl, (by show 2 ≤ 15; decide), 1, by decide, ?_, q _⟩
        rw [upd_twice]
        exact dicts_same (same_new hg4 _ _ upd_same) upd_same (by decide +kernel) (by decide +kernel)
end
section
variable {P : Program} {w : World} {K : PySem.W.Frag} {mg : Str → Option Value} {base : Heap}
theorem all_mk {l : PySem.W.OpenLaw} {fa : Addr} {h : Heap} (X : K.In h) (G : h.Ns mainGlobals mg) (hfa : mg "law" = some (.ref fa))
    {f_is_integer : Addr} {od_is_integer an_is_integer : Option Addr} {sl_is_integer : Array (Option Value)} {oc_is_integer kV_is_integer dc_is_integer pm_is_integer cd_is_integer ct_is_integer : Value}
    (a_is_integer : PySem.W.nsIn K mainGlobals "is_integer" = some (some (.ref f_is_integer))) (l_is_integer : K.lookup f_is_integer = some ⟨oc_is_integer, od_is_integer, .func (PySem.W.fnOf "is_integer" "is_integer" (defArgs s_is_integer) (defBody s_is_integer) (defScope s_is_integer) .none kV_is_integer dc_is_integer pm_is_integer an_is_integer cd_is_integer ct_is_integer), sl_is_integer⟩) (c_is_integer : PySem.W.codeIn K cd_is_integer "is_integer" = true) (k_is_integer : PySem.W.keepIn K (.ref f_is_integer) = true)
    {f_inverse_of : Addr} {od_inverse_of an_inverse_of : Option Addr} {sl_inverse_of : Array (Option Value)} {oc_inverse_of kV_inverse_of dc_inverse_of pm_inverse_of cd_inverse_of ct_inverse_of : Value}
    (a_inverse_of : PySem.W.nsIn K mainGlobals "inverse_of" = some (some (.ref f_inverse_of))) (l_inverse_of : K.lookup f_inverse_of = some ⟨oc_inverse_of, od_inverse_of, .func (PySem.W.fnOf "inverse_of" "inverse_of" (defArgs s_inverse_of) (defBody s_inverse_of) (defScope s_inverse_of) .none kV_inverse_of dc_inverse_of pm_inverse_of an_inverse_of cd_inverse_of ct_inverse_of), sl_inverse_of⟩) (c_inverse_of : PySem.W.codeIn K cd_inverse_of "inverse_of" = true) (k_inverse_of : PySem.W.keepIn K (.ref f_inverse_of) = true)
    {f__law_dice : Addr} {od__law_dice an__law_dice : Option Addr} {sl__law_dice : Array (Option Value)} {oc__law_dice kV__law_dice dc__law_dice pm__law_dice cd__law_dice ct__law_dice : Value}
    (a__law_dice : PySem.W.nsIn K mainGlobals "_law_dice" = some (some (.ref f__law_dice))) (l__law_dice : K.lookup f__law_dice = some ⟨oc__law_dice, od__law_dice, .func (PySem.W.fnOf "_law_dice" "_law_dice" (defArgs s__law_dice) (defBody s__law_dice) (defScope s__law_dice) .none kV__law_dice dc__law_dice pm__law_dice an__law_dice cd__law_dice ct__law_dice), sl__law_dice⟩) (c__law_dice : PySem.W.codeIn K cd__law_dice "_law_dice" = true) (k__law_dice : PySem.W.keepIn K (.ref f__law_dice) = true)
    {f__law_roll : Addr} {od__law_roll an__law_roll : Option Addr} {sl__law_roll : Array (Option Value)} {oc__law_roll kV__law_roll dc__law_roll pm__law_roll cd__law_roll ct__law_roll : Value}
    (a__law_roll : PySem.W.nsIn K mainGlobals "_law_roll" = some (some (.ref f__law_roll))) (l__law_roll : K.lookup f__law_roll = some ⟨oc__law_roll, od__law_roll, .func (PySem.W.fnOf "_law_roll" "_law_roll" (defArgs s__law_roll) (defBody s__law_roll) (defScope s__law_roll) .none kV__law_roll dc__law_roll pm__law_roll an__law_roll cd__law_roll ct__law_roll), sl__law_roll⟩) (c__law_roll : PySem.W.codeIn K cd__law_roll "_law_roll" = true) (k__law_roll : PySem.W.keepIn K (.ref f__law_roll) = true)
    {f__law_word : Addr} {od__law_word an__law_word : Option Addr} {sl__law_word : Array (Option Value)} {oc__law_word kV__law_word dc__law_word pm__law_word cd__law_word ct__law_word : Value}
    (a__law_word : PySem.W.nsIn K mainGlobals "_law_word" = some (some (.ref f__law_word))) (l__law_word : K.lookup f__law_word = some ⟨oc__law_word, od__law_word, .func (PySem.W.fnOf "_law_word" "_law_word" (defArgs s__law_word) (defBody s__law_word) (defScope s__law_word) .none kV__law_word dc__law_word pm__law_word an__law_word cd__law_word ct__law_word), sl__law_word⟩) (c__law_word : PySem.W.codeIn K cd__law_word "_law_word" = true) (k__law_word : PySem.W.keepIn K (.ref f__law_word) = true)
    {f_is_within : Addr} {od_is_within an_is_within : Option Addr} {sl_is_within : Array (Option Value)} {oc_is_within kV_is_within dc_is_within pm_is_within cd_is_within ct_is_within : Value}
    (a_is_within : PySem.W.nsIn K mainGlobals "is_within" = some (some (.ref f_is_within))) (l_is_within : K.lookup f_is_within = some ⟨oc_is_within, od_is_within, .func (PySem.W.fnOf "is_within" "is_within" (defArgs s_is_within) (defBody s_is_within) (defScope s_is_within) .none kV_is_within dc_is_within pm_is_within an_is_within cd_is_within ct_is_within), sl_is_within⟩) (c_is_within : PySem.W.codeIn K cd_is_within "is_within" = true) (k_is_within : PySem.W.keepIn K (.ref f_is_within) = true)
    {f_is_prime : Addr} {od_is_prime an_is_prime : Option Addr} {sl_is_prime : Array (Option Value)} {oc_is_prime kV_is_prime dc_is_prime pm_is_prime cd_is_prime ct_is_prime : Value}
    (a_is_prime : PySem.W.nsIn K mainGlobals "is_prime" = some (some (.ref f_is_prime))) (l_is_prime : K.lookup f_is_prime = some ⟨oc_is_prime, od_is_prime, .func (PySem.W.fnOf "is_prime" "is_prime" (defArgs s_is_prime) (defBody s_is_prime) (defScope s_is_prime) .none kV_is_prime dc_is_prime pm_is_prime an_is_prime cd_is_prime ct_is_prime), sl_is_prime⟩) (c_is_prime : PySem.W.codeIn K cd_is_prime "is_prime" = true) (k_is_prime : PySem.W.keepIn K (.ref f_is_prime) = true)
    {f__law_pick : Addr} {od__law_pick an__law_pick : Option Addr} {sl__law_pick : Array (Option Value)} {oc__law_pick kV__law_pick dc__law_pick pm__law_pick cd__law_pick ct__law_pick : Value}
    (a__law_pick : PySem.W.nsIn K mainGlobals "_law_pick" = some (some (.ref f__law_pick))) (l__law_pick : K.lookup f__law_pick = some ⟨oc__law_pick, od__law_pick, .func (PySem.W.fnOf "_law_pick" "_law_pick" (defArgs s__law_pick) (defBody s__law_pick) (defScope s__law_pick) .none kV__law_pick dc__law_pick pm__law_pick an__law_pick cd__law_pick ct__law_pick), sl__law_pick⟩) (c__law_pick : PySem.W.codeIn K cd__law_pick "_law_pick" = true) (k__law_pick : PySem.W.keepIn K (.ref f__law_pick) = true)
    {f_check_prime : Addr} {od_check_prime an_check_prime : Option Addr} {sl_check_prime : Array (Option Value)} {oc_check_prime kV_check_prime dc_check_prime pm_check_prime cd_check_prime ct_check_prime : Value}
    (a_check_prime : PySem.W.nsIn K mainGlobals "check_prime" = some (some (.ref f_check_prime))) (l_check_prime : K.lookup f_check_prime = some ⟨oc_check_prime, od_check_prime, .func (PySem.W.fnOf "check_prime" "check_prime" (defArgs s_check_prime) (defBody s_check_prime) (defScope s_check_prime) .none kV_check_prime dc_check_prime pm_check_prime an_check_prime cd_check_prime ct_check_prime), sl_check_prime⟩) (c_check_prime : PySem.W.codeIn K cd_check_prime "check_prime" = true) (k_check_prime : PySem.W.keepIn K (.ref f_check_prime) = true)
    {f_check_count : Addr} {od_check_count an_check_count : Option Addr} {sl_check_count : Array (Option Value)} {oc_check_count kV_check_count dc_check_count pm_check_count cd_check_count ct_check_count : Value}
    (a_check_count : PySem.W.nsIn K mainGlobals "check_count" = some (some (.ref f_check_count))) (l_check_count : K.lookup f_check_count = some ⟨oc_check_count, od_check_count, .func (PySem.W.fnOf "check_count" "check_count" (defArgs s_check_count) (defBody s_check_count) (defScope s_check_count) .none kV_check_count dc_check_count pm_check_count an_check_count cd_check_count ct_check_count), sl_check_count⟩) (c_check_count : PySem.W.codeIn K cd_check_count "check_count" = true) (k_check_count : PySem.W.keepIn K (.ref f_check_count) = true)
    {f_factors : Addr} {od_factors an_factors : Option Addr} {sl_factors : Array (Option Value)} {oc_factors kV_factors dc_factors pm_factors cd_factors ct_factors : Value}
    (a_factors : PySem.W.nsIn K mainGlobals "factors" = some (some (.ref f_factors))) (l_factors : K.lookup f_factors = some ⟨oc_factors, od_factors, .func (PySem.W.fnOf "factors" "factors" (defArgs s_factors) (defBody s_factors) (defScope s_factors) .none kV_factors dc_factors pm_factors an_factors cd_factors ct_factors), sl_factors⟩) (c_factors : PySem.W.codeIn K cd_factors "factors" = true) (k_factors : PySem.W.keepIn K (.ref f_factors) = true)
    {f_residue_inverse : Addr} {od_residue_inverse an_residue_inverse : Option Addr} {sl_residue_inverse : Array (Option Value)} {oc_residue_inverse kV_residue_inverse dc_residue_inverse pm_residue_inverse cd_residue_inverse ct_residue_inverse : Value}
    (a_residue_inverse : PySem.W.nsIn K mainGlobals "residue_inverse" = some (some (.ref f_residue_inverse))) (l_residue_inverse : K.lookup f_residue_inverse = some ⟨oc_residue_inverse, od_residue_inverse, .func (PySem.W.fnOf "residue_inverse" "residue_inverse" (defArgs s_residue_inverse) (defBody s_residue_inverse) (defScope s_residue_inverse) .none kV_residue_inverse dc_residue_inverse pm_residue_inverse an_residue_inverse cd_residue_inverse ct_residue_inverse), sl_residue_inverse⟩) (c_residue_inverse : PySem.W.codeIn K cd_residue_inverse "residue_inverse" = true) (k_residue_inverse : PySem.W.keepIn K (.ref f_residue_inverse) = true)
    {f_residue_root : Addr} {od_residue_root an_residue_root : Option Addr} {sl_residue_root : Array (Option Value)} {oc_residue_root kV_residue_root dc_residue_root pm_residue_root cd_residue_root ct_residue_root : Value}
    (a_residue_root : PySem.W.nsIn K mainGlobals "residue_root" = some (some (.ref f_residue_root))) (l_residue_root : K.lookup f_residue_root = some ⟨oc_residue_root, od_residue_root, .func (PySem.W.fnOf "residue_root" "residue_root" (defArgs s_residue_root) (defBody s_residue_root) (defScope s_residue_root) .none kV_residue_root dc_residue_root pm_residue_root an_residue_root cd_residue_root ct_residue_root), sl_residue_root⟩) (c_residue_root : PySem.W.codeIn K cd_residue_root "residue_root" = true) (k_residue_root : PySem.W.keepIn K (.ref f_residue_root) = true)
    {f_least_nonsquare : Addr} {od_least_nonsquare an_least_nonsquare : Option Addr} {sl_least_nonsquare : Array (Option Value)} {oc_least_nonsquare kV_least_nonsquare dc_least_nonsquare pm_least_nonsquare cd_least_nonsquare ct_least_nonsquare : Value}
    (a_least_nonsquare : PySem.W.nsIn K mainGlobals "least_nonsquare" = some (some (.ref f_least_nonsquare))) (l_least_nonsquare : K.lookup f_least_nonsquare = some ⟨oc_least_nonsquare, od_least_nonsquare, .func (PySem.W.fnOf "least_nonsquare" "least_nonsquare" (defArgs s_least_nonsquare) (defBody s_least_nonsquare) (defScope s_least_nonsquare) .none kV_least_nonsquare dc_least_nonsquare pm_least_nonsquare an_least_nonsquare cd_least_nonsquare ct_least_nonsquare), sl_least_nonsquare⟩) (c_least_nonsquare : PySem.W.codeIn K cd_least_nonsquare "least_nonsquare" = true) (k_least_nonsquare : PySem.W.keepIn K (.ref f_least_nonsquare) = true)
    {f__law_factors_right : Addr} {od__law_factors_right an__law_factors_right : Option Addr} {sl__law_factors_right : Array (Option Value)} {oc__law_factors_right kV__law_factors_right dc__law_factors_right pm__law_factors_right cd__law_factors_right ct__law_factors_right : Value}
    (a__law_factors_right : PySem.W.nsIn K mainGlobals "_law_factors_right" = some (some (.ref f__law_factors_right))) (l__law_factors_right : K.lookup f__law_factors_right = some ⟨oc__law_factors_right, od__law_factors_right, .func (PySem.W.fnOf "_law_factors_right" "_law_factors_right" (defArgs s__law_factors_right) (defBody s__law_factors_right) (defScope s__law_factors_right) .none kV__law_factors_right dc__law_factors_right pm__law_factors_right an__law_factors_right cd__law_factors_right ct__law_factors_right), sl__law_factors_right⟩) (c__law_factors_right : PySem.W.codeIn K cd__law_factors_right "_law_factors_right" = true) (k__law_factors_right : PySem.W.keepIn K (.ref f__law_factors_right) = true)
    {f__law_residues_right : Addr} {od__law_residues_right an__law_residues_right : Option Addr} {sl__law_residues_right : Array (Option Value)} {oc__law_residues_right kV__law_residues_right dc__law_residues_right pm__law_residues_right cd__law_residues_right ct__law_residues_right : Value}
    (a__law_residues_right : PySem.W.nsIn K mainGlobals "_law_residues_right" = some (some (.ref f__law_residues_right))) (l__law_residues_right : K.lookup f__law_residues_right = some ⟨oc__law_residues_right, od__law_residues_right, .func (PySem.W.fnOf "_law_residues_right" "_law_residues_right" (defArgs s__law_residues_right) (defBody s__law_residues_right) (defScope s__law_residues_right) .none kV__law_residues_right dc__law_residues_right pm__law_residues_right an__law_residues_right cd__law_residues_right ct__law_residues_right), sl__law_residues_right⟩) (c__law_residues_right : PySem.W.codeIn K cd__law_residues_right "_law_residues_right" = true) (k__law_residues_right : PySem.W.keepIn K (.ref f__law_residues_right) = true)
    {f__law_errors_right : Addr} {od__law_errors_right an__law_errors_right : Option Addr} {sl__law_errors_right : Array (Option Value)} {oc__law_errors_right kV__law_errors_right dc__law_errors_right pm__law_errors_right cd__law_errors_right ct__law_errors_right : Value}
    (a__law_errors_right : PySem.W.nsIn K mainGlobals "_law_errors_right" = some (some (.ref f__law_errors_right))) (l__law_errors_right : K.lookup f__law_errors_right = some ⟨oc__law_errors_right, od__law_errors_right, .func (PySem.W.fnOf "_law_errors_right" "_law_errors_right" (defArgs s__law_errors_right) (defBody s__law_errors_right) (defScope s__law_errors_right) .none kV__law_errors_right dc__law_errors_right pm__law_errors_right an__law_errors_right cd__law_errors_right ct__law_errors_right), sl__law_errors_right⟩) (c__law_errors_right : PySem.W.codeIn K cd__law_errors_right "_law_errors_right" = true) (k__law_errors_right : PySem.W.keepIn K (.ref f__law_errors_right) = true)
    {f_law : Addr} {od_law an_law : Option Addr} {sl_law : Array (Option Value)} {oc_law kV_law dc_law pm_law cd_law ct_law : Value}
    (a_law : PySem.W.nsIn K mainGlobals "law" = some (some (.ref f_law))) (l_law : K.lookup f_law = some ⟨oc_law, od_law, .func (PySem.W.fnOf "law" "law" (defArgs s_law) (defBody s_law) (defScope s_law) .none kV_law dc_law pm_law an_law cd_law ct_law), sl_law⟩) (c_law : PySem.W.codeIn K cd_law "law" = true) (k_law : PySem.W.keepIn K (.ref f_law) = true)
    (z_isinstance : PySem.W.nsIn K mainGlobals "isinstance" = some none)
    (z_int : PySem.W.nsIn K mainGlobals "int" = some none)
    (z_bool : PySem.W.nsIn K mainGlobals "bool" = some none)
    (z_abs : PySem.W.nsIn K mainGlobals "abs" = some none)
    (z_max : PySem.W.nsIn K mainGlobals "max" = some none)
    (z_len : PySem.W.nsIn K mainGlobals "len" = some none)
    (z_range : PySem.W.nsIn K mainGlobals "range" = some none)
    (z_list : PySem.W.nsIn K mainGlobals "list" = some none)
    (z_sorted : PySem.W.nsIn K mainGlobals "sorted" = some none)
    (z_repr : PySem.W.nsIn K mainGlobals "repr" = some none)
    (z_min : PySem.W.nsIn K mainGlobals "min" = some none)
    {a_PRIMES : Addr}
    (gPRIMES : PySem.W.nsIn K mainGlobals "PRIMES" = some (some (.ref a_PRIMES)))
    {p1 p2 p3 p4 p5 p6 p7 p8 p9 p10 : Tok} {odP : Option Addr} {nP : Nat} {slP : Array (Option Value)} (lPRIMES : K.lookup a_PRIMES = some ⟨.type "tuple", odP, .seq #[.int 3 p1, .int 5 p2, .int 7 p3, .int 11 p4, .int 13 p5, .int 17 p6, .int 19 p7, .int 23 p8, .int 29 p9, .int 31 p10] nP, slP⟩)
    {t_MAX_INTEGER : Tok}
    (gMAX_INTEGER : PySem.W.nsIn K mainGlobals "MAX_INTEGER" = some (some (.int 999999999999999999999999999999999999999999999999999999999999 t_MAX_INTEGER)))
    {t_MAX_FACTORED : Tok}
    (gMAX_FACTORED : PySem.W.nsIn K mainGlobals "MAX_FACTORED" = some (some (.int 1000000000000 t_MAX_FACTORED)))
    {c_InvalidPrime : Addr}
    (gInvalidPrime : PySem.W.nsIn K mainGlobals "InvalidPrime" = some (some (.ref c_InvalidPrime)))
    (xInvalidPrime : PySem.W.excIn K c_InvalidPrime [.type "ValueError", .type "Exception", .type "BaseException", .type "object"] "ValueError.__new__" = true)
    (kInvalidPrime : PySem.W.keepIn K (.ref c_InvalidPrime) = true)
    (sInvalidPrime : PySem.W.subIn K (.ref c_InvalidPrime) (.type "BaseException") = some true)
    (tInvalidPrime : PySem.W.typeIn K (.ref c_InvalidPrime) = some (.type "type"))
    {c_InvalidCount i_InvalidCount : Addr} {oc_InvalidCount doc_InvalidCount pm_InvalidCount cd_InvalidCount ct_InvalidCount : Value} {od_InvalidCount an_InvalidCount : Option Addr} {sl_InvalidCount : Array (Option Value)} {p1_InvalidCount p2_InvalidCount q1_InvalidCount q2_InvalidCount q3_InvalidCount q4_InvalidCount : Pos} (gInvalidCount : PySem.W.nsIn K mainGlobals "InvalidCount" = some (some (.ref c_InvalidCount))) (iCInvalidCount : PySem.W.findIn K (.ref c_InvalidCount) "__init__" = some (some (.ref i_InvalidCount))) (yiInvalidCount : PySem.W.excInitIn K c_InvalidCount PySem.ERR.InvalidCount.bmC "IndexError.__new__" = true) (yoInvalidCount : PySem.W.excOver K c_InvalidCount PySem.ERR.InvalidCount.bmC = true) (saInvalidCount : PySem.W.findIn K (.ref c_InvalidCount) "__setattr__" = some (some (.builtin "object.__setattr__"))) (gaInvalidCount : PySem.W.findIn K (.ref c_InvalidCount) "__getattribute__" = some (some (.builtin "BaseException.__getattribute__"))) (ggInvalidCount : PySem.W.findIn K (.ref c_InvalidCount) "__getattr__" = some none) (noInvalidCount : PySem.W.findIn K (.ref c_InvalidCount) "value" = some none) (tCInvalidCount : PySem.W.typeIn K (.ref i_InvalidCount) = some (.type "function")) (kCInvalidCount : PySem.W.keepIn K (.ref c_InvalidCount) = true) (exInvalidCount : PySem.W.subIn K (.ref c_InvalidCount) (.type "BaseException") = some true) (tyInvalidCount : PySem.W.typeIn K (.ref c_InvalidCount) = some (.type "type")) (hdInvalidCount : PySem.W.hasDictIn K c_InvalidCount = true) (lInvalidCount : K.lookup i_InvalidCount = some ⟨oc_InvalidCount, od_InvalidCount, .func (PySem.W.fnOf "__init__" "InvalidCount.__init__" (PySem.ERR.InvalidCount.eA p1_InvalidCount p2_InvalidCount) (PySem.ERR.InvalidCount.eB q1_InvalidCount q2_InvalidCount q3_InvalidCount q4_InvalidCount) PySem.ERR.InvalidCount.eS .none .none doc_InvalidCount pm_InvalidCount an_InvalidCount cd_InvalidCount ct_InvalidCount), sl_InvalidCount⟩) (cdInvalidCount : PySem.W.codeIn K cd_InvalidCount "InvalidCount.__init__" = true)
    {c_TooMany i_TooMany : Addr} {oc_TooMany doc_TooMany pm_TooMany cd_TooMany ct_TooMany : Value} {od_TooMany an_TooMany : Option Addr} {sl_TooMany : Array (Option Value)} {p1_TooMany p2_TooMany q1_TooMany q2_TooMany q3_TooMany q4_TooMany : Pos} (gTooMany : PySem.W.nsIn K mainGlobals "TooMany" = some (some (.ref c_TooMany))) (iCTooMany : PySem.W.findIn K (.ref c_TooMany) "__init__" = some (some (.ref i_TooMany))) (yiTooMany : PySem.W.excInitIn K c_TooMany PySem.ERR.TooMany.bmC "OverflowError.__new__" = true) (yoTooMany : PySem.W.excOver K c_TooMany PySem.ERR.TooMany.bmC = true) (saTooMany : PySem.W.findIn K (.ref c_TooMany) "__setattr__" = some (some (.builtin "object.__setattr__"))) (gaTooMany : PySem.W.findIn K (.ref c_TooMany) "__getattribute__" = some (some (.builtin "BaseException.__getattribute__"))) (ggTooMany : PySem.W.findIn K (.ref c_TooMany) "__getattr__" = some none) (noTooMany : PySem.W.findIn K (.ref c_TooMany) "limit" = some none) (tCTooMany : PySem.W.typeIn K (.ref i_TooMany) = some (.type "function")) (kCTooMany : PySem.W.keepIn K (.ref c_TooMany) = true) (exTooMany : PySem.W.subIn K (.ref c_TooMany) (.type "BaseException") = some true) (tyTooMany : PySem.W.typeIn K (.ref c_TooMany) = some (.type "type")) (hdTooMany : PySem.W.hasDictIn K c_TooMany = true) (lTooMany : K.lookup i_TooMany = some ⟨oc_TooMany, od_TooMany, .func (PySem.W.fnOf "__init__" "TooMany.__init__" (PySem.ERR.TooMany.eA p1_TooMany p2_TooMany) (PySem.ERR.TooMany.eB q1_TooMany q2_TooMany q3_TooMany q4_TooMany) PySem.ERR.TooMany.eS .none .none doc_TooMany pm_TooMany an_TooMany cd_TooMany ct_TooMany), sl_TooMany⟩) (cdTooMany : PySem.W.codeIn K cd_TooMany "TooMany.__init__" = true)
    (tab : exTab K [c_InvalidPrime, c_InvalidCount, c_TooMany] = true)
    {c_lam : Addr}
    {p_lam : Addr}
    (colam : cd__law_errors_right = .ref c_lam)
    (tabE : h.get? p_lam = some { cls := .none, data := .fields #[] }) (tabK : K.lookup p_lam = none) (tabC : PySem.W.codeHdIn K c_lam p_lam = true) :
    LamX.LawAtG l w K CX0 9 63 "_law_script" mg fa h := by
  have e := hfa.symm.trans (PySem.W.mg_of X G a_law)
  cases e
  have one : ∀ {F : Addr × Addr → Prop}, F (c_lam, p_lam) → ∀ p ∈ [(c_lam, p_lam)], F p := fun f p hp => by rw [List.mem_singleton.mp hp]; exact f
  refine ⟨PySem.W.fnOf "law" "law" (defArgs s_law) (defBody s_law) (defScope s_law) .none kV_law dc_law pm_law an_law cd_law ct_law, [(c_lam, p_lam)], sp_law K p_lam, one tabE, one tabK, one (PySem.W.codeHd_of_K X tabC), fun s v => .of_eq rfl, fun H a ns hl ht hS => ⟨a, ns, rfl, hS, hl, ht _ (List.mem_singleton.mpr rfl), fun _ => rfl⟩, fun base _ _ TBs => ok_law
    {
      f_is_integer := _,
      fd_is_integer := _,
      F_is_integer := fun_mk (st := s_is_integer) l_is_integer c_is_integer k_is_integer,
      b_is_integer := (fun_mk (st := s_is_integer) l_is_integer c_is_integer k_is_integer).binds (ps := ["value"]) (fun _ _ _ _ _ _ us hl => match us, hl with | [_], _ => rfl),
      g_is_integer := PySem.W.mg_of X G a_is_integer,
      f_inverse_of := _,
      fd_inverse_of := _,
      F_inverse_of := fun_mk (st := s_inverse_of) l_inverse_of c_inverse_of k_inverse_of,
      b_inverse_of := (fun_mk (st := s_inverse_of) l_inverse_of c_inverse_of k_inverse_of).binds (ps := ["prime", "number"]) (fun _ _ _ _ _ _ us hl => match us, hl with | [_, _], _ => rfl),
      g_inverse_of := PySem.W.mg_of X G a_inverse_of,
      f__law_dice := _,
      fd__law_dice := _,
      F__law_dice := fun_mk (st := s__law_dice) l__law_dice c__law_dice k__law_dice,
      b__law_dice := (fun_mk (st := s__law_dice) l__law_dice c__law_dice k__law_dice).binds (ps := ["_law_script", "_law_spot"]) (fun _ _ _ _ _ _ us hl => match us, hl with | [_, _], _ => rfl),
      g__law_dice := PySem.W.mg_of X G a__law_dice,
      f__law_roll := _,
      fd__law_roll := _,
      F__law_roll := fun_mk (st := s__law_roll) l__law_roll c__law_roll k__law_roll,
      b__law_roll := (fun_mk (st := s__law_roll) l__law_roll c__law_roll k__law_roll).binds (ps := ["_law_dice_here", "_law_total"]) (fun _ _ _ _ _ _ us hl => match us, hl with | [_, _], _ => rfl),
      g__law_roll := PySem.W.mg_of X G a__law_roll,
      f__law_word := _,
      fd__law_word := _,
      F__law_word := fun_mk (st := s__law_word) l__law_word c__law_word k__law_word,
      b__law_word := (fun_mk (st := s__law_word) l__law_word c__law_word k__law_word).binds (ps := ["_law_call"]) (fun _ _ _ _ _ _ us hl => match us, hl with | [_], _ => rfl),
      g__law_word := PySem.W.mg_of X G a__law_word,
      f_is_within := _,
      fd_is_within := _,
      F_is_within := fun_mk (st := s_is_within) l_is_within c_is_within k_is_within,
      b_is_within := (fun_mk (st := s_is_within) l_is_within c_is_within k_is_within).binds (ps := ["value", "low", "high"]) (fun _ _ _ _ _ _ us hl => match us, hl with | [_, _, _], _ => rfl),
      g_is_within := PySem.W.mg_of X G a_is_within,
      f_is_prime := _,
      fd_is_prime := _,
      F_is_prime := fun_mk (st := s_is_prime) l_is_prime c_is_prime k_is_prime,
      b_is_prime := (fun_mk (st := s_is_prime) l_is_prime c_is_prime k_is_prime).binds (ps := ["value"]) (fun _ _ _ _ _ _ us hl => match us, hl with | [_], _ => rfl),
      g_is_prime := PySem.W.mg_of X G a_is_prime,
      f__law_pick := _,
      fd__law_pick := _,
      F__law_pick := fun_mk (st := s__law_pick) l__law_pick c__law_pick k__law_pick,
      b__law_pick := (fun_mk (st := s__law_pick) l__law_pick c__law_pick k__law_pick).binds (ps := ["_law_dice_here", "_law_items"]) (fun _ _ _ _ _ _ us hl => match us, hl with | [_, _], _ => rfl),
      g__law_pick := PySem.W.mg_of X G a__law_pick,
      f_check_prime := _,
      fd_check_prime := _,
      F_check_prime := fun_mk (st := s_check_prime) l_check_prime c_check_prime k_check_prime,
      b_check_prime := (fun_mk (st := s_check_prime) l_check_prime c_check_prime k_check_prime).binds (ps := ["prime"]) (fun _ _ _ _ _ _ us hl => match us, hl with | [_], _ => rfl),
      g_check_prime := PySem.W.mg_of X G a_check_prime,
      f_check_count := _,
      fd_check_count := _,
      F_check_count := fun_mk (st := s_check_count) l_check_count c_check_count k_check_count,
      b_check_count := (fun_mk (st := s_check_count) l_check_count c_check_count k_check_count).binds (ps := ["value", "low", "high"]) (fun _ _ _ _ _ _ us hl => match us, hl with | [_, _, _], _ => rfl),
      g_check_count := PySem.W.mg_of X G a_check_count,
      f_factors := _,
      fd_factors := _,
      F_factors := fun_mk (st := s_factors) l_factors c_factors k_factors,
      b_factors := (fun_mk (st := s_factors) l_factors c_factors k_factors).binds (ps := ["number"]) (fun _ _ _ _ _ _ us hl => match us, hl with | [_], _ => rfl),
      g_factors := PySem.W.mg_of X G a_factors,
      f_residue_inverse := _,
      fd_residue_inverse := _,
      F_residue_inverse := fun_mk (st := s_residue_inverse) l_residue_inverse c_residue_inverse k_residue_inverse,
      b_residue_inverse := (fun_mk (st := s_residue_inverse) l_residue_inverse c_residue_inverse k_residue_inverse).binds (ps := ["prime", "number"]) (fun _ _ _ _ _ _ us hl => match us, hl with | [_, _], _ => rfl),
      g_residue_inverse := PySem.W.mg_of X G a_residue_inverse,
      f_residue_root := _,
      fd_residue_root := _,
      F_residue_root := fun_mk (st := s_residue_root) l_residue_root c_residue_root k_residue_root,
      b_residue_root := (fun_mk (st := s_residue_root) l_residue_root c_residue_root k_residue_root).binds (ps := ["prime", "number"]) (fun _ _ _ _ _ _ us hl => match us, hl with | [_, _], _ => rfl),
      g_residue_root := PySem.W.mg_of X G a_residue_root,
      f_least_nonsquare := _,
      fd_least_nonsquare := _,
      F_least_nonsquare := fun_mk (st := s_least_nonsquare) l_least_nonsquare c_least_nonsquare k_least_nonsquare,
      b_least_nonsquare := (fun_mk (st := s_least_nonsquare) l_least_nonsquare c_least_nonsquare k_least_nonsquare).binds (ps := ["prime"]) (fun _ _ _ _ _ _ us hl => match us, hl with | [_], _ => rfl),
      g_least_nonsquare := PySem.W.mg_of X G a_least_nonsquare,
      f__law_factors_right := _,
      fd__law_factors_right := _,
      F__law_factors_right := fun_mk (st := s__law_factors_right) l__law_factors_right c__law_factors_right k__law_factors_right,
      b__law_factors_right := (fun_mk (st := s__law_factors_right) l__law_factors_right c__law_factors_right k__law_factors_right).binds (ps := ["_law_dice_here"]) (fun _ _ _ _ _ _ us hl => match us, hl with | [_], _ => rfl),
      g__law_factors_right := PySem.W.mg_of X G a__law_factors_right,
      f__law_residues_right := _,
      fd__law_residues_right := _,
      F__law_residues_right := fun_mk (st := s__law_residues_right) l__law_residues_right c__law_residues_right k__law_residues_right,
      b__law_residues_right := (fun_mk (st := s__law_residues_right) l__law_residues_right c__law_residues_right k__law_residues_right).binds (ps := ["_law_dice_here"]) (fun _ _ _ _ _ _ us hl => match us, hl with | [_], _ => rfl),
      g__law_residues_right := PySem.W.mg_of X G a__law_residues_right,
      f__law_errors_right := _,
      fd__law_errors_right := _,
      F__law_errors_right := fun_mk (st := s__law_errors_right) l__law_errors_right c__law_errors_right k__law_errors_right,
      b__law_errors_right := (fun_mk (st := s__law_errors_right) l__law_errors_right c__law_errors_right k__law_errors_right).binds (ps := ["_law_dice_here"]) (fun _ _ _ _ _ _ us hl => match us, hl with | [_], _ => rfl),
      g__law_errors_right := PySem.W.mg_of X G a__law_errors_right,
      f_law := _,
      fd_law := _,
      F_law := fun_mk (st := s_law) l_law c_law k_law,
      b_law := (fun_mk (st := s_law) l_law c_law k_law).binds (ps := ["_law_script"]) (fun _ _ _ _ _ _ us hl => match us, hl with | [_], _ => rfl),
      g_law := PySem.W.mg_of X G a_law,
      z_isinstance := PySem.W.mg_none_of X G z_isinstance,
      z_int := PySem.W.mg_none_of X G z_int,
      z_bool := PySem.W.mg_none_of X G z_bool,
      z_abs := PySem.W.mg_none_of X G z_abs,
      z_max := PySem.W.mg_none_of X G z_max,
      z_len := PySem.W.mg_none_of X G z_len,
      z_range := PySem.W.mg_none_of X G z_range,
      z_list := PySem.W.mg_none_of X G z_list,
      z_sorted := PySem.W.mg_none_of X G z_sorted,
      z_repr := PySem.W.mg_none_of X G z_repr,
      z_min := PySem.W.mg_none_of X G z_min,
      a_PRIMES := a_PRIMES,
      g_PRIMES := PySem.W.mg_of X G gPRIMES,
      q_PRIMES := fun H => .inr ⟨_, _, _, lPRIMES, rfl, rfl, (by show 10 ≤ sizeLine; decide), by repeat (first | exact .nil | refine .cons ⟨_, rfl⟩ ?_)⟩,
      t_MAX_INTEGER := t_MAX_INTEGER,
      g_MAX_INTEGER := PySem.W.mg_of X G gMAX_INTEGER,
      t_MAX_FACTORED := t_MAX_FACTORED,
      g_MAX_FACTORED := PySem.W.mg_of X G gMAX_FACTORED,
      c_InvalidPrime := c_InvalidPrime,
      g_InvalidPrime := PySem.W.mg_of X G gInvalidPrime,
      x_InvalidPrime := xInvalidPrime,
      k_InvalidPrime := kInvalidPrime,
      s_InvalidPrime := sInvalidPrime,
      t_InvalidPrime := tInvalidPrime,
      c_InvalidCount := c_InvalidCount,
      i_InvalidCount := i_InvalidCount,
      k_InvalidCount := ⟨PySem.W.mg_of X G gInvalidCount, yiInvalidCount, yoInvalidCount, saInvalidCount, gaInvalidCount, ggInvalidCount, noInvalidCount, iCInvalidCount, tCInvalidCount, kCInvalidCount, exInvalidCount, tyInvalidCount, hdInvalidCount, (exm_tab tab (i := 1) (j := 1) (by decide) (by decide)), ⟨_, _, _, _, _, _, _, _, _, _, _, _, _, _, lInvalidCount, cdInvalidCount⟩⟩,
      c_TooMany := c_TooMany,
      i_TooMany := i_TooMany,
      k_TooMany := ⟨PySem.W.mg_of X G gTooMany, yiTooMany, yoTooMany, saTooMany, gaTooMany, ggTooMany, noTooMany, iCTooMany, tCTooMany, kCTooMany, exTooMany, tyTooMany, hdTooMany, (exm_tab tab (i := 2) (j := 2) (by decide) (by decide)), ⟨_, _, _, _, _, _, _, _, _, _, _, _, _, _, lTooMany, cdTooMany⟩⟩,
      tab := tab,
      c_lam := c_lam,
      p_lam := p_lam,
      co_lam := colam } (TBs _ (List.mem_singleton.mpr rfl))⟩
end
end K02
open PySem PySem.W PyProof.Rows
set_option maxRecDepth 100000 in
set_option maxHeartbeats 0 in
theorem PySem.Challenge.cw_twinsheets_k02_whole_residues_and_factor_holds : PySem.Challenge.rw_twinsheets_k02_whole_residues_and_factor.Holds := by
  w_on; o_law; k_head; (case hw => w_witness2)
  k_fill
  refine LamX.walk_ofGT (l := PySem.Challenge.rw_twinsheets_k02_whole_residues_and_factor) (n := 63) (k := 9) (x := "_law_script") (CX := fun _ => L2.CX0) rfl (by decide) rfl ⟨rfl, by decide, by decide⟩ (fun w h Y => PySem.W.km_in_of Y) ?F (fun _ _ _ _ _ h => h)
  case F =>
    intro w mg fa h Y KX G hmg
    refine' K02.all_mk KX G hmg ?a_is_integer ?l_is_integer ?c_is_integer ?k_is_integer ?a_inverse_of ?l_inverse_of ?c_inverse_of ?k_inverse_of ?a__law_dice ?l__law_dice ?c__law_dice ?k__law_dice ?a__law_roll ?l__law_roll ?c__law_roll ?k__law_roll ?a__law_word ?l__law_word ?c__law_word ?k__law_word ?a_is_within ?l_is_within ?c_is_within ?k_is_within ?a_is_prime ?l_is_prime ?c_is_prime ?k_is_prime ?a__law_pick ?l__law_pick ?c__law_pick ?k__law_pick ?a_check_prime ?l_check_prime ?c_check_prime ?k_check_prime ?a_check_count ?l_check_count ?c_check_count ?k_check_count ?a_factors ?l_factors ?c_factors ?k_factors ?a_residue_inverse ?l_residue_inverse ?c_residue_inverse ?k_residue_inverse ?a_residue_root ?l_residue_root ?c_residue_root ?k_residue_root ?a_least_nonsquare ?l_least_nonsquare ?c_least_nonsquare ?k_least_nonsquare ?a__law_factors_right ?l__law_factors_right ?c__law_factors_right ?k__law_factors_right ?a__law_residues_right ?l__law_residues_right ?c__law_residues_right ?k__law_residues_right ?a__law_errors_right ?l__law_errors_right ?c__law_errors_right ?k__law_errors_right ?a_law ?l_law ?c_law ?k_law ?z_isinstance ?z_int ?z_bool ?z_abs ?z_max ?z_len ?z_range ?z_list ?z_sorted ?z_repr ?z_min ?gPRIMES ?lPRIMES ?gMAX_INTEGER ?gMAX_FACTORED ?gInvalidPrime ?xInvalidPrime ?kInvalidPrime ?sInvalidPrime ?tInvalidPrime ?gInvalidCount ?iCInvalidCount ?yiInvalidCount ?yoInvalidCount ?saInvalidCount ?gaInvalidCount ?ggInvalidCount ?noInvalidCount ?tCInvalidCount ?kCInvalidCount ?exInvalidCount ?tyInvalidCount ?hdInvalidCount ?lInvalidCount ?cdInvalidCount ?gTooMany ?iCTooMany ?yiTooMany ?yoTooMany ?saTooMany ?gaTooMany ?ggTooMany ?noTooMany ?tCTooMany ?kCTooMany ?exTooMany ?tyTooMany ?hdTooMany ?lTooMany ?cdTooMany ?tab ?colam ?tabE ?tabK ?tabC
    (case tabE => exact PySem.W.km_tabs_of Y _ (List.mem_singleton.mpr rfl))
    (case tabK => kernel_rfl)
    (case a_is_integer => k_is)
    (case l_is_integer => k_is)
    (case c_is_integer => k_is)
    (case k_is_integer => k_is)
    (case a_inverse_of => k_is)
    (case l_inverse_of => k_is)
    (case c_inverse_of => k_is)
    (case k_inverse_of => k_is)
    (case a__law_dice => k_is)
    (case l__law_dice => k_is)
    (case c__law_dice => k_is)
    (case k__law_dice => k_is)
    (case a__law_roll => k_is)
    (case l__law_roll => k_is)
    (case c__law_roll => k_is)
    (case k__law_roll => k_is)
    (case a__law_word => k_is)
    (case l__law_word => k_is)
    (case c__law_word => k_is)
    (case k__law_word => k_is)
    (case a_is_within => k_is)
    (case l_is_within => k_is)
    (case c_is_within => k_is)
    (case k_is_within => k_is)
    (case a_is_prime => k_is)
    (case l_is_prime => k_is)
    (case c_is_prime => k_is)
    (case k_is_prime => k_is)
    (case a__law_pick => k_is)
    (case l__law_pick => k_is)
    (case c__law_pick => k_is)
    (case k__law_pick => k_is)
    (case a_check_prime => k_is)
    (case l_check_prime => k_is)
    (case c_check_prime => k_is)
    (case k_check_prime => k_is)
    (case a_check_count => k_is)
    (case l_check_count => k_is)
    (case c_check_count => k_is)
    (case k_check_count => k_is)
    (case a_factors => k_is)
    (case l_factors => k_is)
    (case c_factors => k_is)
    (case k_factors => k_is)
    (case a_residue_inverse => k_is)
    (case l_residue_inverse => k_is)
    (case c_residue_inverse => k_is)
    (case k_residue_inverse => k_is)
    (case a_residue_root => k_is)
    (case l_residue_root => k_is)
    (case c_residue_root => k_is)
    (case k_residue_root => k_is)
    (case a_least_nonsquare => k_is)
    (case l_least_nonsquare => k_is)
    (case c_least_nonsquare => k_is)
    (case k_least_nonsquare => k_is)
    (case a__law_factors_right => k_is)
    (case l__law_factors_right => k_is)
    (case c__law_factors_right => k_is)
    (case k__law_factors_right => k_is)
    (case a__law_residues_right => k_is)
    (case l__law_residues_right => k_is)
    (case c__law_residues_right => k_is)
    (case k__law_residues_right => k_is)
    (case a__law_errors_right => k_is)
    (case l__law_errors_right => k_is)
    (case c__law_errors_right => k_is)
    (case k__law_errors_right => k_is)
    (case a_law => k_is)
    (case l_law => k_is)
    (case c_law => k_is)
    (case k_law => k_is)
    (case z_isinstance => k_is)
    (case z_int => k_is)
    (case z_bool => k_is)
    (case z_abs => k_is)
    (case z_max => k_is)
    (case z_len => k_is)
    (case z_range => k_is)
    (case z_list => k_is)
    (case z_sorted => k_is)
    (case z_repr => k_is)
    (case z_min => k_is)
    (case gPRIMES => k_is)
    (case lPRIMES => k_is)
    (case gMAX_INTEGER => k_is)
    (case gMAX_FACTORED => k_is)
    (case gInvalidPrime => k_is)
    (case xInvalidPrime => k_exc)
    (case kInvalidPrime => k_is)
    (case sInvalidPrime => k_is)
    (case tInvalidPrime => k_is)
    (case gInvalidCount => k_is)
    (case iCInvalidCount => k_is)
    (case yiInvalidCount => kx_is)
    (case yoInvalidCount => kx_is)
    (case saInvalidCount => k_is)
    (case gaInvalidCount => k_is)
    (case ggInvalidCount => k_is)
    (case noInvalidCount => k_is)
    (case tCInvalidCount => k_is)
    (case kCInvalidCount => k_is)
    (case exInvalidCount => k_is)
    (case tyInvalidCount => k_is)
    (case hdInvalidCount => k_is)
    (case lInvalidCount => k_is)
    (case cdInvalidCount => k_is)
    (case gTooMany => k_is)
    (case iCTooMany => k_is)
    (case yiTooMany => kx_is)
    (case yoTooMany => kx_is)
    (case saTooMany => k_is)
    (case gaTooMany => k_is)
    (case ggTooMany => k_is)
    (case noTooMany => k_is)
    (case tCTooMany => k_is)
    (case kCTooMany => k_is)
    (case exTooMany => k_is)
    (case tyTooMany => k_is)
    (case hdTooMany => k_is)
    (case lTooMany => k_is)
    (case cdTooMany => k_is)
    (case tab => kernel_rfl)
    (case colam => rfl)
    (case tabC => kernel_rfl)
