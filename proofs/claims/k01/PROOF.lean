import PyProof.Rows.All
import Wide.All
import OpenK.AllK
import Wide.FinOn
import HandS.ForMost
import HandS.ForExc
import HandS.Wide
import HandS.IsInst
import HandS.Steps
import HandS.Evl
import PyProof.CallFns
import PyProof.ReprRoads
import HandS.TryMany
import HandS.ExcField
import HandS.ExcInit
import KE.KExcTry
import KE.KExcStr
import PySem.Challenge.RW_twinsheets_k01_errors_and_what_they_keep
import HandS.Ends
import HandS.Words
import HandS.WordsExc
import HandS.DeepEq
set_option Elab.async false
set_option linter.all false
set_option maxRecDepth 100000
set_option maxHeartbeats 4000000
/-! promises of defs that hold where no container is being written out (which `repr` of a container asks), and `repr` itself -/
namespace L2
open PySem PySem.Spec PyProof.Rows
/-- nothing on the way to here is being written out -/
def Quiet (A : Around) : Prop := A.guards = some []
theorem Quiet.deeper {A : Around} {env : Env} (q : Quiet A) : Quiet (A.deeper env) := q
theorem quiet_top : Quiet callerA := rfl
section
variable {P : Program} {w : World} {K : PySem.W.Frag} {mg : Str → Option Value} {base : Heap} {CX : CXT}
structure FnG (P : Program) (w : World) (K : PySem.W.Frag) (mg : Str → Option Value) (base : Heap)
    (CX : CXT) (k : Nat) (f : Addr) (fd : FuncData) (ps : List Str) (sp : Sp) : Prop where
  size : ∀ xs H Q E, sp xs H Q E →
    xs.length = ps.length
  go : ∀ (A : Around) (ou : List Env) (s : Shared) (H : Hp) (as : Args) (us : List Value) (xs : List V) (Q : VK) (E : XK),
    Quiet A → Room k A →
    Env0 P w K mg base A ou s H →
    BindsTo s fd as (ps.zip us) → Vals xs us → sp xs H Q E →
    codeAny (model P w) A (.call (.ref f) as) (CR CX ou P w H s Q E) s
variable {k j : Nat} {f : Addr} {fd : FuncData} {ps N : List Str} {sp : Sp}
theorem FnG.less (F : FnG P w K mg base CX j f fd ps sp) (h : j ≤ k) : FnG P w K mg base CX k f fd ps sp :=
  ⟨F.size, fun A ou s H as us xs Q E g rm => F.go A ou s H as us xs Q E g (rm.mono h)⟩
theorem FnOk.quiet (F : FnOk P w K mg base CX k f fd ps sp) : FnG P w K mg base CX k f fd ps sp :=
  ⟨F.len, fun A ou s H as us xs Q E _ rm => F.run A ou s H as us xs Q E rm⟩
/-- the rule for a def's body, with the quiet at hand -/
theorem fnG_of {nm qn : Str} {pa : Arguments} {body : List Stmt} {sco : Scope} {dV kV doc pm cdv ct oc : Value} {an od : Option Addr}
    {osl : Array (Option Value)}
    (look : K.lookup f = some ⟨oc, od, .func (PySem.W.fnOf nm qn pa body sco dV kV doc pm an cdv ct), osl⟩)
    (cdIn : PySem.W.codeIn K cdv qn = true) (S : FnScope N ps sco)
    (size : ∀ xs H Q E, sp xs H Q E → xs.length = ps.length)
    (bodyOk : ∀ (A : Around) (ou : List Env) (s : Shared) (H : Hp) (xs : List V) (Q : VK) (E : XK),
      Quiet A → Room k (A.deeper (envOfC qn sco s.heap.objs.size f cdv)) → sp xs H Q E →
      ∃ t, PSs (cxOf CX P w K mg base N qn sco f cdv A ou s H E) body t ∧
        t { nx := fun _ H' => Q .non H', rt := Q } (start N xs) H) :
    FnG P w K mg base CX (k + 1) f
      (PySem.W.fnOf nm qn pa body sco dV kV doc pm an cdv ct) ps sp := by
  refine ⟨size, fun A ou s H as us xs Q E g rm env0 bd rel hs => ?_⟩
  have inK : K.In s.heap :=
    env0.mod.kin.keeps fun b o z => (env0.bs b o z).1
  have free : s.heap.NoLimit :=
    env0.mod.nolimit.keeps fun b o z => (env0.bs b o z).1
  refine codeAny_call_function rm.depth (inK _ _ look) rfl S.co S.gen rfl
    (PySem.W.codeRec_of inK cdIn) (bd _ _ _ _ ?_)
  refine wpAny_newFunctionEnv_cells S.kind (fun ⟨n, v⟩ hy => ?_)
    fun env he s1 x => ?_
  · rcases S.par n (List.of_mem_zip hy).1 with loc | cel
    · exact .inl loc
    · exact .inr ⟨cel, PySem.W.cellsFrom_some _ _ _ (.inl cel)⟩
  subst he
  refine ⟨free.keeps x.toInCall.keep,
    codeAny_func ?_⟩
  obtain ⟨t, term, here⟩ :=
    bodyOk A ou s H xs Q E g (rm.deeper _) hs
  have I0 := inv_start (CX := CX) (E := E) S rm.hd env0
    (size _ _ _ _ hs) rel x
  refine wpAny_mono (term.run [] s1 (start N xs) H _ I0 here)
    (fun fl s2 h2 => ?_) fun _ _ h2 => h2
  cases fl with
  | next =>
    obtain ⟨_, H2, J, q⟩ := h2
    exact ⟨V.non, H2, J.os, J.bare, J.base, J.hok, rfl, q⟩
  | ret u =>
    obtain ⟨v, _, H2, J, r2, q⟩ := h2
    exact ⟨v, H2, J.os, J.bare, J.base, J.hok, r2, q⟩
  | brk => exact h2.elim fun _ h3 => h3.elim fun _ h4 => h4.2.elim
  | cont => exact h2.elim fun _ h3 => h3.elim fun _ h4 => h4.2.elim
/-- a def of the text that raises nothing -/
theorem Fun.okG {x qn : Str} {st : Stmt} (F : Fun K x qn st f fd) (S : FnScope N ps (defScope st))
    (size : ∀ xs H Q E, sp xs H Q E → xs.length = ps.length)
    (bodyOk : ∀ (cdv : Value) (A : Around) (ou : List Env) (s : Shared) (H : Hp) (xs : List V) (Q : VK) (E : XK),
      Quiet A → Room k (A.deeper (envOfC qn (defScope st) s.heap.objs.size f cdv)) → sp xs H Q E →
      ∃ t, PSs (cxOf CX0 P w K mg base N qn (defScope st) f cdv A ou s H E).nox (defBody st) t ∧
        t { nx := fun _ H' => Q .non H', rt := Q } (start N xs) H) :
    FnG P w K mg base CX0 (k + 1) f fd ps sp := by
  obtain ⟨oc, od, kV, doc, pm, an, cdv, ct, osl, rfl, look, cdIn⟩ := F.ex
  refine fnG_of look cdIn S size fun A ou s H xs Q E g rm hs => ?_
  obtain ⟨t, term, here⟩ := bodyOk cdv A ou s H xs Q E g rm hs
  exact ⟨t, term.nox, here⟩
/-- .. that may raise -/
theorem Fun.okGX {x qn : Str} {st : Stmt} (F : Fun K x qn st f fd) (S : FnScope N ps (defScope st))
    (size : ∀ xs H Q E, sp xs H Q E → xs.length = ps.length)
    (bodyOk : ∀ (cdv : Value) (A : Around) (ou : List Env) (s : Shared) (H : Hp) (xs : List V) (Q : VK) (E : XK),
      Quiet A → Room k (A.deeper (envOfC qn (defScope st) s.heap.objs.size f cdv)) → sp xs H Q E →
      ∃ t, PSs (cxOf (L2.CX P w) P w K mg base N qn (defScope st) f cdv A ou s H E) (defBody st) t ∧
        t { nx := fun _ H' => Q .non H', rt := Q } (start N xs) H) :
    FnG P w K mg base (L2.CX P w) (k + 1) f fd ps sp := by
  obtain ⟨oc, od, kV, doc, pm, an, cdv, ct, osl, rfl, look, cdIn⟩ := F.ex
  exact fnG_of look cdIn S size fun A ou s H xs Q E g rm hs => bodyOk cdv A ou s H xs Q E g rm hs
end
section
variable {X : Cx} {CX : CXT} {k : Nat} {f : Addr} {fd : FuncData} {ps : List Str} {sp : Sp} {dvs : List V} {ds : List Value} {E : XK} {x : Str}
  {p pos : Pos} {e : Expr} {es : List Expr} {t : TA}
/-- a call of such a def by its name -/
theorem pe_callG (F : FnG X.prog X.w X.K X.mg X.base CX k f fd ps sp) (g : Quiet X.A) (rm : Room k X.A) (hg : Gl X x)
    (hm : X.mg x = some (.ref f)) (hk : PySem.W.keepIn X.K (.ref f) = true) (hb : Binds X.K fd ps ds) (hd : Vals dvs ds) (hx : Passes CX X E)
    (ha : PA X (e :: es) t)
    (hdb : (x == ("__debug__" : Str)) = false := by decide)
    (he : starEach (e :: es) X.env = (false, eval e X.env) :: starEach es X.env := by rfl)
    (hpl : (backTo pos (starEach es X.env)).any (·.1) = false := by rfl) :
    PE X (.Call (.Name x p) (e :: es) [] pos) (tCall sp dvs E t) := by
  refine ⟨fun pins s σ H Q I h => wpAny_Call_Name_kw (ld_glob I hg hm ?_ hdb)⟩
  refine PySem.W.callWith_K (h₀ := X.base) I.ok.mod.kin hk
    (thn (ha.run pos pins s σ H _ I h) fun us s1 ⟨xs, H1, I1, rel, q⟩ => ⟨I1.kIn, ?_⟩) he hpl
  have rel2 := rel.append hd
  have ln : (us ++ ds).length = ps.length :=
    rel2.length ▸ F.size _ _ _ _ q
  refine wpAny_call (codeAny_mono
    (F.go X.A X.stack s1 H1 ⟨us, []⟩ (us ++ ds) (xs ++ dvs) Q E g rm I1.env0 (hb s1 us I1.kIn ln) rel2 q) fun r s2 h2 => ?_)
  match r, h2 with
  | .error e, h2 => exact hx pins σ H1 s1 e s2 I1 h2
  | .ok (.ret u), h2 => exact I1.after h2
end
/-- the law's own call from the top, where its def asks for quiet -/
theorem law_callG {P : Program} {w : World} {K : PySem.W.Frag} {mg mb : Str → Option Value} {CX : CXT} {k : Nat} {fa a : Addr} {fd : FuncData} {x : Str} {sp : Sp} {s₁ : Shared}
    {vs : List Value} {ns : List Int}
    (inK : K.In s₁.heap) (nsM : s₁.heap.Ns mainGlobals mg) (nsB : s₁.heap.Ns builtinsNs mb) (boot : ∀ y : Str, y ≠ "__name__" → mb y = bootBuiltins y)
    (free : s₁.heap.NoLimit) (noG : s₁.gens = #[])
    (ha : s₁.heap.get? a = some { cls := .type "list", data := .seq vs.toArray }) (iv : IntsAre vs ns) (small : ns.length ≤ sizeLine) (rm : Room k callerA)
    (F : ∀ base : Heap, K.In base → base.Ns mainGlobals mg → FnG P w K mg base CX k fa fd [x] sp)
    (binds : ∀ (s : Shared) (u : Value), BindsTo s fd ⟨[u], []⟩ [(x, u)])
    (asked : ∀ H : Hp, Only H → SqL K H a (ns.map V.int) → sp [.ref a] H (fun v _ => v = .bl true) fun _ _ _ => False)
    (none_out : ∀ H e s', CX [] H s₁ (fun _ _ _ => False) e s' → False) :
    codeAny (model P w) callerA (.call (.ref fa) ⟨[.ref a], []⟩)
      (fun r s' => r = .ok (.ret (.bool true)) ∧ OldK s₁.heap s'.heap ∧ s'.os = s₁.os ∧ AllBare s'.gens) s₁ := by
  have rel := vals_ints iv
  -- the abstract heap tracks nothing but, it may be, the script
  have from_ : ∀ H : Hp, Only H → SqL K H a (ns.map V.int) → HOk P w H s₁.heap →
      (∀ b, H b ≠ none → b = a ∧ K.lookup a = none) →
      codeAny (model P w) callerA (.call (.ref fa) ⟨[.ref a], []⟩)
        (fun r s' => r = .ok (.ret (.bool true)) ∧ OldK s₁.heap s'.heap ∧ s'.os = s₁.os ∧ AllBare s'.gens) s₁ := by
    intro H only seq okH alone
    have isA : ∀ {b u}, H b = some u → b = a ∧ K.lookup a = none := fun {b u} z =>
      alone b fun n => by rw [z] at n; cases n
    have off : ∀ {b : Addr} {o : Obj} {es : Array DictEntry} {ep : Nat},
        s₁.heap.get? b = some o → o.data = .dict es ep → H b = none := by
      intro b o es ep z d
      cases q : H b with
      | none => rfl
      | some u =>
        obtain ⟨rfl, _⟩ := isA q
        rw [ha] at z
        injection z with z
        subst z
        cases (show Data.seq vs.toArray _ = Data.dict es ep from d)
    have ns_ : ∀ {b : Addr} {m : Str → Option Value}, s₁.heap.Ns b m → (hidT s₁.heap H).Ns b m := by
      rintro b m ⟨o, es, ep, z, d, r⟩
      exact ⟨o, es, ep, hidT_get z (off z d), d, r⟩
    have inH : K.In (hidT s₁.heap H) := by
      intro b o z
      refine hidT_get (inK b o z) ?_
      cases q : H b with
      | none => rfl
      | some u =>
        obtain ⟨rfl, n⟩ := isA q
        rw [n] at z
        cases z
    obtain ⟨mc, l1, l2⟩ := free
    have env0 : Env0 P w K mg (hidT s₁.heap H) callerA [] s₁ H := {
      frames := rfl
      mod := ⟨inH, ns_ nsM, ⟨mb, ns_ nsB, boot⟩, ⟨mc, ns_ l1, l2⟩⟩
      bs := fun b o z => of_hidT z
      bsz := Nat.le_of_eq (hidT_size _ _)
      funs := trivial
      frf := fun b z => nomatch (show b ∈ ([] : List Addr) from z)
      hok := okH
      bare := .of_eq noG }
    refine codeAny_mono ((F _ inH (ns_ nsM)).go callerA [] s₁ H ⟨[.ref a], []⟩ [.ref a] [.ref a] _ _ quiet_top rm env0
      (binds s₁ (.ref a)) (.cons rfl .nil) (asked H only seq)) fun r s' h => ?_
    match r, h with
    | .error e, h => exact (none_out H e s' h).elim
    | .ok (.ret u), h =>
      obtain ⟨v, H', os, bare, un, okH', rel', (rfl : v = .bl true)⟩ := h
      obtain rfl : u = Value.bool true := rel'
      refine ⟨rfl, OldK.of_keep fun b o z => ?_, os, bare⟩
      cases q : H b with
      | none =>
        exact un.keep b o z q (fun y => nomatch (show b ∈ ([] : List Addr) from y)) (by simp)
      | some u =>
        rcases only b with n | ⟨ob, xs, n⟩
        · rw [q] at n
          cases n
        · have now := (okH b _ n).1
          have then_ := (okH' b _ (un.frzs b ob _ n)).1
          rw [z] at now
          injection now with now
          subst now
          exact then_
  cases hk : K.lookup a with
  | some o =>
    have z := inK a o hk
    rw [ha] at z
    injection z with z
    subst z
    exact from_ (fun _ => none) (fun _ => .inl rfl)
      (.inr ⟨_, vs.toArray, _, hk, rfl, rfl, rfl, by rw [List.size_toArray, iv.length]; exact small, by simpa using rel⟩)
      (fun b u z => nomatch (show (none : Option HO) = some u from z)) (fun b z => (z rfl).elim)
  | none =>
    have at_ : ∀ b u, (if b = a then some (HO.frz { cls := .type "list", data := .seq vs.toArray } (.lst (ns.map V.int))) else none) = some u →
        b = a ∧ HO.frz { cls := .type "list", data := .seq vs.toArray } (.lst (ns.map V.int)) = u := by
      intro b u z
      split at z
      · exact ⟨‹_›, Option.some.inj z⟩
      · cases z
    refine from_ (fun b => if b = a then some (.frz { cls := .type "list", data := .seq vs.toArray } (.lst (ns.map V.int))) else none)
      (fun b => ?_) (.inl (.inr ⟨{ cls := .type "list", data := .seq vs.toArray }, if_pos rfl⟩)) (fun b u z => ?_) (fun b z => ?_)
    · by_cases eq : b = a
      · exact .inr ⟨_, _, if_pos eq⟩
      · exact .inl (if_neg eq)
    · obtain ⟨rfl, rfl⟩ := at_ b u z
      exact ⟨ha, by rw [List.length_map]; exact small, vs, _, rel, ha⟩
    · by_cases eq : b = a
      · exact ⟨eq, hk⟩
      · exact (z (if_neg eq)).elim
theorem walk_ofG {l : PySem.W.OpenLaw} {n k : Nat} {q : Program} {loose : List Str} {XP : (Str → Option Value) → Heap → Prop} {YP : World → Heap → Prop} {d : DefRec}
    {K : Params → PySem.W.Frag} {CX : World → CXT} {sp : World → Sp} {x : Str}
    (most : l.most = some n) (small : n ≤ sizeLine) (noD : d.params.defaults = []) (rm : Room k callerA)
    (inK : ∀ (w : World) (h : Heap), YP w h → (K w.params).In h)
    (F : ∀ (w : World) (mg : Str → Option Value) (fa : Addr) (h : Heap), (K w.params).In h → h.Ns mainGlobals mg → mg d.name = some (.ref fa) →
      ∃ fd : FuncData, (∀ (s : Shared) (u : Value), BindsTo s fd ⟨[u], []⟩ [(x, u)]) ∧
        ∀ base : Heap, (K w.params).In base → base.Ns mainGlobals mg →
          FnG l.prog w (K w.params) mg base (CX w) k fa fd [x] (sp w))
    (asked : ∀ (w : World) (H : Hp) (a : Addr) (ns : List Int), ns.length ≤ n → Only H → SqL (K w.params) H a (ns.map V.int) →
      sp w [.ref a] H (fun v _ => v = .bl true) fun _ _ _ => False)
    (none_out : ∀ (w : World) (H : Hp) (s : Shared) (e : Value) (s' : Shared), CX w [] H s (fun _ _ _ => False) e s' → False) :
    PySem.W.WalkO q loose XP YP l.row.toRowW d [] (fun f vs => PySem.call f vs) := by
  refine Att.attach_call most noD fun w s₀ s₁ mg mb fa o pm cd doc a vs ns G Y _ _ _ named obj iv len gens => ?_
  obtain ⟨fd, binds, F1⟩ := F w mg fa _ (inK w _ Y) G.T.g named
  exact law_callG (inK w _ Y) G.T.g G.T.b G.T.builtins G.T.nolimit gens obj iv (Nat.le_trans len small) rm F1 binds
    (fun H only seq => asked w H a ns len only seq) fun H e s' => none_out w H s₁ e s'
end L2


/-! `repr` of data: none, bools, ints, texts, lists and tuples of such at any depth, and the empty dict -/
namespace L2
open PySem PySem.Spec PyProof.Rows
/-- data that `repr` tells -/
def Dr (K : PySem.W.Frag) (H : Hp) (v : V) (d : PyData) : Prop :=
  Dp K H v d ∨ ∃ a, v = .ref a ∧ H a = some (.dK []) ∧ d = .dict []
mutual
theorem Dp.noDict {K : PySem.W.Frag} {H : Hp} : ∀ (d : PyData) (v : V), Dp K H v d → d.hasDict = false
  | .none, _, _ => by simp only [PyData.hasDict]
  | .bool _, _, _ => by simp only [PyData.hasDict]
  | .int _, _, _ => by simp only [PyData.hasDict]
  | .str _, _, _ => by simp only [PyData.hasDict]
  | .list ds, _, h => by
    cases h with
    | lst _ r =>
      simp only [PyData.hasDict]
      exact DpAll.noDict ds _ r
  | .tuple ds, _, h => by
    cases h with
    | tup _ r =>
      simp only [PyData.hasDict]
      exact DpAll.noDict ds _ r
  | .dict _, _, h => by cases h
theorem DpAll.noDict {K : PySem.W.Frag} {H : Hp} : ∀ (ds : List PyData) (vs : List V), DpAll K H vs ds → PyData.hasDictAll ds = false
  | [], _, _ => by simp only [PyData.hasDictAll]
  | d :: ds, _, h => by
    cases h with
    | cons h1 h2 =>
      simp only [PyData.hasDictAll, Dp.noDict d _ h1, DpAll.noDict ds _ h2, Bool.or_false]
end
section
variable {X : Cx} {pins : List (Addr × Obj)} {σ : St} {H : Hp} {s : Shared}
theorem Dr.reads (I : Inv X pins σ H s) {d : PyData} {v : V} {u : Value} (h : Dr X.K H v d) (r : RelV v u) :
    ∃ as, Reads s.heap u d as ∧ (d.hasDict = true → sysModules ∉ as) := by
  rcases h with h | ⟨a, rfl, ha, rfl⟩
  · obtain ⟨as, q⟩ := Dp.reads I d v u h r
    exact ⟨as, q, fun z => by rw [Dp.noDict d v h] at z; cases z⟩
  · cases (show u = Value.ref a from r)
    obtain ⟨_, no, vs, kv, o, es, ep, ho, hc, hd, _, hp, _⟩ := (show ObjOk X.prog X.w H s.heap a (.dK []) from I.hok a _ ha)
    have ev : vs = [] := by
      cases (show Paired _ _ _ from kv)
      rfl
    subst ev
    have ee : es.toList = [] := List.eq_nil_of_length_eq_zero hp.length
    refine ⟨a :: [] ++ [], .dict ho hc.1 hd (by rw [ee]; exact .nil) (by rw [ee]; exact .nil), fun _ m => ?_⟩
    simp at m
    rw [m, beq_self_eq_true] at no
    cases no
/-- what `repr` of data asks and gives -/
def rRepr (K : PySem.W.Frag) (vs : List V) (H : Hp) (Q : VK) : Prop :=
  ∃ v d, vs = [v] ∧ Dr K H v d ∧ d.showable = true ∧ d.depth ≤ 60 ∧ d.shown.length ≤ sizeLine ∧ Q (.str d.shown) H
theorem call_repr (g : Quiet X.A) (hu : X.A.units + 64 < cLine) : CallR X (.builtin "repr") (rRepr X.K) := by
  intro pins s σ H xs us Q I r h
  obtain ⟨v, d, rfl, hd, sh, dp, sz, q⟩ := h
  obtain ⟨u, rfl, rv⟩ := vals1 r
  have out : ∀ t s', s' = { s with toks := s.toks + 1 } → EP X pins σ Q (.str d.shown t) s' := by
    rintro t s' rfl
    exact ⟨.str d.shown, H, I.tok _, ⟨_, rfl⟩, q⟩
  cases v with
  | ref a =>
    cases (show u = Value.ref a from rv)
    obtain ⟨as, rd, no⟩ := hd.reads I rv
    refine repr_of_reads' rd sh no g (by omega) (fun b o z => z) (fun h' t tk keep => ?_) sz
    exact ⟨.str d.shown, H, I.kept keep, ⟨_, rfl⟩, q⟩
  | non =>
    cases (show u = Value.none from rv)
    rcases hd with h | ⟨_, z, _⟩
    · cases h
      exact P.repr_of_none (out _ _ rfl)
    · cases z
  | bl b =>
    cases (show u = Value.bool b from rv)
    rcases hd with h | ⟨_, z, _⟩
    · cases h
      have e : PyData.shown (.bool b) = (if b then "True" else "False") := by cases b <;> rfl
      refine P.repr_of_bool ?_
      rw [e] at out
      cases b <;> exact out _ _ rfl
    · cases z
  | int i =>
    obtain ⟨t, rfl⟩ := rv
    rcases hd with h | ⟨_, z, _⟩
    · cases h
      exact P.repr_of_int (of_decide_eq_true sh) (out _ _ rfl)
    · cases z
  | str x =>
    obtain ⟨t, rfl⟩ := rv
    rcases hd with h | ⟨_, z, _⟩
    · cases h
      exact P.repr_of_str (out _ _ rfl) sz
    · cases z
  | _ =>
    rcases hd with h | ⟨_, z, _⟩
    · cases h
    · cases z
end
end L2

/-! ### several clauses, with a name or without one -/
namespace L2
open PySem PySem.Spec PyProof.Rows
/-- a clause: its class, the slot of its name, its suite -/
structure Cl where
  c : Value
  n : Option Nat
  ts : Addr → Value → Option Addr → TS
def Cl.ends (i : Option Nat) (D : Ends) : Ends := match i with
  | none => D
  | some i =>
    { nx := fun σ' H' => D.nx (σ'.set i none) H',
      rt := D.rt,
      bk := fun σ' H' => D.bk (σ'.set i none) H',
      ct := fun σ' H' => D.ct (σ'.set i none) H' }
def Cl.st (i : Option Nat) (σ : St) (a : Addr) : St := match i with
  | none => σ
  | some i => σ.set i (some (.ref a))
def wMix (K : PySem.W.Frag) (Wo : WX) (D : Ends) : List Cl → WX
  | [] => Wo
  | c :: r => fun cls d σ H => ∃ b, PySem.W.exmOne K cls c.c = some b ∧
      (b = true → ∀ a, H a = none → c.ts a cls d (Cl.ends c.n D) (Cl.st c.n σ a) H) ∧
      (b = false → wMix K Wo D r cls d σ H)
inductive HdMix (X : Cx) : List ExceptHandler → List Cl → Prop
  | nil : HdMix X [] []
  | bare {x : Str} {c : Value} {ts : Addr → Value → Option Addr → TS} {b₀ : Stmt} {suite : List Stmt} {np pos' : Pos}
      {hds : List ExceptHandler} {l : List Cl} (hc : Names X x c)
      (hsu : ∀ (a : Addr) (oe : Obj) (cls : Value) (d : Option Addr) (pn : List (Addr × Obj)), Zc cls d oe →
        (∃ vs, oe.data = .fields vs) → PSs (X.suite a ((a, oe) :: pn)) (b₀ :: suite) (ts a cls d))
      (r : HdMix X hds l) :
      HdMix X (.ExceptHandler (some (.Name x np)) none (b₀ :: suite) pos' :: hds) (⟨c, none, ts⟩ :: l)
  | as {x n : Str} {i : Nat} {c : Value} {ts : Addr → Value → Option Addr → TS} {b₀ : Stmt} {suite : List Stmt} {np pos' : Pos}
      {hds : List ExceptHandler} {l : List Cl} (hi : X.N[i]? = some n) (hln : X.env.kindOf n = some .local) (hc : Names X x c)
      (hsu : ∀ (a : Addr) (oe : Obj) (cls : Value) (d : Option Addr) (pn : List (Addr × Obj)), Zc cls d oe →
        (∃ vs, oe.data = .fields vs) → PSs (X.suite a ((a, oe) :: pn)) (b₀ :: suite) (ts a cls d))
      (r : HdMix X hds l) :
      HdMix X (.ExceptHandler (some (.Name x np)) (some n) (b₀ :: suite) pos' :: hds) (⟨c, some i, ts⟩ :: l)
section
variable {X : Cx} {body : List Stmt} {h₀ : ExceptHandler} {hds : List ExceptHandler} {l : List Cl} {pos : Pos}
  {tb : WX → TS} {Wo : WX}
theorem ps_try_mix (hstk : X.stack = X.env :: X.outer) (hfrm : X.env.frame = some X.env.locals) (hND : X.N.Nodup) (tk : Takes X Wo)
    (hbd : ∀ (W : WX) (pn : List (Addr × Obj)) (xe : Value → Shared → Prop), Takes (X.tr pn xe) W →
      PassesOwn (model X.prog X.w) X.A X.env xe → PSs (X.tr pn xe) body (tb W))
    (hhs : HdMix X (h₀ :: hds) l) :
    PS X (.Try body (h₀ :: hds) [] [] pos) (fun D σ H => tb (wMix X.K Wo D l) D σ H) := by
  refine ⟨fun pi sh σa Ha Da Ia hread => ?_⟩
  have okI := Ia.ok
  have frs0 : X.A.frames = some (X.env :: X.outer) := by
    rw [okI.frames, hstk]
  refine wpAny_Try_except ?_
  refine wpAny_mono ((hbd (wMix X.K Wo Da l) (X.pn ++ pi)
    (fun e s₁ => wpAny (model X.prog X.w) X.A (noteFrame e X.env)
      (fun _ s₂ => wpAny (model X.prog X.w) X.A (setFlight e none)
        (fun _ s₃ => wpAny (model X.prog X.w) X.A (handleBy e X.env (h₀ :: hds)) (SP X pi Da) X.xe s₃) X.xe s₂) X.xe s₁)
    (fun u sx xx => ?_) PassesOwn.looking).run [] sh σa Ha Da (Ia.toTry _) hread)
    (fun fl1 s1 hsp => ?_) (fun e s1 he => he)
  · obtain ⟨a, B, sI, pi2, σb, Hb, cls, d, rfl, J', nb, up, sky, na, os, ag, wish⟩ := xx
    have J : Inv X pi σb Hb sI := J'.ofTry okI
    have sky2 : Sky B (X.env :: X.outer) a (Zc cls d) X.env.locals sx.heap := by
      rw [← hstk]
      exact sky
    show wpAny (model X.prog X.w) X.A
      (noteFrame (.ref a) X.env) _ _ _
    refine Sky.land Zc.steady frs0 hfrm sky2
      fun h3 fl3 up3 => ?_
    have J3 : Inv X pi σb Hb { sx with heap := h3 } :=
      J.landed nb fl3.1 (up.trans up3) os ag
    obtain ⟨oe3, vs3, he3, hz3, hd3⟩ := fl3.there
    have apart : ∀ {h : Heap} {o : Obj} {vs : Array Value}, h.FunFrames B (X.env :: X.outer) → h.get? a = some o →
        o.data = .fields vs → a ∉ frs (X.env :: X.outer) := fun {h o vs} ff e dd hm => by
      obtain ⟨_, o2, e2, hnf⟩ := ff.mem hm
      rw [e] at e2
      cases e2
      exact hnf _ dd
    have nfr := apart fl3.2.2.1 he3 hd3
    have nL : a ≠ X.env.locals := fun z =>
      nfr (List.mem_filterMap.mpr ⟨X.env, List.mem_cons_self, by rw [hfrm, z]⟩)
    have nF : a ∉ X.fs := fun hm => by
      obtain ⟨e, he, q⟩ := List.mem_filterMap.mp hm
      exact nfr (List.mem_filterMap.mpr
        ⟨e, List.mem_cons_of_mem _ he, q⟩)
    have S3 := J3.suite he3 hd3 na nL nF
    have LT : PySem.W.Looks (model X.prog X.w) h3 (typeOf (.ref a)) cls :=
      fun A Q E s k q => wpAny_typeOf_ref (k _ _ he3)
        (by rw [hz3.1]; exact q)
    have test : ∀ {x : Str} {c : Value} {np : Pos} {Q : Value → Shared → Prop} {E : Value → Shared → Prop}, Names X x c →
        Q c { sx with heap := h3 } →
        wpAny (model X.prog X.w) (X.A.mark (some (.ref a))) (eval (.Name x np) X.env) Q E { sx with heap := h3 } :=
      fun {x c np Q E} hc q => by
        obtain ⟨hg, hdbg, hm | ⟨hm, hv, hnn⟩⟩ := hc
        · exact ld_glob (X := X.suite a ((a, oe3) :: (X.pn ++ pi)))
            S3 hg hm q hdbg
        · exact ld_blt (X := X.suite a ((a, oe3) :: (X.pn ++ pi)))
            S3 hg hm hv q hnn hdbg
    have go : ∀ {hs2 : List ExceptHandler} {l2 : List Cl}, HdMix X hs2 l2 → wMix X.K Wo Da l2 cls d σb Hb →
        wpAny (model X.prog X.w) X.A (handleBy (.ref a) X.env hs2) (SP X pi Da) X.xe { sx with heap := h3 } := by
      intro hs2 l2 hk
      induction hk with
      | nil =>
        intro wn
        refine wpAny_handleBy_nil ?_
        obtain ⟨k1, k2, k3, oe, vs, T, oT, ts2, he, hz, hd, h1, hr⟩ := id fl3
        unfold PySem.passOn
        refine wpAny_bind
          (wpAny_field he hd h1 ?_)
        rw [if_neg (show ¬ ((Value.ref T == Value.none) = true)
          from by simp)]
        have fin : wpAny (model X.prog X.w) X.A (setFlight (.ref a) X.env.frame)
            (fun _ s4 => wpAny (model X.prog X.w) X.A (throw (.ref a) : Sem Flow) (SP X pi Da) X.xe s4) X.xe
            { sx with heap := h3 } := by
          rw [hfrm]
          refine HandSPX.setFlight_upZ fl3
            fun h4 hh4 up4 => wpAny_throw (tk _ _ ?_)
          exact ⟨a, B, sI, pi, σb, Hb, cls, d, rfl, J, nb, (up.trans up3).trans up4,
            .inr (.inr (by rw [hstk]; exact hh4)), na, os, ag, wn⟩
        first
          | exact wpAny_bind
              (wpAny_pure (wpAny_bind fin))
          | exact wpAny_bind fin
      | @bare x c ts b₀ suite np pos' hds2 l3 hc hsu r ih =>
        intro wn
        obtain ⟨b, hb1, hyes, hno⟩ := wn
        refine wpAny_handleBy_cons
          (codeAny_handlers_test ?_) (by intro q; cases q)
        have LM := PySem.W.exm_one (M := model X.prog X.w)
          (J3.kIn) LT hb1
        refine test hc (LM.here ?_)
        cases b with
        | true =>
          refine codeAny_handlers_suite ?_
          refine HandSPX.lands_againZ fl3
            fun h4 fl4 up4 => ?_
          have J4 : Inv X pi σb Hb { sx with heap := h4 } :=
            J.landed nb fl4.1 ((up.trans up3).trans up4) os ag
          obtain ⟨oe4, vs4, he4, hz4, hd4⟩ := fl4.there
          have S4 := J4.suite he4 hd4 na nL nF
          refine wpAny_mono ((hsu a oe4 cls d (X.pn ++ pi) hz4 ⟨_, hd4⟩).run [] _ _ Hb _ S4
            (hyes rfl a na)) (fun f s6 hsp => ?_) (fun _ _ z => False.elim z)
          cases f with
          | ret u =>
            obtain ⟨v6, σ6, H6, S6, r6, q6⟩ := hsp
            exact ⟨_, _, _, S6.unsuite okI, r6, q6⟩
          | _ =>
            obtain ⟨σ6, H6, S6, q6⟩ := hsp
            exact ⟨_, _, S6.unsuite okI, q6⟩
        | false =>
          show wpAny _ X.A
            (handleBy (.ref a) X.env hds2) _ _ _
          exact ih (hno rfl)
      | @as x n i c ts b₀ suite np pos' hds2 l3 hi hln hc hsu r ih =>
        intro wn
        obtain ⟨b, hb1, hyes, hno⟩ := wn
        refine wpAny_handleBy_cons
          (codeAny_handlers_test ?_) (by intro q; cases q)
        have LM := PySem.W.exm_one (M := model X.prog X.w)
          (J3.kIn) LT hb1
        refine test hc (LM.here ?_)
        cases b with
        | true =>
          refine codeAny_handlers_suite_as ?_
          refine HandSPX.lands_againZ fl3
            fun h4 fl4 up4 => ?_
          have J4 : Inv X pi σb Hb { sx with heap := h4 } :=
            J.landed nb fl4.1 ((up.trans up3).trans up4) os ag
          obtain ⟨oe4, vs4, he4, hz4, hd4⟩ := fl4.there
          have S4 := J4.suite he4 hd4 na nL nF
          refine store_ok (X := X.suite a ((a, oe4) :: (X.pn ++ pi))) (v := .ref a) S4 hND hi (.inl hln) rfl
            (fun s5 S5 => ?_) (.inr hln)
          refine wpAny_mono ((hsu a oe4 cls d (X.pn ++ pi) hz4 ⟨_, hd4⟩).run [] s5 _ Hb _ S5
            (hyes rfl a na)) (fun f s6 hsp => ?_) (fun _ _ z => False.elim z)
          have done : ∀ {σ6 : St} {H6 : Hp} {Q : Shared → Prop}, Inv (X.suite a ((a, oe4) :: (X.pn ++ pi))) [] σ6 H6 s6 →
              (∀ s7, Inv X pi (σ6.set i none) H6 s7 → Q s7) →
              wpAny (model X.prog X.w) X.A (do bindName X.env n .none; unbindBehindTheSuite X.env n pos') (fun _ s7 => Q s7) X.xe s6 :=
            fun {σ6 H6 Q} S6 hq => gone_ok (S6.unsuite okI) hND hi hln hq
          cases f with
          | ret u =>
            obtain ⟨v6, σ6, H6, S6, r6, q6⟩ := hsp
            exact done S6 fun s7 J7 => ⟨_, _, _, J7, r6, q6⟩
          | _ =>
            obtain ⟨σ6, H6, S6, q6⟩ := hsp
            exact done S6 fun s7 J7 => ⟨_, _, J7, q6⟩
        | false =>
          show wpAny _ X.A
            (handleBy (.ref a) X.env hds2) _ _ _
          exact ih (hno rfl)
    exact go hhs wish
  · cases fl1 with
    | next =>
      obtain ⟨σ2, H2, J2, q⟩ := hsp
      exact wpAny_execs_nil
        ⟨σ2, H2, J2.ofTry okI, q⟩
    | ret u =>
      obtain ⟨v, σ2, H2, J2, r, q⟩ := hsp
      exact ⟨v, σ2, H2, J2.ofTry okI, r, q⟩
    | _ =>
      obtain ⟨σ2, H2, J2, q⟩ := hsp
      exact ⟨σ2, H2, J2.ofTry okI, q⟩
end
end L2

/-! ### own errors whose __init__ keeps what it takes, over any base; KeyError's base makes them by LookupError's own maker -/
namespace PySem
namespace ERR
open PySem.W PySem.Calls PyProof.Rows PySem.HandSPX
/-- a store into an error has the object's own rule, for KeyError too -/
theorem store_key : StoreFacts "KeyError"
    [.type "KeyError", .type "LookupError", .type "Exception", .type "BaseException", .type "object"]
    "object.__setattr__" "object" where
  mro := by
    kernel_rfl
  slot := .of (owner := "object") (n := "__setattr__")
    (by
      rw [typeLookup_type, builtinLookup_eq_fast]
      kernel_rfl)
    (by decide +kernel)
    (by decide +kernel)
    (by decide +kernel)
    (by
      first
        | exact .inl (by decide +kernel)
        | exact .inr (by decide +kernel))
    (by
      rw [isSubtype_type]
      kernel_rfl)
  entry := F.entry_object_sa
  kind := by
    decide +kernel
  split := by
    decide +kernel
  hasOwner := by
    decide +kernel
  args := fun a b c => by
    unfold argsOk
    kernel_rfl
  passes := fun self => by
    kernel_rfl
section
variable {M : Model} {A : Around} {E : Value → Shared → Prop}
  {h : Heap} {g : Array GenState} {d : Drawn} {t : Nat} {os : OsState}
variable {nm q : Str} {C N : Addr} {bs bm bmB : List Value} {hdct : Bool} {sn : List Str} {sub : List Value} {ab : Bool}
  {col : Option Bool} {dd : Option Addr} {k0 k1 k2 k3 k5 : Option Value} {B newId initId : String}
/-- what is asked of the classes above: the maker's owner is among them, two others are not -/
structure Above (B : String) (bm : List Value) : Prop where
  b : bm.contains (.type B) = true
  a : bm.contains (.type "AttributeError") = false
  n : bm.contains (.type "NameError") = false
theorem ok_new (F : ExcBaseFacts B newId initId bmB) (hT : Above B bm) {rest : List Value} {Q : Unit → Shared → Prop}
    (hC : h.get? C = some (excClassObj nm q C N bs bm hdct sn sub ab col dd k0 k1 k2 k3 k5 newId))
    (hq : Q () ⟨h, g, d, t, os⟩) :
    wpAny M A (checkBuiltinCall newId ⟨.ref C :: rest, []⟩) Q E ⟨h, g, d, t, os⟩ := by
  have hc : (Value.ref C :: bm).contains (.type B) = true := by
    rw [List.contains_cons, hT.b, Bool.or_true]
  have hs := F.noStar
  simp only [checkBuiltinCall, F.newKind, F.newSplit, F.newRow]
  repeat (first
    | refine wpAny_loadPart_at hC ?_
    | (refine wpAny_isSubtype_exc hC ?_
       rw [hc])
    | refine wpAny_staticBase_exc hC ?_
    | refine wpAny_madeBy_exc hC ?_
    | simp only [bne_self_eq_false, Bool.false_eq_true,
        if_false]
    | wp_step)
  exact hq
end
section
variable {prog : Program} {w : World} {A : Around} {E : Value → Shared → Prop} {R : Result → Shared → Prop}
  {h : Heap} {g : Array GenState} {d : Drawn} {t : Nat} {os : OsState}
variable {nm q : Str} {C N : Addr} {bs bm bmB : List Value} {hdct : Bool} {sn : List Str} {sub : List Value} {ab : Bool}
  {col : Option Bool} {dd : Option Addr} {k0 k1 k2 k3 k5 : Option Value} {B newId initId : String}
theorem do_new (F : ExcBaseFacts B newId initId bmB) (hT : Above B bm) {rest : List Value}
    (hC : h.get? C = some (excClassObj nm q C N bs bm hdct sn sub ab col dd k0 k1 k2 k3 k5 newId))
    (hq : R (.ok (.ret (.ref (h.objs.size + 1)))) ⟨(h.push (kdv_tup rest)).push (excO C h.objs.size), g, d, t, os⟩)
    (hrest : rest.length ≤ sizeLine) :
    codeAny (model prog w) A (.builtin newId ⟨.ref C :: rest, []⟩) R ⟨h, g, d, t, os⟩ := by
  have he := F.ends
  have hB : (Value.ref C :: bm).contains (.type B) = true := by
    rw [List.contains_cons, hT.b, Bool.or_true]
  have hA : (Value.ref C :: bm).contains (.type "AttributeError") = false := by
    rw [List.contains_cons, hT.a]
    rfl
  have hN : (Value.ref C :: bm).contains (.type "NameError") = false := by
    rw [List.contains_cons, hT.n]
    rfl
  refine codeAny_builtinAt F.entry ?_
  unfold Builtin.«BaseException.__new__»
  refine wpAt_bind ?_
  show wpAt _ _ _
    (stack >>= _) _ _ _
  refine wpAt_bind (wpAt_stack
    fun p below => wpAt_of_wpAny ?_)
  wp_walk
  refine wpAt_of_wpAny ?_
  rw [F.owner]
  repeat (first
    | with_reducible refine
        wpAny_madeHere_exc F.canon hC ?_
    | with_reducible refine
        wpAny_loadPart_at hC ?_
    | (with_reducible refine
         wpAny_isSubtype_exc hC ?_
       first | rw [hB] | rw [hA] | rw [hN])
    | wp_step)
  show R _ _
  rw [Heap.size_push]
  exact hq
theorem do_call (F : ExcBaseFacts B newId initId bmB) (hT : Above B bm) {rest : List Value} {fI : Addr} {Q : Fin → Shared → Prop}
    (hC : h.get? C = some (excClassObj nm q C N bs bm hdct sn sub ab col dd k0 k1 k2 k3 k5 newId))
    (hi : Looks (model prog w) h (typeLookup (.ref C) "__init__") (some (.ref fI)))
    (hb : ∀ self, Looks (model prog w) h (bindSpecial (.ref fI) self) (.ref fI, [self]))
    (hrest : rest.length ≤ sizeLine)
    (hq : codeAny (model prog w) A (.call (.ref fI) ⟨.ref (h.objs.size + 1) :: rest, []⟩)
      (fun r s' => match r with
        | .ok (.ret v) => v = .none ∧ Q (.done (.ret (.ref (h.objs.size + 1)))) s'
        | .ok _ => False
        | .error e => E e s')
      ⟨(h.push (kdv_tup rest)).push (excO C h.objs.size), g, d, t, os⟩) :
    wpAny (model prog w) A (Builtin.«type.__call__» ⟨.ref C :: rest, []⟩) Q E ⟨h, g, d, t, os⟩ := by
  repeat (first
    | with_reducible refine
        wpAny_loadPart_at hC ?_
    | with_reducible refine
        wpAny_madeBy_exc hC ?_
    | wp_step)
  refine codeAny_call_builtin_code (Code.quiet_builtin _ F.quiet) (ok_new F hT hC ?_)
  refine do_new F hT hC ?_ hrest
  show wpAny _ _ _ _ _ _
  have k : ∀ b o, h.get? b = some o → ((h.push (kdv_tup rest)).push (excO C h.objs.size)).get? b = some o :=
    fun b o e => Heap.get?_push_of_some _ (Heap.get?_push_of_some _ e)
  have hC1 := k _ _ hC
  have hg : ((h.push (kdv_tup rest)).push (excO C h.objs.size)).get? (h.objs.size + 1) = some (excO C h.objs.size) := by
    heap_get
  have hcC : (Value.ref C :: bm).contains (.ref C) = true := by
    simp
  have i1 := hi.keeps k
  have b1 := (hb (.ref (h.objs.size + 1))).keeps k
  unfold isInstance
  repeat (first
    | with_reducible refine
        wpAny_loadPart_at hg ?_
    | (with_reducible refine
         wpAny_isSubtype_exc hC1 ?_
       rw [hcC])
    | wp_step)
  show wpAny _ _
    (typeLookup (.ref C) _) _ _ _
  refine i1.at ?_
  refine wpAny_holding
    (wpAny_bind (b1.at ?_))
  refine wpAny_bind (wpAny_call (codeAny_mono hq
    fun r s' z => ?_))
  rcases r with e | (v | _ | _ | _)
  all_goals first
    | exact z
    | exact z.elim
    | skip
  obtain ⟨rfl, z⟩ := z
  first
    | exact wpAny_pure
        (wpAny_pure z)
    | (wp_walk
       exact z)
theorem do_make (F : ExcBaseFacts B newId initId bmB) (hT : Above B bm) {rest : List Value} {fI : Addr}
    (hC : h.get? C = some (excClassObj nm q C N bs bm hdct sn sub ab col dd k0 k1 k2 k3 k5 newId))
    (hi : Looks (model prog w) h (typeLookup (.ref C) "__init__") (some (.ref fI)))
    (hb : ∀ self, Looks (model prog w) h (bindSpecial (.ref fI) self) (.ref fI, [self]))
    (hrest : rest.length ≤ sizeLine)
    (hq : codeAny (model prog w) (A.under (.builtin "type.__call__" ⟨.ref C :: rest, []⟩))
      (.call (.ref fI) ⟨.ref (h.objs.size + 1) :: rest, []⟩) (InitBack (h.objs.size + 1) R)
      ⟨(h.push (kdv_tup rest)).push (excO C h.objs.size), g, d, t, os⟩) :
    codeAny (model prog w) A (.call (.ref C) ⟨rest, []⟩) R ⟨h, g, d, t, os⟩ := by
  have f1 := tc_lookup
  have f2 := tc_bind (.ref C)
  have hTy : (⟨h, g, d, t, os⟩ : Shared).TypeIs (.ref C) "type" := ⟨_, hC, rfl⟩
  refine codeAny_of_tree ?_
  show wpAny _ _
    (callAny (.ref C) _) _ _ _
  repeat (any_goals (first
    | assumption
    | with_reducible refine
        wpAny_loadPart_at hC ?_
    | wp_step))
  refine ⟨rfl, ?_⟩
  refine codeAny_call_builtin_at
    (Code.quiet_builtin _ (by decide +kernel))
    entry_typeCall
    (wpAny_check_type_call_sub hC
      (do_call F hT hC hi hb hrest ?_))
  refine codeAny_mono hq
    fun r s' z => ?_
  rcases r with e | (v | _ | _ | _)
  all_goals exact z
end
section
open Builtin Builtin.ObjectAttr
variable {prog : Program} {w : World} {A : Around} {R : Result → Shared → Prop}
  {hp : Heap} {g : Array GenState} {d : Drawn} {t : Nat} {os : OsState}
/-- self.f = v on an error that has no dict as yet -/
theorem keep_new {K : Frag} {B : String} {bmB : List Value} {name : Str} {tk : Tok} {v : Value} {x C : Addr} {fv : Array Value}
    (SF : StoreFacts B bmB "object.__setattr__" "object") (X : K.In hp)
    (hx : hp.get? x = some { cls := .ref C, data := .fields fv }) (ov : excOver K C bmB = true) (hd : hasDictIn K C = true)
    (ha : findIn K (.ref C) name = some none)
    (hq : ∀ h' tk' dx, (∀ b o, b ≠ x → hp.get? b = some o → h'.get? b = some o) → hp.objs.size ≤ dx → dx ≠ x →
      h'.get? x = some { cls := .ref C, dict := some dx, data := .fields fv } →
      h'.Ns1 dx (fun y => if y = name then some v else none) → R (.ok (.ret .none)) ⟨h', g, d, tk', os⟩) :
    codeAny (model prog w) A (.call (.builtin "object.__setattr__") ⟨[.ref x, .str name tk, v], []⟩) R ⟨hp, g, d, t, os⟩ := by
  have hxs : x ≠ hp.objs.size := Nat.ne_of_lt (Heap.lt_size hx)
  refine osa_openX (s := ⟨hp, g, d, t, os⟩) (r := none) SF X (od := none) ⟨hx, rfl, rfl, trivial⟩ ov
    (by
      unfold takerIn
      rw [ha]
      rfl) fun b => ?_
  show wpAny _ _
    (storeInOwnDict (.ref x) (.ref C) (.str name tk) name v b) _ _ _
  obtain ⟨cd, hcd, hh⟩ := any_some hd
  have hcls : Looks (model prog w) hp (classData C) cd := looks_clsIn X hcd
  obtain ⟨nm, bs, mro, ns, qn, hd', sn, sb, ab, col, del⟩ := cd
  dsimp only at hh
  subst hh
  unfold storeInOwnDict ownDictForStores
  repeat (first
    | (with_reducible refine PySem.HandSPX.store_in_new ?_ ?_)
    | with_reducible refine
        wpAny_loadPart_at hx ?_
    | with_reducible refine hcls.at ?_
    | wp_step)
  · exact ⟨_, #[], _, (Heap.get?_update_ne _ _ _ _ hxs.symm).trans (Heap.get?_push_at rfl rfl), rfl,
      fun e he => absurd he (by simp), fun _ => rfl⟩
  · intro h' tk' hn' hs
    have h1 : (hp.push { cls := .type "dict", data := .dict #[] }).get? x = some { cls := .ref C, data := .fields fv } :=
      Heap.get?_push_of_some _ hx
    refine hq h' tk' hp.objs.size (fun b o hb ho => ?_) (Nat.le_refl _) hxs.symm ?_ hn'
    · exact (hs.2 b (Nat.ne_of_lt (Heap.lt_size ho))).trans
        ((Heap.get?_update_ne _ _ _ _ hb).trans (Heap.get?_push_of_some _ ho))
    · exact (hs.2 x hxs).trans
        (Heap.get?_update_self _ h1 rfl)
end
end ERR
end PySem


namespace PySem
namespace ERR.ParseError
open PySem.W PySem.Calls PyProof.Rows PySem.HandSPX
/-! the error ParseError, which keeps index -/
def eA (p1 p2 : Pos) : Arguments :=
  { posonlyargs := [],
    args := [{ arg := "self", annotation := none, pos := p1 }, { arg := "index", annotation := none, pos := p2 }],
    vararg := none, kwonlyargs := [], kw_defaults := [],
    kwarg := none, defaults := [] }
def eB (q1 q2 q3 q4 : Pos) : List Stmt :=
  [.Assign [.Attribute (.Name "self" q1) "index" q2] (.Name "index" q3) q4]
def eS : Scope :=
  { kind := .function,
    names := [(PySem.Str.ofString "self", .local), (PySem.Str.ofString "index", .local)],
    isGenerator := false, isCoroutine := false, more := [] }
abbrev bmC : List Value := [.type "ValueError", .type "Exception", .type "BaseException", .type "object"]
structure Txt (K : Frag) (mg : Str → Option Value) (C fI : Addr) : Prop where
  gC : mg "ParseError" = some (.ref C)
  ini : excInitIn K C bmC "ValueError.__new__" = true
  over : excOver K C bmC = true
  sa : findIn K (.ref C) "__setattr__" = some (some (.builtin "object.__setattr__"))
  ga : findIn K (.ref C) "__getattribute__" = some (some (.builtin "BaseException.__getattribute__"))
  gg : findIn K (.ref C) "__getattr__" = some none
  noN : findIn K (.ref C) "index" = some none
  iC : findIn K (.ref C) "__init__" = some (some (.ref fI))
  tC : typeIn K (.ref fI) = some (.type "function")
  kC : keepIn K (.ref C) = true
  exC : subIn K (.ref C) (.type "BaseException") = some true
  tyC : typeIn K (.ref C) = some (.type "type")
  hdC : hasDictIn K C = true
  te : exmOne K (.ref C) (.ref C) = some true
  fn : ∃ (oc : Value) (od : Option Addr) (doc pm : Value) (an : Option Addr) (cdv ct : Value) (osl : Array (Option Value)) (p1 p2 q1 q2 q3 q4 : Pos),
    K.lookup fI = some ⟨oc, od, .func (fnOf "__init__" "ParseError.__init__" (eA p1 p2) (eB q1 q2 q3 q4) eS .none .none doc pm an cdv ct), osl⟩ ∧
    codeIn K cdv "ParseError.__init__" = true
theorem above {bm : List Value} (h : ∀ Y : String, bm.contains (.type Y) = bmC.contains (.type Y)) : Above "ValueError" bm :=
  ⟨(h _).trans (by decide +kernel), (h _).trans (by decide +kernel), (h _).trans (by decide +kernel)⟩
structure Inited (h h' : Heap) (x C dx t1 : Addr) (v : Value) : Prop where
  keep : ∀ b o, b ≠ x → h.get? b = some o → h'.get? b = some o
  obj : h'.get? x = some { cls := .ref C, dict := some dx, data := .fields #[.ref t1, .none, .none, .none, .bool false, .none] }
  dbig : h.objs.size ≤ dx
  dne : dx ≠ x
  ns : h'.Ns1 dx (fun y => if y = "index" then some v else none)
structure Made (h h' : Heap) (e C d : Addr) (v : Value) : Prop where
  keep : ∀ b o, h.get? b = some o → h'.get? b = some o
  new : h.objs.size ≤ e
  obj : ∃ oe vs, h'.get? e = some oe ∧ oe.cls = .ref C ∧ oe.dict = some d ∧ oe.data = .fields vs ∧ vs[1]? = some .none
  dbig : h.objs.size ≤ d
  dne : d ≠ e
  ns : h'.Ns1 d (fun y => if y = "index" then some v else none)
theorem local_at {M : Model} {s : Shared} {name : Str} {scope : Scope} {L a : Addr} {cd : Value} {m : Str → Option Value} {x : Str} {pos : Pos} {v : Value}
    {Q : Value → Shared → Prop} {A : Around} {E : Value → Shared → Prop} (hn : s.heap.Ns L m) (hv : m x = some v) (h : Q v s)
    (hk : scope.kind = .function := by rfl)
    (hl : (envOfC name scope L a cd).kindOf x = some .local := by rfl)
    (hd : (x == ("__debug__" : Str)) = false := by decide) :
    wpAny M A (eval (.Name x pos) (envOfC name scope L a cd)) Q E s :=
  wpAny_Name (wpAny_loadName_local hk hl hn hv h) hd
section
variable {prog : Program} {w : World} {A : Around} {E : Value → Shared → Prop} {R : Result → Shared → Prop} {s : Shared}
  {K : Frag} {mg : Str → Option Value} {C fI : Addr}
theorem inits (T : Txt K mg C fI) {x t0 : Addr} {v : Value} (X : K.In s.heap) (hlim : s.heap.NoLimit)
    (hx : s.heap.get? x = some (excO C t0)) (hnx : K.lookup x = none) (hroom : A.depth < recursionLimit)
    (hq : ∀ h' tk dx, Inited s.heap h' x C dx t0 v → R (.ok (.ret .none)) { s with heap := h', toks := tk }) :
    codeAny (model prog w) A (.call (.ref fI) ⟨[.ref x, v], []⟩) R s := by
  obtain ⟨oc, od, doc, pm, an, cdv, ct, osl, p1, p2, q1, q2, q3, q4, ho, hcd⟩ := T.fn
  refine Att.call_fn (binds := [("self", .ref x), ("index", v)]) X hlim ho hcd hroom
    (BindsTo.of_eq (by first | rfl | with_unfolding_all rfl))
    (by first | rfl | decide | with_unfolding_all rfl)
    (fun s₁ IC => ?_) rfl rfl rfl
  obtain ⟨h₁, tk₁, rfl⟩ := IC.toInCall.same
  have k : ∀ b o, s.heap.get? b = some o → h₁.get? b = some o :=
    IC.toInCall.keep
  have hn := IC.toInCall.ns
  have X₁ : K.In h₁ := X.keeps k
  have hx₁ := k _ _ hx
  show wpAny _ _
    (execs _ _) _ _ _
  refine wpAny_execs_cons
    (plainObj_wpAny_Assign_Attribute ?_)
  refine local_at (v := v) hn
    (by first | rfl | with_unfolding_all rfl | kernel_rfl)
    (local_at (v := .ref x) hn
      (by first | rfl | with_unfolding_all rfl | kernel_rfl) ?_)
  refine set_plain X₁ (ox := excO C t0) (od := none)
    ⟨hx₁, rfl, rfl, trivial⟩ T.sa ?_
  refine keep_new PySem.F.store_ValueError X₁ hx₁ T.over T.hdC T.noN
    (fun h₃ tk₃ dx k₃ dn dne hx₃ hn₃ => ?_)
  show wpAny _ _
    (execs _ _) _ _ _
  have z : s.heap.objs.size < h₁.objs.size := hn.lt
  exact wpAny_execs_nil (hq h₃ tk₃ dx
    ⟨fun b o hb e => k₃ b o hb (k b o e), hx₃, Nat.le_of_lt (Nat.lt_of_lt_of_le z dn), dne, hn₃⟩)
theorem makes (T : Txt K mg C fI) {v : Value} (X : K.In s.heap) (hlim : s.heap.NoLimit) (hroom : A.depth + 1 < recursionLimit)
    (hq : ∀ h' tk e d, Made s.heap h' e C d v → R (.ok (.ret (.ref e))) { s with heap := h', toks := tk }) :
    codeAny (model prog w) A (.call (.ref C) ⟨[v], []⟩) R s := by
  obtain ⟨nm, N, qn, bs, bm, hdct, sn, sub, ab, col, dd, k0, k1, k2, k3, k5, hC, hbm⟩ := excInit_of X T.ini
  obtain ⟨hp, g, dr, tk, os⟩ := s
  have k : ∀ b o, hp.get? b = some o → ((hp.push (kdv_tup [v])).push (excO C hp.objs.size)).get? b = some o :=
    fun b o e => Heap.get?_push_of_some _ (Heap.get?_push_of_some _ e)
  have hget : ((hp.push (kdv_tup [v])).push (excO C hp.objs.size)).get? (hp.objs.size + 1) = some (excO C hp.objs.size) := by
    heap_get
  have hnx : K.lookup (hp.objs.size + 1) = none := by
    cases e : K.lookup (hp.objs.size + 1) with
    | none => rfl
    | some o =>
      have z : hp.get? (hp.objs.size + 1) = some o := X _ _ e
      exact absurd (Nat.lt_of_succ_lt (Heap.lt_size z)) (Nat.lt_irrefl _)
  have hz : [v].length ≤ sizeLine := by
    show 1 ≤ sizeLine
    decide
  refine do_make PySem.F.excBase_ValueError (above hbm) hC (looks_findIn X T.iC)
    (fun self => bind_fn X self T.tC) hz ?_
  refine inits (s := ⟨(hp.push (kdv_tup [v])).push (excO C hp.objs.size), g, dr, tk, os⟩) T (X.keeps k) (hlim.keeps k) hget hnx ?_
    fun h' tk' dx ⟨k', hx, dn, dne, hns⟩ => ?_
  · show A.depth + 1 < recursionLimit
    exact hroom
  · have old : ∀ b o, hp.get? b = some o → h'.get? b = some o :=
      fun b o e => k' b o (Nat.ne_of_lt (Nat.lt_succ_of_lt (Heap.lt_size e))) (k b o e)
    have z : hp.objs.size + 1 + 1 ≤ dx := by
      first
        | (simpa only [Heap.size_push] using dn)
        | exact dn
        | (have q := dn
           rw [Heap.size_push, Heap.size_push] at q
           exact q)
    exact ⟨rfl, hq h' tk' (hp.objs.size + 1) dx
      ⟨old, Nat.le_succ _, ⟨_, _, hx, rfl, rfl, rfl, rfl⟩,
        Nat.le_trans (Nat.le_trans (Nat.le_succ _) (Nat.le_succ _)) z, dne, hns⟩⟩
end
end ERR.ParseError
end PySem
namespace L2
open PySem PySem.Spec PyProof.Rows
namespace EParseError
theorem rel1 {v : V} {v' : Value} (r : RelV v v') (n : Str) :
    RelO (List.lookup n [(("index" : Str), v)]) (if n = "index" then some v' else none) := by
  by_cases hw : n = "index"
  · subst hw
    rw [if_pos rfl]
    have q : List.lookup ("index" : Str) [(("index" : Str), v)] = some v := by
      simp [List.lookup]
    rw [q]
    exact r
  · rw [if_neg hw]
    have qw : (n == ("index" : Str)) = false := by
      simpa using hw
    have q2 : List.lookup n [(("index" : Str), v)] = none := by
      simp [List.lookup, qw]
    rw [q2]
    trivial
theorem look1 (v : V) : List.lookup ("index" : Str) [(("index" : Str), v)] = some v := by
  simp [List.lookup]
section
variable {X : Cx} {C fI : Addr}
/-- the reading of a call of the error: its dict, new, holds what it takes -/
def tMk (C : Addr) (ta : TA) : St → Hp → XK → Prop := fun σ H Q =>
  ta σ H fun vs H1 => ∃ v, vs = [v] ∧
    ∀ d, H1 d = none → Q (.ref C) (some d) (upd H1 d (.xd [(("index" : Str), v)]))
theorem pmk {a : Expr} {ta : TA} {p pos : Pos} {k : Nat} (T : PySem.ERR.ParseError.Txt X.K X.mg C fI) (hr : Room k X.A) (ha : PA X [a] ta)
    (hg : Gl X "ParseError" := by rfl)
    (he : starEach (a :: []) X.env = (false, eval a X.env) :: starEach [] X.env := by rfl)
    (hpl : (backTo pos (starEach [] X.env)).any (·.1) = false := by rfl) :
    PMk X (.Call (.Name "ParseError" p) [a] [] pos) (tMk C ta) := by
  intro pins s σ H Q I h
  refine wpAny_Call_Name_kw
    (ld_glob I hg T.gC ?_)
  refine PySem.W.callWith_K (h₀ := X.base) I.ok.mod.kin T.kC
    (thn (ha.run pos pins s σ H _ I h) fun us s1 hh => ?_) he hpl
  obtain ⟨vs, H1, I1, r1, v, ev, q1⟩ := hh
  subst ev
  refine ⟨I1.kIn, ?_⟩
  cases r1 with
  | cons rv rn =>
    rename_i v' us'
    cases rn
    show wpAny _ _
      (call (.ref C) [v']) _ _ _
    have hlim := I1.nolimit
    obtain ⟨hp, g, dr, tk, os⟩ := s1
    refine wpAny_call (PySem.ERR.ParseError.makes T I1.kIn hlim
      (by have := hr.dp; omega) fun h' tk' e d M => ?_)
    show MkP X pins σ Q (.ref e) ⟨h', g, dr, tk', os⟩
    obtain ⟨oe, fv, hoe, hc, hd, hdat, h1⟩ := M.obj
    have hns := M.ns
    obtain ⟨G', g1, g2⟩ := restrict h'
      fun b => decide (b ≠ e)
    have gk : ∀ b, b ≠ e → G'.get? b = h'.get? b :=
      fun b hb => g1 b (decide_eq_true hb)
    have ge : G'.get? e = none := g2 e (by simp)
    have old : ∀ b o, hp.get? b = some o → G'.get? b = some o := fun b o q =>
      (gk b (Nat.ne_of_lt (Nat.lt_of_lt_of_le (Heap.lt_size q) M.new))).trans (M.keep b o q)
    have ob : ObjOk X.prog X.w (upd H1 d (.xd [(("index" : Str), v)])) G' d (.xd [(("index" : Str), v)]) :=
      ⟨_, hns.at (fun o q => (gk d M.dne).trans q), fun n => rel1 rv n⟩
    have J : Inv X pins σ (upd H1 d (.xd [(("index" : Str), v)])) ⟨G', g, dr, tk', os⟩ :=
      I1.laid (t' := tk') old M.dbig ob
    refine ⟨e, oe, fv, ⟨G', g, dr, tk', os⟩, _, .ref C, some d, rfl, J, fun b o q => ?_, ge, hoe, ⟨hc, hd⟩, hdat, h1, ?_, rfl, I1.bare,
      raises_own T.exC T.tyC, q1 d (I1.hok.fresh M.dbig)⟩
    · by_cases hb : b = e
      · have q' : G'.get? b = some o := q
        rw [hb, ge] at q'
        cases q'
      · exact (gk b hb).symm.trans q
    · rw [upd_ne (Ne.symm M.dne)]
      exact I1.hok.fresh M.new
def xf (T : PySem.ERR.ParseError.Txt X.K X.mg C fI) : XfC X.K C := ⟨T.ga, T.gg, T.exC, T.hdC⟩
end
end EParseError
end L2


namespace PySem
namespace ERR.InvalidCount
open PySem.W PySem.Calls PyProof.Rows PySem.HandSPX
/-! the error InvalidCount, which keeps value -/
def eA (p1 p2 : Pos) : Arguments :=
  { posonlyargs := [],
    args := [{ arg := "self", annotation := none, pos := p1 }, { arg := "value", annotation := none, pos := p2 }],
    vararg := none, kwonlyargs := [], kw_defaults := [],
    kwarg := none, defaults := [] }
def eB (q1 q2 q3 q4 : Pos) : List Stmt :=
  [.Assign [.Attribute (.Name "self" q1) "value" q2] (.Name "value" q3) q4]
def eS : Scope :=
  { kind := .function,
    names := [(PySem.Str.ofString "self", .local), (PySem.Str.ofString "value", .local)],
    isGenerator := false, isCoroutine := false, more := [] }
abbrev bmC : List Value := [.type "IndexError", .type "LookupError", .type "Exception", .type "BaseException", .type "object"]
structure Txt (K : Frag) (mg : Str → Option Value) (C fI : Addr) : Prop where
  gC : mg "InvalidCount" = some (.ref C)
  ini : excInitIn K C bmC "IndexError.__new__" = true
  over : excOver K C bmC = true
  sa : findIn K (.ref C) "__setattr__" = some (some (.builtin "object.__setattr__"))
  ga : findIn K (.ref C) "__getattribute__" = some (some (.builtin "BaseException.__getattribute__"))
  gg : findIn K (.ref C) "__getattr__" = some none
  noN : findIn K (.ref C) "value" = some none
  iC : findIn K (.ref C) "__init__" = some (some (.ref fI))
  tC : typeIn K (.ref fI) = some (.type "function")
  kC : keepIn K (.ref C) = true
  exC : subIn K (.ref C) (.type "BaseException") = some true
  tyC : typeIn K (.ref C) = some (.type "type")
  hdC : hasDictIn K C = true
  te : exmOne K (.ref C) (.ref C) = some true
  fn : ∃ (oc : Value) (od : Option Addr) (doc pm : Value) (an : Option Addr) (cdv ct : Value) (osl : Array (Option Value)) (p1 p2 q1 q2 q3 q4 : Pos),
    K.lookup fI = some ⟨oc, od, .func (fnOf "__init__" "InvalidCount.__init__" (eA p1 p2) (eB q1 q2 q3 q4) eS .none .none doc pm an cdv ct), osl⟩ ∧
    codeIn K cdv "InvalidCount.__init__" = true
theorem above {bm : List Value} (h : ∀ Y : String, bm.contains (.type Y) = bmC.contains (.type Y)) : Above "IndexError" bm :=
  ⟨(h _).trans (by decide +kernel), (h _).trans (by decide +kernel), (h _).trans (by decide +kernel)⟩
structure Inited (h h' : Heap) (x C dx t1 : Addr) (v : Value) : Prop where
  keep : ∀ b o, b ≠ x → h.get? b = some o → h'.get? b = some o
  obj : h'.get? x = some { cls := .ref C, dict := some dx, data := .fields #[.ref t1, .none, .none, .none, .bool false, .none] }
  dbig : h.objs.size ≤ dx
  dne : dx ≠ x
  ns : h'.Ns1 dx (fun y => if y = "value" then some v else none)
structure Made (h h' : Heap) (e C d : Addr) (v : Value) : Prop where
  keep : ∀ b o, h.get? b = some o → h'.get? b = some o
  new : h.objs.size ≤ e
  obj : ∃ oe vs, h'.get? e = some oe ∧ oe.cls = .ref C ∧ oe.dict = some d ∧ oe.data = .fields vs ∧ vs[1]? = some .none
  dbig : h.objs.size ≤ d
  dne : d ≠ e
  ns : h'.Ns1 d (fun y => if y = "value" then some v else none)
theorem local_at {M : Model} {s : Shared} {name : Str} {scope : Scope} {L a : Addr} {cd : Value} {m : Str → Option Value} {x : Str} {pos : Pos} {v : Value}
    {Q : Value → Shared → Prop} {A : Around} {E : Value → Shared → Prop} (hn : s.heap.Ns L m) (hv : m x = some v) (h : Q v s)
    (hk : scope.kind = .function := by rfl)
    (hl : (envOfC name scope L a cd).kindOf x = some .local := by rfl)
    (hd : (x == ("__debug__" : Str)) = false := by decide) :
    wpAny M A (eval (.Name x pos) (envOfC name scope L a cd)) Q E s :=
  wpAny_Name (wpAny_loadName_local hk hl hn hv h) hd
section
variable {prog : Program} {w : World} {A : Around} {E : Value → Shared → Prop} {R : Result → Shared → Prop} {s : Shared}
  {K : Frag} {mg : Str → Option Value} {C fI : Addr}
theorem inits (T : Txt K mg C fI) {x t0 : Addr} {v : Value} (X : K.In s.heap) (hlim : s.heap.NoLimit)
    (hx : s.heap.get? x = some (excO C t0)) (hnx : K.lookup x = none) (hroom : A.depth < recursionLimit)
    (hq : ∀ h' tk dx, Inited s.heap h' x C dx t0 v → R (.ok (.ret .none)) { s with heap := h', toks := tk }) :
    codeAny (model prog w) A (.call (.ref fI) ⟨[.ref x, v], []⟩) R s := by
  obtain ⟨oc, od, doc, pm, an, cdv, ct, osl, p1, p2, q1, q2, q3, q4, ho, hcd⟩ := T.fn
  refine Att.call_fn (binds := [("self", .ref x), ("value", v)]) X hlim ho hcd hroom
    (BindsTo.of_eq (by first | rfl | with_unfolding_all rfl))
    (by first | rfl | decide | with_unfolding_all rfl)
    (fun s₁ IC => ?_) rfl rfl rfl
  obtain ⟨h₁, tk₁, rfl⟩ := IC.toInCall.same
  have k : ∀ b o, s.heap.get? b = some o → h₁.get? b = some o :=
    IC.toInCall.keep
  have hn := IC.toInCall.ns
  have X₁ : K.In h₁ := X.keeps k
  have hx₁ := k _ _ hx
  show wpAny _ _
    (execs _ _) _ _ _
  refine wpAny_execs_cons
    (plainObj_wpAny_Assign_Attribute ?_)
  refine local_at (v := v) hn
    (by first | rfl | with_unfolding_all rfl | kernel_rfl)
    (local_at (v := .ref x) hn
      (by first | rfl | with_unfolding_all rfl | kernel_rfl) ?_)
  refine set_plain X₁ (ox := excO C t0) (od := none)
    ⟨hx₁, rfl, rfl, trivial⟩ T.sa ?_
  refine keep_new PySem.F.store_IndexError X₁ hx₁ T.over T.hdC T.noN
    (fun h₃ tk₃ dx k₃ dn dne hx₃ hn₃ => ?_)
  show wpAny _ _
    (execs _ _) _ _ _
  have z : s.heap.objs.size < h₁.objs.size := hn.lt
  exact wpAny_execs_nil (hq h₃ tk₃ dx
    ⟨fun b o hb e => k₃ b o hb (k b o e), hx₃, Nat.le_of_lt (Nat.lt_of_lt_of_le z dn), dne, hn₃⟩)
theorem makes (T : Txt K mg C fI) {v : Value} (X : K.In s.heap) (hlim : s.heap.NoLimit) (hroom : A.depth + 1 < recursionLimit)
    (hq : ∀ h' tk e d, Made s.heap h' e C d v → R (.ok (.ret (.ref e))) { s with heap := h', toks := tk }) :
    codeAny (model prog w) A (.call (.ref C) ⟨[v], []⟩) R s := by
  obtain ⟨nm, N, qn, bs, bm, hdct, sn, sub, ab, col, dd, k0, k1, k2, k3, k5, hC, hbm⟩ := excInit_of X T.ini
  obtain ⟨hp, g, dr, tk, os⟩ := s
  have k : ∀ b o, hp.get? b = some o → ((hp.push (kdv_tup [v])).push (excO C hp.objs.size)).get? b = some o :=
    fun b o e => Heap.get?_push_of_some _ (Heap.get?_push_of_some _ e)
  have hget : ((hp.push (kdv_tup [v])).push (excO C hp.objs.size)).get? (hp.objs.size + 1) = some (excO C hp.objs.size) := by
    heap_get
  have hnx : K.lookup (hp.objs.size + 1) = none := by
    cases e : K.lookup (hp.objs.size + 1) with
    | none => rfl
    | some o =>
      have z : hp.get? (hp.objs.size + 1) = some o := X _ _ e
      exact absurd (Nat.lt_of_succ_lt (Heap.lt_size z)) (Nat.lt_irrefl _)
  have hz : [v].length ≤ sizeLine := by
    show 1 ≤ sizeLine
    decide
  refine do_make PySem.F.excBase_IndexError (above hbm) hC (looks_findIn X T.iC)
    (fun self => bind_fn X self T.tC) hz ?_
  refine inits (s := ⟨(hp.push (kdv_tup [v])).push (excO C hp.objs.size), g, dr, tk, os⟩) T (X.keeps k) (hlim.keeps k) hget hnx ?_
    fun h' tk' dx ⟨k', hx, dn, dne, hns⟩ => ?_
  · show A.depth + 1 < recursionLimit
    exact hroom
  · have old : ∀ b o, hp.get? b = some o → h'.get? b = some o :=
      fun b o e => k' b o (Nat.ne_of_lt (Nat.lt_succ_of_lt (Heap.lt_size e))) (k b o e)
    have z : hp.objs.size + 1 + 1 ≤ dx := by
      first
        | (simpa only [Heap.size_push] using dn)
        | exact dn
        | (have q := dn
           rw [Heap.size_push, Heap.size_push] at q
           exact q)
    exact ⟨rfl, hq h' tk' (hp.objs.size + 1) dx
      ⟨old, Nat.le_succ _, ⟨_, _, hx, rfl, rfl, rfl, rfl⟩,
        Nat.le_trans (Nat.le_trans (Nat.le_succ _) (Nat.le_succ _)) z, dne, hns⟩⟩
end
end ERR.InvalidCount
end PySem
namespace L2
open PySem PySem.Spec PyProof.Rows
namespace EInvalidCount
theorem rel1 {v : V} {v' : Value} (r : RelV v v') (n : Str) :
    RelO (List.lookup n [(("value" : Str), v)]) (if n = "value" then some v' else none) := by
  by_cases hw : n = "value"
  · subst hw
    rw [if_pos rfl]
    have q : List.lookup ("value" : Str) [(("value" : Str), v)] = some v := by
      simp [List.lookup]
    rw [q]
    exact r
  · rw [if_neg hw]
    have qw : (n == ("value" : Str)) = false := by
      simpa using hw
    have q2 : List.lookup n [(("value" : Str), v)] = none := by
      simp [List.lookup, qw]
    rw [q2]
    trivial
theorem look1 (v : V) : List.lookup ("value" : Str) [(("value" : Str), v)] = some v := by
  simp [List.lookup]
section
variable {X : Cx} {C fI : Addr}
/-- the reading of a call of the error: its dict, new, holds what it takes -/
def tMk (C : Addr) (ta : TA) : St → Hp → XK → Prop := fun σ H Q =>
  ta σ H fun vs H1 => ∃ v, vs = [v] ∧
    ∀ d, H1 d = none → Q (.ref C) (some d) (upd H1 d (.xd [(("value" : Str), v)]))
theorem pmk {a : Expr} {ta : TA} {p pos : Pos} {k : Nat} (T : PySem.ERR.InvalidCount.Txt X.K X.mg C fI) (hr : Room k X.A) (ha : PA X [a] ta)
    (hg : Gl X "InvalidCount" := by rfl)
    (he : starEach (a :: []) X.env = (false, eval a X.env) :: starEach [] X.env := by rfl)
    (hpl : (backTo pos (starEach [] X.env)).any (·.1) = false := by rfl) :
    PMk X (.Call (.Name "InvalidCount" p) [a] [] pos) (tMk C ta) := by
  intro pins s σ H Q I h
  refine wpAny_Call_Name_kw
    (ld_glob I hg T.gC ?_)
  refine PySem.W.callWith_K (h₀ := X.base) I.ok.mod.kin T.kC
    (thn (ha.run pos pins s σ H _ I h) fun us s1 hh => ?_) he hpl
  obtain ⟨vs, H1, I1, r1, v, ev, q1⟩ := hh
  subst ev
  refine ⟨I1.kIn, ?_⟩
  cases r1 with
  | cons rv rn =>
    rename_i v' us'
    cases rn
    show wpAny _ _
      (call (.ref C) [v']) _ _ _
    have hlim := I1.nolimit
    obtain ⟨hp, g, dr, tk, os⟩ := s1
    refine wpAny_call (PySem.ERR.InvalidCount.makes T I1.kIn hlim
      (by have := hr.dp; omega) fun h' tk' e d M => ?_)
    show MkP X pins σ Q (.ref e) ⟨h', g, dr, tk', os⟩
    obtain ⟨oe, fv, hoe, hc, hd, hdat, h1⟩ := M.obj
    have hns := M.ns
    obtain ⟨G', g1, g2⟩ := restrict h'
      fun b => decide (b ≠ e)
    have gk : ∀ b, b ≠ e → G'.get? b = h'.get? b :=
      fun b hb => g1 b (decide_eq_true hb)
    have ge : G'.get? e = none := g2 e (by simp)
    have old : ∀ b o, hp.get? b = some o → G'.get? b = some o := fun b o q =>
      (gk b (Nat.ne_of_lt (Nat.lt_of_lt_of_le (Heap.lt_size q) M.new))).trans (M.keep b o q)
    have ob : ObjOk X.prog X.w (upd H1 d (.xd [(("value" : Str), v)])) G' d (.xd [(("value" : Str), v)]) :=
      ⟨_, hns.at (fun o q => (gk d M.dne).trans q), fun n => rel1 rv n⟩
    have J : Inv X pins σ (upd H1 d (.xd [(("value" : Str), v)])) ⟨G', g, dr, tk', os⟩ :=
      I1.laid (t' := tk') old M.dbig ob
    refine ⟨e, oe, fv, ⟨G', g, dr, tk', os⟩, _, .ref C, some d, rfl, J, fun b o q => ?_, ge, hoe, ⟨hc, hd⟩, hdat, h1, ?_, rfl, I1.bare,
      raises_own T.exC T.tyC, q1 d (I1.hok.fresh M.dbig)⟩
    · by_cases hb : b = e
      · have q' : G'.get? b = some o := q
        rw [hb, ge] at q'
        cases q'
      · exact (gk b hb).symm.trans q
    · rw [upd_ne (Ne.symm M.dne)]
      exact I1.hok.fresh M.new
def xf (T : PySem.ERR.InvalidCount.Txt X.K X.mg C fI) : XfC X.K C := ⟨T.ga, T.gg, T.exC, T.hdC⟩
end
end EInvalidCount
end L2


namespace PySem
namespace ERR.UnknownName
open PySem.W PySem.Calls PyProof.Rows PySem.HandSPX
/-! the error UnknownName, which keeps name -/
def eA (p1 p2 : Pos) : Arguments :=
  { posonlyargs := [],
    args := [{ arg := "self", annotation := none, pos := p1 }, { arg := "name", annotation := none, pos := p2 }],
    vararg := none, kwonlyargs := [], kw_defaults := [],
    kwarg := none, defaults := [] }
def eB (q1 q2 q3 q4 : Pos) : List Stmt :=
  [.Assign [.Attribute (.Name "self" q1) "name" q2] (.Name "name" q3) q4]
def eS : Scope :=
  { kind := .function,
    names := [(PySem.Str.ofString "self", .local), (PySem.Str.ofString "name", .local)],
    isGenerator := false, isCoroutine := false, more := [] }
abbrev bmC : List Value := [.type "KeyError", .type "LookupError", .type "Exception", .type "BaseException", .type "object"]
structure Txt (K : Frag) (mg : Str → Option Value) (C fI : Addr) : Prop where
  gC : mg "UnknownName" = some (.ref C)
  ini : excInitIn K C bmC "LookupError.__new__" = true
  over : excOver K C bmC = true
  sa : findIn K (.ref C) "__setattr__" = some (some (.builtin "object.__setattr__"))
  ga : findIn K (.ref C) "__getattribute__" = some (some (.builtin "BaseException.__getattribute__"))
  gg : findIn K (.ref C) "__getattr__" = some none
  noN : findIn K (.ref C) "name" = some none
  iC : findIn K (.ref C) "__init__" = some (some (.ref fI))
  tC : typeIn K (.ref fI) = some (.type "function")
  kC : keepIn K (.ref C) = true
  exC : subIn K (.ref C) (.type "BaseException") = some true
  tyC : typeIn K (.ref C) = some (.type "type")
  hdC : hasDictIn K C = true
  te : exmOne K (.ref C) (.ref C) = some true
  fn : ∃ (oc : Value) (od : Option Addr) (doc pm : Value) (an : Option Addr) (cdv ct : Value) (osl : Array (Option Value)) (p1 p2 q1 q2 q3 q4 : Pos),
    K.lookup fI = some ⟨oc, od, .func (fnOf "__init__" "UnknownName.__init__" (eA p1 p2) (eB q1 q2 q3 q4) eS .none .none doc pm an cdv ct), osl⟩ ∧
    codeIn K cdv "UnknownName.__init__" = true
theorem above {bm : List Value} (h : ∀ Y : String, bm.contains (.type Y) = bmC.contains (.type Y)) : Above "LookupError" bm :=
  ⟨(h _).trans (by decide +kernel), (h _).trans (by decide +kernel), (h _).trans (by decide +kernel)⟩
structure Inited (h h' : Heap) (x C dx t1 : Addr) (v : Value) : Prop where
  keep : ∀ b o, b ≠ x → h.get? b = some o → h'.get? b = some o
  obj : h'.get? x = some { cls := .ref C, dict := some dx, data := .fields #[.ref t1, .none, .none, .none, .bool false, .none] }
  dbig : h.objs.size ≤ dx
  dne : dx ≠ x
  ns : h'.Ns1 dx (fun y => if y = "name" then some v else none)
structure Made (h h' : Heap) (e C d : Addr) (v : Value) : Prop where
  keep : ∀ b o, h.get? b = some o → h'.get? b = some o
  new : h.objs.size ≤ e
  obj : ∃ oe vs, h'.get? e = some oe ∧ oe.cls = .ref C ∧ oe.dict = some d ∧ oe.data = .fields vs ∧ vs[1]? = some .none
  dbig : h.objs.size ≤ d
  dne : d ≠ e
  ns : h'.Ns1 d (fun y => if y = "name" then some v else none)
theorem local_at {M : Model} {s : Shared} {name : Str} {scope : Scope} {L a : Addr} {cd : Value} {m : Str → Option Value} {x : Str} {pos : Pos} {v : Value}
    {Q : Value → Shared → Prop} {A : Around} {E : Value → Shared → Prop} (hn : s.heap.Ns L m) (hv : m x = some v) (h : Q v s)
    (hk : scope.kind = .function := by rfl)
    (hl : (envOfC name scope L a cd).kindOf x = some .local := by rfl)
    (hd : (x == ("__debug__" : Str)) = false := by decide) :
    wpAny M A (eval (.Name x pos) (envOfC name scope L a cd)) Q E s :=
  wpAny_Name (wpAny_loadName_local hk hl hn hv h) hd
section
variable {prog : Program} {w : World} {A : Around} {E : Value → Shared → Prop} {R : Result → Shared → Prop} {s : Shared}
  {K : Frag} {mg : Str → Option Value} {C fI : Addr}
theorem inits (T : Txt K mg C fI) {x t0 : Addr} {v : Value} (X : K.In s.heap) (hlim : s.heap.NoLimit)
    (hx : s.heap.get? x = some (excO C t0)) (hnx : K.lookup x = none) (hroom : A.depth < recursionLimit)
    (hq : ∀ h' tk dx, Inited s.heap h' x C dx t0 v → R (.ok (.ret .none)) { s with heap := h', toks := tk }) :
    codeAny (model prog w) A (.call (.ref fI) ⟨[.ref x, v], []⟩) R s := by
  obtain ⟨oc, od, doc, pm, an, cdv, ct, osl, p1, p2, q1, q2, q3, q4, ho, hcd⟩ := T.fn
  refine Att.call_fn (binds := [("self", .ref x), ("name", v)]) X hlim ho hcd hroom
    (BindsTo.of_eq (by first | rfl | with_unfolding_all rfl))
    (by first | rfl | decide | with_unfolding_all rfl)
    (fun s₁ IC => ?_) rfl rfl rfl
  obtain ⟨h₁, tk₁, rfl⟩ := IC.toInCall.same
  have k : ∀ b o, s.heap.get? b = some o → h₁.get? b = some o :=
    IC.toInCall.keep
  have hn := IC.toInCall.ns
  have X₁ : K.In h₁ := X.keeps k
  have hx₁ := k _ _ hx
  show wpAny _ _
    (execs _ _) _ _ _
  refine wpAny_execs_cons
    (plainObj_wpAny_Assign_Attribute ?_)
  refine local_at (v := v) hn
    (by first | rfl | with_unfolding_all rfl | kernel_rfl)
    (local_at (v := .ref x) hn
      (by first | rfl | with_unfolding_all rfl | kernel_rfl) ?_)
  refine set_plain X₁ (ox := excO C t0) (od := none)
    ⟨hx₁, rfl, rfl, trivial⟩ T.sa ?_
  refine keep_new PySem.ERR.store_key X₁ hx₁ T.over T.hdC T.noN
    (fun h₃ tk₃ dx k₃ dn dne hx₃ hn₃ => ?_)
  show wpAny _ _
    (execs _ _) _ _ _
  have z : s.heap.objs.size < h₁.objs.size := hn.lt
  exact wpAny_execs_nil (hq h₃ tk₃ dx
    ⟨fun b o hb e => k₃ b o hb (k b o e), hx₃, Nat.le_of_lt (Nat.lt_of_lt_of_le z dn), dne, hn₃⟩)
theorem makes (T : Txt K mg C fI) {v : Value} (X : K.In s.heap) (hlim : s.heap.NoLimit) (hroom : A.depth + 1 < recursionLimit)
    (hq : ∀ h' tk e d, Made s.heap h' e C d v → R (.ok (.ret (.ref e))) { s with heap := h', toks := tk }) :
    codeAny (model prog w) A (.call (.ref C) ⟨[v], []⟩) R s := by
  obtain ⟨nm, N, qn, bs, bm, hdct, sn, sub, ab, col, dd, k0, k1, k2, k3, k5, hC, hbm⟩ := excInit_of X T.ini
  obtain ⟨hp, g, dr, tk, os⟩ := s
  have k : ∀ b o, hp.get? b = some o → ((hp.push (kdv_tup [v])).push (excO C hp.objs.size)).get? b = some o :=
    fun b o e => Heap.get?_push_of_some _ (Heap.get?_push_of_some _ e)
  have hget : ((hp.push (kdv_tup [v])).push (excO C hp.objs.size)).get? (hp.objs.size + 1) = some (excO C hp.objs.size) := by
    heap_get
  have hnx : K.lookup (hp.objs.size + 1) = none := by
    cases e : K.lookup (hp.objs.size + 1) with
    | none => rfl
    | some o =>
      have z : hp.get? (hp.objs.size + 1) = some o := X _ _ e
      exact absurd (Nat.lt_of_succ_lt (Heap.lt_size z)) (Nat.lt_irrefl _)
  have hz : [v].length ≤ sizeLine := by
    show 1 ≤ sizeLine
    decide
  refine do_make PySem.F.excBase_LookupError (above hbm) hC (looks_findIn X T.iC)
    (fun self => bind_fn X self T.tC) hz ?_
  refine inits (s := ⟨(hp.push (kdv_tup [v])).push (excO C hp.objs.size), g, dr, tk, os⟩) T (X.keeps k) (hlim.keeps k) hget hnx ?_
    fun h' tk' dx ⟨k', hx, dn, dne, hns⟩ => ?_
  · show A.depth + 1 < recursionLimit
    exact hroom
  · have old : ∀ b o, hp.get? b = some o → h'.get? b = some o :=
      fun b o e => k' b o (Nat.ne_of_lt (Nat.lt_succ_of_lt (Heap.lt_size e))) (k b o e)
    have z : hp.objs.size + 1 + 1 ≤ dx := by
      first
        | (simpa only [Heap.size_push] using dn)
        | exact dn
        | (have q := dn
           rw [Heap.size_push, Heap.size_push] at q
           exact q)
    exact ⟨rfl, hq h' tk' (hp.objs.size + 1) dx
      ⟨old, Nat.le_succ _, ⟨_, _, hx, rfl, rfl, rfl, rfl⟩,
        Nat.le_trans (Nat.le_trans (Nat.le_succ _) (Nat.le_succ _)) z, dne, hns⟩⟩
end
end ERR.UnknownName
end PySem
namespace L2
open PySem PySem.Spec PyProof.Rows
namespace EUnknownName
theorem rel1 {v : V} {v' : Value} (r : RelV v v') (n : Str) :
    RelO (List.lookup n [(("name" : Str), v)]) (if n = "name" then some v' else none) := by
  by_cases hw : n = "name"
  · subst hw
    rw [if_pos rfl]
    have q : List.lookup ("name" : Str) [(("name" : Str), v)] = some v := by
      simp [List.lookup]
    rw [q]
    exact r
  · rw [if_neg hw]
    have qw : (n == ("name" : Str)) = false := by
      simpa using hw
    have q2 : List.lookup n [(("name" : Str), v)] = none := by
      simp [List.lookup, qw]
    rw [q2]
    trivial
theorem look1 (v : V) : List.lookup ("name" : Str) [(("name" : Str), v)] = some v := by
  simp [List.lookup]
section
variable {X : Cx} {C fI : Addr}
/-- the reading of a call of the error: its dict, new, holds what it takes -/
def tMk (C : Addr) (ta : TA) : St → Hp → XK → Prop := fun σ H Q =>
  ta σ H fun vs H1 => ∃ v, vs = [v] ∧
    ∀ d, H1 d = none → Q (.ref C) (some d) (upd H1 d (.xd [(("name" : Str), v)]))
theorem pmk {a : Expr} {ta : TA} {p pos : Pos} {k : Nat} (T : PySem.ERR.UnknownName.Txt X.K X.mg C fI) (hr : Room k X.A) (ha : PA X [a] ta)
    (hg : Gl X "UnknownName" := by rfl)
    (he : starEach (a :: []) X.env = (false, eval a X.env) :: starEach [] X.env := by rfl)
    (hpl : (backTo pos (starEach [] X.env)).any (·.1) = false := by rfl) :
    PMk X (.Call (.Name "UnknownName" p) [a] [] pos) (tMk C ta) := by
  intro pins s σ H Q I h
  refine wpAny_Call_Name_kw
    (ld_glob I hg T.gC ?_)
  refine PySem.W.callWith_K (h₀ := X.base) I.ok.mod.kin T.kC
    (thn (ha.run pos pins s σ H _ I h) fun us s1 hh => ?_) he hpl
  obtain ⟨vs, H1, I1, r1, v, ev, q1⟩ := hh
  subst ev
  refine ⟨I1.kIn, ?_⟩
  cases r1 with
  | cons rv rn =>
    rename_i v' us'
    cases rn
    show wpAny _ _
      (call (.ref C) [v']) _ _ _
    have hlim := I1.nolimit
    obtain ⟨hp, g, dr, tk, os⟩ := s1
    refine wpAny_call (PySem.ERR.UnknownName.makes T I1.kIn hlim
      (by have := hr.dp; omega) fun h' tk' e d M => ?_)
    show MkP X pins σ Q (.ref e) ⟨h', g, dr, tk', os⟩
    obtain ⟨oe, fv, hoe, hc, hd, hdat, h1⟩ := M.obj
    have hns := M.ns
    obtain ⟨G', g1, g2⟩ := restrict h'
      fun b => decide (b ≠ e)
    have gk : ∀ b, b ≠ e → G'.get? b = h'.get? b :=
      fun b hb => g1 b (decide_eq_true hb)
    have ge : G'.get? e = none := g2 e (by simp)
    have old : ∀ b o, hp.get? b = some o → G'.get? b = some o := fun b o q =>
      (gk b (Nat.ne_of_lt (Nat.lt_of_lt_of_le (Heap.lt_size q) M.new))).trans (M.keep b o q)
    have ob : ObjOk X.prog X.w (upd H1 d (.xd [(("name" : Str), v)])) G' d (.xd [(("name" : Str), v)]) :=
      ⟨_, hns.at (fun o q => (gk d M.dne).trans q), fun n => rel1 rv n⟩
    have J : Inv X pins σ (upd H1 d (.xd [(("name" : Str), v)])) ⟨G', g, dr, tk', os⟩ :=
      I1.laid (t' := tk') old M.dbig ob
    refine ⟨e, oe, fv, ⟨G', g, dr, tk', os⟩, _, .ref C, some d, rfl, J, fun b o q => ?_, ge, hoe, ⟨hc, hd⟩, hdat, h1, ?_, rfl, I1.bare,
      raises_own T.exC T.tyC, q1 d (I1.hok.fresh M.dbig)⟩
    · by_cases hb : b = e
      · have q' : G'.get? b = some o := q
        rw [hb, ge] at q'
        cases q'
      · exact (gk b hb).symm.trans q
    · rw [upd_ne (Ne.symm M.dne)]
      exact I1.hok.fresh M.new
def xf (T : PySem.ERR.UnknownName.Txt X.K X.mg C fI) : XfC X.K C := ⟨T.ga, T.gg, T.exC, T.hdC⟩
end
end EUnknownName
end L2


namespace PySem
namespace ERR.NothingToUndo
open PySem.W PySem.Calls PyProof.Rows PySem.HandSPX
/-! the error NothingToUndo, which keeps wanted -/
def eA (p1 p2 : Pos) : Arguments :=
  { posonlyargs := [],
    args := [{ arg := "self", annotation := none, pos := p1 }, { arg := "wanted", annotation := none, pos := p2 }],
    vararg := none, kwonlyargs := [], kw_defaults := [],
    kwarg := none, defaults := [] }
def eB (q1 q2 q3 q4 : Pos) : List Stmt :=
  [.Assign [.Attribute (.Name "self" q1) "wanted" q2] (.Name "wanted" q3) q4]
def eS : Scope :=
  { kind := .function,
    names := [(PySem.Str.ofString "self", .local), (PySem.Str.ofString "wanted", .local)],
    isGenerator := false, isCoroutine := false, more := [] }
abbrev bmC : List Value := [.type "RuntimeError", .type "Exception", .type "BaseException", .type "object"]
structure Txt (K : Frag) (mg : Str → Option Value) (C fI : Addr) : Prop where
  gC : mg "NothingToUndo" = some (.ref C)
  ini : excInitIn K C bmC "RuntimeError.__new__" = true
  over : excOver K C bmC = true
  sa : findIn K (.ref C) "__setattr__" = some (some (.builtin "object.__setattr__"))
  ga : findIn K (.ref C) "__getattribute__" = some (some (.builtin "BaseException.__getattribute__"))
  gg : findIn K (.ref C) "__getattr__" = some none
  noN : findIn K (.ref C) "wanted" = some none
  iC : findIn K (.ref C) "__init__" = some (some (.ref fI))
  tC : typeIn K (.ref fI) = some (.type "function")
  kC : keepIn K (.ref C) = true
  exC : subIn K (.ref C) (.type "BaseException") = some true
  tyC : typeIn K (.ref C) = some (.type "type")
  hdC : hasDictIn K C = true
  te : exmOne K (.ref C) (.ref C) = some true
  fn : ∃ (oc : Value) (od : Option Addr) (doc pm : Value) (an : Option Addr) (cdv ct : Value) (osl : Array (Option Value)) (p1 p2 q1 q2 q3 q4 : Pos),
    K.lookup fI = some ⟨oc, od, .func (fnOf "__init__" "NothingToUndo.__init__" (eA p1 p2) (eB q1 q2 q3 q4) eS .none .none doc pm an cdv ct), osl⟩ ∧
    codeIn K cdv "NothingToUndo.__init__" = true
theorem above {bm : List Value} (h : ∀ Y : String, bm.contains (.type Y) = bmC.contains (.type Y)) : Above "RuntimeError" bm :=
  ⟨(h _).trans (by decide +kernel), (h _).trans (by decide +kernel), (h _).trans (by decide +kernel)⟩
structure Inited (h h' : Heap) (x C dx t1 : Addr) (v : Value) : Prop where
  keep : ∀ b o, b ≠ x → h.get? b = some o → h'.get? b = some o
  obj : h'.get? x = some { cls := .ref C, dict := some dx, data := .fields #[.ref t1, .none, .none, .none, .bool false, .none] }
  dbig : h.objs.size ≤ dx
  dne : dx ≠ x
  ns : h'.Ns1 dx (fun y => if y = "wanted" then some v else none)
structure Made (h h' : Heap) (e C d : Addr) (v : Value) : Prop where
  keep : ∀ b o, h.get? b = some o → h'.get? b = some o
  new : h.objs.size ≤ e
  obj : ∃ oe vs, h'.get? e = some oe ∧ oe.cls = .ref C ∧ oe.dict = some d ∧ oe.data = .fields vs ∧ vs[1]? = some .none
  dbig : h.objs.size ≤ d
  dne : d ≠ e
  ns : h'.Ns1 d (fun y => if y = "wanted" then some v else none)
theorem local_at {M : Model} {s : Shared} {name : Str} {scope : Scope} {L a : Addr} {cd : Value} {m : Str → Option Value} {x : Str} {pos : Pos} {v : Value}
    {Q : Value → Shared → Prop} {A : Around} {E : Value → Shared → Prop} (hn : s.heap.Ns L m) (hv : m x = some v) (h : Q v s)
    (hk : scope.kind = .function := by rfl)
    (hl : (envOfC name scope L a cd).kindOf x = some .local := by rfl)
    (hd : (x == ("__debug__" : Str)) = false := by decide) :
    wpAny M A (eval (.Name x pos) (envOfC name scope L a cd)) Q E s :=
  wpAny_Name (wpAny_loadName_local hk hl hn hv h) hd
section
variable {prog : Program} {w : World} {A : Around} {E : Value → Shared → Prop} {R : Result → Shared → Prop} {s : Shared}
  {K : Frag} {mg : Str → Option Value} {C fI : Addr}
theorem inits (T : Txt K mg C fI) {x t0 : Addr} {v : Value} (X : K.In s.heap) (hlim : s.heap.NoLimit)
    (hx : s.heap.get? x = some (excO C t0)) (hnx : K.lookup x = none) (hroom : A.depth < recursionLimit)
    (hq : ∀ h' tk dx, Inited s.heap h' x C dx t0 v → R (.ok (.ret .none)) { s with heap := h', toks := tk }) :
    codeAny (model prog w) A (.call (.ref fI) ⟨[.ref x, v], []⟩) R s := by
  obtain ⟨oc, od, doc, pm, an, cdv, ct, osl, p1, p2, q1, q2, q3, q4, ho, hcd⟩ := T.fn
  refine Att.call_fn (binds := [("self", .ref x), ("wanted", v)]) X hlim ho hcd hroom
    (BindsTo.of_eq (by first | rfl | with_unfolding_all rfl))
    (by first | rfl | decide | with_unfolding_all rfl)
    (fun s₁ IC => ?_) rfl rfl rfl
  obtain ⟨h₁, tk₁, rfl⟩ := IC.toInCall.same
  have k : ∀ b o, s.heap.get? b = some o → h₁.get? b = some o :=
    IC.toInCall.keep
  have hn := IC.toInCall.ns
  have X₁ : K.In h₁ := X.keeps k
  have hx₁ := k _ _ hx
  show wpAny _ _
    (execs _ _) _ _ _
  refine wpAny_execs_cons
    (plainObj_wpAny_Assign_Attribute ?_)
  refine local_at (v := v) hn
    (by first | rfl | with_unfolding_all rfl | kernel_rfl)
    (local_at (v := .ref x) hn
      (by first | rfl | with_unfolding_all rfl | kernel_rfl) ?_)
  refine set_plain X₁ (ox := excO C t0) (od := none)
    ⟨hx₁, rfl, rfl, trivial⟩ T.sa ?_
  refine keep_new PySem.F.store_RuntimeError X₁ hx₁ T.over T.hdC T.noN
    (fun h₃ tk₃ dx k₃ dn dne hx₃ hn₃ => ?_)
  show wpAny _ _
    (execs _ _) _ _ _
  have z : s.heap.objs.size < h₁.objs.size := hn.lt
  exact wpAny_execs_nil (hq h₃ tk₃ dx
    ⟨fun b o hb e => k₃ b o hb (k b o e), hx₃, Nat.le_of_lt (Nat.lt_of_lt_of_le z dn), dne, hn₃⟩)
theorem makes (T : Txt K mg C fI) {v : Value} (X : K.In s.heap) (hlim : s.heap.NoLimit) (hroom : A.depth + 1 < recursionLimit)
    (hq : ∀ h' tk e d, Made s.heap h' e C d v → R (.ok (.ret (.ref e))) { s with heap := h', toks := tk }) :
    codeAny (model prog w) A (.call (.ref C) ⟨[v], []⟩) R s := by
  obtain ⟨nm, N, qn, bs, bm, hdct, sn, sub, ab, col, dd, k0, k1, k2, k3, k5, hC, hbm⟩ := excInit_of X T.ini
  obtain ⟨hp, g, dr, tk, os⟩ := s
  have k : ∀ b o, hp.get? b = some o → ((hp.push (kdv_tup [v])).push (excO C hp.objs.size)).get? b = some o :=
    fun b o e => Heap.get?_push_of_some _ (Heap.get?_push_of_some _ e)
  have hget : ((hp.push (kdv_tup [v])).push (excO C hp.objs.size)).get? (hp.objs.size + 1) = some (excO C hp.objs.size) := by
    heap_get
  have hnx : K.lookup (hp.objs.size + 1) = none := by
    cases e : K.lookup (hp.objs.size + 1) with
    | none => rfl
    | some o =>
      have z : hp.get? (hp.objs.size + 1) = some o := X _ _ e
      exact absurd (Nat.lt_of_succ_lt (Heap.lt_size z)) (Nat.lt_irrefl _)
  have hz : [v].length ≤ sizeLine := by
    show 1 ≤ sizeLine
    decide
  refine do_make PySem.F.excBase_RuntimeError (above hbm) hC (looks_findIn X T.iC)
    (fun self => bind_fn X self T.tC) hz ?_
  refine inits (s := ⟨(hp.push (kdv_tup [v])).push (excO C hp.objs.size), g, dr, tk, os⟩) T (X.keeps k) (hlim.keeps k) hget hnx ?_
    fun h' tk' dx ⟨k', hx, dn, dne, hns⟩ => ?_
  · show A.depth + 1 < recursionLimit
    exact hroom
  · have old : ∀ b o, hp.get? b = some o → h'.get? b = some o :=
      fun b o e => k' b o (Nat.ne_of_lt (Nat.lt_succ_of_lt (Heap.lt_size e))) (k b o e)
    have z : hp.objs.size + 1 + 1 ≤ dx := by
      first
        | (simpa only [Heap.size_push] using dn)
        | exact dn
        | (have q := dn
           rw [Heap.size_push, Heap.size_push] at q
           exact q)
    exact ⟨rfl, hq h' tk' (hp.objs.size + 1) dx
      ⟨old, Nat.le_succ _, ⟨_, _, hx, rfl, rfl, rfl, rfl⟩,
        Nat.le_trans (Nat.le_trans (Nat.le_succ _) (Nat.le_succ _)) z, dne, hns⟩⟩
end
end ERR.NothingToUndo
end PySem
namespace L2
open PySem PySem.Spec PyProof.Rows
namespace ENothingToUndo
theorem rel1 {v : V} {v' : Value} (r : RelV v v') (n : Str) :
    RelO (List.lookup n [(("wanted" : Str), v)]) (if n = "wanted" then some v' else none) := by
  by_cases hw : n = "wanted"
  · subst hw
    rw [if_pos rfl]
    have q : List.lookup ("wanted" : Str) [(("wanted" : Str), v)] = some v := by
      simp [List.lookup]
    rw [q]
    exact r
  · rw [if_neg hw]
    have qw : (n == ("wanted" : Str)) = false := by
      simpa using hw
    have q2 : List.lookup n [(("wanted" : Str), v)] = none := by
      simp [List.lookup, qw]
    rw [q2]
    trivial
theorem look1 (v : V) : List.lookup ("wanted" : Str) [(("wanted" : Str), v)] = some v := by
  simp [List.lookup]
section
variable {X : Cx} {C fI : Addr}
/-- the reading of a call of the error: its dict, new, holds what it takes -/
def tMk (C : Addr) (ta : TA) : St → Hp → XK → Prop := fun σ H Q =>
  ta σ H fun vs H1 => ∃ v, vs = [v] ∧
    ∀ d, H1 d = none → Q (.ref C) (some d) (upd H1 d (.xd [(("wanted" : Str), v)]))
theorem pmk {a : Expr} {ta : TA} {p pos : Pos} {k : Nat} (T : PySem.ERR.NothingToUndo.Txt X.K X.mg C fI) (hr : Room k X.A) (ha : PA X [a] ta)
    (hg : Gl X "NothingToUndo" := by rfl)
    (he : starEach (a :: []) X.env = (false, eval a X.env) :: starEach [] X.env := by rfl)
    (hpl : (backTo pos (starEach [] X.env)).any (·.1) = false := by rfl) :
    PMk X (.Call (.Name "NothingToUndo" p) [a] [] pos) (tMk C ta) := by
  intro pins s σ H Q I h
  refine wpAny_Call_Name_kw
    (ld_glob I hg T.gC ?_)
  refine PySem.W.callWith_K (h₀ := X.base) I.ok.mod.kin T.kC
    (thn (ha.run pos pins s σ H _ I h) fun us s1 hh => ?_) he hpl
  obtain ⟨vs, H1, I1, r1, v, ev, q1⟩ := hh
  subst ev
  refine ⟨I1.kIn, ?_⟩
  cases r1 with
  | cons rv rn =>
    rename_i v' us'
    cases rn
    show wpAny _ _
      (call (.ref C) [v']) _ _ _
    have hlim := I1.nolimit
    obtain ⟨hp, g, dr, tk, os⟩ := s1
    refine wpAny_call (PySem.ERR.NothingToUndo.makes T I1.kIn hlim
      (by have := hr.dp; omega) fun h' tk' e d M => ?_)
    show MkP X pins σ Q (.ref e) ⟨h', g, dr, tk', os⟩
    obtain ⟨oe, fv, hoe, hc, hd, hdat, h1⟩ := M.obj
    have hns := M.ns
    obtain ⟨G', g1, g2⟩ := restrict h'
      fun b => decide (b ≠ e)
    have gk : ∀ b, b ≠ e → G'.get? b = h'.get? b :=
      fun b hb => g1 b (decide_eq_true hb)
    have ge : G'.get? e = none := g2 e (by simp)
    have old : ∀ b o, hp.get? b = some o → G'.get? b = some o := fun b o q =>
      (gk b (Nat.ne_of_lt (Nat.lt_of_lt_of_le (Heap.lt_size q) M.new))).trans (M.keep b o q)
    have ob : ObjOk X.prog X.w (upd H1 d (.xd [(("wanted" : Str), v)])) G' d (.xd [(("wanted" : Str), v)]) :=
      ⟨_, hns.at (fun o q => (gk d M.dne).trans q), fun n => rel1 rv n⟩
    have J : Inv X pins σ (upd H1 d (.xd [(("wanted" : Str), v)])) ⟨G', g, dr, tk', os⟩ :=
      I1.laid (t' := tk') old M.dbig ob
    refine ⟨e, oe, fv, ⟨G', g, dr, tk', os⟩, _, .ref C, some d, rfl, J, fun b o q => ?_, ge, hoe, ⟨hc, hd⟩, hdat, h1, ?_, rfl, I1.bare,
      raises_own T.exC T.tyC, q1 d (I1.hok.fresh M.dbig)⟩
    · by_cases hb : b = e
      · have q' : G'.get? b = some o := q
        rw [hb, ge] at q'
        cases q'
      · exact (gk b hb).symm.trans q
    · rw [upd_ne (Ne.symm M.dne)]
      exact I1.hok.fresh M.new
def xf (T : PySem.ERR.NothingToUndo.Txt X.K X.mg C fI) : XfC X.K C := ⟨T.ga, T.gg, T.exC, T.hdC⟩
end
end ENothingToUndo
end L2


namespace PySem
namespace ERR.TooMany
open PySem.W PySem.Calls PyProof.Rows PySem.HandSPX
/-! the error TooMany, which keeps limit -/
def eA (p1 p2 : Pos) : Arguments :=
  { posonlyargs := [],
    args := [{ arg := "self", annotation := none, pos := p1 }, { arg := "limit", annotation := none, pos := p2 }],
    vararg := none, kwonlyargs := [], kw_defaults := [],
    kwarg := none, defaults := [] }
def eB (q1 q2 q3 q4 : Pos) : List Stmt :=
  [.Assign [.Attribute (.Name "self" q1) "limit" q2] (.Name "limit" q3) q4]
def eS : Scope :=
  { kind := .function,
    names := [(PySem.Str.ofString "self", .local), (PySem.Str.ofString "limit", .local)],
    isGenerator := false, isCoroutine := false, more := [] }
abbrev bmC : List Value := [.type "OverflowError", .type "ArithmeticError", .type "Exception", .type "BaseException", .type "object"]
structure Txt (K : Frag) (mg : Str → Option Value) (C fI : Addr) : Prop where
  gC : mg "TooMany" = some (.ref C)
  ini : excInitIn K C bmC "OverflowError.__new__" = true
  over : excOver K C bmC = true
  sa : findIn K (.ref C) "__setattr__" = some (some (.builtin "object.__setattr__"))
  ga : findIn K (.ref C) "__getattribute__" = some (some (.builtin "BaseException.__getattribute__"))
  gg : findIn K (.ref C) "__getattr__" = some none
  noN : findIn K (.ref C) "limit" = some none
  iC : findIn K (.ref C) "__init__" = some (some (.ref fI))
  tC : typeIn K (.ref fI) = some (.type "function")
  kC : keepIn K (.ref C) = true
  exC : subIn K (.ref C) (.type "BaseException") = some true
  tyC : typeIn K (.ref C) = some (.type "type")
  hdC : hasDictIn K C = true
  te : exmOne K (.ref C) (.ref C) = some true
  fn : ∃ (oc : Value) (od : Option Addr) (doc pm : Value) (an : Option Addr) (cdv ct : Value) (osl : Array (Option Value)) (p1 p2 q1 q2 q3 q4 : Pos),
    K.lookup fI = some ⟨oc, od, .func (fnOf "__init__" "TooMany.__init__" (eA p1 p2) (eB q1 q2 q3 q4) eS .none .none doc pm an cdv ct), osl⟩ ∧
    codeIn K cdv "TooMany.__init__" = true
theorem above {bm : List Value} (h : ∀ Y : String, bm.contains (.type Y) = bmC.contains (.type Y)) : Above "OverflowError" bm :=
  ⟨(h _).trans (by decide +kernel), (h _).trans (by decide +kernel), (h _).trans (by decide +kernel)⟩
structure Inited (h h' : Heap) (x C dx t1 : Addr) (v : Value) : Prop where
  keep : ∀ b o, b ≠ x → h.get? b = some o → h'.get? b = some o
  obj : h'.get? x = some { cls := .ref C, dict := some dx, data := .fields #[.ref t1, .none, .none, .none, .bool false, .none] }
  dbig : h.objs.size ≤ dx
  dne : dx ≠ x
  ns : h'.Ns1 dx (fun y => if y = "limit" then some v else none)
structure Made (h h' : Heap) (e C d : Addr) (v : Value) : Prop where
  keep : ∀ b o, h.get? b = some o → h'.get? b = some o
  new : h.objs.size ≤ e
  obj : ∃ oe vs, h'.get? e = some oe ∧ oe.cls = .ref C ∧ oe.dict = some d ∧ oe.data = .fields vs ∧ vs[1]? = some .none
  dbig : h.objs.size ≤ d
  dne : d ≠ e
  ns : h'.Ns1 d (fun y => if y = "limit" then some v else none)
theorem local_at {M : Model} {s : Shared} {name : Str} {scope : Scope} {L a : Addr} {cd : Value} {m : Str → Option Value} {x : Str} {pos : Pos} {v : Value}
    {Q : Value → Shared → Prop} {A : Around} {E : Value → Shared → Prop} (hn : s.heap.Ns L m) (hv : m x = some v) (h : Q v s)
    (hk : scope.kind = .function := by rfl)
    (hl : (envOfC name scope L a cd).kindOf x = some .local := by rfl)
    (hd : (x == ("__debug__" : Str)) = false := by decide) :
    wpAny M A (eval (.Name x pos) (envOfC name scope L a cd)) Q E s :=
  wpAny_Name (wpAny_loadName_local hk hl hn hv h) hd
section
variable {prog : Program} {w : World} {A : Around} {E : Value → Shared → Prop} {R : Result → Shared → Prop} {s : Shared}
  {K : Frag} {mg : Str → Option Value} {C fI : Addr}
theorem inits (T : Txt K mg C fI) {x t0 : Addr} {v : Value} (X : K.In s.heap) (hlim : s.heap.NoLimit)
    (hx : s.heap.get? x = some (excO C t0)) (hnx : K.lookup x = none) (hroom : A.depth < recursionLimit)
    (hq : ∀ h' tk dx, Inited s.heap h' x C dx t0 v → R (.ok (.ret .none)) { s with heap := h', toks := tk }) :
    codeAny (model prog w) A (.call (.ref fI) ⟨[.ref x, v], []⟩) R s := by
  obtain ⟨oc, od, doc, pm, an, cdv, ct, osl, p1, p2, q1, q2, q3, q4, ho, hcd⟩ := T.fn
  refine Att.call_fn (binds := [("self", .ref x), ("limit", v)]) X hlim ho hcd hroom
    (BindsTo.of_eq (by first | rfl | with_unfolding_all rfl))
    (by first | rfl | decide | with_unfolding_all rfl)
    (fun s₁ IC => ?_) rfl rfl rfl
  obtain ⟨h₁, tk₁, rfl⟩ := IC.toInCall.same
  have k : ∀ b o, s.heap.get? b = some o → h₁.get? b = some o :=
    IC.toInCall.keep
  have hn := IC.toInCall.ns
  have X₁ : K.In h₁ := X.keeps k
  have hx₁ := k _ _ hx
  show wpAny _ _
    (execs _ _) _ _ _
  refine wpAny_execs_cons
    (plainObj_wpAny_Assign_Attribute ?_)
  refine local_at (v := v) hn
    (by first | rfl | with_unfolding_all rfl | kernel_rfl)
    (local_at (v := .ref x) hn
      (by first | rfl | with_unfolding_all rfl | kernel_rfl) ?_)
  refine set_plain X₁ (ox := excO C t0) (od := none)
    ⟨hx₁, rfl, rfl, trivial⟩ T.sa ?_
  refine keep_new PySem.F.store_OverflowError X₁ hx₁ T.over T.hdC T.noN
    (fun h₃ tk₃ dx k₃ dn dne hx₃ hn₃ => ?_)
  show wpAny _ _
    (execs _ _) _ _ _
  have z : s.heap.objs.size < h₁.objs.size := hn.lt
  exact wpAny_execs_nil (hq h₃ tk₃ dx
    ⟨fun b o hb e => k₃ b o hb (k b o e), hx₃, Nat.le_of_lt (Nat.lt_of_lt_of_le z dn), dne, hn₃⟩)
theorem makes (T : Txt K mg C fI) {v : Value} (X : K.In s.heap) (hlim : s.heap.NoLimit) (hroom : A.depth + 1 < recursionLimit)
    (hq : ∀ h' tk e d, Made s.heap h' e C d v → R (.ok (.ret (.ref e))) { s with heap := h', toks := tk }) :
    codeAny (model prog w) A (.call (.ref C) ⟨[v], []⟩) R s := by
  obtain ⟨nm, N, qn, bs, bm, hdct, sn, sub, ab, col, dd, k0, k1, k2, k3, k5, hC, hbm⟩ := excInit_of X T.ini
  obtain ⟨hp, g, dr, tk, os⟩ := s
  have k : ∀ b o, hp.get? b = some o → ((hp.push (kdv_tup [v])).push (excO C hp.objs.size)).get? b = some o :=
    fun b o e => Heap.get?_push_of_some _ (Heap.get?_push_of_some _ e)
  have hget : ((hp.push (kdv_tup [v])).push (excO C hp.objs.size)).get? (hp.objs.size + 1) = some (excO C hp.objs.size) := by
    heap_get
  have hnx : K.lookup (hp.objs.size + 1) = none := by
    cases e : K.lookup (hp.objs.size + 1) with
    | none => rfl
    | some o =>
      have z : hp.get? (hp.objs.size + 1) = some o := X _ _ e
      exact absurd (Nat.lt_of_succ_lt (Heap.lt_size z)) (Nat.lt_irrefl _)
  have hz : [v].length ≤ sizeLine := by
    show 1 ≤ sizeLine
    decide
  refine do_make PySem.F.excBase_OverflowError (above hbm) hC (looks_findIn X T.iC)
    (fun self => bind_fn X self T.tC) hz ?_
  refine inits (s := ⟨(hp.push (kdv_tup [v])).push (excO C hp.objs.size), g, dr, tk, os⟩) T (X.keeps k) (hlim.keeps k) hget hnx ?_
    fun h' tk' dx ⟨k', hx, dn, dne, hns⟩ => ?_
  · show A.depth + 1 < recursionLimit
    exact hroom
  · have old : ∀ b o, hp.get? b = some o → h'.get? b = some o :=
      fun b o e => k' b o (Nat.ne_of_lt (Nat.lt_succ_of_lt (Heap.lt_size e))) (k b o e)
    have z : hp.objs.size + 1 + 1 ≤ dx := by
      first
        | (simpa only [Heap.size_push] using dn)
        | exact dn
        | (have q := dn
           rw [Heap.size_push, Heap.size_push] at q
           exact q)
    exact ⟨rfl, hq h' tk' (hp.objs.size + 1) dx
      ⟨old, Nat.le_succ _, ⟨_, _, hx, rfl, rfl, rfl, rfl⟩,
        Nat.le_trans (Nat.le_trans (Nat.le_succ _) (Nat.le_succ _)) z, dne, hns⟩⟩
end
end ERR.TooMany
end PySem
namespace L2
open PySem PySem.Spec PyProof.Rows
namespace ETooMany
theorem rel1 {v : V} {v' : Value} (r : RelV v v') (n : Str) :
    RelO (List.lookup n [(("limit" : Str), v)]) (if n = "limit" then some v' else none) := by
  by_cases hw : n = "limit"
  · subst hw
    rw [if_pos rfl]
    have q : List.lookup ("limit" : Str) [(("limit" : Str), v)] = some v := by
      simp [List.lookup]
    rw [q]
    exact r
  · rw [if_neg hw]
    have qw : (n == ("limit" : Str)) = false := by
      simpa using hw
    have q2 : List.lookup n [(("limit" : Str), v)] = none := by
      simp [List.lookup, qw]
    rw [q2]
    trivial
theorem look1 (v : V) : List.lookup ("limit" : Str) [(("limit" : Str), v)] = some v := by
  simp [List.lookup]
section
variable {X : Cx} {C fI : Addr}
/-- the reading of a call of the error: its dict, new, holds what it takes -/
def tMk (C : Addr) (ta : TA) : St → Hp → XK → Prop := fun σ H Q =>
  ta σ H fun vs H1 => ∃ v, vs = [v] ∧
    ∀ d, H1 d = none → Q (.ref C) (some d) (upd H1 d (.xd [(("limit" : Str), v)]))
theorem pmk {a : Expr} {ta : TA} {p pos : Pos} {k : Nat} (T : PySem.ERR.TooMany.Txt X.K X.mg C fI) (hr : Room k X.A) (ha : PA X [a] ta)
    (hg : Gl X "TooMany" := by rfl)
    (he : starEach (a :: []) X.env = (false, eval a X.env) :: starEach [] X.env := by rfl)
    (hpl : (backTo pos (starEach [] X.env)).any (·.1) = false := by rfl) :
    PMk X (.Call (.Name "TooMany" p) [a] [] pos) (tMk C ta) := by
  intro pins s σ H Q I h
  refine wpAny_Call_Name_kw
    (ld_glob I hg T.gC ?_)
  refine PySem.W.callWith_K (h₀ := X.base) I.ok.mod.kin T.kC
    (thn (ha.run pos pins s σ H _ I h) fun us s1 hh => ?_) he hpl
  obtain ⟨vs, H1, I1, r1, v, ev, q1⟩ := hh
  subst ev
  refine ⟨I1.kIn, ?_⟩
  cases r1 with
  | cons rv rn =>
    rename_i v' us'
    cases rn
    show wpAny _ _
      (call (.ref C) [v']) _ _ _
    have hlim := I1.nolimit
    obtain ⟨hp, g, dr, tk, os⟩ := s1
    refine wpAny_call (PySem.ERR.TooMany.makes T I1.kIn hlim
      (by have := hr.dp; omega) fun h' tk' e d M => ?_)
    show MkP X pins σ Q (.ref e) ⟨h', g, dr, tk', os⟩
    obtain ⟨oe, fv, hoe, hc, hd, hdat, h1⟩ := M.obj
    have hns := M.ns
    obtain ⟨G', g1, g2⟩ := restrict h'
      fun b => decide (b ≠ e)
    have gk : ∀ b, b ≠ e → G'.get? b = h'.get? b :=
      fun b hb => g1 b (decide_eq_true hb)
    have ge : G'.get? e = none := g2 e (by simp)
    have old : ∀ b o, hp.get? b = some o → G'.get? b = some o := fun b o q =>
      (gk b (Nat.ne_of_lt (Nat.lt_of_lt_of_le (Heap.lt_size q) M.new))).trans (M.keep b o q)
    have ob : ObjOk X.prog X.w (upd H1 d (.xd [(("limit" : Str), v)])) G' d (.xd [(("limit" : Str), v)]) :=
      ⟨_, hns.at (fun o q => (gk d M.dne).trans q), fun n => rel1 rv n⟩
    have J : Inv X pins σ (upd H1 d (.xd [(("limit" : Str), v)])) ⟨G', g, dr, tk', os⟩ :=
      I1.laid (t' := tk') old M.dbig ob
    refine ⟨e, oe, fv, ⟨G', g, dr, tk', os⟩, _, .ref C, some d, rfl, J, fun b o q => ?_, ge, hoe, ⟨hc, hd⟩, hdat, h1, ?_, rfl, I1.bare,
      raises_own T.exC T.tyC, q1 d (I1.hok.fresh M.dbig)⟩
    · by_cases hb : b = e
      · have q' : G'.get? b = some o := q
        rw [hb, ge] at q'
        cases q'
      · exact (gk b hb).symm.trans q
    · rw [upd_ne (Ne.symm M.dne)]
      exact I1.hok.fresh M.new
def xf (T : PySem.ERR.TooMany.Txt X.K X.mg C fI) : XfC X.K C := ⟨T.ga, T.gg, T.exC, T.hdC⟩
end
end ETooMany
end L2


namespace PySem
namespace ERR.Refused
open PySem.W PySem.Calls PyProof.Rows PySem.HandSPX
/-! the error Refused, which keeps reason -/
def eA (p1 p2 : Pos) : Arguments :=
  { posonlyargs := [],
    args := [{ arg := "self", annotation := none, pos := p1 }, { arg := "reason", annotation := none, pos := p2 }],
    vararg := none, kwonlyargs := [], kw_defaults := [],
    kwarg := none, defaults := [] }
def eB (q1 q2 q3 q4 : Pos) : List Stmt :=
  [.Assign [.Attribute (.Name "self" q1) "reason" q2] (.Name "reason" q3) q4]
def eS : Scope :=
  { kind := .function,
    names := [(PySem.Str.ofString "self", .local), (PySem.Str.ofString "reason", .local)],
    isGenerator := false, isCoroutine := false, more := [] }
abbrev bmC : List Value := [.type "ArithmeticError", .type "Exception", .type "BaseException", .type "object"]
structure Txt (K : Frag) (mg : Str → Option Value) (C fI : Addr) : Prop where
  gC : mg "Refused" = some (.ref C)
  ini : excInitIn K C bmC "ArithmeticError.__new__" = true
  over : excOver K C bmC = true
  sa : findIn K (.ref C) "__setattr__" = some (some (.builtin "object.__setattr__"))
  ga : findIn K (.ref C) "__getattribute__" = some (some (.builtin "BaseException.__getattribute__"))
  gg : findIn K (.ref C) "__getattr__" = some none
  noN : findIn K (.ref C) "reason" = some none
  iC : findIn K (.ref C) "__init__" = some (some (.ref fI))
  tC : typeIn K (.ref fI) = some (.type "function")
  kC : keepIn K (.ref C) = true
  exC : subIn K (.ref C) (.type "BaseException") = some true
  tyC : typeIn K (.ref C) = some (.type "type")
  hdC : hasDictIn K C = true
  te : exmOne K (.ref C) (.ref C) = some true
  fn : ∃ (oc : Value) (od : Option Addr) (doc pm : Value) (an : Option Addr) (cdv ct : Value) (osl : Array (Option Value)) (p1 p2 q1 q2 q3 q4 : Pos),
    K.lookup fI = some ⟨oc, od, .func (fnOf "__init__" "Refused.__init__" (eA p1 p2) (eB q1 q2 q3 q4) eS .none .none doc pm an cdv ct), osl⟩ ∧
    codeIn K cdv "Refused.__init__" = true
theorem above {bm : List Value} (h : ∀ Y : String, bm.contains (.type Y) = bmC.contains (.type Y)) : Above "ArithmeticError" bm :=
  ⟨(h _).trans (by decide +kernel), (h _).trans (by decide +kernel), (h _).trans (by decide +kernel)⟩
structure Inited (h h' : Heap) (x C dx t1 : Addr) (v : Value) : Prop where
  keep : ∀ b o, b ≠ x → h.get? b = some o → h'.get? b = some o
  obj : h'.get? x = some { cls := .ref C, dict := some dx, data := .fields #[.ref t1, .none, .none, .none, .bool false, .none] }
  dbig : h.objs.size ≤ dx
  dne : dx ≠ x
  ns : h'.Ns1 dx (fun y => if y = "reason" then some v else none)
structure Made (h h' : Heap) (e C d : Addr) (v : Value) : Prop where
  keep : ∀ b o, h.get? b = some o → h'.get? b = some o
  new : h.objs.size ≤ e
  obj : ∃ oe vs, h'.get? e = some oe ∧ oe.cls = .ref C ∧ oe.dict = some d ∧ oe.data = .fields vs ∧ vs[1]? = some .none
  dbig : h.objs.size ≤ d
  dne : d ≠ e
  ns : h'.Ns1 d (fun y => if y = "reason" then some v else none)
theorem local_at {M : Model} {s : Shared} {name : Str} {scope : Scope} {L a : Addr} {cd : Value} {m : Str → Option Value} {x : Str} {pos : Pos} {v : Value}
    {Q : Value → Shared → Prop} {A : Around} {E : Value → Shared → Prop} (hn : s.heap.Ns L m) (hv : m x = some v) (h : Q v s)
    (hk : scope.kind = .function := by rfl)
    (hl : (envOfC name scope L a cd).kindOf x = some .local := by rfl)
    (hd : (x == ("__debug__" : Str)) = false := by decide) :
    wpAny M A (eval (.Name x pos) (envOfC name scope L a cd)) Q E s :=
  wpAny_Name (wpAny_loadName_local hk hl hn hv h) hd
section
variable {prog : Program} {w : World} {A : Around} {E : Value → Shared → Prop} {R : Result → Shared → Prop} {s : Shared}
  {K : Frag} {mg : Str → Option Value} {C fI : Addr}
theorem inits (T : Txt K mg C fI) {x t0 : Addr} {v : Value} (X : K.In s.heap) (hlim : s.heap.NoLimit)
    (hx : s.heap.get? x = some (excO C t0)) (hnx : K.lookup x = none) (hroom : A.depth < recursionLimit)
    (hq : ∀ h' tk dx, Inited s.heap h' x C dx t0 v → R (.ok (.ret .none)) { s with heap := h', toks := tk }) :
    codeAny (model prog w) A (.call (.ref fI) ⟨[.ref x, v], []⟩) R s := by
  obtain ⟨oc, od, doc, pm, an, cdv, ct, osl, p1, p2, q1, q2, q3, q4, ho, hcd⟩ := T.fn
  refine Att.call_fn (binds := [("self", .ref x), ("reason", v)]) X hlim ho hcd hroom
    (BindsTo.of_eq (by first | rfl | with_unfolding_all rfl))
    (by first | rfl | decide | with_unfolding_all rfl)
    (fun s₁ IC => ?_) rfl rfl rfl
  obtain ⟨h₁, tk₁, rfl⟩ := IC.toInCall.same
  have k : ∀ b o, s.heap.get? b = some o → h₁.get? b = some o :=
    IC.toInCall.keep
  have hn := IC.toInCall.ns
  have X₁ : K.In h₁ := X.keeps k
  have hx₁ := k _ _ hx
  show wpAny _ _
    (execs _ _) _ _ _
  refine wpAny_execs_cons
    (plainObj_wpAny_Assign_Attribute ?_)
  refine local_at (v := v) hn
    (by first | rfl | with_unfolding_all rfl | kernel_rfl)
    (local_at (v := .ref x) hn
      (by first | rfl | with_unfolding_all rfl | kernel_rfl) ?_)
  refine set_plain X₁ (ox := excO C t0) (od := none)
    ⟨hx₁, rfl, rfl, trivial⟩ T.sa ?_
  refine keep_new PySem.F.store_ArithmeticError X₁ hx₁ T.over T.hdC T.noN
    (fun h₃ tk₃ dx k₃ dn dne hx₃ hn₃ => ?_)
  show wpAny _ _
    (execs _ _) _ _ _
  have z : s.heap.objs.size < h₁.objs.size := hn.lt
  exact wpAny_execs_nil (hq h₃ tk₃ dx
    ⟨fun b o hb e => k₃ b o hb (k b o e), hx₃, Nat.le_of_lt (Nat.lt_of_lt_of_le z dn), dne, hn₃⟩)
theorem makes (T : Txt K mg C fI) {v : Value} (X : K.In s.heap) (hlim : s.heap.NoLimit) (hroom : A.depth + 1 < recursionLimit)
    (hq : ∀ h' tk e d, Made s.heap h' e C d v → R (.ok (.ret (.ref e))) { s with heap := h', toks := tk }) :
    codeAny (model prog w) A (.call (.ref C) ⟨[v], []⟩) R s := by
  obtain ⟨nm, N, qn, bs, bm, hdct, sn, sub, ab, col, dd, k0, k1, k2, k3, k5, hC, hbm⟩ := excInit_of X T.ini
  obtain ⟨hp, g, dr, tk, os⟩ := s
  have k : ∀ b o, hp.get? b = some o → ((hp.push (kdv_tup [v])).push (excO C hp.objs.size)).get? b = some o :=
    fun b o e => Heap.get?_push_of_some _ (Heap.get?_push_of_some _ e)
  have hget : ((hp.push (kdv_tup [v])).push (excO C hp.objs.size)).get? (hp.objs.size + 1) = some (excO C hp.objs.size) := by
    heap_get
  have hnx : K.lookup (hp.objs.size + 1) = none := by
    cases e : K.lookup (hp.objs.size + 1) with
    | none => rfl
    | some o =>
      have z : hp.get? (hp.objs.size + 1) = some o := X _ _ e
      exact absurd (Nat.lt_of_succ_lt (Heap.lt_size z)) (Nat.lt_irrefl _)
  have hz : [v].length ≤ sizeLine := by
    show 1 ≤ sizeLine
    decide
  refine do_make PySem.F.excBase_ArithmeticError (above hbm) hC (looks_findIn X T.iC)
    (fun self => bind_fn X self T.tC) hz ?_
  refine inits (s := ⟨(hp.push (kdv_tup [v])).push (excO C hp.objs.size), g, dr, tk, os⟩) T (X.keeps k) (hlim.keeps k) hget hnx ?_
    fun h' tk' dx ⟨k', hx, dn, dne, hns⟩ => ?_
  · show A.depth + 1 < recursionLimit
    exact hroom
  · have old : ∀ b o, hp.get? b = some o → h'.get? b = some o :=
      fun b o e => k' b o (Nat.ne_of_lt (Nat.lt_succ_of_lt (Heap.lt_size e))) (k b o e)
    have z : hp.objs.size + 1 + 1 ≤ dx := by
      first
        | (simpa only [Heap.size_push] using dn)
        | exact dn
        | (have q := dn
           rw [Heap.size_push, Heap.size_push] at q
           exact q)
    exact ⟨rfl, hq h' tk' (hp.objs.size + 1) dx
      ⟨old, Nat.le_succ _, ⟨_, _, hx, rfl, rfl, rfl, rfl⟩,
        Nat.le_trans (Nat.le_trans (Nat.le_succ _) (Nat.le_succ _)) z, dne, hns⟩⟩
end
end ERR.Refused
end PySem
namespace L2
open PySem PySem.Spec PyProof.Rows
namespace ERefused
theorem rel1 {v : V} {v' : Value} (r : RelV v v') (n : Str) :
    RelO (List.lookup n [(("reason" : Str), v)]) (if n = "reason" then some v' else none) := by
  by_cases hw : n = "reason"
  · subst hw
    rw [if_pos rfl]
    have q : List.lookup ("reason" : Str) [(("reason" : Str), v)] = some v := by
      simp [List.lookup]
    rw [q]
    exact r
  · rw [if_neg hw]
    have qw : (n == ("reason" : Str)) = false := by
      simpa using hw
    have q2 : List.lookup n [(("reason" : Str), v)] = none := by
      simp [List.lookup, qw]
    rw [q2]
    trivial
theorem look1 (v : V) : List.lookup ("reason" : Str) [(("reason" : Str), v)] = some v := by
  simp [List.lookup]
section
variable {X : Cx} {C fI : Addr}
/-- the reading of a call of the error: its dict, new, holds what it takes -/
def tMk (C : Addr) (ta : TA) : St → Hp → XK → Prop := fun σ H Q =>
  ta σ H fun vs H1 => ∃ v, vs = [v] ∧
    ∀ d, H1 d = none → Q (.ref C) (some d) (upd H1 d (.xd [(("reason" : Str), v)]))
theorem pmk {a : Expr} {ta : TA} {p pos : Pos} {k : Nat} (T : PySem.ERR.Refused.Txt X.K X.mg C fI) (hr : Room k X.A) (ha : PA X [a] ta)
    (hg : Gl X "Refused" := by rfl)
    (he : starEach (a :: []) X.env = (false, eval a X.env) :: starEach [] X.env := by rfl)
    (hpl : (backTo pos (starEach [] X.env)).any (·.1) = false := by rfl) :
    PMk X (.Call (.Name "Refused" p) [a] [] pos) (tMk C ta) := by
  intro pins s σ H Q I h
  refine wpAny_Call_Name_kw
    (ld_glob I hg T.gC ?_)
  refine PySem.W.callWith_K (h₀ := X.base) I.ok.mod.kin T.kC
    (thn (ha.run pos pins s σ H _ I h) fun us s1 hh => ?_) he hpl
  obtain ⟨vs, H1, I1, r1, v, ev, q1⟩ := hh
  subst ev
  refine ⟨I1.kIn, ?_⟩
  cases r1 with
  | cons rv rn =>
    rename_i v' us'
    cases rn
    show wpAny _ _
      (call (.ref C) [v']) _ _ _
    have hlim := I1.nolimit
    obtain ⟨hp, g, dr, tk, os⟩ := s1
    refine wpAny_call (PySem.ERR.Refused.makes T I1.kIn hlim
      (by have := hr.dp; omega) fun h' tk' e d M => ?_)
    show MkP X pins σ Q (.ref e) ⟨h', g, dr, tk', os⟩
    obtain ⟨oe, fv, hoe, hc, hd, hdat, h1⟩ := M.obj
    have hns := M.ns
    obtain ⟨G', g1, g2⟩ := restrict h'
      fun b => decide (b ≠ e)
    have gk : ∀ b, b ≠ e → G'.get? b = h'.get? b :=
      fun b hb => g1 b (decide_eq_true hb)
    have ge : G'.get? e = none := g2 e (by simp)
    have old : ∀ b o, hp.get? b = some o → G'.get? b = some o := fun b o q =>
      (gk b (Nat.ne_of_lt (Nat.lt_of_lt_of_le (Heap.lt_size q) M.new))).trans (M.keep b o q)
    have ob : ObjOk X.prog X.w (upd H1 d (.xd [(("reason" : Str), v)])) G' d (.xd [(("reason" : Str), v)]) :=
      ⟨_, hns.at (fun o q => (gk d M.dne).trans q), fun n => rel1 rv n⟩
    have J : Inv X pins σ (upd H1 d (.xd [(("reason" : Str), v)])) ⟨G', g, dr, tk', os⟩ :=
      I1.laid (t' := tk') old M.dbig ob
    refine ⟨e, oe, fv, ⟨G', g, dr, tk', os⟩, _, .ref C, some d, rfl, J, fun b o q => ?_, ge, hoe, ⟨hc, hd⟩, hdat, h1, ?_, rfl, I1.bare,
      raises_own T.exC T.tyC, q1 d (I1.hok.fresh M.dbig)⟩
    · by_cases hb : b = e
      · have q' : G'.get? b = some o := q
        rw [hb, ge] at q'
        cases q'
      · exact (gk b hb).symm.trans q
    · rw [upd_ne (Ne.symm M.dne)]
      exact I1.hok.fresh M.new
def xf (T : PySem.ERR.Refused.Txt X.K X.mg C fI) : XfC X.K C := ⟨T.ga, T.gg, T.exC, T.hdC⟩
end
end ERefused
end L2

namespace K01
open PySem PySem.Spec PyProof.Rows L2
def topS (i : Nat) : Stmt := PySem.Challenge.pw_twinsheets_k01_errors_and_what_they_keep.main.body.getD i (.Pass ⟨0, 0, 0, 0⟩)
abbrev s__law_dice : Stmt := topS 21
abbrev s__law_roll : Stmt := topS 22
abbrev s__law_raise_first : Stmt := topS 24
abbrev s__law_raise_kept : Stmt := topS 25
abbrev s__law_pick : Stmt := topS 23
abbrev s__law_caught : Stmt := topS 26
abbrev s__law_caught_back : Stmt := topS 27
abbrev s__law_kept : Stmt := topS 28
abbrev s__law_is_first : Stmt := topS 29
abbrev s__law_kept_first : Stmt := topS 30
abbrev s__law_right : Stmt := topS 31
abbrev s_law : Stmt := topS 32
/-! ### which of the errors an except clause takes -/
def below (i j : Nat) : Bool := i == j || (j == 18 && i ≤ 12)
def exTab (K : PySem.W.Frag) (l : List Addr) : Bool := (List.range 19).all fun i => (List.range 19).all fun j => PySem.W.exmOne K (.ref (l.getD i 0)) (.ref (l.getD j 0)) == some (below i j)
theorem exm_tab {K : PySem.W.Frag} {l : List Addr} (h : exTab K l = true) {i j : Nat} (hi : i < 19) (hj : j < 19) : PySem.W.exmOne K (.ref (l.getD i 0)) (.ref (l.getD j 0)) = some (below i j) := by
  have a := List.all_eq_true.mp h i (List.mem_range.mpr hi)
  exact eq_of_beq (List.all_eq_true.mp a j (List.mem_range.mpr hj))
/-! ### the dice -/
def Dc (a : Addr) (H : Hp) : Prop := ∃ x y z : Int, H a = some (.lst [.int x, .int y, .int z])
structure Mv (a : Addr) (H H' : Hp) : Prop where
  keep : ∀ b o, b ≠ a → H b = some o → H' b = some o
  dice : Dc a H'
theorem Mv.refl {a : Addr} {H : Hp} (h : Dc a H) : Mv a H H := ⟨fun _ _ _ e => e, h⟩
theorem Mv.trans {a : Addr} {H H1 H2 : Hp} (h : Mv a H H1) (k : Mv a H1 H2) : Mv a H H2 := ⟨fun b o n e => k.keep b o n (h.keep b o n e), k.dice⟩
theorem Mv.roll {a : Addr} {H : Hp} (x y z : Int) : Mv a H (upd H a (.lst [.int x, .int y, .int z])) := ⟨fun b o n e => by rw [upd_ne n]; exact e, x, y, z, upd_same⟩
theorem Dc.new {a p : Addr} {H : Hp} {o : HO} (h : Dc a H) (n : H p = none) : Dc a (upd H p o) := by
  obtain ⟨x, y, z, e⟩ := h
  exact ⟨x, y, z, by rw [upd_ne (ne_of_none e n)]; exact e⟩
theorem Mv.new {a p : Addr} {H : Hp} {o : HO} (h : Dc a H) (n : H p = none) : Mv a H (upd H p o) := ⟨fun b u _ e => by rw [upd_ne (ne_of_none e n)]; exact e, h.new n⟩
theorem Mv.same {a : Addr} {H H' : Hp} (h : Dc a H) (s : Same H H') : Mv a H H' := by
  obtain ⟨x, y, z, e⟩ := h
  exact ⟨fun b o _ q => s b o q, x, y, z, s _ _ e⟩
theorem Mv.seq {K : PySem.W.Frag} {a b : Addr} {H H' : Hp} {xs : List V} (m : Mv a H H') (ne : b ≠ a) (h : SqL K H b xs) : SqL K H' b xs := by
  rcases h with (h | ⟨o, h⟩) | h
  · exact .inl (.inl (m.keep _ _ ne h))
  · exact .inl (.inr ⟨o, m.keep _ _ ne h⟩)
  · exact .inr h
theorem Dc.ne {a b : Addr} {H : Hp} (h : Dc a H) (n : H b = none) : b ≠ a := by
  intro e
  obtain ⟨x, y, z, d⟩ := h
  rw [e, d] at n
  cases n
theorem seq_law {K : PySem.W.Frag} {a p : Addr} {H H2 : Hp} {xs : List V} {o : HO} (h : SqL K H a xs) (n : H p = none) (m : Mv p (upd H p o) H2) : SqL K H2 a xs := by
  rcases h with (h | ⟨u, h⟩) | h
  · have ne : a ≠ p := ne_of_none h n
    exact .inl (.inl (m.keep _ _ ne (by rw [upd_ne ne]; exact h)))
  · have ne : a ≠ p := ne_of_none h n
    exact .inl (.inr ⟨u, m.keep _ _ ne (by rw [upd_ne ne]; exact h)⟩)
  · exact .inr h
theorem dp_ints {K : PySem.W.Frag} {H : Hp} : ∀ ns : List Int, DpAll K H (ns.map V.int) (ns.map PyData.int)
  | [] => .nil
  | n :: r => .cons (.int n) (dp_ints r)
theorem dp_bls {K : PySem.W.Frag} {H : Hp} : ∀ ns : List Bool, DpAll K H (ns.map V.bl) (ns.map PyData.bool)
  | [] => .nil
  | n :: r => .cons (.bl n) (dp_bls r)
theorem yes_go {te : TE} {σ : L2.St} {H : Hp} {k : V → Hp → Prop} {n : Hp → Prop} (h : te σ H k) : tYes σ H (fun b H3 => if b = true then te σ H3 k else n H3) := by
  show (if true = true then te σ H k else n H)
  rw [if_pos rfl]
  exact h
def sp_law (K : PySem.W.Frag) : Sp := fun vs H Q _ => ∃ (a : Addr) (ns : List Int), vs = [.ref a] ∧ SqL K H a (ns.map V.int) ∧ ns.length ≤ 63 ∧ ∀ H', Q (.bl true) H'
def sp_dice (K : PySem.W.Frag) : Sp := fun vs H Q _ => ∃ (a : Addr) (ns : List Int) (k : Nat), vs = [.ref a, .int k] ∧ SqL K H a (ns.map V.int) ∧ ∀ p x y z, H p = none → Q (.ref p) (upd H p (.lst [.int x, .int y, .int z]))
def sp_roll : Sp := fun vs H Q _ => ∃ (a : Addr) (t : Int), vs = [.ref a, .int t] ∧ Dc a H ∧ 0 < t ∧ t < 1000000000 ∧ ∀ r H', Mv a H H' → 0 ≤ r → r < t → Q (.int r) H'
def sp_pick (K : PySem.W.Frag) : Sp := fun vs H Q _ => ∃ (a b : Addr) (xs : List V), vs = [.ref a, .ref b] ∧ Dc a H ∧ b ≠ a ∧ SqL K H b xs ∧ 0 < xs.length ∧ xs.length < 1000000000 ∧ ∀ v H', Mv a H H' → v ∈ xs → Q v H'
/-! ### data stays data -/
mutual
theorem Dp.same {K : PySem.W.Frag} {H H' : Hp} (s : Same H H') : ∀ {d : PyData} {v : V}, Dp K H v d → Dp K H' v d
  | _, _, .non => .non
  | _, _, .bl b => .bl b
  | _, _, .int i => .int i
  | _, _, .str x => .str x
  | _, _, .lst h r => .lst (by
      rcases h with (h | ⟨o, h⟩) | h
      · exact .inl (.inl (s _ _ h))
      · exact .inl (.inr ⟨o, s _ _ h⟩)
      · exact .inr h) (DpAll.same s r)
  | _, _, .tup h r => .tup (by
      rcases h with (h | ⟨o, h⟩) | h
      · exact .inl (.inl (s _ _ h))
      · exact .inl (.inr ⟨o, s _ _ h⟩)
      · exact .inr h) (DpAll.same s r)
theorem DpAll.same {K : PySem.W.Frag} {H H' : Hp} (s : Same H H') : ∀ {ds : List PyData} {vs : List V}, DpAll K H vs ds → DpAll K H' vs ds
  | _, _, .nil => .nil
  | _, _, .cons h r => .cons (Dp.same s h) (DpAll.same s r)
end
theorem Dr.same {K : PySem.W.Frag} {H H' : Hp} {d : PyData} {v : V} (s : Same H H') (h : Dr K H v d) : Dr K H' v d := by
  rcases h with h | ⟨a, rfl, ha, rfl⟩
  · exact .inl (Dp.same s h)
  · exact .inr ⟨a, rfl, s _ _ ha, rfl⟩
/-- data that may be told by repr -/
def Told (K : PySem.W.Frag) (H : Hp) (v : V) : Prop := ∃ d, Dr K H v d ∧ d.showable = true ∧ d.depth ≤ 60 ∧ d.shown.length ≤ sizeLine
theorem Told.same {K : PySem.W.Frag} {H H' : Hp} {v : V} (s : Same H H') (h : Told K H v) : Told K H' v := by
  obtain ⟨d, h1, h2⟩ := h
  exact ⟨d, Dr.same s h1, h2⟩
/-! ### the promises -/
def sp_first (l : List Addr) : Sp := fun vs H Q E => ∃ n : Nat, vs = [.int n] ∧ n < 12 ∧ E (.ref (l.getD n 0)) none H
def fields : List Str := ["index", "value", "name", "wanted", "limit", "reason"]
def sp_keep (l : List Addr) : Sp := fun vs H Q E => ∃ (n : Nat) (v : V), vs = [.int n, v] ∧ n < 6 ∧ ∀ d, H d = none → E (.ref (l.getD (12 + n) 0)) (some d) (upd H d (.xd [(fields.getD n "", v)]))
def sp_caught : Sp := fun vs H Q _ => ∃ n : Nat, vs = [.int n] ∧ n < 12 ∧ Q (.int n) H
def sp_isfirst : Sp := fun vs H Q _ => ∃ n : Nat, vs = [.int n] ∧ n < 12 ∧ Q (.bl true) H
def sp_kept : Sp := fun vs H Q _ => ∃ (n : Nat) (v : V), vs = [.int n, v] ∧ n < 6 ∧ ∀ p H', Same H H' → H' p = some (.tup [.int n, v]) → Q (.ref p) H'
def sp_kfirst : Sp := fun vs H Q _ => ∃ n : Nat, vs = [.int n] ∧ n < 6 ∧ ∀ H', Same H H' → Q (.bl (n == 0)) H'
def sp_right : Sp := fun vs H Q _ => ∃ a : Addr, vs = [.ref a] ∧ Dc a H ∧ ∀ H', Mv a H H' → Q (.bl true) H'
theorem same_upd {H : Hp} {d : Addr} {o : HO} (h : H d = none) : Same H (upd H d o) := fun a u e => by rw [upd_ne (ne_of_none e h)]; exact e
theorem below12 {n : Nat} (h : n < 12) : n = 0 ∨ n = 1 ∨ n = 2 ∨ n = 3 ∨ n = 4 ∨ n = 5 ∨ n = 6 ∨ n = 7 ∨ n = 8 ∨ n = 9 ∨ n = 10 ∨ n = 11 := by omega
theorem below6 {n : Nat} (h : n < 6) : n = 0 ∨ n = 1 ∨ n = 2 ∨ n = 3 ∨ n = 4 ∨ n = 5 := by omega
structure Txt (K : PySem.W.Frag) (mg : Str → Option Value) where
  f__law_dice : Addr
  fd__law_dice : FuncData
  F__law_dice : Fun K "_law_dice" "_law_dice" s__law_dice f__law_dice fd__law_dice
  b__law_dice : Binds K fd__law_dice ["_law_script", "_law_spot"] []
  g__law_dice : mg "_law_dice" = some (.ref f__law_dice)
  f__law_roll : Addr
  fd__law_roll : FuncData
  F__law_roll : Fun K "_law_roll" "_law_roll" s__law_roll f__law_roll fd__law_roll
  b__law_roll : Binds K fd__law_roll ["_law_dice_here", "_law_total"] []
  g__law_roll : mg "_law_roll" = some (.ref f__law_roll)
  f__law_raise_first : Addr
  fd__law_raise_first : FuncData
  F__law_raise_first : Fun K "_law_raise_first" "_law_raise_first" s__law_raise_first f__law_raise_first fd__law_raise_first
  b__law_raise_first : Binds K fd__law_raise_first ["_law_number"] []
  g__law_raise_first : mg "_law_raise_first" = some (.ref f__law_raise_first)
  f__law_raise_kept : Addr
  fd__law_raise_kept : FuncData
  F__law_raise_kept : Fun K "_law_raise_kept" "_law_raise_kept" s__law_raise_kept f__law_raise_kept fd__law_raise_kept
  b__law_raise_kept : Binds K fd__law_raise_kept ["_law_number", "_law_value"] []
  g__law_raise_kept : mg "_law_raise_kept" = some (.ref f__law_raise_kept)
  f__law_pick : Addr
  fd__law_pick : FuncData
  F__law_pick : Fun K "_law_pick" "_law_pick" s__law_pick f__law_pick fd__law_pick
  b__law_pick : Binds K fd__law_pick ["_law_dice_here", "_law_items"] []
  g__law_pick : mg "_law_pick" = some (.ref f__law_pick)
  f__law_caught : Addr
  fd__law_caught : FuncData
  F__law_caught : Fun K "_law_caught" "_law_caught" s__law_caught f__law_caught fd__law_caught
  b__law_caught : Binds K fd__law_caught ["_law_number"] []
  g__law_caught : mg "_law_caught" = some (.ref f__law_caught)
  f__law_caught_back : Addr
  fd__law_caught_back : FuncData
  F__law_caught_back : Fun K "_law_caught_back" "_law_caught_back" s__law_caught_back f__law_caught_back fd__law_caught_back
  b__law_caught_back : Binds K fd__law_caught_back ["_law_number"] []
  g__law_caught_back : mg "_law_caught_back" = some (.ref f__law_caught_back)
  f__law_kept : Addr
  fd__law_kept : FuncData
  F__law_kept : Fun K "_law_kept" "_law_kept" s__law_kept f__law_kept fd__law_kept
  b__law_kept : Binds K fd__law_kept ["_law_number", "_law_value"] []
  g__law_kept : mg "_law_kept" = some (.ref f__law_kept)
  f__law_is_first : Addr
  fd__law_is_first : FuncData
  F__law_is_first : Fun K "_law_is_first" "_law_is_first" s__law_is_first f__law_is_first fd__law_is_first
  b__law_is_first : Binds K fd__law_is_first ["_law_number"] []
  g__law_is_first : mg "_law_is_first" = some (.ref f__law_is_first)
  f__law_kept_first : Addr
  fd__law_kept_first : FuncData
  F__law_kept_first : Fun K "_law_kept_first" "_law_kept_first" s__law_kept_first f__law_kept_first fd__law_kept_first
  b__law_kept_first : Binds K fd__law_kept_first ["_law_number"] []
  g__law_kept_first : mg "_law_kept_first" = some (.ref f__law_kept_first)
  f__law_right : Addr
  fd__law_right : FuncData
  F__law_right : Fun K "_law_right" "_law_right" s__law_right f__law_right fd__law_right
  b__law_right : Binds K fd__law_right ["_law_dice_here"] []
  g__law_right : mg "_law_right" = some (.ref f__law_right)
  f_law : Addr
  fd_law : FuncData
  F_law : Fun K "law" "law" s_law f_law fd_law
  b_law : Binds K fd_law ["_law_script"] []
  g_law : mg "law" = some (.ref f_law)
  z_abs : mg "abs" = none
  z_int : mg "int" = none
  z_max : mg "max" = none
  z_len : mg "len" = none
  z_range : mg "range" = none
  z_repr : mg "repr" = none
  z_min : mg "min" = none
  c_InvalidPrime : Addr
  g_InvalidPrime : mg "InvalidPrime" = some (.ref c_InvalidPrime)
  x_InvalidPrime : PySem.W.excIn K c_InvalidPrime [.type "ValueError", .type "Exception", .type "BaseException", .type "object"] "ValueError.__new__" = true
  k_InvalidPrime : PySem.W.keepIn K (.ref c_InvalidPrime) = true
  s_InvalidPrime : PySem.W.subIn K (.ref c_InvalidPrime) (.type "BaseException") = some true
  t_InvalidPrime : PySem.W.typeIn K (.ref c_InvalidPrime) = some (.type "type")
  c_InvalidPoly : Addr
  g_InvalidPoly : mg "InvalidPoly" = some (.ref c_InvalidPoly)
  x_InvalidPoly : PySem.W.excIn K c_InvalidPoly [.type "ValueError", .type "Exception", .type "BaseException", .type "object"] "ValueError.__new__" = true
  k_InvalidPoly : PySem.W.keepIn K (.ref c_InvalidPoly) = true
  s_InvalidPoly : PySem.W.subIn K (.ref c_InvalidPoly) (.type "BaseException") = some true
  t_InvalidPoly : PySem.W.typeIn K (.ref c_InvalidPoly) = some (.type "type")
  c_InvalidField : Addr
  g_InvalidField : mg "InvalidField" = some (.ref c_InvalidField)
  x_InvalidField : PySem.W.excIn K c_InvalidField [.type "ValueError", .type "Exception", .type "BaseException", .type "object"] "ValueError.__new__" = true
  k_InvalidField : PySem.W.keepIn K (.ref c_InvalidField) = true
  s_InvalidField : PySem.W.subIn K (.ref c_InvalidField) (.type "BaseException") = some true
  t_InvalidField : PySem.W.typeIn K (.ref c_InvalidField) = some (.type "type")
  c_InvalidCurve : Addr
  g_InvalidCurve : mg "InvalidCurve" = some (.ref c_InvalidCurve)
  x_InvalidCurve : PySem.W.excIn K c_InvalidCurve [.type "ValueError", .type "Exception", .type "BaseException", .type "object"] "ValueError.__new__" = true
  k_InvalidCurve : PySem.W.keepIn K (.ref c_InvalidCurve) = true
  s_InvalidCurve : PySem.W.subIn K (.ref c_InvalidCurve) (.type "BaseException") = some true
  t_InvalidCurve : PySem.W.typeIn K (.ref c_InvalidCurve) = some (.type "type")
  c_InvalidPlace : Addr
  g_InvalidPlace : mg "InvalidPlace" = some (.ref c_InvalidPlace)
  x_InvalidPlace : PySem.W.excIn K c_InvalidPlace [.type "ValueError", .type "Exception", .type "BaseException", .type "object"] "ValueError.__new__" = true
  k_InvalidPlace : PySem.W.keepIn K (.ref c_InvalidPlace) = true
  s_InvalidPlace : PySem.W.subIn K (.ref c_InvalidPlace) (.type "BaseException") = some true
  t_InvalidPlace : PySem.W.typeIn K (.ref c_InvalidPlace) = some (.type "type")
  c_InvalidChange : Addr
  g_InvalidChange : mg "InvalidChange" = some (.ref c_InvalidChange)
  x_InvalidChange : PySem.W.excIn K c_InvalidChange [.type "ValueError", .type "Exception", .type "BaseException", .type "object"] "ValueError.__new__" = true
  k_InvalidChange : PySem.W.keepIn K (.ref c_InvalidChange) = true
  s_InvalidChange : PySem.W.subIn K (.ref c_InvalidChange) (.type "BaseException") = some true
  t_InvalidChange : PySem.W.typeIn K (.ref c_InvalidChange) = some (.type "type")
  c_InvalidFunction : Addr
  g_InvalidFunction : mg "InvalidFunction" = some (.ref c_InvalidFunction)
  x_InvalidFunction : PySem.W.excIn K c_InvalidFunction [.type "ValueError", .type "Exception", .type "BaseException", .type "object"] "ValueError.__new__" = true
  k_InvalidFunction : PySem.W.keepIn K (.ref c_InvalidFunction) = true
  s_InvalidFunction : PySem.W.subIn K (.ref c_InvalidFunction) (.type "BaseException") = some true
  t_InvalidFunction : PySem.W.typeIn K (.ref c_InvalidFunction) = some (.type "type")
  c_InvalidDivisor : Addr
  g_InvalidDivisor : mg "InvalidDivisor" = some (.ref c_InvalidDivisor)
  x_InvalidDivisor : PySem.W.excIn K c_InvalidDivisor [.type "ValueError", .type "Exception", .type "BaseException", .type "object"] "ValueError.__new__" = true
  k_InvalidDivisor : PySem.W.keepIn K (.ref c_InvalidDivisor) = true
  s_InvalidDivisor : PySem.W.subIn K (.ref c_InvalidDivisor) (.type "BaseException") = some true
  t_InvalidDivisor : PySem.W.typeIn K (.ref c_InvalidDivisor) = some (.type "type")
  c_InvalidTriple : Addr
  g_InvalidTriple : mg "InvalidTriple" = some (.ref c_InvalidTriple)
  x_InvalidTriple : PySem.W.excIn K c_InvalidTriple [.type "ValueError", .type "Exception", .type "BaseException", .type "object"] "ValueError.__new__" = true
  k_InvalidTriple : PySem.W.keepIn K (.ref c_InvalidTriple) = true
  s_InvalidTriple : PySem.W.subIn K (.ref c_InvalidTriple) (.type "BaseException") = some true
  t_InvalidTriple : PySem.W.typeIn K (.ref c_InvalidTriple) = some (.type "type")
  c_InvalidPaper : Addr
  g_InvalidPaper : mg "InvalidPaper" = some (.ref c_InvalidPaper)
  x_InvalidPaper : PySem.W.excIn K c_InvalidPaper [.type "ValueError", .type "Exception", .type "BaseException", .type "object"] "ValueError.__new__" = true
  k_InvalidPaper : PySem.W.keepIn K (.ref c_InvalidPaper) = true
  s_InvalidPaper : PySem.W.subIn K (.ref c_InvalidPaper) (.type "BaseException") = some true
  t_InvalidPaper : PySem.W.typeIn K (.ref c_InvalidPaper) = some (.type "type")
  c_InvalidCode : Addr
  g_InvalidCode : mg "InvalidCode" = some (.ref c_InvalidCode)
  x_InvalidCode : PySem.W.excIn K c_InvalidCode [.type "ValueError", .type "Exception", .type "BaseException", .type "object"] "ValueError.__new__" = true
  k_InvalidCode : PySem.W.keepIn K (.ref c_InvalidCode) = true
  s_InvalidCode : PySem.W.subIn K (.ref c_InvalidCode) (.type "BaseException") = some true
  t_InvalidCode : PySem.W.typeIn K (.ref c_InvalidCode) = some (.type "type")
  c_InvalidOperation : Addr
  g_InvalidOperation : mg "InvalidOperation" = some (.ref c_InvalidOperation)
  x_InvalidOperation : PySem.W.excIn K c_InvalidOperation [.type "ValueError", .type "Exception", .type "BaseException", .type "object"] "ValueError.__new__" = true
  k_InvalidOperation : PySem.W.keepIn K (.ref c_InvalidOperation) = true
  s_InvalidOperation : PySem.W.subIn K (.ref c_InvalidOperation) (.type "BaseException") = some true
  t_InvalidOperation : PySem.W.typeIn K (.ref c_InvalidOperation) = some (.type "type")
  c_CurveError : Addr
  g_CurveError : mg "CurveError" = some (.ref c_CurveError)
  c_ParseError : Addr
  i_ParseError : Addr
  k_ParseError : PySem.ERR.ParseError.Txt K mg c_ParseError i_ParseError
  c_InvalidCount : Addr
  i_InvalidCount : Addr
  k_InvalidCount : PySem.ERR.InvalidCount.Txt K mg c_InvalidCount i_InvalidCount
  c_UnknownName : Addr
  i_UnknownName : Addr
  k_UnknownName : PySem.ERR.UnknownName.Txt K mg c_UnknownName i_UnknownName
  c_NothingToUndo : Addr
  i_NothingToUndo : Addr
  k_NothingToUndo : PySem.ERR.NothingToUndo.Txt K mg c_NothingToUndo i_NothingToUndo
  c_TooMany : Addr
  i_TooMany : Addr
  k_TooMany : PySem.ERR.TooMany.Txt K mg c_TooMany i_TooMany
  c_Refused : Addr
  i_Refused : Addr
  k_Refused : PySem.ERR.Refused.Txt K mg c_Refused i_Refused
  tab : exTab K [c_InvalidPrime, c_InvalidPoly, c_InvalidField, c_InvalidCurve, c_InvalidPlace, c_InvalidChange, c_InvalidFunction, c_InvalidDivisor, c_InvalidTriple, c_InvalidPaper, c_InvalidCode, c_InvalidOperation, c_ParseError, c_InvalidCount, c_UnknownName, c_NothingToUndo, c_TooMany, c_Refused, c_CurveError] = true
abbrev N__law_dice : List Str := ["_law_script", "_law_spot", "_law_cell", "_law_left"]
theorem sc__law_dice : FnScope N__law_dice ["_law_script", "_law_spot"] (defScope s__law_dice) := ⟨rfl, rfl, rfl, by decide +kernel, rfl, by decide +kernel, by decide +kernel⟩
section
variable {P : Program} {w : World} {K : PySem.W.Frag} {mg : Str → Option Value} {base : Heap}
theorem ok__law_dice (T : Txt K mg) : FnOk P w K mg base CX0 1 T.f__law_dice T.fd__law_dice ["_law_script", "_law_spot"] (sp_dice K) := by
  refine T.F__law_dice.ok sc__law_dice (fun vs H Q E h => ?_) (fun cdv A outer s H vs Q E hr h => ?_)
  · obtain ⟨a, ns, k, rfl, hS, q⟩ := h
    rfl
  · obtain ⟨a, ns, k, rfl, hS, q⟩ := h
    refine ⟨_, (pss_cons (ps_set (i := 2) sc__law_dice.nd rfl (Or.inl rfl) (pe_ifExp (pt_cmpR op_lt (pv 1) (pe_callB call_len (by rfl) T.z_len (by decide +kernel) (pa_cons (pv 0) pa_nil)) (nomark _)) (pe_callTy call_int1 (by rfl) T.z_int (by decide +kernel) (pa_cons (pe_ix ix_list (pv 0) (pv 1) (fun _ _ => rfl)) pa_nil)) (pe_op op_add (pe_op op_mul pe_int (pv 1)) pe_int)))
      (pss_cons (ps_set (i := 3) sc__law_dice.nd rfl (Or.inl rfl) (pe_op op_mod (pe_callB (call_max2 rfl) (by rfl) T.z_max (by decide +kernel) (pa_cons pe_int (pa_cons (pe_op op_sub (pe_callB call_abs (by rfl) T.z_abs (by decide +kernel) (pa_cons (pv 2) pa_nil)) (pe_op op_pow pe_int pe_int)) pa_nil))) (pe_op op_mulW (pe_op op_pow pe_int pe_int) (pe_op op_pow pe_int pe_int))))
      (pss_one (ps_ret (pe_lst (pa_cons (pv 3) (pa_cons (pe_op op_add (pe_op op_add (pe_op op_add (pe_op op_mul (pe_op op_mod (pe_callB call_abs (by rfl) T.z_abs (by decide +kernel) (pa_cons (pv 2) pa_nil)) pe_int) pe_int) (pe_op op_mul pe_int (pv 1))) (pe_op op_mul pe_int (pe_callTy call_int1 (by rfl) T.z_int (by decide +kernel) (pa_cons (pe_cmpR op_lt (pv 2) pe_int (nomark _)) pa_nil)))) pe_int) (pa_cons pe_int pa_nil)))))))), ?_⟩
    refine ⟨_, rfl, _, rfl, _, _, rfl, .inl ⟨_, hS, rfl⟩, _, _, rfl, rfl, _, rfl, ?_⟩
    rw [List.length_map]
    refine ite2 (fun c => ?_) (fun c => ?_)
    · have hk : k < ns.length := by have := of_decide_eq_true c; omega
      refine ⟨_, rfl, _, rfl, a, _, _, .int ns[k], rfl, rfl, hS, atI_nat (by rw [List.getElem?_map, List.getElem?_eq_getElem hk]; rfl), .inl ⟨_, rfl, ?_⟩⟩
      refine ⟨_, rfl, _, rfl, _, _, rfl, rfl, ⟨by decide, by decide, by decide⟩, _, _, rfl, rfl, _, _, rfl, _, _, rfl, rfl, ⟨by decide, by decide, by decide⟩, _, _, rfl, rfl, ⟨by decide, by decide, by decide⟩, _, _, rfl, rfl, (show (Int.natAbs _).log2 + (Int.natAbs _).log2 < 1000000 by decide +kernel), _, _, rfl, rfl, (show (0 : Int) < _ by decide +kernel), ?_⟩
      refine ⟨_, rfl, _, rfl, _, rfl, _, _, rfl, rfl, (show (0 : Int) < _ by decide), _, _, rfl, rfl, .inr ⟨by decide, by decide⟩, _, rfl, _, _, rfl, rfl, .inl ⟨by decide, by decide⟩, _, _, rfl, rfl, _, rfl, _, _, rfl, rfl, .inr ⟨_, rfl, _, _, rfl, rfl, .inl ⟨by decide, by decide⟩, _, _, rfl, rfl, _, _, rfl, rfl, (by show 3 ≤ sizeLine; decide), fun p hp => q p _ _ _ hp⟩⟩
    · refine ⟨_, rfl, _, _, rfl, rfl, .inl ⟨by decide, by decide⟩, _, _, rfl, rfl, ?_⟩
      refine ⟨_, rfl, _, rfl, _, _, rfl, rfl, ⟨by decide, by decide, by decide⟩, _, _, rfl, rfl, _, _, rfl, _, _, rfl, rfl, ⟨by decide, by decide, by decide⟩, _, _, rfl, rfl, ⟨by decide, by decide, by decide⟩, _, _, rfl, rfl, (show (Int.natAbs _).log2 + (Int.natAbs _).log2 < 1000000 by decide +kernel), _, _, rfl, rfl, (show (0 : Int) < _ by decide +kernel), ?_⟩
      refine ⟨_, rfl, _, rfl, _, rfl, _, _, rfl, rfl, (show (0 : Int) < _ by decide), _, _, rfl, rfl, .inr ⟨by decide, by decide⟩, _, rfl, _, _, rfl, rfl, .inl ⟨by decide, by decide⟩, _, _, rfl, rfl, _, rfl, _, _, rfl, rfl, .inr ⟨_, rfl, _, _, rfl, rfl, .inl ⟨by decide, by decide⟩, _, _, rfl, rfl, _, _, rfl, rfl, (by show 3 ≤ sizeLine; decide), fun p hp => q p _ _ _ hp⟩⟩
end
abbrev N__law_roll : List Str := ["_law_dice_here", "_law_total", "_law_found", "_law_one", "_law_two"]
theorem sc__law_roll : FnScope N__law_roll ["_law_dice_here", "_law_total"] (defScope s__law_roll) := ⟨rfl, rfl, rfl, by decide +kernel, rfl, by decide +kernel, by decide +kernel⟩
section
variable {P : Program} {w : World} {K : PySem.W.Frag} {mg : Str → Option Value} {base : Heap}
theorem ok__law_roll (T : Txt K mg) : FnOk P w K mg base CX0 1 T.f__law_roll T.fd__law_roll ["_law_dice_here", "_law_total"] (sp_roll) := by
  refine T.F__law_roll.ok sc__law_roll (fun vs H Q E h => ?_) (fun cdv A outer s H vs Q E hr h => ?_)
  · obtain ⟨a, t, rfl, ⟨x, y, z, hd⟩, h0, h1, q⟩ := h
    rfl
  · obtain ⟨a, t, rfl, ⟨x, y, z, hd⟩, h0, h1, q⟩ := h
    refine ⟨_, (pss_cons (ps_if (pt_cmpR op_gt (pe_ix ix_list (pv 0) pe_int (fun _ _ => rfl)) pe_int (nomark _)) (pss_cons (ps_set (i := 2) sc__law_roll.nd rfl (Or.inl rfl) (pe_op op_mod (pe_callTy call_int1 (by rfl) T.z_int (by decide +kernel) (pa_cons (pe_ix ix_list (pv 0) pe_int (fun _ _ => rfl)) pa_nil)) (pv 1)))
      (pss_cons (ps_asg (pe_op op_fdivN (pe_ix ix_list (pv 0) pe_int (fun _ _ => rfl)) (pv 1)) (pg_sub (pv 0) pe_int set_list))
      (pss_one (ps_ret (pv 2))))) pss_nil)
      (pss_cons (ps_asg (pe_op op_add (pe_ix ix_list (pv 0) pe_int (fun _ _ => rfl)) pe_int) (pg_sub (pv 0) pe_int set_list))
      (pss_cons (ps_set (i := 3) sc__law_roll.nd rfl (Or.inl rfl) (pe_op op_mod (pe_callTy call_int1 (by rfl) T.z_int (by decide +kernel) (pa_cons (pe_op op_add (pe_ix ix_list (pv 0) pe_int (fun _ _ => rfl)) (pe_op op_mul pe_int (pe_ix ix_list (pv 0) pe_int (fun _ _ => rfl)))) pa_nil)) pe_int))
      (pss_cons (ps_set (i := 4) sc__law_roll.nd rfl (Or.inl rfl) (pe_op op_add (pe_op op_mul (pe_op op_mod (pe_callTy call_int1 (by rfl) T.z_int (by decide +kernel) (pa_cons (pe_op op_add (pe_op op_mul (pv 3) (pv 3)) (pe_op op_mul pe_int (pe_ix ix_list (pv 0) pe_int (fun _ _ => rfl)))) pa_nil)) pe_int) pe_int) (pv 3)))
      (pss_one (ps_ret (pe_op op_mod (pe_callTy call_int1 (by rfl) T.z_int (by decide +kernel) (pa_cons (pe_op op_fdivN (pv 4) pe_int) pa_nil)) (pv 1)))))))), ?_⟩
    refine ⟨_, rfl, _, _, _, _, rfl, rfl, SqL.of hd, rfl, _, _, rfl, rfl, _, rfl, ?_⟩
    refine ite2 (fun c => ?_) (fun c => ?_)
    · refine ⟨_, rfl, _, _, _, _, rfl, rfl, SqL.of hd, rfl, .inl ⟨_, rfl, _, rfl, _, _, rfl, rfl, h0, ?_⟩⟩
      refine ⟨_, rfl, _, _, _, _, rfl, rfl, SqL.of hd, rfl, _, rfl, _, _, rfl, rfl, ⟨by omega, by omega⟩, _, rfl, _, _, _, _, rfl, rfl, hd, rfl, ?_⟩
      exact ⟨_, rfl, q _ _ (Mv.roll _ _ _) (Int.emod_nonneg _ (by omega)) (Int.emod_lt_of_pos _ h0)⟩
    · refine ⟨_, rfl, _, _, _, _, rfl, rfl, SqL.of hd, rfl, _, _, rfl, rfl, _, rfl, _, _, _, _, rfl, rfl, hd, rfl, ?_⟩
      refine ⟨_, rfl, _, _, _, _, rfl, rfl, SqL.of upd_same, rfl, _, rfl, _, _, _, _, rfl, rfl, SqL.of upd_same, rfl, _, _, rfl, rfl, .inl ⟨by decide, by decide⟩, _, _, rfl, rfl, .inl ⟨_, rfl, _, _, rfl, rfl, (show (0 : Int) < _ by decide), ?_⟩⟩
      refine ⟨_, rfl, _, rfl, _, _, rfl, rfl, .inl ⟨by omega, by omega⟩, _, rfl, _, _, _, _, rfl, rfl, SqL.of upd_same, rfl, _, _, rfl, rfl, .inl ⟨by decide, by decide⟩, _, _, rfl, rfl, .inl ⟨_, rfl, _, _, rfl, rfl, (show (0 : Int) < _ by decide), _, _, rfl, rfl, .inr ⟨by decide, by decide⟩, _, rfl, _, _, rfl, rfl, ?_⟩⟩
      exact ⟨_, rfl, _, _, rfl, rfl, ⟨by decide, by decide⟩, .inl ⟨_, rfl, _, rfl, _, _, rfl, rfl, h0, q _ _ (Mv.roll _ _ _) (Int.emod_nonneg _ (by omega)) (Int.emod_lt_of_pos _ h0)⟩⟩
end
abbrev N__law_raise_first : List Str := ["_law_number"]
theorem sc__law_raise_first : FnScope N__law_raise_first ["_law_number"] (defScope s__law_raise_first) := ⟨rfl, rfl, rfl, by decide +kernel, rfl, by decide +kernel, by decide +kernel⟩
section
variable {P : Program} {w : World} {K : PySem.W.Frag} {mg : Str → Option Value} {base : Heap}
theorem ok__law_raise_first (T : Txt K mg) : FnOk P w K mg base (L2.CX P w) 1 T.f__law_raise_first T.fd__law_raise_first ["_law_number"] (sp_first [T.c_InvalidPrime, T.c_InvalidPoly, T.c_InvalidField, T.c_InvalidCurve, T.c_InvalidPlace, T.c_InvalidChange, T.c_InvalidFunction, T.c_InvalidDivisor, T.c_InvalidTriple, T.c_InvalidPaper, T.c_InvalidCode, T.c_InvalidOperation, T.c_ParseError, T.c_InvalidCount, T.c_UnknownName, T.c_NothingToUndo, T.c_TooMany, T.c_Refused, T.c_CurveError]) := by
  refine T.F__law_raise_first.okX sc__law_raise_first (fun vs H Q E h => ?_) (fun cdv A outer s H vs Q E hr h => ?_)
  · obtain ⟨n, rfl, hn, q⟩ := h
    rfl
  · obtain ⟨n, rfl, hn, q⟩ := h
    refine ⟨_, (pss_cons (ps_if (pt_cmpR op_eq (pv 0) pe_int (nomark _)) (pss_one (ps_raise rfl (takes_of rfl rfl rfl rfl) (pmk_own PySem.F.excBase_ValueError T.x_InvalidPrime T.g_InvalidPrime T.k_InvalidPrime (raises_own T.s_InvalidPrime T.t_InvalidPrime) (by rfl)))) pss_nil)
      (pss_cons (ps_if (pt_cmpR op_eq (pv 0) pe_int (nomark _)) (pss_one (ps_raise rfl (takes_of rfl rfl rfl rfl) (pmk_own PySem.F.excBase_ValueError T.x_InvalidPoly T.g_InvalidPoly T.k_InvalidPoly (raises_own T.s_InvalidPoly T.t_InvalidPoly) (by rfl)))) pss_nil)
      (pss_cons (ps_if (pt_cmpR op_eq (pv 0) pe_int (nomark _)) (pss_one (ps_raise rfl (takes_of rfl rfl rfl rfl) (pmk_own PySem.F.excBase_ValueError T.x_InvalidField T.g_InvalidField T.k_InvalidField (raises_own T.s_InvalidField T.t_InvalidField) (by rfl)))) pss_nil)
      (pss_cons (ps_if (pt_cmpR op_eq (pv 0) pe_int (nomark _)) (pss_one (ps_raise rfl (takes_of rfl rfl rfl rfl) (pmk_own PySem.F.excBase_ValueError T.x_InvalidCurve T.g_InvalidCurve T.k_InvalidCurve (raises_own T.s_InvalidCurve T.t_InvalidCurve) (by rfl)))) pss_nil)
      (pss_cons (ps_if (pt_cmpR op_eq (pv 0) pe_int (nomark _)) (pss_one (ps_raise rfl (takes_of rfl rfl rfl rfl) (pmk_own PySem.F.excBase_ValueError T.x_InvalidPlace T.g_InvalidPlace T.k_InvalidPlace (raises_own T.s_InvalidPlace T.t_InvalidPlace) (by rfl)))) pss_nil)
      (pss_cons (ps_if (pt_cmpR op_eq (pv 0) pe_int (nomark _)) (pss_one (ps_raise rfl (takes_of rfl rfl rfl rfl) (pmk_own PySem.F.excBase_ValueError T.x_InvalidChange T.g_InvalidChange T.k_InvalidChange (raises_own T.s_InvalidChange T.t_InvalidChange) (by rfl)))) pss_nil)
      (pss_cons (ps_if (pt_cmpR op_eq (pv 0) pe_int (nomark _)) (pss_one (ps_raise rfl (takes_of rfl rfl rfl rfl) (pmk_own PySem.F.excBase_ValueError T.x_InvalidFunction T.g_InvalidFunction T.k_InvalidFunction (raises_own T.s_InvalidFunction T.t_InvalidFunction) (by rfl)))) pss_nil)
      (pss_cons (ps_if (pt_cmpR op_eq (pv 0) pe_int (nomark _)) (pss_one (ps_raise rfl (takes_of rfl rfl rfl rfl) (pmk_own PySem.F.excBase_ValueError T.x_InvalidDivisor T.g_InvalidDivisor T.k_InvalidDivisor (raises_own T.s_InvalidDivisor T.t_InvalidDivisor) (by rfl)))) pss_nil)
      (pss_cons (ps_if (pt_cmpR op_eq (pv 0) pe_int (nomark _)) (pss_one (ps_raise rfl (takes_of rfl rfl rfl rfl) (pmk_own PySem.F.excBase_ValueError T.x_InvalidTriple T.g_InvalidTriple T.k_InvalidTriple (raises_own T.s_InvalidTriple T.t_InvalidTriple) (by rfl)))) pss_nil)
      (pss_cons (ps_if (pt_cmpR op_eq (pv 0) pe_int (nomark _)) (pss_one (ps_raise rfl (takes_of rfl rfl rfl rfl) (pmk_own PySem.F.excBase_ValueError T.x_InvalidPaper T.g_InvalidPaper T.k_InvalidPaper (raises_own T.s_InvalidPaper T.t_InvalidPaper) (by rfl)))) pss_nil)
      (pss_cons (ps_if (pt_cmpR op_eq (pv 0) pe_int (nomark _)) (pss_one (ps_raise rfl (takes_of rfl rfl rfl rfl) (pmk_own PySem.F.excBase_ValueError T.x_InvalidCode T.g_InvalidCode T.k_InvalidCode (raises_own T.s_InvalidCode T.t_InvalidCode) (by rfl)))) pss_nil)
      (pss_one (ps_raise rfl (takes_of rfl rfl rfl rfl) (pmk_own PySem.F.excBase_ValueError T.x_InvalidOperation T.g_InvalidOperation T.k_InvalidOperation (raises_own T.s_InvalidOperation T.t_InvalidOperation) (by rfl))))))))))))))), ?_⟩
    rcases below12 hn with rfl | rfl | rfl | rfl | rfl | rfl | rfl | rfl | rfl | rfl | rfl | rfl
    · exact ⟨_, rfl, rfl, _, rfl, iteT q⟩
    · exact ⟨_, rfl, rfl, _, rfl, iteF ⟨_, rfl, rfl, _, rfl, iteT q⟩⟩
    · exact ⟨_, rfl, rfl, _, rfl, iteF ⟨_, rfl, rfl, _, rfl, iteF ⟨_, rfl, rfl, _, rfl, iteT q⟩⟩⟩
    · exact ⟨_, rfl, rfl, _, rfl, iteF ⟨_, rfl, rfl, _, rfl, iteF ⟨_, rfl, rfl, _, rfl, iteF ⟨_, rfl, rfl, _, rfl, iteT q⟩⟩⟩⟩
    · exact ⟨_, rfl, rfl, _, rfl, iteF ⟨_, rfl, rfl, _, rfl, iteF ⟨_, rfl, rfl, _, rfl, iteF ⟨_, rfl, rfl, _, rfl, iteF ⟨_, rfl, rfl, _, rfl, iteT q⟩⟩⟩⟩⟩
    · exact ⟨_, rfl, rfl, _, rfl, iteF ⟨_, rfl, rfl, _, rfl, iteF ⟨_, rfl, rfl, _, rfl, iteF ⟨_, rfl, rfl, _, rfl, iteF ⟨_, rfl, rfl, _, rfl, iteF ⟨_, rfl, rfl, _, rfl, iteT q⟩⟩⟩⟩⟩⟩
    · exact ⟨_, rfl, rfl, _, rfl, iteF ⟨_, rfl, rfl, _, rfl, iteF ⟨_, rfl, rfl, _, rfl, iteF ⟨_, rfl, rfl, _, rfl, iteF ⟨_, rfl, rfl, _, rfl, iteF ⟨_, rfl, rfl, _, rfl, iteF ⟨_, rfl, rfl, _, rfl, iteT q⟩⟩⟩⟩⟩⟩⟩
    · exact ⟨_, rfl, rfl, _, rfl, iteF ⟨_, rfl, rfl, _, rfl, iteF ⟨_, rfl, rfl, _, rfl, iteF ⟨_, rfl, rfl, _, rfl, iteF ⟨_, rfl, rfl, _, rfl, iteF ⟨_, rfl, rfl, _, rfl, iteF ⟨_, rfl, rfl, _, rfl, iteF ⟨_, rfl, rfl, _, rfl, iteT q⟩⟩⟩⟩⟩⟩⟩⟩
    · exact ⟨_, rfl, rfl, _, rfl, iteF ⟨_, rfl, rfl, _, rfl, iteF ⟨_, rfl, rfl, _, rfl, iteF ⟨_, rfl, rfl, _, rfl, iteF ⟨_, rfl, rfl, _, rfl, iteF ⟨_, rfl, rfl, _, rfl, iteF ⟨_, rfl, rfl, _, rfl, iteF ⟨_, rfl, rfl, _, rfl, iteF ⟨_, rfl, rfl, _, rfl, iteT q⟩⟩⟩⟩⟩⟩⟩⟩⟩
    · exact ⟨_, rfl, rfl, _, rfl, iteF ⟨_, rfl, rfl, _, rfl, iteF ⟨_, rfl, rfl, _, rfl, iteF ⟨_, rfl, rfl, _, rfl, iteF ⟨_, rfl, rfl, _, rfl, iteF ⟨_, rfl, rfl, _, rfl, iteF ⟨_, rfl, rfl, _, rfl, iteF ⟨_, rfl, rfl, _, rfl, iteF ⟨_, rfl, rfl, _, rfl, iteF ⟨_, rfl, rfl, _, rfl, iteT q⟩⟩⟩⟩⟩⟩⟩⟩⟩⟩
    · exact ⟨_, rfl, rfl, _, rfl, iteF ⟨_, rfl, rfl, _, rfl, iteF ⟨_, rfl, rfl, _, rfl, iteF ⟨_, rfl, rfl, _, rfl, iteF ⟨_, rfl, rfl, _, rfl, iteF ⟨_, rfl, rfl, _, rfl, iteF ⟨_, rfl, rfl, _, rfl, iteF ⟨_, rfl, rfl, _, rfl, iteF ⟨_, rfl, rfl, _, rfl, iteF ⟨_, rfl, rfl, _, rfl, iteF ⟨_, rfl, rfl, _, rfl, iteT q⟩⟩⟩⟩⟩⟩⟩⟩⟩⟩⟩
    · exact ⟨_, rfl, rfl, _, rfl, iteF ⟨_, rfl, rfl, _, rfl, iteF ⟨_, rfl, rfl, _, rfl, iteF ⟨_, rfl, rfl, _, rfl, iteF ⟨_, rfl, rfl, _, rfl, iteF ⟨_, rfl, rfl, _, rfl, iteF ⟨_, rfl, rfl, _, rfl, iteF ⟨_, rfl, rfl, _, rfl, iteF ⟨_, rfl, rfl, _, rfl, iteF ⟨_, rfl, rfl, _, rfl, iteF ⟨_, rfl, rfl, _, rfl, iteF q⟩⟩⟩⟩⟩⟩⟩⟩⟩⟩⟩
end
abbrev N__law_raise_kept : List Str := ["_law_number", "_law_value"]
theorem sc__law_raise_kept : FnScope N__law_raise_kept ["_law_number", "_law_value"] (defScope s__law_raise_kept) := ⟨rfl, rfl, rfl, by decide +kernel, rfl, by decide +kernel, by decide +kernel⟩
section
variable {P : Program} {w : World} {K : PySem.W.Frag} {mg : Str → Option Value} {base : Heap}
theorem ok__law_raise_kept (T : Txt K mg) : FnOk P w K mg base (L2.CX P w) 1 T.f__law_raise_kept T.fd__law_raise_kept ["_law_number", "_law_value"] (sp_keep [T.c_InvalidPrime, T.c_InvalidPoly, T.c_InvalidField, T.c_InvalidCurve, T.c_InvalidPlace, T.c_InvalidChange, T.c_InvalidFunction, T.c_InvalidDivisor, T.c_InvalidTriple, T.c_InvalidPaper, T.c_InvalidCode, T.c_InvalidOperation, T.c_ParseError, T.c_InvalidCount, T.c_UnknownName, T.c_NothingToUndo, T.c_TooMany, T.c_Refused, T.c_CurveError]) := by
  refine T.F__law_raise_kept.okX sc__law_raise_kept (fun vs H Q E h => ?_) (fun cdv A outer s H vs Q E hr h => ?_)
  · obtain ⟨n, v, rfl, hn, q⟩ := h
    rfl
  · obtain ⟨n, v, rfl, hn, q⟩ := h
    refine ⟨_, (pss_cons (ps_if (pt_cmpR op_eq (pv 0) pe_int (nomark _)) (pss_one (ps_raise rfl (takes_of rfl rfl rfl rfl) (EParseError.pmk T.k_ParseError (hr.mono (Nat.zero_le _)) (pa_cons (pv 1) pa_nil)))) pss_nil)
      (pss_cons (ps_if (pt_cmpR op_eq (pv 0) pe_int (nomark _)) (pss_one (ps_raise rfl (takes_of rfl rfl rfl rfl) (EInvalidCount.pmk T.k_InvalidCount (hr.mono (Nat.zero_le _)) (pa_cons (pv 1) pa_nil)))) pss_nil)
      (pss_cons (ps_if (pt_cmpR op_eq (pv 0) pe_int (nomark _)) (pss_one (ps_raise rfl (takes_of rfl rfl rfl rfl) (EUnknownName.pmk T.k_UnknownName (hr.mono (Nat.zero_le _)) (pa_cons (pv 1) pa_nil)))) pss_nil)
      (pss_cons (ps_if (pt_cmpR op_eq (pv 0) pe_int (nomark _)) (pss_one (ps_raise rfl (takes_of rfl rfl rfl rfl) (ENothingToUndo.pmk T.k_NothingToUndo (hr.mono (Nat.zero_le _)) (pa_cons (pv 1) pa_nil)))) pss_nil)
      (pss_cons (ps_if (pt_cmpR op_eq (pv 0) pe_int (nomark _)) (pss_one (ps_raise rfl (takes_of rfl rfl rfl rfl) (ETooMany.pmk T.k_TooMany (hr.mono (Nat.zero_le _)) (pa_cons (pv 1) pa_nil)))) pss_nil)
      (pss_one (ps_raise rfl (takes_of rfl rfl rfl rfl) (ERefused.pmk T.k_Refused (hr.mono (Nat.zero_le _)) (pa_cons (pv 1) pa_nil))))))))), ?_⟩
    rcases below6 hn with rfl | rfl | rfl | rfl | rfl | rfl
    · exact ⟨_, rfl, rfl, _, rfl, iteT ⟨v, rfl, v, rfl, q⟩⟩
    · exact ⟨_, rfl, rfl, _, rfl, iteF ⟨_, rfl, rfl, _, rfl, iteT ⟨v, rfl, v, rfl, q⟩⟩⟩
    · exact ⟨_, rfl, rfl, _, rfl, iteF ⟨_, rfl, rfl, _, rfl, iteF ⟨_, rfl, rfl, _, rfl, iteT ⟨v, rfl, v, rfl, q⟩⟩⟩⟩
    · exact ⟨_, rfl, rfl, _, rfl, iteF ⟨_, rfl, rfl, _, rfl, iteF ⟨_, rfl, rfl, _, rfl, iteF ⟨_, rfl, rfl, _, rfl, iteT ⟨v, rfl, v, rfl, q⟩⟩⟩⟩⟩
    · exact ⟨_, rfl, rfl, _, rfl, iteF ⟨_, rfl, rfl, _, rfl, iteF ⟨_, rfl, rfl, _, rfl, iteF ⟨_, rfl, rfl, _, rfl, iteF ⟨_, rfl, rfl, _, rfl, iteT ⟨v, rfl, v, rfl, q⟩⟩⟩⟩⟩⟩
    · exact ⟨_, rfl, rfl, _, rfl, iteF ⟨_, rfl, rfl, _, rfl, iteF ⟨_, rfl, rfl, _, rfl, iteF ⟨_, rfl, rfl, _, rfl, iteF ⟨_, rfl, rfl, _, rfl, iteF ⟨v, rfl, v, rfl, q⟩⟩⟩⟩⟩⟩
end
abbrev N__law_pick : List Str := ["_law_dice_here", "_law_items"]
theorem sc__law_pick : FnScope N__law_pick ["_law_dice_here", "_law_items"] (defScope s__law_pick) := ⟨rfl, rfl, rfl, by decide +kernel, rfl, by decide +kernel, by decide +kernel⟩
section
variable {P : Program} {w : World} {K : PySem.W.Frag} {mg : Str → Option Value} {base : Heap}
theorem ok__law_pick (T : Txt K mg) : FnOk P w K mg base CX0 2 T.f__law_pick T.fd__law_pick ["_law_dice_here", "_law_items"] (sp_pick K) := by
  refine T.F__law_pick.ok sc__law_pick (fun vs H Q E h => ?_) (fun cdv A outer s H vs Q E hr h => ?_)
  · obtain ⟨a, b, xs, rfl, hd, ne, hS, h0, h1, q⟩ := h
    rfl
  · obtain ⟨a, b, xs, rfl, hd, ne, hS, h0, h1, q⟩ := h
    refine ⟨_, (pss_one (ps_ret (pe_ix ix_list (pv 1) (pe_call (ok__law_roll T) (hr.mono (by decide)) (by rfl) T.g__law_roll T.F__law_roll.kp T.b__law_roll .nil pass0 (pa_cons (pv 0) (pa_cons (pe_callB call_len (by rfl) T.z_len (by decide +kernel) (pa_cons (pv 1) pa_nil)) pa_nil))) (fun _ _ => rfl)))), ?_⟩
    refine ⟨_, rfl, _, rfl, _, rfl, _, _, rfl, .inl ⟨_, hS, rfl⟩, a, _, rfl, hd, by omega, by omega, fun r H' m r0 r1 => ?_⟩
    have hi : r.toNat < xs.length := by omega
    have hr' : atI xs r = some xs[r.toNat] := by
      have e : (r.toNat : Int) = r := by omega
      have g := atI_nat (List.getElem?_eq_getElem hi)
      rw [e] at g
      exact g
    exact ⟨b, xs, r, _, rfl, rfl, m.seq ne hS, hr', q _ _ m (List.getElem_mem hi)⟩
end
abbrev N__law_caught : List Str := ["_law_number"]
theorem sc__law_caught : FnScope N__law_caught ["_law_number"] (defScope s__law_caught) := ⟨rfl, rfl, rfl, by decide +kernel, rfl, by decide +kernel, by decide +kernel⟩
section
variable {P : Program} {w : World} {K : PySem.W.Frag} {mg : Str → Option Value} {base : Heap}
theorem ok__law_caught (T : Txt K mg) : FnOk P w K mg base CX0 2 T.f__law_caught T.fd__law_caught ["_law_number"] (sp_caught) := by
  refine T.F__law_caught.ok sc__law_caught (fun vs H Q E h => ?_) (fun cdv A outer s H vs Q E hr h => ?_)
  · obtain ⟨n, rfl, hn, q⟩ := h
    rfl
  · obtain ⟨n, rfl, hn, q⟩ := h
    refine ⟨_, (pss_one (ps_try_mix rfl rfl sc__law_caught.nd takes0 (fun W pn xe tk _ => (pss_one (ps_expr (pe_callS (ok__law_raise_first T) (hr.mono (by decide)) (by rfl) T.g__law_raise_first T.F__law_raise_first.kp T.b__law_raise_first (fun σ => passAt tk σ) (pa_cons (pv 0) pa_nil))))) (.bare ⟨rfl, by decide, .inl T.g_InvalidPrime⟩ (fun a oe cls d pn hz hf => (pss_one (ps_ret pe_int)))
        (.bare ⟨rfl, by decide, .inl T.g_InvalidPoly⟩ (fun a oe cls d pn hz hf => (pss_one (ps_ret pe_int)))
        (.bare ⟨rfl, by decide, .inl T.g_InvalidField⟩ (fun a oe cls d pn hz hf => (pss_one (ps_ret pe_int)))
        (.bare ⟨rfl, by decide, .inl T.g_InvalidCurve⟩ (fun a oe cls d pn hz hf => (pss_one (ps_ret pe_int)))
        (.bare ⟨rfl, by decide, .inl T.g_InvalidPlace⟩ (fun a oe cls d pn hz hf => (pss_one (ps_ret pe_int)))
        (.bare ⟨rfl, by decide, .inl T.g_InvalidChange⟩ (fun a oe cls d pn hz hf => (pss_one (ps_ret pe_int)))
        (.bare ⟨rfl, by decide, .inl T.g_InvalidFunction⟩ (fun a oe cls d pn hz hf => (pss_one (ps_ret pe_int)))
        (.bare ⟨rfl, by decide, .inl T.g_InvalidDivisor⟩ (fun a oe cls d pn hz hf => (pss_one (ps_ret pe_int)))
        (.bare ⟨rfl, by decide, .inl T.g_InvalidTriple⟩ (fun a oe cls d pn hz hf => (pss_one (ps_ret pe_int)))
        (.bare ⟨rfl, by decide, .inl T.g_InvalidPaper⟩ (fun a oe cls d pn hz hf => (pss_one (ps_ret pe_int)))
        (.bare ⟨rfl, by decide, .inl T.g_InvalidCode⟩ (fun a oe cls d pn hz hf => (pss_one (ps_ret pe_int)))
        (.bare ⟨rfl, by decide, .inl T.g_InvalidOperation⟩ (fun a oe cls d pn hz hf => (pss_one (ps_ret pe_int)))
        .nil)))))))))))))), ?_⟩
    refine ⟨_, rfl, n, rfl, hn, ?_⟩
    rcases below12 hn with rfl | rfl | rfl | rfl | rfl | rfl | rfl | rfl | rfl | rfl | rfl | rfl
    · exact ⟨true, exm_tab T.tab (i := 0) (j := 0) (by decide) (by decide), fun _ a0 n0 => q, fun z => Bool.noConfusion z⟩
    · exact ⟨false, exm_tab T.tab (i := 1) (j := 0) (by decide) (by decide), fun z => Bool.noConfusion z, fun _ => ⟨true, exm_tab T.tab (i := 1) (j := 1) (by decide) (by decide), fun _ a0 n0 => q, fun z => Bool.noConfusion z⟩⟩
    · exact ⟨false, exm_tab T.tab (i := 2) (j := 0) (by decide) (by decide), fun z => Bool.noConfusion z, fun _ => ⟨false, exm_tab T.tab (i := 2) (j := 1) (by decide) (by decide), fun z => Bool.noConfusion z, fun _ => ⟨true, exm_tab T.tab (i := 2) (j := 2) (by decide) (by decide), fun _ a0 n0 => q, fun z => Bool.noConfusion z⟩⟩⟩
    · exact ⟨false, exm_tab T.tab (i := 3) (j := 0) (by decide) (by decide), fun z => Bool.noConfusion z, fun _ => ⟨false, exm_tab T.tab (i := 3) (j := 1) (by decide) (by decide), fun z => Bool.noConfusion z, fun _ => ⟨false, exm_tab T.tab (i := 3) (j := 2) (by decide) (by decide), fun z => Bool.noConfusion z, fun _ => ⟨true, exm_tab T.tab (i := 3) (j := 3) (by decide) (by decide), fun _ a0 n0 => q, fun z => Bool.noConfusion z⟩⟩⟩⟩
    · exact ⟨false, exm_tab T.tab (i := 4) (j := 0) (by decide) (by decide), fun z => Bool.noConfusion z, fun _ => ⟨false, exm_tab T.tab (i := 4) (j := 1) (by decide) (by decide), fun z => Bool.noConfusion z, fun _ => ⟨false, exm_tab T.tab (i := 4) (j := 2) (by decide) (by decide), fun z => Bool.noConfusion z, fun _ => ⟨false, exm_tab T.tab (i := 4) (j := 3) (by decide) (by decide), fun z => Bool.noConfusion z, fun _ => ⟨true, exm_tab T.tab (i := 4) (j := 4) (by decide) (by decide), fun _ a0 n0 => q, fun z => Bool.noConfusion z⟩⟩⟩⟩⟩
    · exact ⟨false, exm_tab T.tab (i := 5) (j := 0) (by decide) (by decide), fun z => Bool.noConfusion z, fun _ => ⟨false, exm_tab T.tab (i := 5) (j := 1) (by decide) (by decide), fun z => Bool.noConfusion z, fun _ => ⟨false, exm_tab T.tab (i := 5) (j := 2) (by decide) (by decide), fun z => Bool.noConfusion z, fun _ => ⟨false, exm_tab T.tab (i := 5) (j := 3) (by decide) (by decide), fun z => Bool.noConfusion z, fun _ => ⟨false, exm_tab T.tab (i := 5) (j := 4) (by decide) (by decide), fun z => Bool.noConfusion z, fun _ => ⟨true, exm_tab T.tab (i := 5) (j := 5) (by decide) (by decide), fun _ a0 n0 => q, fun z => Bool.noConfusion z⟩⟩⟩⟩⟩⟩
    · exact ⟨false, exm_tab T.tab (i := 6) (j := 0) (by decide) (by decide), fun z => Bool.noConfusion z, fun _ => ⟨false, exm_tab T.tab (i := 6) (j := 1) (by decide) (by decide), fun z => Bool.noConfusion z, fun _ => ⟨false, exm_tab T.tab (i := 6) (j := 2) (by decide) (by decide), fun z => Bool.noConfusion z, fun _ => ⟨false, exm_tab T.tab (i := 6) (j := 3) (by decide) (by decide), fun z => Bool.noConfusion z, fun _ => ⟨false, exm_tab T.tab (i := 6) (j := 4) (by decide) (by decide), fun z => Bool.noConfusion z, fun _ => ⟨false, exm_tab T.tab (i := 6) (j := 5) (by decide) (by decide), fun z => Bool.noConfusion z, fun _ => ⟨true, exm_tab T.tab (i := 6) (j := 6) (by decide) (by decide), fun _ a0 n0 => q, fun z => Bool.noConfusion z⟩⟩⟩⟩⟩⟩⟩
    · exact ⟨false, exm_tab T.tab (i := 7) (j := 0) (by decide) (by decide), fun z => Bool.noConfusion z, fun _ => ⟨false, exm_tab T.tab (i := 7) (j := 1) (by decide) (by decide), fun z => Bool.noConfusion z, fun _ => ⟨false, exm_tab T.tab (i := 7) (j := 2) (by decide) (by decide), fun z => Bool.noConfusion z, fun _ => ⟨false, exm_tab T.tab (i := 7) (j := 3) (by decide) (by decide), fun z => Bool.noConfusion z, fun _ => ⟨false, exm_tab T.tab (i := 7) (j := 4) (by decide) (by decide), fun z => Bool.noConfusion z, fun _ => ⟨false, exm_tab T.tab (i := 7) (j := 5) (by decide) (by decide), fun z => Bool.noConfusion z, fun _ => ⟨false, exm_tab T.tab (i := 7) (j := 6) (by decide) (by decide), fun z => Bool.noConfusion z, fun _ => ⟨true, exm_tab T.tab (i := 7) (j := 7) (by decide) (by decide), fun _ a0 n0 => q, fun z => Bool.noConfusion z⟩⟩⟩⟩⟩⟩⟩⟩
    · exact ⟨false, exm_tab T.tab (i := 8) (j := 0) (by decide) (by decide), fun z => Bool.noConfusion z, fun _ => ⟨false, exm_tab T.tab (i := 8) (j := 1) (by decide) (by decide), fun z => Bool.noConfusion z, fun _ => ⟨false, exm_tab T.tab (i := 8) (j := 2) (by decide) (by decide), fun z => Bool.noConfusion z, fun _ => ⟨false, exm_tab T.tab (i := 8) (j := 3) (by decide) (by decide), fun z => Bool.noConfusion z, fun _ => ⟨false, exm_tab T.tab (i := 8) (j := 4) (by decide) (by decide), fun z => Bool.noConfusion z, fun _ => ⟨false, exm_tab T.tab (i := 8) (j := 5) (by decide) (by decide), fun z => Bool.noConfusion z, fun _ => ⟨false, exm_tab T.tab (i := 8) (j := 6) (by decide) (by decide), fun z => Bool.noConfusion z, fun _ => ⟨false, exm_tab T.tab (i := 8) (j := 7) (by decide) (by decide), fun z => Bool.noConfusion z, fun _ => ⟨true, exm_tab T.tab (i := 8) (j := 8) (by decide) (by decide), fun _ a0 n0 => q, fun z => Bool.noConfusion z⟩⟩⟩⟩⟩⟩⟩⟩⟩
    · exact ⟨false, exm_tab T.tab (i := 9) (j := 0) (by decide) (by decide), fun z => Bool.noConfusion z, fun _ => ⟨false, exm_tab T.tab (i := 9) (j := 1) (by decide) (by decide), fun z => Bool.noConfusion z, fun _ => ⟨false, exm_tab T.tab (i := 9) (j := 2) (by decide) (by decide), fun z => Bool.noConfusion z, fun _ => ⟨false, exm_tab T.tab (i := 9) (j := 3) (by decide) (by decide), fun z => Bool.noConfusion z, fun _ => ⟨false, exm_tab T.tab (i := 9) (j := 4) (by decide) (by decide), fun z => Bool.noConfusion z, fun _ => ⟨false, exm_tab T.tab (i := 9) (j := 5) (by decide) (by decide), fun z => Bool.noConfusion z, fun _ => ⟨false, exm_tab T.tab (i := 9) (j := 6) (by decide) (by decide), fun z => Bool.noConfusion z, fun _ => ⟨false, exm_tab T.tab (i := 9) (j := 7) (by decide) (by decide), fun z => Bool.noConfusion z, fun _ => ⟨false, exm_tab T.tab (i := 9) (j := 8) (by decide) (by decide), fun z => Bool.noConfusion z, fun _ => ⟨true, exm_tab T.tab (i := 9) (j := 9) (by decide) (by decide), fun _ a0 n0 => q, fun z => Bool.noConfusion z⟩⟩⟩⟩⟩⟩⟩⟩⟩⟩
    · exact ⟨false, exm_tab T.tab (i := 10) (j := 0) (by decide) (by decide), fun z => Bool.noConfusion z, fun _ => ⟨false, exm_tab T.tab (i := 10) (j := 1) (by decide) (by decide), fun z => Bool.noConfusion z, fun _ => ⟨false, exm_tab T.tab (i := 10) (j := 2) (by decide) (by decide), fun z => Bool.noConfusion z, fun _ => ⟨false, exm_tab T.tab (i := 10) (j := 3) (by decide) (by decide), fun z => Bool.noConfusion z, fun _ => ⟨false, exm_tab T.tab (i := 10) (j := 4) (by decide) (by decide), fun z => Bool.noConfusion z, fun _ => ⟨false, exm_tab T.tab (i := 10) (j := 5) (by decide) (by decide), fun z => Bool.noConfusion z, fun _ => ⟨false, exm_tab T.tab (i := 10) (j := 6) (by decide) (by decide), fun z => Bool.noConfusion z, fun _ => ⟨false, exm_tab T.tab (i := 10) (j := 7) (by decide) (by decide), fun z => Bool.noConfusion z, fun _ => ⟨false, exm_tab T.tab (i := 10) (j := 8) (by decide) (by decide), fun z => Bool.noConfusion z, fun _ => ⟨false, exm_tab T.tab (i := 10) (j := 9) (by decide) (by decide), fun z => Bool.noConfusion z, fun _ => ⟨true, exm_tab T.tab (i := 10) (j := 10) (by decide) (by decide), fun _ a0 n0 => q, fun z => Bool.noConfusion z⟩⟩⟩⟩⟩⟩⟩⟩⟩⟩⟩
    · exact ⟨false, exm_tab T.tab (i := 11) (j := 0) (by decide) (by decide), fun z => Bool.noConfusion z, fun _ => ⟨false, exm_tab T.tab (i := 11) (j := 1) (by decide) (by decide), fun z => Bool.noConfusion z, fun _ => ⟨false, exm_tab T.tab (i := 11) (j := 2) (by decide) (by decide), fun z => Bool.noConfusion z, fun _ => ⟨false, exm_tab T.tab (i := 11) (j := 3) (by decide) (by decide), fun z => Bool.noConfusion z, fun _ => ⟨false, exm_tab T.tab (i := 11) (j := 4) (by decide) (by decide), fun z => Bool.noConfusion z, fun _ => ⟨false, exm_tab T.tab (i := 11) (j := 5) (by decide) (by decide), fun z => Bool.noConfusion z, fun _ => ⟨false, exm_tab T.tab (i := 11) (j := 6) (by decide) (by decide), fun z => Bool.noConfusion z, fun _ => ⟨false, exm_tab T.tab (i := 11) (j := 7) (by decide) (by decide), fun z => Bool.noConfusion z, fun _ => ⟨false, exm_tab T.tab (i := 11) (j := 8) (by decide) (by decide), fun z => Bool.noConfusion z, fun _ => ⟨false, exm_tab T.tab (i := 11) (j := 9) (by decide) (by decide), fun z => Bool.noConfusion z, fun _ => ⟨false, exm_tab T.tab (i := 11) (j := 10) (by decide) (by decide), fun z => Bool.noConfusion z, fun _ => ⟨true, exm_tab T.tab (i := 11) (j := 11) (by decide) (by decide), fun _ a0 n0 => q, fun z => Bool.noConfusion z⟩⟩⟩⟩⟩⟩⟩⟩⟩⟩⟩⟩
end
abbrev N__law_caught_back : List Str := ["_law_number"]
theorem sc__law_caught_back : FnScope N__law_caught_back ["_law_number"] (defScope s__law_caught_back) := ⟨rfl, rfl, rfl, by decide +kernel, rfl, by decide +kernel, by decide +kernel⟩
section
variable {P : Program} {w : World} {K : PySem.W.Frag} {mg : Str → Option Value} {base : Heap}
theorem ok__law_caught_back (T : Txt K mg) : FnOk P w K mg base CX0 2 T.f__law_caught_back T.fd__law_caught_back ["_law_number"] (sp_caught) := by
  refine T.F__law_caught_back.ok sc__law_caught_back (fun vs H Q E h => ?_) (fun cdv A outer s H vs Q E hr h => ?_)
  · obtain ⟨n, rfl, hn, q⟩ := h
    rfl
  · obtain ⟨n, rfl, hn, q⟩ := h
    refine ⟨_, (pss_one (ps_try_mix rfl rfl sc__law_caught_back.nd takes0 (fun W pn xe tk _ => (pss_one (ps_expr (pe_callS (ok__law_raise_first T) (hr.mono (by decide)) (by rfl) T.g__law_raise_first T.F__law_raise_first.kp T.b__law_raise_first (fun σ => passAt tk σ) (pa_cons (pv 0) pa_nil))))) (.bare ⟨rfl, by decide, .inl T.k_ParseError.gC⟩ (fun a oe cls d pn hz hf => (pss_one (ps_ret (pe_un un_neg pe_int))))
        (.bare ⟨rfl, by decide, .inl T.g_InvalidOperation⟩ (fun a oe cls d pn hz hf => (pss_one (ps_ret pe_int)))
        (.bare ⟨rfl, by decide, .inl T.g_InvalidCode⟩ (fun a oe cls d pn hz hf => (pss_one (ps_ret pe_int)))
        (.bare ⟨rfl, by decide, .inl T.g_InvalidPaper⟩ (fun a oe cls d pn hz hf => (pss_one (ps_ret pe_int)))
        (.bare ⟨rfl, by decide, .inl T.g_InvalidTriple⟩ (fun a oe cls d pn hz hf => (pss_one (ps_ret pe_int)))
        (.bare ⟨rfl, by decide, .inl T.g_InvalidDivisor⟩ (fun a oe cls d pn hz hf => (pss_one (ps_ret pe_int)))
        (.bare ⟨rfl, by decide, .inl T.g_InvalidFunction⟩ (fun a oe cls d pn hz hf => (pss_one (ps_ret pe_int)))
        (.bare ⟨rfl, by decide, .inl T.g_InvalidChange⟩ (fun a oe cls d pn hz hf => (pss_one (ps_ret pe_int)))
        (.bare ⟨rfl, by decide, .inl T.g_InvalidPlace⟩ (fun a oe cls d pn hz hf => (pss_one (ps_ret pe_int)))
        (.bare ⟨rfl, by decide, .inl T.g_InvalidCurve⟩ (fun a oe cls d pn hz hf => (pss_one (ps_ret pe_int)))
        (.bare ⟨rfl, by decide, .inl T.g_InvalidField⟩ (fun a oe cls d pn hz hf => (pss_one (ps_ret pe_int)))
        (.bare ⟨rfl, by decide, .inl T.g_InvalidPoly⟩ (fun a oe cls d pn hz hf => (pss_one (ps_ret pe_int)))
        (.bare ⟨rfl, by decide, .inl T.g_InvalidPrime⟩ (fun a oe cls d pn hz hf => (pss_one (ps_ret pe_int)))
        .nil))))))))))))))), ?_⟩
    refine ⟨_, rfl, n, rfl, hn, ?_⟩
    rcases below12 hn with rfl | rfl | rfl | rfl | rfl | rfl | rfl | rfl | rfl | rfl | rfl | rfl
    · exact ⟨false, exm_tab T.tab (i := 0) (j := 12) (by decide) (by decide), fun z => Bool.noConfusion z, fun _ => ⟨false, exm_tab T.tab (i := 0) (j := 11) (by decide) (by decide), fun z => Bool.noConfusion z, fun _ => ⟨false, exm_tab T.tab (i := 0) (j := 10) (by decide) (by decide), fun z => Bool.noConfusion z, fun _ => ⟨false, exm_tab T.tab (i := 0) (j := 9) (by decide) (by decide), fun z => Bool.noConfusion z, fun _ => ⟨false, exm_tab T.tab (i := 0) (j := 8) (by decide) (by decide), fun z => Bool.noConfusion z, fun _ => ⟨false, exm_tab T.tab (i := 0) (j := 7) (by decide) (by decide), fun z => Bool.noConfusion z, fun _ => ⟨false, exm_tab T.tab (i := 0) (j := 6) (by decide) (by decide), fun z => Bool.noConfusion z, fun _ => ⟨false, exm_tab T.tab (i := 0) (j := 5) (by decide) (by decide), fun z => Bool.noConfusion z, fun _ => ⟨false, exm_tab T.tab (i := 0) (j := 4) (by decide) (by decide), fun z => Bool.noConfusion z, fun _ => ⟨false, exm_tab T.tab (i := 0) (j := 3) (by decide) (by decide), fun z => Bool.noConfusion z, fun _ => ⟨false, exm_tab T.tab (i := 0) (j := 2) (by decide) (by decide), fun z => Bool.noConfusion z, fun _ => ⟨false, exm_tab T.tab (i := 0) (j := 1) (by decide) (by decide), fun z => Bool.noConfusion z, fun _ => ⟨true, exm_tab T.tab (i := 0) (j := 0) (by decide) (by decide), fun _ a0 n0 => q, fun z => Bool.noConfusion z⟩⟩⟩⟩⟩⟩⟩⟩⟩⟩⟩⟩⟩
    · exact ⟨false, exm_tab T.tab (i := 1) (j := 12) (by decide) (by decide), fun z => Bool.noConfusion z, fun _ => ⟨false, exm_tab T.tab (i := 1) (j := 11) (by decide) (by decide), fun z => Bool.noConfusion z, fun _ => ⟨false, exm_tab T.tab (i := 1) (j := 10) (by decide) (by decide), fun z => Bool.noConfusion z, fun _ => ⟨false, exm_tab T.tab (i := 1) (j := 9) (by decide) (by decide), fun z => Bool.noConfusion z, fun _ => ⟨false, exm_tab T.tab (i := 1) (j := 8) (by decide) (by decide), fun z => Bool.noConfusion z, fun _ => ⟨false, exm_tab T.tab (i := 1) (j := 7) (by decide) (by decide), fun z => Bool.noConfusion z, fun _ => ⟨false, exm_tab T.tab (i := 1) (j := 6) (by decide) (by decide), fun z => Bool.noConfusion z, fun _ => ⟨false, exm_tab T.tab (i := 1) (j := 5) (by decide) (by decide), fun z => Bool.noConfusion z, fun _ => ⟨false, exm_tab T.tab (i := 1) (j := 4) (by decide) (by decide), fun z => Bool.noConfusion z, fun _ => ⟨false, exm_tab T.tab (i := 1) (j := 3) (by decide) (by decide), fun z => Bool.noConfusion z, fun _ => ⟨false, exm_tab T.tab (i := 1) (j := 2) (by decide) (by decide), fun z => Bool.noConfusion z, fun _ => ⟨true, exm_tab T.tab (i := 1) (j := 1) (by decide) (by decide), fun _ a0 n0 => q, fun z => Bool.noConfusion z⟩⟩⟩⟩⟩⟩⟩⟩⟩⟩⟩⟩
    · exact ⟨false, exm_tab T.tab (i := 2) (j := 12) (by decide) (by decide), fun z => Bool.noConfusion z, fun _ => ⟨false, exm_tab T.tab (i := 2) (j := 11) (by decide) (by decide), fun z => Bool.noConfusion z, fun _ => ⟨false, exm_tab T.tab (i := 2) (j := 10) (by decide) (by decide), fun z => Bool.noConfusion z, fun _ => ⟨false, exm_tab T.tab (i := 2) (j := 9) (by decide) (by decide), fun z => Bool.noConfusion z, fun _ => ⟨false, exm_tab T.tab (i := 2) (j := 8) (by decide) (by decide), fun z => Bool.noConfusion z, fun _ => ⟨false, exm_tab T.tab (i := 2) (j := 7) (by decide) (by decide), fun z => Bool.noConfusion z, fun _ => ⟨false, exm_tab T.tab (i := 2) (j := 6) (by decide) (by decide), fun z => Bool.noConfusion z, fun _ => ⟨false, exm_tab T.tab (i := 2) (j := 5) (by decide) (by decide), fun z => Bool.noConfusion z, fun _ => ⟨false, exm_tab T.tab (i := 2) (j := 4) (by decide) (by decide), fun z => Bool.noConfusion z, fun _ => ⟨false, exm_tab T.tab (i := 2) (j := 3) (by decide) (by decide), fun z => Bool.noConfusion z, fun _ => ⟨true, exm_tab T.tab (i := 2) (j := 2) (by decide) (by decide), fun _ a0 n0 => q, fun z => Bool.noConfusion z⟩⟩⟩⟩⟩⟩⟩⟩⟩⟩⟩
    · exact ⟨false, exm_tab T.tab (i := 3) (j := 12) (by decide) (by decide), fun z => Bool.noConfusion z, fun _ => ⟨false, exm_tab T.tab (i := 3) (j := 11) (by decide) (by decide), fun z => Bool.noConfusion z, fun _ => ⟨false, exm_tab T.tab (i := 3) (j := 10) (by decide) (by decide), fun z => Bool.noConfusion z, fun _ => ⟨false, exm_tab T.tab (i := 3) (j := 9) (by decide) (by decide), fun z => Bool.noConfusion z, fun _ => ⟨false, exm_tab T.tab (i := 3) (j := 8) (by decide) (by decide), fun z => Bool.noConfusion z, fun _ => ⟨false, exm_tab T.tab (i := 3) (j := 7) (by decide) (by decide), fun z => Bool.noConfusion z, fun _ => ⟨false, exm_tab T.tab (i := 3) (j := 6) (by decide) (by decide), fun z => Bool.noConfusion z, fun _ => ⟨false, exm_tab T.tab (i := 3) (j := 5) (by decide) (by decide), fun z => Bool.noConfusion z, fun _ => ⟨false, exm_tab T.tab (i := 3) (j := 4) (by decide) (by decide), fun z => Bool.noConfusion z, fun _ => ⟨true, exm_tab T.tab (i := 3) (j := 3) (by decide) (by decide), fun _ a0 n0 => q, fun z => Bool.noConfusion z⟩⟩⟩⟩⟩⟩⟩⟩⟩⟩
    · exact ⟨false, exm_tab T.tab (i := 4) (j := 12) (by decide) (by decide), fun z => Bool.noConfusion z, fun _ => ⟨false, exm_tab T.tab (i := 4) (j := 11) (by decide) (by decide), fun z => Bool.noConfusion z, fun _ => ⟨false, exm_tab T.tab (i := 4) (j := 10) (by decide) (by decide), fun z => Bool.noConfusion z, fun _ => ⟨false, exm_tab T.tab (i := 4) (j := 9) (by decide) (by decide), fun z => Bool.noConfusion z, fun _ => ⟨false, exm_tab T.tab (i := 4) (j := 8) (by decide) (by decide), fun z => Bool.noConfusion z, fun _ => ⟨false, exm_tab T.tab (i := 4) (j := 7) (by decide) (by decide), fun z => Bool.noConfusion z, fun _ => ⟨false, exm_tab T.tab (i := 4) (j := 6) (by decide) (by decide), fun z => Bool.noConfusion z, fun _ => ⟨false, exm_tab T.tab (i := 4) (j := 5) (by decide) (by decide), fun z => Bool.noConfusion z, fun _ => ⟨true, exm_tab T.tab (i := 4) (j := 4) (by decide) (by decide), fun _ a0 n0 => q, fun z => Bool.noConfusion z⟩⟩⟩⟩⟩⟩⟩⟩⟩
    · exact ⟨false, exm_tab T.tab (i := 5) (j := 12) (by decide) (by decide), fun z => Bool.noConfusion z, fun _ => ⟨false, exm_tab T.tab (i := 5) (j := 11) (by decide) (by decide), fun z => Bool.noConfusion z, fun _ => ⟨false, exm_tab T.tab (i := 5) (j := 10) (by decide) (by decide), fun z => Bool.noConfusion z, fun _ => ⟨false, exm_tab T.tab (i := 5) (j := 9) (by decide) (by decide), fun z => Bool.noConfusion z, fun _ => ⟨false, exm_tab T.tab (i := 5) (j := 8) (by decide) (by decide), fun z => Bool.noConfusion z, fun _ => ⟨false, exm_tab T.tab (i := 5) (j := 7) (by decide) (by decide), fun z => Bool.noConfusion z, fun _ => ⟨false, exm_tab T.tab (i := 5) (j := 6) (by decide) (by decide), fun z => Bool.noConfusion z, fun _ => ⟨true, exm_tab T.tab (i := 5) (j := 5) (by decide) (by decide), fun _ a0 n0 => q, fun z => Bool.noConfusion z⟩⟩⟩⟩⟩⟩⟩⟩
    · exact ⟨false, exm_tab T.tab (i := 6) (j := 12) (by decide) (by decide), fun z => Bool.noConfusion z, fun _ => ⟨false, exm_tab T.tab (i := 6) (j := 11) (by decide) (by decide), fun z => Bool.noConfusion z, fun _ => ⟨false, exm_tab T.tab (i := 6) (j := 10) (by decide) (by decide), fun z => Bool.noConfusion z, fun _ => ⟨false, exm_tab T.tab (i := 6) (j := 9) (by decide) (by decide), fun z => Bool.noConfusion z, fun _ => ⟨false, exm_tab T.tab (i := 6) (j := 8) (by decide) (by decide), fun z => Bool.noConfusion z, fun _ => ⟨false, exm_tab T.tab (i := 6) (j := 7) (by decide) (by decide), fun z => Bool.noConfusion z, fun _ => ⟨true, exm_tab T.tab (i := 6) (j := 6) (by decide) (by decide), fun _ a0 n0 => q, fun z => Bool.noConfusion z⟩⟩⟩⟩⟩⟩⟩
    · exact ⟨false, exm_tab T.tab (i := 7) (j := 12) (by decide) (by decide), fun z => Bool.noConfusion z, fun _ => ⟨false, exm_tab T.tab (i := 7) (j := 11) (by decide) (by decide), fun z => Bool.noConfusion z, fun _ => ⟨false, exm_tab T.tab (i := 7) (j := 10) (by decide) (by decide), fun z => Bool.noConfusion z, fun _ => ⟨false, exm_tab T.tab (i := 7) (j := 9) (by decide) (by decide), fun z => Bool.noConfusion z, fun _ => ⟨false, exm_tab T.tab (i := 7) (j := 8) (by decide) (by decide), fun z => Bool.noConfusion z, fun _ => ⟨true, exm_tab T.tab (i := 7) (j := 7) (by decide) (by decide), fun _ a0 n0 => q, fun z => Bool.noConfusion z⟩⟩⟩⟩⟩⟩
    · exact ⟨false, exm_tab T.tab (i := 8) (j := 12) (by decide) (by decide), fun z => Bool.noConfusion z, fun _ => ⟨false, exm_tab T.tab (i := 8) (j := 11) (by decide) (by decide), fun z => Bool.noConfusion z, fun _ => ⟨false, exm_tab T.tab (i := 8) (j := 10) (by decide) (by decide), fun z => Bool.noConfusion z, fun _ => ⟨false, exm_tab T.tab (i := 8) (j := 9) (by decide) (by decide), fun z => Bool.noConfusion z, fun _ => ⟨true, exm_tab T.tab (i := 8) (j := 8) (by decide) (by decide), fun _ a0 n0 => q, fun z => Bool.noConfusion z⟩⟩⟩⟩⟩
    · exact ⟨false, exm_tab T.tab (i := 9) (j := 12) (by decide) (by decide), fun z => Bool.noConfusion z, fun _ => ⟨false, exm_tab T.tab (i := 9) (j := 11) (by decide) (by decide), fun z => Bool.noConfusion z, fun _ => ⟨false, exm_tab T.tab (i := 9) (j := 10) (by decide) (by decide), fun z => Bool.noConfusion z, fun _ => ⟨true, exm_tab T.tab (i := 9) (j := 9) (by decide) (by decide), fun _ a0 n0 => q, fun z => Bool.noConfusion z⟩⟩⟩⟩
    · exact ⟨false, exm_tab T.tab (i := 10) (j := 12) (by decide) (by decide), fun z => Bool.noConfusion z, fun _ => ⟨false, exm_tab T.tab (i := 10) (j := 11) (by decide) (by decide), fun z => Bool.noConfusion z, fun _ => ⟨true, exm_tab T.tab (i := 10) (j := 10) (by decide) (by decide), fun _ a0 n0 => q, fun z => Bool.noConfusion z⟩⟩⟩
    · exact ⟨false, exm_tab T.tab (i := 11) (j := 12) (by decide) (by decide), fun z => Bool.noConfusion z, fun _ => ⟨true, exm_tab T.tab (i := 11) (j := 11) (by decide) (by decide), fun _ a0 n0 => q, fun z => Bool.noConfusion z⟩⟩
end
abbrev N__law_kept : List Str := ["_law_number", "_law_value", "e"]
theorem sc__law_kept : FnScope N__law_kept ["_law_number", "_law_value"] (defScope s__law_kept) := ⟨rfl, rfl, rfl, by decide +kernel, rfl, by decide +kernel, by decide +kernel⟩
section
variable {P : Program} {w : World} {K : PySem.W.Frag} {mg : Str → Option Value} {base : Heap}
theorem ok__law_kept (T : Txt K mg) : FnOk P w K mg base CX0 2 T.f__law_kept T.fd__law_kept ["_law_number", "_law_value"] (sp_kept) := by
  refine T.F__law_kept.ok sc__law_kept (fun vs H Q E h => ?_) (fun cdv A outer s H vs Q E hr h => ?_)
  · obtain ⟨n, v, rfl, hn, q⟩ := h
    rfl
  · obtain ⟨n, v, rfl, hn, q⟩ := h
    refine ⟨_, (pss_one (ps_try_mix rfl rfl sc__law_kept.nd takes0 (fun W pn xe tk _ => (pss_one (ps_expr (pe_callS (ok__law_raise_kept T) (hr.mono (by decide)) (by rfl) T.g__law_raise_kept T.F__law_raise_kept.kp T.b__law_raise_kept (fun σ => passAt tk σ) (pa_cons (pv 0) (pa_cons (pv 1) pa_nil)))))) (.as (i := 2) rfl rfl ⟨rfl, by decide, .inl T.k_ParseError.gC⟩ (fun a oe cls d pn hz hf => (pss_one (ps_ret (pe_tup (pa_cons pe_int (pa_cons (pe_xf (EParseError.xf T.k_ParseError) T.k_ParseError.noN hz hf (pv 2)) pa_nil))))))
        (.as (i := 2) rfl rfl ⟨rfl, by decide, .inl T.k_InvalidCount.gC⟩ (fun a oe cls d pn hz hf => (pss_one (ps_ret (pe_tup (pa_cons pe_int (pa_cons (pe_xf (EInvalidCount.xf T.k_InvalidCount) T.k_InvalidCount.noN hz hf (pv 2)) pa_nil))))))
        (.as (i := 2) rfl rfl ⟨rfl, by decide, .inl T.k_UnknownName.gC⟩ (fun a oe cls d pn hz hf => (pss_one (ps_ret (pe_tup (pa_cons pe_int (pa_cons (pe_xf (EUnknownName.xf T.k_UnknownName) T.k_UnknownName.noN hz hf (pv 2)) pa_nil))))))
        (.as (i := 2) rfl rfl ⟨rfl, by decide, .inl T.k_NothingToUndo.gC⟩ (fun a oe cls d pn hz hf => (pss_one (ps_ret (pe_tup (pa_cons pe_int (pa_cons (pe_xf (ENothingToUndo.xf T.k_NothingToUndo) T.k_NothingToUndo.noN hz hf (pv 2)) pa_nil))))))
        (.as (i := 2) rfl rfl ⟨rfl, by decide, .inl T.k_TooMany.gC⟩ (fun a oe cls d pn hz hf => (pss_one (ps_ret (pe_tup (pa_cons pe_int (pa_cons (pe_xf (ETooMany.xf T.k_TooMany) T.k_TooMany.noN hz hf (pv 2)) pa_nil))))))
        (.as (i := 2) rfl rfl ⟨rfl, by decide, .inl T.k_Refused.gC⟩ (fun a oe cls d pn hz hf => (pss_one (ps_ret (pe_tup (pa_cons pe_int (pa_cons (pe_xf (ERefused.xf T.k_Refused) T.k_Refused.noN hz hf (pv 2)) pa_nil))))))
        .nil)))))))), ?_⟩
    refine ⟨_, rfl, v, rfl, n, v, rfl, hn, fun d hd => ?_⟩
    rcases below6 hn with rfl | rfl | rfl | rfl | rfl | rfl
    · exact ⟨true, exm_tab T.tab (i := 12) (j := 12) (by decide) (by decide), fun _ a0 n0 => ⟨_, rfl, rfl, rfl, d, _, v, rfl, upd_same, rfl, (by show 2 ≤ sizeLine; decide), fun p hp => q p _ (fun a o e => by rw [upd_ne (ne_of_none (same_upd hd a o e) hp)]; exact same_upd hd a o e) upd_same⟩, fun z => Bool.noConfusion z⟩
    · exact ⟨false, exm_tab T.tab (i := 13) (j := 12) (by decide) (by decide), fun z => Bool.noConfusion z, fun _ => ⟨true, exm_tab T.tab (i := 13) (j := 13) (by decide) (by decide), fun _ a0 n0 => ⟨_, rfl, rfl, rfl, d, _, v, rfl, upd_same, rfl, (by show 2 ≤ sizeLine; decide), fun p hp => q p _ (fun a o e => by rw [upd_ne (ne_of_none (same_upd hd a o e) hp)]; exact same_upd hd a o e) upd_same⟩, fun z => Bool.noConfusion z⟩⟩
    · exact ⟨false, exm_tab T.tab (i := 14) (j := 12) (by decide) (by decide), fun z => Bool.noConfusion z, fun _ => ⟨false, exm_tab T.tab (i := 14) (j := 13) (by decide) (by decide), fun z => Bool.noConfusion z, fun _ => ⟨true, exm_tab T.tab (i := 14) (j := 14) (by decide) (by decide), fun _ a0 n0 => ⟨_, rfl, rfl, rfl, d, _, v, rfl, upd_same, rfl, (by show 2 ≤ sizeLine; decide), fun p hp => q p _ (fun a o e => by rw [upd_ne (ne_of_none (same_upd hd a o e) hp)]; exact same_upd hd a o e) upd_same⟩, fun z => Bool.noConfusion z⟩⟩⟩
    · exact ⟨false, exm_tab T.tab (i := 15) (j := 12) (by decide) (by decide), fun z => Bool.noConfusion z, fun _ => ⟨false, exm_tab T.tab (i := 15) (j := 13) (by decide) (by decide), fun z => Bool.noConfusion z, fun _ => ⟨false, exm_tab T.tab (i := 15) (j := 14) (by decide) (by decide), fun z => Bool.noConfusion z, fun _ => ⟨true, exm_tab T.tab (i := 15) (j := 15) (by decide) (by decide), fun _ a0 n0 => ⟨_, rfl, rfl, rfl, d, _, v, rfl, upd_same, rfl, (by show 2 ≤ sizeLine; decide), fun p hp => q p _ (fun a o e => by rw [upd_ne (ne_of_none (same_upd hd a o e) hp)]; exact same_upd hd a o e) upd_same⟩, fun z => Bool.noConfusion z⟩⟩⟩⟩
    · exact ⟨false, exm_tab T.tab (i := 16) (j := 12) (by decide) (by decide), fun z => Bool.noConfusion z, fun _ => ⟨false, exm_tab T.tab (i := 16) (j := 13) (by decide) (by decide), fun z => Bool.noConfusion z, fun _ => ⟨false, exm_tab T.tab (i := 16) (j := 14) (by decide) (by decide), fun z => Bool.noConfusion z, fun _ => ⟨false, exm_tab T.tab (i := 16) (j := 15) (by decide) (by decide), fun z => Bool.noConfusion z, fun _ => ⟨true, exm_tab T.tab (i := 16) (j := 16) (by decide) (by decide), fun _ a0 n0 => ⟨_, rfl, rfl, rfl, d, _, v, rfl, upd_same, rfl, (by show 2 ≤ sizeLine; decide), fun p hp => q p _ (fun a o e => by rw [upd_ne (ne_of_none (same_upd hd a o e) hp)]; exact same_upd hd a o e) upd_same⟩, fun z => Bool.noConfusion z⟩⟩⟩⟩⟩
    · exact ⟨false, exm_tab T.tab (i := 17) (j := 12) (by decide) (by decide), fun z => Bool.noConfusion z, fun _ => ⟨false, exm_tab T.tab (i := 17) (j := 13) (by decide) (by decide), fun z => Bool.noConfusion z, fun _ => ⟨false, exm_tab T.tab (i := 17) (j := 14) (by decide) (by decide), fun z => Bool.noConfusion z, fun _ => ⟨false, exm_tab T.tab (i := 17) (j := 15) (by decide) (by decide), fun z => Bool.noConfusion z, fun _ => ⟨false, exm_tab T.tab (i := 17) (j := 16) (by decide) (by decide), fun z => Bool.noConfusion z, fun _ => ⟨true, exm_tab T.tab (i := 17) (j := 17) (by decide) (by decide), fun _ a0 n0 => ⟨_, rfl, rfl, rfl, d, _, v, rfl, upd_same, rfl, (by show 2 ≤ sizeLine; decide), fun p hp => q p _ (fun a o e => by rw [upd_ne (ne_of_none (same_upd hd a o e) hp)]; exact same_upd hd a o e) upd_same⟩, fun z => Bool.noConfusion z⟩⟩⟩⟩⟩⟩
end
abbrev N__law_is_first : List Str := ["_law_number"]
theorem sc__law_is_first : FnScope N__law_is_first ["_law_number"] (defScope s__law_is_first) := ⟨rfl, rfl, rfl, by decide +kernel, rfl, by decide +kernel, by decide +kernel⟩
section
variable {P : Program} {w : World} {K : PySem.W.Frag} {mg : Str → Option Value} {base : Heap}
theorem ok__law_is_first (T : Txt K mg) : FnOk P w K mg base CX0 2 T.f__law_is_first T.fd__law_is_first ["_law_number"] (sp_isfirst) := by
  refine T.F__law_is_first.ok sc__law_is_first (fun vs H Q E h => ?_) (fun cdv A outer s H vs Q E hr h => ?_)
  · obtain ⟨n, rfl, hn, q⟩ := h
    rfl
  · obtain ⟨n, rfl, hn, q⟩ := h
    refine ⟨_, (pss_one (ps_try_only rfl rfl ⟨rfl, by decide, .inl T.g_CurveError⟩ takes0 (fun W pn xe tk _ => (pss_one (ps_expr (pe_callS (ok__law_raise_first T) (hr.mono (by decide)) (by rfl) T.g__law_raise_first T.F__law_raise_first.kp T.b__law_raise_first (fun σ => passAt tk σ) (pa_cons (pv 0) pa_nil))))) (fun a oe cls d pn _ _ => (pss_one (ps_ret pe_bl))))), ?_⟩
    refine ⟨_, rfl, n, rfl, hn, ?_⟩
    rcases below12 hn with rfl | rfl | rfl | rfl | rfl | rfl | rfl | rfl | rfl | rfl | rfl | rfl
    · exact ⟨true, exm_tab T.tab (i := 0) (j := 18) (by decide) (by decide), fun _ a0 n0 => q, fun z => Bool.noConfusion z⟩
    · exact ⟨true, exm_tab T.tab (i := 1) (j := 18) (by decide) (by decide), fun _ a0 n0 => q, fun z => Bool.noConfusion z⟩
    · exact ⟨true, exm_tab T.tab (i := 2) (j := 18) (by decide) (by decide), fun _ a0 n0 => q, fun z => Bool.noConfusion z⟩
    · exact ⟨true, exm_tab T.tab (i := 3) (j := 18) (by decide) (by decide), fun _ a0 n0 => q, fun z => Bool.noConfusion z⟩
    · exact ⟨true, exm_tab T.tab (i := 4) (j := 18) (by decide) (by decide), fun _ a0 n0 => q, fun z => Bool.noConfusion z⟩
    · exact ⟨true, exm_tab T.tab (i := 5) (j := 18) (by decide) (by decide), fun _ a0 n0 => q, fun z => Bool.noConfusion z⟩
    · exact ⟨true, exm_tab T.tab (i := 6) (j := 18) (by decide) (by decide), fun _ a0 n0 => q, fun z => Bool.noConfusion z⟩
    · exact ⟨true, exm_tab T.tab (i := 7) (j := 18) (by decide) (by decide), fun _ a0 n0 => q, fun z => Bool.noConfusion z⟩
    · exact ⟨true, exm_tab T.tab (i := 8) (j := 18) (by decide) (by decide), fun _ a0 n0 => q, fun z => Bool.noConfusion z⟩
    · exact ⟨true, exm_tab T.tab (i := 9) (j := 18) (by decide) (by decide), fun _ a0 n0 => q, fun z => Bool.noConfusion z⟩
    · exact ⟨true, exm_tab T.tab (i := 10) (j := 18) (by decide) (by decide), fun _ a0 n0 => q, fun z => Bool.noConfusion z⟩
    · exact ⟨true, exm_tab T.tab (i := 11) (j := 18) (by decide) (by decide), fun _ a0 n0 => q, fun z => Bool.noConfusion z⟩
end
abbrev N__law_kept_first : List Str := ["_law_number"]
theorem sc__law_kept_first : FnScope N__law_kept_first ["_law_number"] (defScope s__law_kept_first) := ⟨rfl, rfl, rfl, by decide +kernel, rfl, by decide +kernel, by decide +kernel⟩
section
variable {P : Program} {w : World} {K : PySem.W.Frag} {mg : Str → Option Value} {base : Heap}
theorem ok__law_kept_first (T : Txt K mg) : FnOk P w K mg base CX0 2 T.f__law_kept_first T.fd__law_kept_first ["_law_number"] (sp_kfirst) := by
  refine T.F__law_kept_first.ok sc__law_kept_first (fun vs H Q E h => ?_) (fun cdv A outer s H vs Q E hr h => ?_)
  · obtain ⟨n, rfl, hn, q⟩ := h
    rfl
  · obtain ⟨n, rfl, hn, q⟩ := h
    refine ⟨_, (pss_one (ps_try_mix rfl rfl sc__law_kept_first.nd takes0 (fun W pn xe tk _ => (pss_one (ps_expr (pe_callS (ok__law_raise_kept T) (hr.mono (by decide)) (by rfl) T.g__law_raise_kept T.F__law_raise_kept.kp T.b__law_raise_kept (fun σ => passAt tk σ) (pa_cons (pv 0) (pa_cons pe_int pa_nil)))))) (.bare ⟨rfl, by decide, .inl T.g_CurveError⟩ (fun a oe cls d pn hz hf => (pss_one (ps_ret pe_bl)))
        (.bare ⟨rfl, by decide, .inl T.k_Refused.gC⟩ (fun a oe cls d pn hz hf => (pss_one (ps_ret pe_bl)))
        (.bare ⟨rfl, by decide, .inl T.k_TooMany.gC⟩ (fun a oe cls d pn hz hf => (pss_one (ps_ret pe_bl)))
        (.bare ⟨rfl, by decide, .inl T.k_NothingToUndo.gC⟩ (fun a oe cls d pn hz hf => (pss_one (ps_ret pe_bl)))
        (.bare ⟨rfl, by decide, .inl T.k_UnknownName.gC⟩ (fun a oe cls d pn hz hf => (pss_one (ps_ret pe_bl)))
        (.bare ⟨rfl, by decide, .inl T.k_InvalidCount.gC⟩ (fun a oe cls d pn hz hf => (pss_one (ps_ret pe_bl)))
        .nil)))))))), ?_⟩
    refine ⟨_, rfl, n, .int 3, rfl, hn, fun d hd => ?_⟩
    rcases below6 hn with rfl | rfl | rfl | rfl | rfl | rfl
    · exact ⟨true, exm_tab T.tab (i := 12) (j := 18) (by decide) (by decide), fun _ a0 n0 => q _ (same_upd hd), fun z => Bool.noConfusion z⟩
    · exact ⟨false, exm_tab T.tab (i := 13) (j := 18) (by decide) (by decide), fun z => Bool.noConfusion z, fun _ => ⟨false, exm_tab T.tab (i := 13) (j := 17) (by decide) (by decide), fun z => Bool.noConfusion z, fun _ => ⟨false, exm_tab T.tab (i := 13) (j := 16) (by decide) (by decide), fun z => Bool.noConfusion z, fun _ => ⟨false, exm_tab T.tab (i := 13) (j := 15) (by decide) (by decide), fun z => Bool.noConfusion z, fun _ => ⟨false, exm_tab T.tab (i := 13) (j := 14) (by decide) (by decide), fun z => Bool.noConfusion z, fun _ => ⟨true, exm_tab T.tab (i := 13) (j := 13) (by decide) (by decide), fun _ a0 n0 => q _ (same_upd hd), fun z => Bool.noConfusion z⟩⟩⟩⟩⟩⟩
    · exact ⟨false, exm_tab T.tab (i := 14) (j := 18) (by decide) (by decide), fun z => Bool.noConfusion z, fun _ => ⟨false, exm_tab T.tab (i := 14) (j := 17) (by decide) (by decide), fun z => Bool.noConfusion z, fun _ => ⟨false, exm_tab T.tab (i := 14) (j := 16) (by decide) (by decide), fun z => Bool.noConfusion z, fun _ => ⟨false, exm_tab T.tab (i := 14) (j := 15) (by decide) (by decide), fun z => Bool.noConfusion z, fun _ => ⟨true, exm_tab T.tab (i := 14) (j := 14) (by decide) (by decide), fun _ a0 n0 => q _ (same_upd hd), fun z => Bool.noConfusion z⟩⟩⟩⟩⟩
    · exact ⟨false, exm_tab T.tab (i := 15) (j := 18) (by decide) (by decide), fun z => Bool.noConfusion z, fun _ => ⟨false, exm_tab T.tab (i := 15) (j := 17) (by decide) (by decide), fun z => Bool.noConfusion z, fun _ => ⟨false, exm_tab T.tab (i := 15) (j := 16) (by decide) (by decide), fun z => Bool.noConfusion z, fun _ => ⟨true, exm_tab T.tab (i := 15) (j := 15) (by decide) (by decide), fun _ a0 n0 => q _ (same_upd hd), fun z => Bool.noConfusion z⟩⟩⟩⟩
    · exact ⟨false, exm_tab T.tab (i := 16) (j := 18) (by decide) (by decide), fun z => Bool.noConfusion z, fun _ => ⟨false, exm_tab T.tab (i := 16) (j := 17) (by decide) (by decide), fun z => Bool.noConfusion z, fun _ => ⟨true, exm_tab T.tab (i := 16) (j := 16) (by decide) (by decide), fun _ a0 n0 => q _ (same_upd hd), fun z => Bool.noConfusion z⟩⟩⟩
    · exact ⟨false, exm_tab T.tab (i := 17) (j := 18) (by decide) (by decide), fun z => Bool.noConfusion z, fun _ => ⟨true, exm_tab T.tab (i := 17) (j := 17) (by decide) (by decide), fun _ a0 n0 => q _ (same_upd hd), fun z => Bool.noConfusion z⟩⟩
end
abbrev N__law_right : List Str := ["_law_dice_here", "_law_value", "_law_number", "_law_told"]
theorem sc__law_right : FnScope N__law_right ["_law_dice_here"] (defScope s__law_right) := ⟨rfl, rfl, rfl, by decide +kernel, rfl, by decide +kernel, by decide +kernel⟩
section
variable {P : Program} {w : World} {K : PySem.W.Frag} {mg : Str → Option Value} {base : Heap}
theorem ok__law_right (T : Txt K mg) : FnG P w K mg base CX0 3 T.f__law_right T.fd__law_right ["_law_dice_here"] (sp_right) := by
  refine T.F__law_right.okG sc__law_right (fun vs H Q E h => ?_) (fun cdv A outer s H vs Q E g hr h => ?_)
  · obtain ⟨a, rfl, hd, q⟩ := h
    rfl
  · obtain ⟨a, rfl, hd, q⟩ := h
    refine ⟨_, (pss_cons (ps_set (i := 1) sc__law_right.nd rfl (Or.inl rfl) (pe_call (ok__law_pick T) (hr.mono (by decide)) (by rfl) T.g__law_pick T.F__law_pick.kp T.b__law_pick .nil pass0 (pa_cons (pv 0) (pa_cons (pe_lst (pa_cons pe_non (pa_cons pe_int (pa_cons (pe_un un_neg pe_int) (pa_cons (pe_op op_mul (pe_op op_pow pe_int pe_int) pe_int) (pa_cons pe_bl (pa_cons pe_str (pa_cons pe_str (pa_cons (pe_tup (pa_cons pe_int (pa_cons pe_str pa_nil))) (pa_cons (pe_lst pa_nil) (pa_cons pe_dnewK (pa_cons (pe_tup (pa_cons pe_str (pa_cons pe_str (pa_cons pe_int (pa_cons pe_int pa_nil))))) pa_nil)))))))))))) pa_nil))))
      (pss_cons (ps_for PassesOwn.never rfl (pi_range1 (by rfl) T.z_range (pa_cons pe_int pa_nil)) (pg_name (i := 2) sc__law_right.nd rfl (Or.inl rfl)) (pss_cons (ps_set (i := 3) sc__law_right.nd rfl (Or.inl rfl) (pe_call (ok__law_kept T) (hr.mono (by decide)) (by rfl) T.g__law_kept T.F__law_kept.kp T.b__law_kept .nil pass0 (pa_cons (pv 2) (pa_cons (pv 1) pa_nil))))
      (pss_one (ps_if (PW.pt (pw_or (pt_cmpR op_ne (pe_ix ix_tup (pv 3) pe_int (fun _ _ => rfl)) (pv 2) (nomark _)) (pw_or1 (pt_cmpR op_ne (pe_callB (call_repr g hr.units) (by rfl) T.z_repr (by decide +kernel) (pa_cons (pe_ix ix_tup (pv 3) pe_int (fun _ _ => rfl)) pa_nil)) (pe_callB (call_repr g hr.units) (by rfl) T.z_repr (by decide +kernel) (pa_cons (pv 1) pa_nil)) (nomark _))))) (pss_one (ps_ret pe_bl)) pss_nil))))
      (pss_one (ps_ret pe_bl)))), ?_⟩
    refine ⟨_, rfl, _, rfl, _, _, rfl, rfl, ⟨by decide, by decide, by decide⟩, _, _, rfl, rfl, .inr ⟨by decide, by decide⟩, (by show 2 ≤ sizeLine; decide), fun t ht => ⟨(by show 0 ≤ sizeLine; decide), fun l hl d hdd => ⟨(by show 4 ≤ sizeLine; decide), fun u hu => ⟨(by show 11 ≤ sizeLine; decide), fun p hp => ?_⟩⟩⟩⟩
    have dt := hd.new (o := .tup [.int 1, .str "a"]) ht
    have dl := dt.new (o := .lst []) hl
    have dd := dl.new (o := .dK []) hdd
    have du := dd.new (o := .tup [.str "points", .str "one", .int 1, .int 7]) hu
    refine ⟨a, p, _, rfl, du.new hp, du.ne hp, SqL.of upd_same, (by show 0 < 11; decide), (by show 11 < 1000000000; decide), fun v H1 m1 hv => ?_⟩
    have s4 := same_upd (o := .tup [.str "points", .str "one", .int 1, .int 7]) hu
    have s3 := same_upd (o := .dK []) hdd
    have s2 := same_upd (o := .lst []) hl
    have ht1 : H1 t = some (.tup [.int 1, .str "a"]) := m1.keep _ _ (hd.ne ht) (same_upd hp _ _ (s4 _ _ (s3 _ _ (s2 _ _ upd_same))))
    have hl1 : H1 l = some (.lst []) := m1.keep _ _ (dt.ne hl) (same_upd hp _ _ (s4 _ _ (s3 _ _ upd_same)))
    have hd1 : H1 d = some (.dK []) := m1.keep _ _ (dl.ne hdd) (same_upd hp _ _ (s4 _ _ upd_same))
    have hu1 : H1 u = some (.tup [.str "points", .str "one", .int 1, .int 7]) := m1.keep _ _ (dd.ne hu) (same_upd hp _ _ upd_same)
    have tv : Told K H1 v := by
      simp only [List.mem_cons, List.not_mem_nil, or_false] at hv
      rcases hv with rfl | rfl | rfl | rfl | rfl | rfl | rfl | rfl | rfl | rfl | rfl
      · exact ⟨_, .inl .non, by decide +kernel, by decide +kernel, by decide +kernel⟩
      · exact ⟨_, .inl (.int _), by decide +kernel, by decide +kernel, by decide +kernel⟩
      · exact ⟨_, .inl (.int _), by decide +kernel, by decide +kernel, by decide +kernel⟩
      · exact ⟨_, .inl (.int _), by decide +kernel, by decide +kernel, by decide +kernel⟩
      · exact ⟨_, .inl (.bl _), by decide +kernel, by decide +kernel, by decide +kernel⟩
      · exact ⟨_, .inl (.str _), by decide +kernel, by decide +kernel, by decide +kernel⟩
      · exact ⟨_, .inl (.str _), by decide +kernel, by decide +kernel, by decide +kernel⟩
      · exact ⟨_, .inl (.tup (SqT.of ht1) (.cons (.int _) (.cons (.str _) .nil))), by decide +kernel, by decide +kernel, by decide +kernel⟩
      · exact ⟨_, .inl (.lst (SqL.of hl1) .nil), by decide +kernel, by decide +kernel, by decide +kernel⟩
      · exact ⟨_, .inr ⟨_, rfl, hd1, rfl⟩, by decide +kernel, by decide +kernel, by decide +kernel⟩
      · exact ⟨_, .inl (.tup (SqT.of hu1) (.cons (.str _) (.cons (.str _) (.cons (.int _) (.cons (.int _) .nil))))), by decide +kernel, by decide +kernel, by decide +kernel⟩
    have mA : Mv a H H1 := ((((Mv.new hd ht).trans (Mv.new dt hl)).trans (Mv.new dl hdd)).trans (Mv.new dd hu)).trans ((Mv.new du hp).trans m1)
    refine ⟨_, rfl, by decide, by decide, ?_⟩
    refine for_range (lo := 0) (n := 6) (fun i σ H' => ∃ v2 v3, σ = [some (.ref a), some v, v2, v3] ∧ Same H1 H') ⟨none, none, rfl, Same.refl _⟩ ?_ ?_
    · rintro i σ H' hi ⟨v2, v3, rfl, sm⟩
      refine ⟨_, rfl, _, rfl, i, v, (by rw [Int.zero_add]; rfl), hi, fun p2 H2 sm2 hp2 => ?_⟩
      have t2 : Told K H2 v := tv.same (fun b o e => sm2 _ _ (sm _ _ e))
      obtain ⟨dv, r1, r2, r3, r4⟩ := t2
      refine ⟨_, rfl, _, _, _, _, rfl, rfl, SqT.of hp2, rfl, _, rfl, rfl, _, rfl, iteNS (congrArg V.int (Int.zero_add _).symm) ?_⟩
      refine ⟨_, rfl, _, _, _, _, rfl, rfl, SqT.of hp2, rfl, v, dv, rfl, r1, r2, r3, r4, _, rfl, v, dv, rfl, r1, r2, r3, r4, rfl, _, rfl, iteNS rfl ?_⟩
      exact ⟨_, _, rfl, fun b o e => sm2 _ _ (sm _ _ e)⟩
    · rintro σ H' ⟨v2, v3, rfl, sm⟩
      exact q _ (mA.trans (Mv.same mA.dice sm))
end
abbrev N_law : List Str := ["_law_script", "_law_spot", "_law_number"]
theorem sc_law : FnScope N_law ["_law_script"] (defScope s_law) := ⟨rfl, rfl, rfl, by decide +kernel, rfl, by decide +kernel, by decide +kernel⟩
section
variable {P : Program} {w : World} {K : PySem.W.Frag} {mg : Str → Option Value} {base : Heap}
theorem ok_law (T : Txt K mg) : FnG P w K mg base CX0 4 T.f_law T.fd_law ["_law_script"] (sp_law K) := by
  refine T.F_law.okG sc_law (fun vs H Q E h => ?_) (fun cdv A outer s H vs Q E g hr h => ?_)
  · obtain ⟨a, ns, rfl, hS, hl, q⟩ := h
    rfl
  · obtain ⟨a, ns, rfl, hS, hl, q⟩ := h
    refine ⟨_, (pss_cons (ps_for PassesOwn.never rfl (pi_range1 (by rfl) T.z_range (pa_cons (pe_callB (call_max2 rfl) (by rfl) T.z_max (by decide +kernel) (pa_cons pe_int (pa_cons (pe_callB (call_min2 rfl) (by rfl) T.z_min (by decide +kernel) (pa_cons pe_int (pa_cons (pe_callB call_len (by rfl) T.z_len (by decide +kernel) (pa_cons (pv 0) pa_nil)) pa_nil))) pa_nil))) pa_nil)) (pg_name (i := 1) sc_law.nd rfl (Or.inl rfl)) (pss_one (ps_if (pt_not (pt_val (pe_callG (ok__law_right T) g (hr.mono (by decide)) (by rfl) T.g__law_right T.F__law_right.kp T.b__law_right .nil pass0 (pa_cons (pe_call (ok__law_dice T) (hr.mono (by decide)) (by rfl) T.g__law_dice T.F__law_dice.kp T.b__law_dice .nil pass0 (pa_cons (pv 0) (pa_cons (pv 1) pa_nil))) pa_nil)))) (pss_one (ps_ret pe_bl)) pss_nil)))
      (pss_cons (ps_for PassesOwn.never rfl (pi_range1 (by rfl) T.z_range (pa_cons pe_int pa_nil)) (pg_name (i := 2) sc_law.nd rfl (Or.inl rfl)) (pss_one (ps_if (PW.pt (pw_or (pt_cmpR (op_neD hr.units) (pe_lst (pa_cons (pe_call (ok__law_caught T) (hr.mono (by decide)) (by rfl) T.g__law_caught T.F__law_caught.kp T.b__law_caught .nil pass0 (pa_cons (pv 2) pa_nil)) (pa_cons (pe_call (ok__law_caught_back T) (hr.mono (by decide)) (by rfl) T.g__law_caught_back T.F__law_caught_back.kp T.b__law_caught_back .nil pass0 (pa_cons (pv 2) pa_nil)) pa_nil))) (pe_lst (pa_cons (pv 2) (pa_cons (pv 2) pa_nil))) (nomark _)) (pw_or1 (pt_not (pt_val (pe_call (ok__law_is_first T) (hr.mono (by decide)) (by rfl) T.g__law_is_first T.F__law_is_first.kp T.b__law_is_first .nil pass0 (pa_cons (pv 2) pa_nil))))))) (pss_one (ps_ret pe_bl)) pss_nil)))
      (pss_one (ps_ret (pe_cmpR (op_eqD hr.units) (pe_lc (own := [("_law_number", 2)]) (g := gName 2) (tt := tYes) rfl sc_law.nd (pi_range1 (by rfl) T.z_range (pa_cons pe_int pa_nil)) (blkOk_by (own := [("_law_number", 2)]) (N := N_law) (sc := defScope s_law) (by decide +kernel)) (fun _ _ _ _ _ => pg_name (i := 2) sc_law.nd rfl (Or.inl rfl)) (fun _ _ _ _ _ => pts_nil) (fun _ _ _ _ _ => (pe_call (ok__law_kept_first T) (hr.mono (by decide)) (by rfl) T.g__law_kept_first T.F__law_kept_first.kp T.b__law_kept_first .nil pass0 (pa_cons (pv 2) pa_nil)))) (pe_op op_cat (pe_lst (pa_cons pe_bl pa_nil)) (pe_op op_rep (pe_lst (pa_cons pe_bl pa_nil)) pe_int)) (nomark _)))))), ?_⟩
    refine ⟨_, rfl, _, _, rfl, .inl ⟨_, hS, rfl⟩, _, _, rfl, _, _, rfl, _, rfl, ?_, ?_, ?_⟩
    · split <;> (try split) <;> omega
    · split <;> (try split) <;> omega
    refine for_range (lo := 0) (n := _) (fun i σ H' => ∃ v2, σ = [some (.ref a), v2, none] ∧ SqL K H' a (ns.map V.int)) ⟨none, rfl, hS⟩ ?_ ?_
    · rintro i σ H' hi ⟨v2, rfl, hS'⟩
      refine ⟨_, rfl, _, rfl, a, ns, i, (by rw [Int.zero_add]; rfl), hS', fun p x y z hp => ?_⟩
      have dp : Dc p (upd H' p (.lst [.int x, .int y, .int z])) := ⟨x, y, z, upd_same⟩
      refine ⟨p, rfl, dp, fun H1 m1 => ⟨_, rfl, iteF ?_⟩⟩
      exact ⟨_, rfl, seq_law hS' hp m1⟩
    · rintro σ H' ⟨v2, rfl, hS'⟩
      refine ⟨_, rfl, by decide, by decide, ?_⟩
      refine for_range (lo := 0) (n := 12) (fun i σ H' => ∃ v2 v3, σ = [some (.ref a), v2, v3]) ⟨v2, none, rfl⟩ ?_ ?_
      · rintro i σ H' hi ⟨v2, v3, rfl⟩
        rw [Int.zero_add]
        refine ⟨_, rfl, i, rfl, hi, _, rfl, i, rfl, hi, (by show 2 ≤ sizeLine; decide), fun p1 h1 => ?_⟩
        refine ⟨_, rfl, _, rfl, (by show 2 ≤ sizeLine; decide), fun p2 h2 => ⟨.list ([(i : Int), i].map PyData.int), .list ([(i : Int), i].map PyData.int), .lst (SqL.of ?_) (dp_ints [(i : Int), i]), .lst (SqL.of upd_same) (dp_ints [(i : Int), i]), (by rfl), (by rfl), _, rfl, ?_⟩⟩
        · rw [upd_ne (ne_of_none upd_same h2)]
          exact upd_same
        · have e : PyData.eqv (.list ([(i : Int), i].map PyData.int)) (.list ([(i : Int), i].map PyData.int)) = true := by
            rcases below12 hi with rfl | rfl | rfl | rfl | rfl | rfl | rfl | rfl | rfl | rfl | rfl | rfl <;> decide +kernel
          rw [e]
          exact iteF ⟨_, rfl, i, rfl, hi, _, rfl, iteF ⟨_, _, rfl⟩⟩
      · rintro σ H' ⟨v2, v3, rfl⟩
        refine ⟨_, rfl, by decide, by decide, fun D hD => ?_⟩
        refine lc_range (lo := 0) (n := 6) (fun i H2 => H2 D = some (.lst ((List.range i).map fun k => V.bl (k == 0)))) upd_same ?_ ?_
        · intro i H2 hi h
          rw [Int.zero_add]
          refine ⟨rfl, yes_go ⟨_, rfl, i, rfl, hi, fun H3 s3 => ⟨_, s3 _ _ h, ?_, ?_⟩⟩⟩
          · rw [List.length_map, List.length_range]
            show i < sizeLine
            exact Nat.lt_trans hi (by decide)
          · show (upd H3 D _) D = _
            rw [upd_same, List.range_succ, List.map_append]
            rfl
        · intro H2 h
          refine ⟨(by show 1 ≤ sizeLine; decide), fun p1 h1 => ⟨(by show 1 ≤ sizeLine; decide), fun p2 h2 => ⟨_, _, _, rfl, rfl, upd_same, by decide, by decide, (by decide), fun p3 h3 => ⟨_, _, [V.bl true], _, rfl, rfl, ?_, upd_same, (by decide), fun p4 h4 => ⟨.list (((List.range 6).map fun k => (k == 0)).map PyData.bool), .list ([true, false, false, false, false, false].map PyData.bool), .lst (SqL.of ?_) (dp_bls _), .lst (SqL.of upd_same) (dp_bls [true, false, false, false, false, false]), (by decide +kernel), (by decide +kernel), ?_⟩⟩⟩⟩⟩
          · rw [upd_ne (ne_of_none (by rw [upd_ne (ne_of_none upd_same h2)]; exact upd_same) h3), upd_ne (ne_of_none upd_same h2)]
            exact upd_same
          · rw [same_upd h4 _ _ (same_upd h3 _ _ (same_upd h2 _ _ (same_upd h1 _ _ h))), List.map_map]
            rfl
          · have e : PyData.eqv (.list (((List.range 6).map fun k => (k == 0)).map PyData.bool)) (.list ([true, false, false, false, false, false].map PyData.bool)) = true := by decide +kernel
            rw [e]
            exact q _
end
section
variable {P : Program} {w : World} {K : PySem.W.Frag} {mg : Str → Option Value} {base : Heap}
theorem all_mk {l : PySem.W.OpenLaw} {fa : Addr} {h : Heap} (X : K.In h) (G : h.Ns mainGlobals mg) (hfa : mg "law" = some (.ref fa))
    {f__law_dice : Addr} {od__law_dice an__law_dice : Option Addr} {sl__law_dice : Array (Option Value)} {oc__law_dice kV__law_dice dc__law_dice pm__law_dice cd__law_dice ct__law_dice : Value}
    (a__law_dice : PySem.W.nsIn K mainGlobals "_law_dice" = some (some (.ref f__law_dice))) (l__law_dice : K.lookup f__law_dice = some ⟨oc__law_dice, od__law_dice, .func (PySem.W.fnOf "_law_dice" "_law_dice" (defArgs s__law_dice) (defBody s__law_dice) (defScope s__law_dice) .none kV__law_dice dc__law_dice pm__law_dice an__law_dice cd__law_dice ct__law_dice), sl__law_dice⟩) (c__law_dice : PySem.W.codeIn K cd__law_dice "_law_dice" = true) (k__law_dice : PySem.W.keepIn K (.ref f__law_dice) = true)
    {f__law_roll : Addr} {od__law_roll an__law_roll : Option Addr} {sl__law_roll : Array (Option Value)} {oc__law_roll kV__law_roll dc__law_roll pm__law_roll cd__law_roll ct__law_roll : Value}
    (a__law_roll : PySem.W.nsIn K mainGlobals "_law_roll" = some (some (.ref f__law_roll))) (l__law_roll : K.lookup f__law_roll = some ⟨oc__law_roll, od__law_roll, .func (PySem.W.fnOf "_law_roll" "_law_roll" (defArgs s__law_roll) (defBody s__law_roll) (defScope s__law_roll) .none kV__law_roll dc__law_roll pm__law_roll an__law_roll cd__law_roll ct__law_roll), sl__law_roll⟩) (c__law_roll : PySem.W.codeIn K cd__law_roll "_law_roll" = true) (k__law_roll : PySem.W.keepIn K (.ref f__law_roll) = true)
    {f__law_raise_first : Addr} {od__law_raise_first an__law_raise_first : Option Addr} {sl__law_raise_first : Array (Option Value)} {oc__law_raise_first kV__law_raise_first dc__law_raise_first pm__law_raise_first cd__law_raise_first ct__law_raise_first : Value}
    (a__law_raise_first : PySem.W.nsIn K mainGlobals "_law_raise_first" = some (some (.ref f__law_raise_first))) (l__law_raise_first : K.lookup f__law_raise_first = some ⟨oc__law_raise_first, od__law_raise_first, .func (PySem.W.fnOf "_law_raise_first" "_law_raise_first" (defArgs s__law_raise_first) (defBody s__law_raise_first) (defScope s__law_raise_first) .none kV__law_raise_first dc__law_raise_first pm__law_raise_first an__law_raise_first cd__law_raise_first ct__law_raise_first), sl__law_raise_first⟩) (c__law_raise_first : PySem.W.codeIn K cd__law_raise_first "_law_raise_first" = true) (k__law_raise_first : PySem.W.keepIn K (.ref f__law_raise_first) = true)
    {f__law_raise_kept : Addr} {od__law_raise_kept an__law_raise_kept : Option Addr} {sl__law_raise_kept : Array (Option Value)} {oc__law_raise_kept kV__law_raise_kept dc__law_raise_kept pm__law_raise_kept cd__law_raise_kept ct__law_raise_kept : Value}
    (a__law_raise_kept : PySem.W.nsIn K mainGlobals "_law_raise_kept" = some (some (.ref f__law_raise_kept))) (l__law_raise_kept : K.lookup f__law_raise_kept = some ⟨oc__law_raise_kept, od__law_raise_kept, .func (PySem.W.fnOf "_law_raise_kept" "_law_raise_kept" (defArgs s__law_raise_kept) (defBody s__law_raise_kept) (defScope s__law_raise_kept) .none kV__law_raise_kept dc__law_raise_kept pm__law_raise_kept an__law_raise_kept cd__law_raise_kept ct__law_raise_kept), sl__law_raise_kept⟩) (c__law_raise_kept : PySem.W.codeIn K cd__law_raise_kept "_law_raise_kept" = true) (k__law_raise_kept : PySem.W.keepIn K (.ref f__law_raise_kept) = true)
    {f__law_pick : Addr} {od__law_pick an__law_pick : Option Addr} {sl__law_pick : Array (Option Value)} {oc__law_pick kV__law_pick dc__law_pick pm__law_pick cd__law_pick ct__law_pick : Value}
    (a__law_pick : PySem.W.nsIn K mainGlobals "_law_pick" = some (some (.ref f__law_pick))) (l__law_pick : K.lookup f__law_pick = some ⟨oc__law_pick, od__law_pick, .func (PySem.W.fnOf "_law_pick" "_law_pick" (defArgs s__law_pick) (defBody s__law_pick) (defScope s__law_pick) .none kV__law_pick dc__law_pick pm__law_pick an__law_pick cd__law_pick ct__law_pick), sl__law_pick⟩) (c__law_pick : PySem.W.codeIn K cd__law_pick "_law_pick" = true) (k__law_pick : PySem.W.keepIn K (.ref f__law_pick) = true)
    {f__law_caught : Addr} {od__law_caught an__law_caught : Option Addr} {sl__law_caught : Array (Option Value)} {oc__law_caught kV__law_caught dc__law_caught pm__law_caught cd__law_caught ct__law_caught : Value}
    (a__law_caught : PySem.W.nsIn K mainGlobals "_law_caught" = some (some (.ref f__law_caught))) (l__law_caught : K.lookup f__law_caught = some ⟨oc__law_caught, od__law_caught, .func (PySem.W.fnOf "_law_caught" "_law_caught" (defArgs s__law_caught) (defBody s__law_caught) (defScope s__law_caught) .none kV__law_caught dc__law_caught pm__law_caught an__law_caught cd__law_caught ct__law_caught), sl__law_caught⟩) (c__law_caught : PySem.W.codeIn K cd__law_caught "_law_caught" = true) (k__law_caught : PySem.W.keepIn K (.ref f__law_caught) = true)
    {f__law_caught_back : Addr} {od__law_caught_back an__law_caught_back : Option Addr} {sl__law_caught_back : Array (Option Value)} {oc__law_caught_back kV__law_caught_back dc__law_caught_back pm__law_caught_back cd__law_caught_back ct__law_caught_back : Value}
    (a__law_caught_back : PySem.W.nsIn K mainGlobals "_law_caught_back" = some (some (.ref f__law_caught_back))) (l__law_caught_back : K.lookup f__law_caught_back = some ⟨oc__law_caught_back, od__law_caught_back, .func (PySem.W.fnOf "_law_caught_back" "_law_caught_back" (defArgs s__law_caught_back) (defBody s__law_caught_back) (defScope s__law_caught_back) .none kV__law_caught_back dc__law_caught_back pm__law_caught_back an__law_caught_back cd__law_caught_back ct__law_caught_back), sl__law_caught_back⟩) (c__law_caught_back : PySem.W.codeIn K cd__law_caught_back "_law_caught_back" = true) (k__law_caught_back : PySem.W.keepIn K (.ref f__law_caught_back) = true)
    {f__law_kept : Addr} {od__law_kept an__law_kept : Option Addr} {sl__law_kept : Array (Option Value)} {oc__law_kept kV__law_kept dc__law_kept pm__law_kept cd__law_kept ct__law_kept : Value}
    (a__law_kept : PySem.W.nsIn K mainGlobals "_law_kept" = some (some (.ref f__law_kept))) (l__law_kept : K.lookup f__law_kept = some ⟨oc__law_kept, od__law_kept, .func (PySem.W.fnOf "_law_kept" "_law_kept" (defArgs s__law_kept) (defBody s__law_kept) (defScope s__law_kept) .none kV__law_kept dc__law_kept pm__law_kept an__law_kept cd__law_kept ct__law_kept), sl__law_kept⟩) (c__law_kept : PySem.W.codeIn K cd__law_kept "_law_kept" = true) (k__law_kept : PySem.W.keepIn K (.ref f__law_kept) = true)
    {f__law_is_first : Addr} {od__law_is_first an__law_is_first : Option Addr} {sl__law_is_first : Array (Option Value)} {oc__law_is_first kV__law_is_first dc__law_is_first pm__law_is_first cd__law_is_first ct__law_is_first : Value}
    (a__law_is_first : PySem.W.nsIn K mainGlobals "_law_is_first" = some (some (.ref f__law_is_first))) (l__law_is_first : K.lookup f__law_is_first = some ⟨oc__law_is_first, od__law_is_first, .func (PySem.W.fnOf "_law_is_first" "_law_is_first" (defArgs s__law_is_first) (defBody s__law_is_first) (defScope s__law_is_first) .none kV__law_is_first dc__law_is_first pm__law_is_first an__law_is_first cd__law_is_first ct__law_is_first), sl__law_is_first⟩) (c__law_is_first : PySem.W.codeIn K cd__law_is_first "_law_is_first" = true) (k__law_is_first : PySem.W.keepIn K (.ref f__law_is_first) = true)
    {f__law_kept_first : Addr} {od__law_kept_first an__law_kept_first : Option Addr} {sl__law_kept_first : Array (Option Value)} {oc__law_kept_first kV__law_kept_first dc__law_kept_first pm__law_kept_first cd__law_kept_first ct__law_kept_first : Value}
    (a__law_kept_first : PySem.W.nsIn K mainGlobals "_law_kept_first" = some (some (.ref f__law_kept_first))) (l__law_kept_first : K.lookup f__law_kept_first = some ⟨oc__law_kept_first, od__law_kept_first, .func (PySem.W.fnOf "_law_kept_first" "_law_kept_first" (defArgs s__law_kept_first) (defBody s__law_kept_first) (defScope s__law_kept_first) .none kV__law_kept_first dc__law_kept_first pm__law_kept_first an__law_kept_first cd__law_kept_first ct__law_kept_first), sl__law_kept_first⟩) (c__law_kept_first : PySem.W.codeIn K cd__law_kept_first "_law_kept_first" = true) (k__law_kept_first : PySem.W.keepIn K (.ref f__law_kept_first) = true)
    {f__law_right : Addr} {od__law_right an__law_right : Option Addr} {sl__law_right : Array (Option Value)} {oc__law_right kV__law_right dc__law_right pm__law_right cd__law_right ct__law_right : Value}
    (a__law_right : PySem.W.nsIn K mainGlobals "_law_right" = some (some (.ref f__law_right))) (l__law_right : K.lookup f__law_right = some ⟨oc__law_right, od__law_right, .func (PySem.W.fnOf "_law_right" "_law_right" (defArgs s__law_right) (defBody s__law_right) (defScope s__law_right) .none kV__law_right dc__law_right pm__law_right an__law_right cd__law_right ct__law_right), sl__law_right⟩) (c__law_right : PySem.W.codeIn K cd__law_right "_law_right" = true) (k__law_right : PySem.W.keepIn K (.ref f__law_right) = true)
    {f_law : Addr} {od_law an_law : Option Addr} {sl_law : Array (Option Value)} {oc_law kV_law dc_law pm_law cd_law ct_law : Value}
    (a_law : PySem.W.nsIn K mainGlobals "law" = some (some (.ref f_law))) (l_law : K.lookup f_law = some ⟨oc_law, od_law, .func (PySem.W.fnOf "law" "law" (defArgs s_law) (defBody s_law) (defScope s_law) .none kV_law dc_law pm_law an_law cd_law ct_law), sl_law⟩) (c_law : PySem.W.codeIn K cd_law "law" = true) (k_law : PySem.W.keepIn K (.ref f_law) = true)
    (z_abs : PySem.W.nsIn K mainGlobals "abs" = some none)
    (z_int : PySem.W.nsIn K mainGlobals "int" = some none)
    (z_max : PySem.W.nsIn K mainGlobals "max" = some none)
    (z_len : PySem.W.nsIn K mainGlobals "len" = some none)
    (z_range : PySem.W.nsIn K mainGlobals "range" = some none)
    (z_repr : PySem.W.nsIn K mainGlobals "repr" = some none)
    (z_min : PySem.W.nsIn K mainGlobals "min" = some none)
    {c_InvalidPrime : Addr}
    (gInvalidPrime : PySem.W.nsIn K mainGlobals "InvalidPrime" = some (some (.ref c_InvalidPrime)))
    (xInvalidPrime : PySem.W.excIn K c_InvalidPrime [.type "ValueError", .type "Exception", .type "BaseException", .type "object"] "ValueError.__new__" = true)
    (kInvalidPrime : PySem.W.keepIn K (.ref c_InvalidPrime) = true)
    (sInvalidPrime : PySem.W.subIn K (.ref c_InvalidPrime) (.type "BaseException") = some true)
    (tInvalidPrime : PySem.W.typeIn K (.ref c_InvalidPrime) = some (.type "type"))
    {c_InvalidPoly : Addr}
    (gInvalidPoly : PySem.W.nsIn K mainGlobals "InvalidPoly" = some (some (.ref c_InvalidPoly)))
    (xInvalidPoly : PySem.W.excIn K c_InvalidPoly [.type "ValueError", .type "Exception", .type "BaseException", .type "object"] "ValueError.__new__" = true)
    (kInvalidPoly : PySem.W.keepIn K (.ref c_InvalidPoly) = true)
    (sInvalidPoly : PySem.W.subIn K (.ref c_InvalidPoly) (.type "BaseException") = some true)
    (tInvalidPoly : PySem.W.typeIn K (.ref c_InvalidPoly) = some (.type "type"))
    {c_InvalidField : Addr}
    (gInvalidField : PySem.W.nsIn K mainGlobals "InvalidField" = some (some (.ref c_InvalidField)))
    (xInvalidField : PySem.W.excIn K c_InvalidField [.type "ValueError", .type "Exception", .type "BaseException", .type "object"] "ValueError.__new__" = true)
    (kInvalidField : PySem.W.keepIn K (.ref c_InvalidField) = true)
    (sInvalidField : PySem.W.subIn K (.ref c_InvalidField) (.type "BaseException") = some true)
    (tInvalidField : PySem.W.typeIn K (.ref c_InvalidField) = some (.type "type"))
    {c_InvalidCurve : Addr}
    (gInvalidCurve : PySem.W.nsIn K mainGlobals "InvalidCurve" = some (some (.ref c_InvalidCurve)))
    (xInvalidCurve : PySem.W.excIn K c_InvalidCurve [.type "ValueError", .type "Exception", .type "BaseException", .type "object"] "ValueError.__new__" = true)
    (kInvalidCurve : PySem.W.keepIn K (.ref c_InvalidCurve) = true)
    (sInvalidCurve : PySem.W.subIn K (.ref c_InvalidCurve) (.type "BaseException") = some true)
    (tInvalidCurve : PySem.W.typeIn K (.ref c_InvalidCurve) = some (.type "type"))
    {c_InvalidPlace : Addr}
    (gInvalidPlace : PySem.W.nsIn K mainGlobals "InvalidPlace" = some (some (.ref c_InvalidPlace)))
    (xInvalidPlace : PySem.W.excIn K c_InvalidPlace [.type "ValueError", .type "Exception", .type "BaseException", .type "object"] "ValueError.__new__" = true)
    (kInvalidPlace : PySem.W.keepIn K (.ref c_InvalidPlace) = true)
    (sInvalidPlace : PySem.W.subIn K (.ref c_InvalidPlace) (.type "BaseException") = some true)
    (tInvalidPlace : PySem.W.typeIn K (.ref c_InvalidPlace) = some (.type "type"))
    {c_InvalidChange : Addr}
    (gInvalidChange : PySem.W.nsIn K mainGlobals "InvalidChange" = some (some (.ref c_InvalidChange)))
    (xInvalidChange : PySem.W.excIn K c_InvalidChange [.type "ValueError", .type "Exception", .type "BaseException", .type "object"] "ValueError.__new__" = true)
    (kInvalidChange : PySem.W.keepIn K (.ref c_InvalidChange) = true)
    (sInvalidChange : PySem.W.subIn K (.ref c_InvalidChange) (.type "BaseException") = some true)
    (tInvalidChange : PySem.W.typeIn K (.ref c_InvalidChange) = some (.type "type"))
    {c_InvalidFunction : Addr}
    (gInvalidFunction : PySem.W.nsIn K mainGlobals "InvalidFunction" = some (some (.ref c_InvalidFunction)))
    (xInvalidFunction : PySem.W.excIn K c_InvalidFunction [.type "ValueError", .type "Exception", .type "BaseException", .type "object"] "ValueError.__new__" = true)
    (kInvalidFunction : PySem.W.keepIn K (.ref c_InvalidFunction) = true)
    (sInvalidFunction : PySem.W.subIn K (.ref c_InvalidFunction) (.type "BaseException") = some true)
    (tInvalidFunction : PySem.W.typeIn K (.ref c_InvalidFunction) = some (.type "type"))
    {c_InvalidDivisor : Addr}
    (gInvalidDivisor : PySem.W.nsIn K mainGlobals "InvalidDivisor" = some (some (.ref c_InvalidDivisor)))
    (xInvalidDivisor : PySem.W.excIn K c_InvalidDivisor [.type "ValueError", .type "Exception", .type "BaseException", .type "object"] "ValueError.__new__" = true)
    (kInvalidDivisor : PySem.W.keepIn K (.ref c_InvalidDivisor) = true)
    (sInvalidDivisor : PySem.W.subIn K (.ref c_InvalidDivisor) (.type "BaseException") = some true)
    (tInvalidDivisor : PySem.W.typeIn K (.ref c_InvalidDivisor) = some (.type "type"))
    {c_InvalidTriple : Addr}
    (gInvalidTriple : PySem.W.nsIn K mainGlobals "InvalidTriple" = some (some (.ref c_InvalidTriple)))
    (xInvalidTriple : PySem.W.excIn K c_InvalidTriple [.type "ValueError", .type "Exception", .type "BaseException", .type "object"] "ValueError.__new__" = true)
    (kInvalidTriple : PySem.W.keepIn K (.ref c_InvalidTriple) = true)
    (sInvalidTriple : PySem.W.subIn K (.ref c_InvalidTriple) (.type "BaseException") = some true)
    (tInvalidTriple : PySem.W.typeIn K (.ref c_InvalidTriple) = some (.type "type"))
    {c_InvalidPaper : Addr}
    (gInvalidPaper : PySem.W.nsIn K mainGlobals "InvalidPaper" = some (some (.ref c_InvalidPaper)))
    (xInvalidPaper : PySem.W.excIn K c_InvalidPaper [.type "ValueError", .type "Exception", .type "BaseException", .type "object"] "ValueError.__new__" = true)
    (kInvalidPaper : PySem.W.keepIn K (.ref c_InvalidPaper) = true)
    (sInvalidPaper : PySem.W.subIn K (.ref c_InvalidPaper) (.type "BaseException") = some true)
    (tInvalidPaper : PySem.W.typeIn K (.ref c_InvalidPaper) = some (.type "type"))
    {c_InvalidCode : Addr}
    (gInvalidCode : PySem.W.nsIn K mainGlobals "InvalidCode" = some (some (.ref c_InvalidCode)))
    (xInvalidCode : PySem.W.excIn K c_InvalidCode [.type "ValueError", .type "Exception", .type "BaseException", .type "object"] "ValueError.__new__" = true)
    (kInvalidCode : PySem.W.keepIn K (.ref c_InvalidCode) = true)
    (sInvalidCode : PySem.W.subIn K (.ref c_InvalidCode) (.type "BaseException") = some true)
    (tInvalidCode : PySem.W.typeIn K (.ref c_InvalidCode) = some (.type "type"))
    {c_InvalidOperation : Addr}
    (gInvalidOperation : PySem.W.nsIn K mainGlobals "InvalidOperation" = some (some (.ref c_InvalidOperation)))
    (xInvalidOperation : PySem.W.excIn K c_InvalidOperation [.type "ValueError", .type "Exception", .type "BaseException", .type "object"] "ValueError.__new__" = true)
    (kInvalidOperation : PySem.W.keepIn K (.ref c_InvalidOperation) = true)
    (sInvalidOperation : PySem.W.subIn K (.ref c_InvalidOperation) (.type "BaseException") = some true)
    (tInvalidOperation : PySem.W.typeIn K (.ref c_InvalidOperation) = some (.type "type"))
    {c_CurveError : Addr}
    (gCurveError : PySem.W.nsIn K mainGlobals "CurveError" = some (some (.ref c_CurveError)))
    {c_ParseError i_ParseError : Addr} {oc_ParseError doc_ParseError pm_ParseError cd_ParseError ct_ParseError : Value} {od_ParseError an_ParseError : Option Addr} {sl_ParseError : Array (Option Value)} {p1_ParseError p2_ParseError q1_ParseError q2_ParseError q3_ParseError q4_ParseError : Pos} (gParseError : PySem.W.nsIn K mainGlobals "ParseError" = some (some (.ref c_ParseError))) (iCParseError : PySem.W.findIn K (.ref c_ParseError) "__init__" = some (some (.ref i_ParseError))) (yiParseError : PySem.W.excInitIn K c_ParseError PySem.ERR.ParseError.bmC "ValueError.__new__" = true) (yoParseError : PySem.W.excOver K c_ParseError PySem.ERR.ParseError.bmC = true) (saParseError : PySem.W.findIn K (.ref c_ParseError) "__setattr__" = some (some (.builtin "object.__setattr__"))) (gaParseError : PySem.W.findIn K (.ref c_ParseError) "__getattribute__" = some (some (.builtin "BaseException.__getattribute__"))) (ggParseError : PySem.W.findIn K (.ref c_ParseError) "__getattr__" = some none) (noParseError : PySem.W.findIn K (.ref c_ParseError) "index" = some none) (tCParseError : PySem.W.typeIn K (.ref i_ParseError) = some (.type "function")) (kCParseError : PySem.W.keepIn K (.ref c_ParseError) = true) (exParseError : PySem.W.subIn K (.ref c_ParseError) (.type "BaseException") = some true) (tyParseError : PySem.W.typeIn K (.ref c_ParseError) = some (.type "type")) (hdParseError : PySem.W.hasDictIn K c_ParseError = true) (lParseError : K.lookup i_ParseError = some ⟨oc_ParseError, od_ParseError, .func (PySem.W.fnOf "__init__" "ParseError.__init__" (PySem.ERR.ParseError.eA p1_ParseError p2_ParseError) (PySem.ERR.ParseError.eB q1_ParseError q2_ParseError q3_ParseError q4_ParseError) PySem.ERR.ParseError.eS .none .none doc_ParseError pm_ParseError an_ParseError cd_ParseError ct_ParseError), sl_ParseError⟩) (cdParseError : PySem.W.codeIn K cd_ParseError "ParseError.__init__" = true)
    {c_InvalidCount i_InvalidCount : Addr} {oc_InvalidCount doc_InvalidCount pm_InvalidCount cd_InvalidCount ct_InvalidCount : Value} {od_InvalidCount an_InvalidCount : Option Addr} {sl_InvalidCount : Array (Option Value)} {p1_InvalidCount p2_InvalidCount q1_InvalidCount q2_InvalidCount q3_InvalidCount q4_InvalidCount : Pos} (gInvalidCount : PySem.W.nsIn K mainGlobals "InvalidCount" = some (some (.ref c_InvalidCount))) (iCInvalidCount : PySem.W.findIn K (.ref c_InvalidCount) "__init__" = some (some (.ref i_InvalidCount))) (yiInvalidCount : PySem.W.excInitIn K c_InvalidCount PySem.ERR.InvalidCount.bmC "IndexError.__new__" = true) (yoInvalidCount : PySem.W.excOver K c_InvalidCount PySem.ERR.InvalidCount.bmC = true) (saInvalidCount : PySem.W.findIn K (.ref c_InvalidCount) "__setattr__" = some (some (.builtin "object.__setattr__"))) (gaInvalidCount : PySem.W.findIn K (.ref c_InvalidCount) "__getattribute__" = some (some (.builtin "BaseException.__getattribute__"))) (ggInvalidCount : PySem.W.findIn K (.ref c_InvalidCount) "__getattr__" = some none) (noInvalidCount : PySem.W.findIn K (.ref c_InvalidCount) "value" = some none) (tCInvalidCount : PySem.W.typeIn K (.ref i_InvalidCount) = some (.type "function")) (kCInvalidCount : PySem.W.keepIn K (.ref c_InvalidCount) = true) (exInvalidCount : PySem.W.subIn K (.ref c_InvalidCount) (.type "BaseException") = some true) (tyInvalidCount : PySem.W.typeIn K (.ref c_InvalidCount) = some (.type "type")) (hdInvalidCount : PySem.W.hasDictIn K c_InvalidCount = true) (lInvalidCount : K.lookup i_InvalidCount = some ⟨oc_InvalidCount, od_InvalidCount, .func (PySem.W.fnOf "__init__" "InvalidCount.__init__" (PySem.ERR.InvalidCount.eA p1_InvalidCount p2_InvalidCount) (PySem.ERR.InvalidCount.eB q1_InvalidCount q2_InvalidCount q3_InvalidCount q4_InvalidCount) PySem.ERR.InvalidCount.eS .none .none doc_InvalidCount pm_InvalidCount an_InvalidCount cd_InvalidCount ct_InvalidCount), sl_InvalidCount⟩) (cdInvalidCount : PySem.W.codeIn K cd_InvalidCount "InvalidCount.__init__" = true)
    {c_UnknownName i_UnknownName : Addr} {oc_UnknownName doc_UnknownName pm_UnknownName cd_UnknownName ct_UnknownName : Value} {od_UnknownName an_UnknownName : Option Addr} {sl_UnknownName : Array (Option Value)} {p1_UnknownName p2_UnknownName q1_UnknownName q2_UnknownName q3_UnknownName q4_UnknownName : Pos} (gUnknownName : PySem.W.nsIn K mainGlobals "UnknownName" = some (some (.ref c_UnknownName))) (iCUnknownName : PySem.W.findIn K (.ref c_UnknownName) "__init__" = some (some (.ref i_UnknownName))) (yiUnknownName : PySem.W.excInitIn K c_UnknownName PySem.ERR.UnknownName.bmC "LookupError.__new__" = true) (yoUnknownName : PySem.W.excOver K c_UnknownName PySem.ERR.UnknownName.bmC = true) (saUnknownName : PySem.W.findIn K (.ref c_UnknownName) "__setattr__" = some (some (.builtin "object.__setattr__"))) (gaUnknownName : PySem.W.findIn K (.ref c_UnknownName) "__getattribute__" = some (some (.builtin "BaseException.__getattribute__"))) (ggUnknownName : PySem.W.findIn K (.ref c_UnknownName) "__getattr__" = some none) (noUnknownName : PySem.W.findIn K (.ref c_UnknownName) "name" = some none) (tCUnknownName : PySem.W.typeIn K (.ref i_UnknownName) = some (.type "function")) (kCUnknownName : PySem.W.keepIn K (.ref c_UnknownName) = true) (exUnknownName : PySem.W.subIn K (.ref c_UnknownName) (.type "BaseException") = some true) (tyUnknownName : PySem.W.typeIn K (.ref c_UnknownName) = some (.type "type")) (hdUnknownName : PySem.W.hasDictIn K c_UnknownName = true) (lUnknownName : K.lookup i_UnknownName = some ⟨oc_UnknownName, od_UnknownName, .func (PySem.W.fnOf "__init__" "UnknownName.__init__" (PySem.ERR.UnknownName.eA p1_UnknownName p2_UnknownName) (PySem.ERR.UnknownName.eB q1_UnknownName q2_UnknownName q3_UnknownName q4_UnknownName) PySem.ERR.UnknownName.eS .none .none doc_UnknownName pm_UnknownName an_UnknownName cd_UnknownName ct_UnknownName), sl_UnknownName⟩) (cdUnknownName : PySem.W.codeIn K cd_UnknownName "UnknownName.__init__" = true)
    {c_NothingToUndo i_NothingToUndo : Addr} {oc_NothingToUndo doc_NothingToUndo pm_NothingToUndo cd_NothingToUndo ct_NothingToUndo : Value} {od_NothingToUndo an_NothingToUndo : Option Addr} {sl_NothingToUndo : Array (Option Value)} {p1_NothingToUndo p2_NothingToUndo q1_NothingToUndo q2_NothingToUndo q3_NothingToUndo q4_NothingToUndo : Pos} (gNothingToUndo : PySem.W.nsIn K mainGlobals "NothingToUndo" = some (some (.ref c_NothingToUndo))) (iCNothingToUndo : PySem.W.findIn K (.ref c_NothingToUndo) "__init__" = some (some (.ref i_NothingToUndo))) (yiNothingToUndo : PySem.W.excInitIn K c_NothingToUndo PySem.ERR.NothingToUndo.bmC "RuntimeError.__new__" = true) (yoNothingToUndo : PySem.W.excOver K c_NothingToUndo PySem.ERR.NothingToUndo.bmC = true) (saNothingToUndo : PySem.W.findIn K (.ref c_NothingToUndo) "__setattr__" = some (some (.builtin "object.__setattr__"))) (gaNothingToUndo : PySem.W.findIn K (.ref c_NothingToUndo) "__getattribute__" = some (some (.builtin "BaseException.__getattribute__"))) (ggNothingToUndo : PySem.W.findIn K (.ref c_NothingToUndo) "__getattr__" = some none) (noNothingToUndo : PySem.W.findIn K (.ref c_NothingToUndo) "wanted" = some none) (tCNothingToUndo : PySem.W.typeIn K (.ref i_NothingToUndo) = some (.type "function")) (kCNothingToUndo : PySem.W.keepIn K (.ref c_NothingToUndo) = true) (exNothingToUndo : PySem.W.subIn K (.ref c_NothingToUndo) (.type "BaseException") = some true) (tyNothingToUndo : PySem.W.typeIn K (.ref c_NothingToUndo) = some (.type "type")) (hdNothingToUndo : PySem.W.hasDictIn K c_NothingToUndo = true) (lNothingToUndo : K.lookup i_NothingToUndo = some ⟨oc_NothingToUndo, od_NothingToUndo, .func (PySem.W.fnOf "__init__" "NothingToUndo.__init__" (PySem.ERR.NothingToUndo.eA p1_NothingToUndo p2_NothingToUndo) (PySem.ERR.NothingToUndo.eB q1_NothingToUndo q2_NothingToUndo q3_NothingToUndo q4_NothingToUndo) PySem.ERR.NothingToUndo.eS .none .none doc_NothingToUndo pm_NothingToUndo an_NothingToUndo cd_NothingToUndo ct_NothingToUndo), sl_NothingToUndo⟩) (cdNothingToUndo : PySem.W.codeIn K cd_NothingToUndo "NothingToUndo.__init__" = true)
    {c_TooMany i_TooMany : Addr} {oc_TooMany doc_TooMany pm_TooMany cd_TooMany ct_TooMany : Value} {od_TooMany an_TooMany : Option Addr} {sl_TooMany : Array (Option Value)} {p1_TooMany p2_TooMany q1_TooMany q2_TooMany q3_TooMany q4_TooMany : Pos} (gTooMany : PySem.W.nsIn K mainGlobals "TooMany" = some (some (.ref c_TooMany))) (iCTooMany : PySem.W.findIn K (.ref c_TooMany) "__init__" = some (some (.ref i_TooMany))) (yiTooMany : PySem.W.excInitIn K c_TooMany PySem.ERR.TooMany.bmC "OverflowError.__new__" = true) (yoTooMany : PySem.W.excOver K c_TooMany PySem.ERR.TooMany.bmC = true) (saTooMany : PySem.W.findIn K (.ref c_TooMany) "__setattr__" = some (some (.builtin "object.__setattr__"))) (gaTooMany : PySem.W.findIn K (.ref c_TooMany) "__getattribute__" = some (some (.builtin "BaseException.__getattribute__"))) (ggTooMany : PySem.W.findIn K (.ref c_TooMany) "__getattr__" = some none) (noTooMany : PySem.W.findIn K (.ref c_TooMany) "limit" = some none) (tCTooMany : PySem.W.typeIn K (.ref i_TooMany) = some (.type "function")) (kCTooMany : PySem.W.keepIn K (.ref c_TooMany) = true) (exTooMany : PySem.W.subIn K (.ref c_TooMany) (.type "BaseException") = some true) (tyTooMany : PySem.W.typeIn K (.ref c_TooMany) = some (.type "type")) (hdTooMany : PySem.W.hasDictIn K c_TooMany = true) (lTooMany : K.lookup i_TooMany = some ⟨oc_TooMany, od_TooMany, .func (PySem.W.fnOf "__init__" "TooMany.__init__" (PySem.ERR.TooMany.eA p1_TooMany p2_TooMany) (PySem.ERR.TooMany.eB q1_TooMany q2_TooMany q3_TooMany q4_TooMany) PySem.ERR.TooMany.eS .none .none doc_TooMany pm_TooMany an_TooMany cd_TooMany ct_TooMany), sl_TooMany⟩) (cdTooMany : PySem.W.codeIn K cd_TooMany "TooMany.__init__" = true)
    {c_Refused i_Refused : Addr} {oc_Refused doc_Refused pm_Refused cd_Refused ct_Refused : Value} {od_Refused an_Refused : Option Addr} {sl_Refused : Array (Option Value)} {p1_Refused p2_Refused q1_Refused q2_Refused q3_Refused q4_Refused : Pos} (gRefused : PySem.W.nsIn K mainGlobals "Refused" = some (some (.ref c_Refused))) (iCRefused : PySem.W.findIn K (.ref c_Refused) "__init__" = some (some (.ref i_Refused))) (yiRefused : PySem.W.excInitIn K c_Refused PySem.ERR.Refused.bmC "ArithmeticError.__new__" = true) (yoRefused : PySem.W.excOver K c_Refused PySem.ERR.Refused.bmC = true) (saRefused : PySem.W.findIn K (.ref c_Refused) "__setattr__" = some (some (.builtin "object.__setattr__"))) (gaRefused : PySem.W.findIn K (.ref c_Refused) "__getattribute__" = some (some (.builtin "BaseException.__getattribute__"))) (ggRefused : PySem.W.findIn K (.ref c_Refused) "__getattr__" = some none) (noRefused : PySem.W.findIn K (.ref c_Refused) "reason" = some none) (tCRefused : PySem.W.typeIn K (.ref i_Refused) = some (.type "function")) (kCRefused : PySem.W.keepIn K (.ref c_Refused) = true) (exRefused : PySem.W.subIn K (.ref c_Refused) (.type "BaseException") = some true) (tyRefused : PySem.W.typeIn K (.ref c_Refused) = some (.type "type")) (hdRefused : PySem.W.hasDictIn K c_Refused = true) (lRefused : K.lookup i_Refused = some ⟨oc_Refused, od_Refused, .func (PySem.W.fnOf "__init__" "Refused.__init__" (PySem.ERR.Refused.eA p1_Refused p2_Refused) (PySem.ERR.Refused.eB q1_Refused q2_Refused q3_Refused q4_Refused) PySem.ERR.Refused.eS .none .none doc_Refused pm_Refused an_Refused cd_Refused ct_Refused), sl_Refused⟩) (cdRefused : PySem.W.codeIn K cd_Refused "Refused.__init__" = true)
    (tab : exTab K [c_InvalidPrime, c_InvalidPoly, c_InvalidField, c_InvalidCurve, c_InvalidPlace, c_InvalidChange, c_InvalidFunction, c_InvalidDivisor, c_InvalidTriple, c_InvalidPaper, c_InvalidCode, c_InvalidOperation, c_ParseError, c_InvalidCount, c_UnknownName, c_NothingToUndo, c_TooMany, c_Refused, c_CurveError] = true) :
    ∃ fd : FuncData, (∀ (s : Shared) (v : Value), BindsTo s fd ⟨[v], []⟩ [("_law_script", v)]) ∧ ∀ base : Heap, K.In base → base.Ns mainGlobals mg → FnG l.prog w K mg base CX0 4 fa fd ["_law_script"] (sp_law K) := by
  have e := hfa.symm.trans (PySem.W.mg_of X G a_law)
  cases e
  exact ⟨PySem.W.fnOf "law" "law" (defArgs s_law) (defBody s_law) (defScope s_law) .none kV_law dc_law pm_law an_law cd_law ct_law, fun s v => .of_eq rfl, fun base _ _ => ok_law
    {
      f__law_dice := _,
      fd__law_dice := _,
      F__law_dice := fun_mk (st := s__law_dice) l__law_dice c__law_dice k__law_dice,
      b__law_dice := (fun_mk (st := s__law_dice) l__law_dice c__law_dice k__law_dice).binds (ps := ["_law_script", "_law_spot"]) (fun _ _ _ _ _ _ us hl => match us, hl with | [_, _], _ => rfl),
      g__law_dice := PySem.W.mg_of X G a__law_dice,
      f__law_roll := _,
      fd__law_roll := _,
      F__law_roll := fun_mk (st := s__law_roll) l__law_roll c__law_roll k__law_roll,
      b__law_roll := (fun_mk (st := s__law_roll) l__law_roll c__law_roll k__law_roll).binds (ps := ["_law_dice_here", "_law_total"]) (fun _ _ _ _ _ _ us hl => match us, hl with | [_, _], _ => rfl),
      g__law_roll := PySem.W.mg_of X G a__law_roll,
      f__law_raise_first := _,
      fd__law_raise_first := _,
      F__law_raise_first := fun_mk (st := s__law_raise_first) l__law_raise_first c__law_raise_first k__law_raise_first,
      b__law_raise_first := (fun_mk (st := s__law_raise_first) l__law_raise_first c__law_raise_first k__law_raise_first).binds (ps := ["_law_number"]) (fun _ _ _ _ _ _ us hl => match us, hl with | [_], _ => rfl),
      g__law_raise_first := PySem.W.mg_of X G a__law_raise_first,
      f__law_raise_kept := _,
      fd__law_raise_kept := _,
      F__law_raise_kept := fun_mk (st := s__law_raise_kept) l__law_raise_kept c__law_raise_kept k__law_raise_kept,
      b__law_raise_kept := (fun_mk (st := s__law_raise_kept) l__law_raise_kept c__law_raise_kept k__law_raise_kept).binds (ps := ["_law_number", "_law_value"]) (fun _ _ _ _ _ _ us hl => match us, hl with | [_, _], _ => rfl),
      g__law_raise_kept := PySem.W.mg_of X G a__law_raise_kept,
      f__law_pick := _,
      fd__law_pick := _,
      F__law_pick := fun_mk (st := s__law_pick) l__law_pick c__law_pick k__law_pick,
      b__law_pick := (fun_mk (st := s__law_pick) l__law_pick c__law_pick k__law_pick).binds (ps := ["_law_dice_here", "_law_items"]) (fun _ _ _ _ _ _ us hl => match us, hl with | [_, _], _ => rfl),
      g__law_pick := PySem.W.mg_of X G a__law_pick,
      f__law_caught := _,
      fd__law_caught := _,
      F__law_caught := fun_mk (st := s__law_caught) l__law_caught c__law_caught k__law_caught,
      b__law_caught := (fun_mk (st := s__law_caught) l__law_caught c__law_caught k__law_caught).binds (ps := ["_law_number"]) (fun _ _ _ _ _ _ us hl => match us, hl with | [_], _ => rfl),
      g__law_caught := PySem.W.mg_of X G a__law_caught,
      f__law_caught_back := _,
      fd__law_caught_back := _,
      F__law_caught_back := fun_mk (st := s__law_caught_back) l__law_caught_back c__law_caught_back k__law_caught_back,
      b__law_caught_back := (fun_mk (st := s__law_caught_back) l__law_caught_back c__law_caught_back k__law_caught_back).binds (ps := ["_law_number"]) (fun _ _ _ _ _ _ us hl => match us, hl with | [_], _ => rfl),
      g__law_caught_back := PySem.W.mg_of X G a__law_caught_back,
      f__law_kept := _,
      fd__law_kept := _,
      F__law_kept := fun_mk (st := s__law_kept) l__law_kept c__law_kept k__law_kept,
      b__law_kept := (fun_mk (st := s__law_kept) l__law_kept c__law_kept k__law_kept).binds (ps := ["_law_number", "_law_value"]) (fun _ _ _ _ _ _ us hl => match us, hl with | [_, _], _ => rfl),
      g__law_kept := PySem.W.mg_of X G a__law_kept,
      f__law_is_first := _,
      fd__law_is_first := _,
      F__law_is_first := fun_mk (st := s__law_is_first) l__law_is_first c__law_is_first k__law_is_first,
      b__law_is_first := (fun_mk (st := s__law_is_first) l__law_is_first c__law_is_first k__law_is_first).binds (ps := ["_law_number"]) (fun _ _ _ _ _ _ us hl => match us, hl with | [_], _ => rfl),
      g__law_is_first := PySem.W.mg_of X G a__law_is_first,
      f__law_kept_first := _,
      fd__law_kept_first := _,
      F__law_kept_first := fun_mk (st := s__law_kept_first) l__law_kept_first c__law_kept_first k__law_kept_first,
      b__law_kept_first := (fun_mk (st := s__law_kept_first) l__law_kept_first c__law_kept_first k__law_kept_first).binds (ps := ["_law_number"]) (fun _ _ _ _ _ _ us hl => match us, hl with | [_], _ => rfl),
      g__law_kept_first := PySem.W.mg_of X G a__law_kept_first,
      f__law_right := _,
      fd__law_right := _,
      F__law_right := fun_mk (st := s__law_right) l__law_right c__law_right k__law_right,
      b__law_right := (fun_mk (st := s__law_right) l__law_right c__law_right k__law_right).binds (ps := ["_law_dice_here"]) (fun _ _ _ _ _ _ us hl => match us, hl with | [_], _ => rfl),
      g__law_right := PySem.W.mg_of X G a__law_right,
      f_law := _,
      fd_law := _,
      F_law := fun_mk (st := s_law) l_law c_law k_law,
      b_law := (fun_mk (st := s_law) l_law c_law k_law).binds (ps := ["_law_script"]) (fun _ _ _ _ _ _ us hl => match us, hl with | [_], _ => rfl),
      g_law := PySem.W.mg_of X G a_law,
      z_abs := PySem.W.mg_none_of X G z_abs,
      z_int := PySem.W.mg_none_of X G z_int,
      z_max := PySem.W.mg_none_of X G z_max,
      z_len := PySem.W.mg_none_of X G z_len,
      z_range := PySem.W.mg_none_of X G z_range,
      z_repr := PySem.W.mg_none_of X G z_repr,
      z_min := PySem.W.mg_none_of X G z_min,
      c_InvalidPrime := c_InvalidPrime,
      g_InvalidPrime := PySem.W.mg_of X G gInvalidPrime,
      x_InvalidPrime := xInvalidPrime,
      k_InvalidPrime := kInvalidPrime,
      s_InvalidPrime := sInvalidPrime,
      t_InvalidPrime := tInvalidPrime,
      c_InvalidPoly := c_InvalidPoly,
      g_InvalidPoly := PySem.W.mg_of X G gInvalidPoly,
      x_InvalidPoly := xInvalidPoly,
      k_InvalidPoly := kInvalidPoly,
      s_InvalidPoly := sInvalidPoly,
      t_InvalidPoly := tInvalidPoly,
      c_InvalidField := c_InvalidField,
      g_InvalidField := PySem.W.mg_of X G gInvalidField,
      x_InvalidField := xInvalidField,
      k_InvalidField := kInvalidField,
      s_InvalidField := sInvalidField,
      t_InvalidField := tInvalidField,
      c_InvalidCurve := c_InvalidCurve,
      g_InvalidCurve := PySem.W.mg_of X G gInvalidCurve,
      x_InvalidCurve := xInvalidCurve,
      k_InvalidCurve := kInvalidCurve,
      s_InvalidCurve := sInvalidCurve,
      t_InvalidCurve := tInvalidCurve,
      c_InvalidPlace := c_InvalidPlace,
      g_InvalidPlace := PySem.W.mg_of X G gInvalidPlace,
      x_InvalidPlace := xInvalidPlace,
      k_InvalidPlace := kInvalidPlace,
      s_InvalidPlace := sInvalidPlace,
      t_InvalidPlace := tInvalidPlace,
      c_InvalidChange := c_InvalidChange,
      g_InvalidChange := PySem.W.mg_of X G gInvalidChange,
      x_InvalidChange := xInvalidChange,
      k_InvalidChange := kInvalidChange,
      s_InvalidChange := sInvalidChange,
      t_InvalidChange := tInvalidChange,
      c_InvalidFunction := c_InvalidFunction,
      g_InvalidFunction := PySem.W.mg_of X G gInvalidFunction,
      x_InvalidFunction := xInvalidFunction,
      k_InvalidFunction := kInvalidFunction,
      s_InvalidFunction := sInvalidFunction,
      t_InvalidFunction := tInvalidFunction,
      c_InvalidDivisor := c_InvalidDivisor,
      g_InvalidDivisor := PySem.W.mg_of X G gInvalidDivisor,
      x_InvalidDivisor := xInvalidDivisor,
      k_InvalidDivisor := kInvalidDivisor,
      s_InvalidDivisor := sInvalidDivisor,
      t_InvalidDivisor := tInvalidDivisor,
      c_InvalidTriple := c_InvalidTriple,
      g_InvalidTriple := PySem.W.mg_of X G gInvalidTriple,
      x_InvalidTriple := xInvalidTriple,
      k_InvalidTriple := kInvalidTriple,
      s_InvalidTriple := sInvalidTriple,
      t_InvalidTriple := tInvalidTriple,
      c_InvalidPaper := c_InvalidPaper,
      g_InvalidPaper := PySem.W.mg_of X G gInvalidPaper,
      x_InvalidPaper := xInvalidPaper,
      k_InvalidPaper := kInvalidPaper,
      s_InvalidPaper := sInvalidPaper,
      t_InvalidPaper := tInvalidPaper,
      c_InvalidCode := c_InvalidCode,
      g_InvalidCode := PySem.W.mg_of X G gInvalidCode,
      x_InvalidCode := xInvalidCode,
      k_InvalidCode := kInvalidCode,
      s_InvalidCode := sInvalidCode,
      t_InvalidCode := tInvalidCode,
      c_InvalidOperation := c_InvalidOperation,
      g_InvalidOperation := PySem.W.mg_of X G gInvalidOperation,
      x_InvalidOperation := xInvalidOperation,
      k_InvalidOperation := kInvalidOperation,
      s_InvalidOperation := sInvalidOperation,
      t_InvalidOperation := tInvalidOperation,
      c_CurveError := c_CurveError,
      g_CurveError := PySem.W.mg_of X G gCurveError,
      c_ParseError := c_ParseError,
      i_ParseError := i_ParseError,
      k_ParseError := ⟨PySem.W.mg_of X G gParseError, yiParseError, yoParseError, saParseError, gaParseError, ggParseError, noParseError, iCParseError, tCParseError, kCParseError, exParseError, tyParseError, hdParseError, (exm_tab tab (i := 12) (j := 12) (by decide) (by decide)), ⟨_, _, _, _, _, _, _, _, _, _, _, _, _, _, lParseError, cdParseError⟩⟩,
      c_InvalidCount := c_InvalidCount,
      i_InvalidCount := i_InvalidCount,
      k_InvalidCount := ⟨PySem.W.mg_of X G gInvalidCount, yiInvalidCount, yoInvalidCount, saInvalidCount, gaInvalidCount, ggInvalidCount, noInvalidCount, iCInvalidCount, tCInvalidCount, kCInvalidCount, exInvalidCount, tyInvalidCount, hdInvalidCount, (exm_tab tab (i := 13) (j := 13) (by decide) (by decide)), ⟨_, _, _, _, _, _, _, _, _, _, _, _, _, _, lInvalidCount, cdInvalidCount⟩⟩,
      c_UnknownName := c_UnknownName,
      i_UnknownName := i_UnknownName,
      k_UnknownName := ⟨PySem.W.mg_of X G gUnknownName, yiUnknownName, yoUnknownName, saUnknownName, gaUnknownName, ggUnknownName, noUnknownName, iCUnknownName, tCUnknownName, kCUnknownName, exUnknownName, tyUnknownName, hdUnknownName, (exm_tab tab (i := 14) (j := 14) (by decide) (by decide)), ⟨_, _, _, _, _, _, _, _, _, _, _, _, _, _, lUnknownName, cdUnknownName⟩⟩,
      c_NothingToUndo := c_NothingToUndo,
      i_NothingToUndo := i_NothingToUndo,
      k_NothingToUndo := ⟨PySem.W.mg_of X G gNothingToUndo, yiNothingToUndo, yoNothingToUndo, saNothingToUndo, gaNothingToUndo, ggNothingToUndo, noNothingToUndo, iCNothingToUndo, tCNothingToUndo, kCNothingToUndo, exNothingToUndo, tyNothingToUndo, hdNothingToUndo, (exm_tab tab (i := 15) (j := 15) (by decide) (by decide)), ⟨_, _, _, _, _, _, _, _, _, _, _, _, _, _, lNothingToUndo, cdNothingToUndo⟩⟩,
      c_TooMany := c_TooMany,
      i_TooMany := i_TooMany,
      k_TooMany := ⟨PySem.W.mg_of X G gTooMany, yiTooMany, yoTooMany, saTooMany, gaTooMany, ggTooMany, noTooMany, iCTooMany, tCTooMany, kCTooMany, exTooMany, tyTooMany, hdTooMany, (exm_tab tab (i := 16) (j := 16) (by decide) (by decide)), ⟨_, _, _, _, _, _, _, _, _, _, _, _, _, _, lTooMany, cdTooMany⟩⟩,
      c_Refused := c_Refused,
      i_Refused := i_Refused,
      k_Refused := ⟨PySem.W.mg_of X G gRefused, yiRefused, yoRefused, saRefused, gaRefused, ggRefused, noRefused, iCRefused, tCRefused, kCRefused, exRefused, tyRefused, hdRefused, (exm_tab tab (i := 17) (j := 17) (by decide) (by decide)), ⟨_, _, _, _, _, _, _, _, _, _, _, _, _, _, lRefused, cdRefused⟩⟩,
      tab := tab }⟩
end
end K01
open PySem PySem.W PyProof.Rows
set_option maxRecDepth 100000 in
set_option maxHeartbeats 0 in
theorem PySem.Challenge.cw_twinsheets_k01_errors_and_what_they_keep_holds : PySem.Challenge.rw_twinsheets_k01_errors_and_what_they_keep.Holds := by
  w_on; o_law; k_head; (case hw => w_witness2)
  k_fill
  refine L2.walk_ofG (l := PySem.Challenge.rw_twinsheets_k01_errors_and_what_they_keep) (n := 63) (k := 4) (x := "_law_script") (CX := fun _ => L2.CX0) (sp := fun w => K01.sp_law _) rfl (by decide) rfl ⟨rfl, by decide, by decide⟩ (fun w h Y => PySem.W.kIn_of Y) ?F (fun _ _ a ns hl _ hS => ⟨a, ns, rfl, hS, hl, fun _ => rfl⟩) (fun _ _ _ _ _ h => h)
  case F =>
    intro w mg fa h KX G hmg
    refine' K01.all_mk KX G hmg ?a__law_dice ?l__law_dice ?c__law_dice ?k__law_dice ?a__law_roll ?l__law_roll ?c__law_roll ?k__law_roll ?a__law_raise_first ?l__law_raise_first ?c__law_raise_first ?k__law_raise_first ?a__law_raise_kept ?l__law_raise_kept ?c__law_raise_kept ?k__law_raise_kept ?a__law_pick ?l__law_pick ?c__law_pick ?k__law_pick ?a__law_caught ?l__law_caught ?c__law_caught ?k__law_caught ?a__law_caught_back ?l__law_caught_back ?c__law_caught_back ?k__law_caught_back ?a__law_kept ?l__law_kept ?c__law_kept ?k__law_kept ?a__law_is_first ?l__law_is_first ?c__law_is_first ?k__law_is_first ?a__law_kept_first ?l__law_kept_first ?c__law_kept_first ?k__law_kept_first ?a__law_right ?l__law_right ?c__law_right ?k__law_right ?a_law ?l_law ?c_law ?k_law ?z_abs ?z_int ?z_max ?z_len ?z_range ?z_repr ?z_min ?gInvalidPrime ?xInvalidPrime ?kInvalidPrime ?sInvalidPrime ?tInvalidPrime ?gInvalidPoly ?xInvalidPoly ?kInvalidPoly ?sInvalidPoly ?tInvalidPoly ?gInvalidField ?xInvalidField ?kInvalidField ?sInvalidField ?tInvalidField ?gInvalidCurve ?xInvalidCurve ?kInvalidCurve ?sInvalidCurve ?tInvalidCurve ?gInvalidPlace ?xInvalidPlace ?kInvalidPlace ?sInvalidPlace ?tInvalidPlace ?gInvalidChange ?xInvalidChange ?kInvalidChange ?sInvalidChange ?tInvalidChange ?gInvalidFunction ?xInvalidFunction ?kInvalidFunction ?sInvalidFunction ?tInvalidFunction ?gInvalidDivisor ?xInvalidDivisor ?kInvalidDivisor ?sInvalidDivisor ?tInvalidDivisor ?gInvalidTriple ?xInvalidTriple ?kInvalidTriple ?sInvalidTriple ?tInvalidTriple ?gInvalidPaper ?xInvalidPaper ?kInvalidPaper ?sInvalidPaper ?tInvalidPaper ?gInvalidCode ?xInvalidCode ?kInvalidCode ?sInvalidCode ?tInvalidCode ?gInvalidOperation ?xInvalidOperation ?kInvalidOperation ?sInvalidOperation ?tInvalidOperation ?gCurveError ?gParseError ?iCParseError ?yiParseError ?yoParseError ?saParseError ?gaParseError ?ggParseError ?noParseError ?tCParseError ?kCParseError ?exParseError ?tyParseError ?hdParseError ?lParseError ?cdParseError ?gInvalidCount ?iCInvalidCount ?yiInvalidCount ?yoInvalidCount ?saInvalidCount ?gaInvalidCount ?ggInvalidCount ?noInvalidCount ?tCInvalidCount ?kCInvalidCount ?exInvalidCount ?tyInvalidCount ?hdInvalidCount ?lInvalidCount ?cdInvalidCount ?gUnknownName ?iCUnknownName ?yiUnknownName ?yoUnknownName ?saUnknownName ?gaUnknownName ?ggUnknownName ?noUnknownName ?tCUnknownName ?kCUnknownName ?exUnknownName ?tyUnknownName ?hdUnknownName ?lUnknownName ?cdUnknownName ?gNothingToUndo ?iCNothingToUndo ?yiNothingToUndo ?yoNothingToUndo ?saNothingToUndo ?gaNothingToUndo ?ggNothingToUndo ?noNothingToUndo ?tCNothingToUndo ?kCNothingToUndo ?exNothingToUndo ?tyNothingToUndo ?hdNothingToUndo ?lNothingToUndo ?cdNothingToUndo ?gTooMany ?iCTooMany ?yiTooMany ?yoTooMany ?saTooMany ?gaTooMany ?ggTooMany ?noTooMany ?tCTooMany ?kCTooMany ?exTooMany ?tyTooMany ?hdTooMany ?lTooMany ?cdTooMany ?gRefused ?iCRefused ?yiRefused ?yoRefused ?saRefused ?gaRefused ?ggRefused ?noRefused ?tCRefused ?kCRefused ?exRefused ?tyRefused ?hdRefused ?lRefused ?cdRefused ?tab
    (case a__law_dice => k_is)
    (case l__law_dice => k_is)
    (case c__law_dice => k_is)
    (case k__law_dice => k_is)
    (case a__law_roll => k_is)
    (case l__law_roll => k_is)
    (case c__law_roll => k_is)
    (case k__law_roll => k_is)
    (case a__law_raise_first => k_is)
    (case l__law_raise_first => k_is)
    (case c__law_raise_first => k_is)
    (case k__law_raise_first => k_is)
    (case a__law_raise_kept => k_is)
    (case l__law_raise_kept => k_is)
    (case c__law_raise_kept => k_is)
    (case k__law_raise_kept => k_is)
    (case a__law_pick => k_is)
    (case l__law_pick => k_is)
    (case c__law_pick => k_is)
    (case k__law_pick => k_is)
    (case a__law_caught => k_is)
    (case l__law_caught => k_is)
    (case c__law_caught => k_is)
    (case k__law_caught => k_is)
    (case a__law_caught_back => k_is)
    (case l__law_caught_back => k_is)
    (case c__law_caught_back => k_is)
    (case k__law_caught_back => k_is)
    (case a__law_kept => k_is)
    (case l__law_kept => k_is)
    (case c__law_kept => k_is)
    (case k__law_kept => k_is)
    (case a__law_is_first => k_is)
    (case l__law_is_first => k_is)
    (case c__law_is_first => k_is)
    (case k__law_is_first => k_is)
    (case a__law_kept_first => k_is)
    (case l__law_kept_first => k_is)
    (case c__law_kept_first => k_is)
    (case k__law_kept_first => k_is)
    (case a__law_right => k_is)
    (case l__law_right => k_is)
    (case c__law_right => k_is)
    (case k__law_right => k_is)
    (case a_law => k_is)
    (case l_law => k_is)
    (case c_law => k_is)
    (case k_law => k_is)
    (case z_abs => k_is)
    (case z_int => k_is)
    (case z_max => k_is)
    (case z_len => k_is)
    (case z_range => k_is)
    (case z_repr => k_is)
    (case z_min => k_is)
    (case gInvalidPrime => k_is)
    (case xInvalidPrime => k_exc)
    (case kInvalidPrime => k_is)
    (case sInvalidPrime => k_is)
    (case tInvalidPrime => k_is)
    (case gInvalidPoly => k_is)
    (case xInvalidPoly => k_exc)
    (case kInvalidPoly => k_is)
    (case sInvalidPoly => k_is)
    (case tInvalidPoly => k_is)
    (case gInvalidField => k_is)
    (case xInvalidField => k_exc)
    (case kInvalidField => k_is)
    (case sInvalidField => k_is)
    (case tInvalidField => k_is)
    (case gInvalidCurve => k_is)
    (case xInvalidCurve => k_exc)
    (case kInvalidCurve => k_is)
    (case sInvalidCurve => k_is)
    (case tInvalidCurve => k_is)
    (case gInvalidPlace => k_is)
    (case xInvalidPlace => k_exc)
    (case kInvalidPlace => k_is)
    (case sInvalidPlace => k_is)
    (case tInvalidPlace => k_is)
    (case gInvalidChange => k_is)
    (case xInvalidChange => k_exc)
    (case kInvalidChange => k_is)
    (case sInvalidChange => k_is)
    (case tInvalidChange => k_is)
    (case gInvalidFunction => k_is)
    (case xInvalidFunction => k_exc)
    (case kInvalidFunction => k_is)
    (case sInvalidFunction => k_is)
    (case tInvalidFunction => k_is)
    (case gInvalidDivisor => k_is)
    (case xInvalidDivisor => k_exc)
    (case kInvalidDivisor => k_is)
    (case sInvalidDivisor => k_is)
    (case tInvalidDivisor => k_is)
    (case gInvalidTriple => k_is)
    (case xInvalidTriple => k_exc)
    (case kInvalidTriple => k_is)
    (case sInvalidTriple => k_is)
    (case tInvalidTriple => k_is)
    (case gInvalidPaper => k_is)
    (case xInvalidPaper => k_exc)
    (case kInvalidPaper => k_is)
    (case sInvalidPaper => k_is)
    (case tInvalidPaper => k_is)
    (case gInvalidCode => k_is)
    (case xInvalidCode => k_exc)
    (case kInvalidCode => k_is)
    (case sInvalidCode => k_is)
    (case tInvalidCode => k_is)
    (case gInvalidOperation => k_is)
    (case xInvalidOperation => k_exc)
    (case kInvalidOperation => k_is)
    (case sInvalidOperation => k_is)
    (case tInvalidOperation => k_is)
    (case gCurveError => k_is)
    (case gParseError => k_is)
    (case iCParseError => k_is)
    (case yiParseError => kx_is)
    (case yoParseError => kx_is)
    (case saParseError => k_is)
    (case gaParseError => k_is)
    (case ggParseError => k_is)
    (case noParseError => k_is)
    (case tCParseError => k_is)
    (case kCParseError => k_is)
    (case exParseError => k_is)
    (case tyParseError => k_is)
    (case hdParseError => k_is)
    (case lParseError => k_is)
    (case cdParseError => k_is)
    (case gInvalidCount => k_is)
    (case iCInvalidCount => k_is)
    (case yiInvalidCount => kx_is)
    (case yoInvalidCount => kx_is)
    (case saInvalidCount => k_is)
    (case gaInvalidCount => k_is)
    (case ggInvalidCount => k_is)
    (case noInvalidCount => k_is)
    (case tCInvalidCount => k_is)
    (case kCInvalidCount => k_is)
    (case exInvalidCount => k_is)
    (case tyInvalidCount => k_is)
    (case hdInvalidCount => k_is)
    (case lInvalidCount => k_is)
    (case cdInvalidCount => k_is)
    (case gUnknownName => k_is)
    (case iCUnknownName => k_is)
    (case yiUnknownName => kx_is)
    (case yoUnknownName => kx_is)
    (case saUnknownName => k_is)
    (case gaUnknownName => k_is)
    (case ggUnknownName => k_is)
    (case noUnknownName => k_is)
    (case tCUnknownName => k_is)
    (case kCUnknownName => k_is)
    (case exUnknownName => k_is)
    (case tyUnknownName => k_is)
    (case hdUnknownName => k_is)
    (case lUnknownName => k_is)
    (case cdUnknownName => k_is)
    (case gNothingToUndo => k_is)
    (case iCNothingToUndo => k_is)
    (case yiNothingToUndo => kx_is)
    (case yoNothingToUndo => kx_is)
    (case saNothingToUndo => k_is)
    (case gaNothingToUndo => k_is)
    (case ggNothingToUndo => k_is)
    (case noNothingToUndo => k_is)
    (case tCNothingToUndo => k_is)
    (case kCNothingToUndo => k_is)
    (case exNothingToUndo => k_is)
    (case tyNothingToUndo => k_is)
    (case hdNothingToUndo => k_is)
    (case lNothingToUndo => k_is)
    (case cdNothingToUndo => k_is)
    (case gTooMany => k_is)
    (case iCTooMany => k_is)
    (case yiTooMany => kx_is)
    (case yoTooMany => kx_is)
    (case saTooMany => k_is)
    (case gaTooMany => k_is)
    (case ggTooMany => k_is)
    (case noTooMany => k_is)
    (case tCTooMany => k_is)
    (case kCTooMany => k_is)
    (case exTooMany => k_is)
    (case tyTooMany => k_is)
    (case hdTooMany => k_is)
    (case lTooMany => k_is)
    (case cdTooMany => k_is)
    (case gRefused => k_is)
    (case iCRefused => k_is)
    (case yiRefused => kx_is)
    (case yoRefused => kx_is)
    (case saRefused => k_is)
    (case gaRefused => k_is)
    (case ggRefused => k_is)
    (case noRefused => k_is)
    (case tCRefused => k_is)
    (case kCRefused => k_is)
    (case exRefused => k_is)
    (case tyRefused => k_is)
    (case hdRefused => k_is)
    (case lRefused => k_is)
    (case cdRefused => k_is)
    (case tab => kernel_rfl)
