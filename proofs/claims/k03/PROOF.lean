import PyProof.Rows.All
import Wide.All
import OpenK.AllK
import Wide.FinOn
import HandS.ForMost
import HandS.ForExc
import HandS.Wide
import HandS.IsInst
import HandS.Steps
import HandS.Evl
import HandS.Walk
import HandS.TupAny
import HandS.Style
import HandS.FStr
import HandS.Zip
import PySem.Challenge.RW_twinsheets_k03_polynomials_told
import HandS.Head0
import HandS.Head1
import HandS.Head2
import HandS.HeadEnd
import HandS.HeadHook1
import HandS.HeadHook2
import KE.KOpsOwn
import KE.KCallOwn
import HandS.OwnEq
import HandS.Property
import PyProof.InstEq
import HandS.ClsMeth
import HandS.Flow
import KE.DataCmp
import HandS.DictComp
import HandS.Dict
import HandS.TupMul
import KE.GoesEnum
import HandS.TryOnly
import HandS.TupSets
set_option Elab.async false
set_option linter.all false
set_option maxRecDepth 100000
set_option maxHeartbeats 4000000
/-! a head that tells facts of one's own by one Bool: the top is run once, nothing of it is written out -/
namespace RH
open PySem PySem.Spec PyProof.Rows L2
abbrev ga := He.ga
abbrev ma := He.ma
/-- the first of what a record holds, and the rest -/
def recHd (K : PySem.W.Frag) (p : Addr) (T : String) : Addr := match PySem.W.recIn K p T with
  | some (.ref a :: _) => a
  | _ => 0
def recTl (K : PySem.W.Frag) (p : Addr) (T : String) : List Value := match PySem.W.recIn K p T with
  | some (_ :: r) => r
  | _ => []
/-- a class's own class method: the object that is found -/
def cmA (K : PySem.W.Frag) (C : Addr) (m : Str) : Addr := match PySem.W.findCls K (.ref C) (.type "type") m with
  | some (.get (.builtin _) (.ref p) .none (.ref _)) => p
  | _ => 0
def cmB (K : PySem.W.Frag) (C : Addr) (m : Str) (p : Addr) : Bool := match PySem.W.findCls K (.ref C) (.type "type") m with
  | some (.get (.builtin g) (.ref q) .none (.ref d)) => g == "classmethod.__get__" && decide (q = p) && decide (d = C)
  | _ => false
theorem cm_ok {K : PySem.W.Frag} {C p : Addr} {m : Str} (h : cmB K C m p = true) : PySem.W.findCls K (.ref C) (.type "type") m = some (.get (.builtin "classmethod.__get__") (.ref p) .none (.ref C)) := by
  unfold cmB at h
  split at h
  · rename_i g q d e
    rw [Bool.and_eq_true, Bool.and_eq_true, beq_iff_eq, decide_eq_true_eq, decide_eq_true_eq] at h
    obtain ⟨⟨rfl, rfl⟩, rfl⟩ := h
    exact e
  · cases h
def tokOf (K : PySem.W.Frag) (x : Str) : Tok := match PySem.W.nsIn K mainGlobals x with
  | some (some (.int _ t)) => t
  | _ => 0
/-- a tuple of ints, as the fragment holds it -/
def intsB : List Value → List Int → Bool
  | [], [] => true
  | .int i _ :: vs, n :: ns => decide (i = n) && intsB vs ns
  | _, _ => false
def rowB (K : PySem.W.Frag) (a : Addr) (r : List Int) : Bool := match List.lookup a K with
  | some ⟨.type t, _, .seq xs _, _⟩ => t == "tuple" && intsB xs.toList r
  | _ => false
theorem ints_ok : ∀ {vs : List Value} {ns : List Int}, intsB vs ns = true → Vals (ns.map V.int) vs
  | [], [], _ => .nil
  | .int i t :: vs, n :: ns, h => by
    rw [intsB, Bool.and_eq_true, decide_eq_true_eq] at h
    exact .cons ⟨t, by rw [h.1]⟩ (ints_ok h.2)
  | [], _ :: _, h => by cases h
  | .int i t :: vs, [], h => by cases h
  | .none :: vs, ns, h => by cases ns <;> cases h
theorem ints_len : ∀ {vs : List Value} {ns : List Int}, intsB vs ns = true → ns.length = vs.length
  | [], [], _ => rfl
  | .int i t :: vs, n :: ns, h => by
    rw [intsB, Bool.and_eq_true] at h
    rw [List.length_cons, List.length_cons, ints_len h.2]
  | [], _ :: _, h => by cases h
  | .int i t :: vs, [], h => by cases h
  | .none :: vs, ns, h => by cases ns <;> cases h
theorem row_ok {K : PySem.W.Frag} {a : Addr} {r : List Int} (h : rowB K a r = true) (hz : r.length ≤ sizeLine) : ∀ H, SqT K H a (r.map V.int) := fun H => by
  unfold rowB at h
  split at h
  · rename_i t _ xs _ _ e
    rw [Bool.and_eq_true, beq_iff_eq] at h
    obtain ⟨rfl, h⟩ := h
    exact .inr ⟨_, _, _, e, rfl, rfl, by rw [← Array.length_toList, ← ints_len h]; exact hz, ints_ok h⟩
  · cases h
/-- a function: where it stands, its names, its row -/
structure FnP where
  at_ : PySem.W.Frag → Addr
  name : Str
  qual : Str
  st : Stmt
def fnAt (K : PySem.W.Frag) (f : Addr) : He.FnW := match List.lookup f K with
  | some ⟨_, _, .func fd, _⟩ => some (fd.name, fd.qualname, fd.params, fd.body, fd.scope, fd.globals, fd.closure, fd.builtins)
  | _ => none
def FnP.val (d : FnP) : He.FnW := some (d.name, d.qual, defArgs d.st, .stmts (defBody d.st), defScope d.st, mainGlobals, [], builtinsNs)
def nonB : Value → Bool
  | .none => true
  | _ => false
def fnB (K : PySem.W.Frag) (f : Addr) (q : Str) : Bool := PySem.W.keepIn K (.ref f) && match List.lookup f K with
  | some ⟨_, _, .func fd, _⟩ => PySem.W.codeIn K fd.code q && nonB fd.defaults
  | _ => false
abbrev Ck := PySem.W.Frag → Bool
def obsK (cs : List (List Ck)) (fs : List FnP) (K : PySem.W.Frag) : Bool × List He.FnW := (cs.all (fun l => l.all fun c => c K) && fs.all (fun d => fnB K (d.at_ K) d.qual), fs.map fun d => fnAt K (d.at_ K))
def valK (fs : List FnP) : Bool × List He.FnW := (true, fs.map FnP.val)
theorem frG_in {h : Heap} : ∀ as, PySem.W.Frag.In (He.frG (fun a => h.get? a) as) h
  | [], a, o, e => by cases e
  | b :: as, a, o, e => by
    unfold He.frG at e
    cases c : h.get? b with
    | none =>
      rw [List.filterMap_cons_none (by show Option.map _ (h.get? b) = none; rw [c]; rfl)] at e
      exact frG_in as a o e
    | some ob =>
      rw [List.filterMap_cons_some (b := (b, ob)) (by show Option.map _ (h.get? b) = _; rw [c]; rfl)] at e
      replace e : List.lookup a ((b, ob) :: List.filterMap (fun a => Option.map (fun o => (a, o)) (h.get? a)) as) = some o := e
      rw [List.lookup_cons] at e
      split at e
      · rename_i q
        cases e
        rw [eq_of_beq q]
        exact c
      · exact frG_in as a o e
def adrs (g : Addr → Option Obj) (n : Nat) : List Addr := cStatics :: He.asD g n
def hookK (n : Nat) (cs : List (List Ck)) (fs : List FnP) : PySem.W.Hook where
  α := Bool × List He.FnW
  obs s := obsK cs fs (He.frG (fun a => s.heap.get? a) (adrs (fun a => s.heap.get? a) n))
  val _ := valK fs
  says _ h := ∃ K, PySem.W.Frag.In K h ∧ obsK cs fs K = valK fs
  of _ s e := ⟨_, frG_in _, e⟩
  keeps _ _ _ := fun ⟨K, X, e⟩ k => ⟨K, fun a o l => k a o (X a o l), e⟩
def obT (n : Nat) (cs : List (List Ck)) (fs : List FnP) (s : PySem.W.SharedT) : Bool × List He.FnW := obsK cs fs (He.frG (HandSHeadRun.getT s) (adrs (HandSHeadRun.getT s) n))
theorem obT_eq {n : Nat} {cs : List (List Ck)} {fs : List FnP} (s : PySem.W.SharedT) : obT n cs fs s = (hookK n cs fs).obs s.abs := by
  show obsK cs fs (He.frG (HandSHeadRun.getT s) (adrs (HandSHeadRun.getT s) n)) = _
  rw [show HandSHeadRun.getT s = fun a => s.abs.heap.get? a from funext fun a => HandSHeadRun.getT_eq s a]
  rfl
section
variable {cs : List (List Ck)} {fs : List FnP} {K : PySem.W.Frag}
theorem ck_of (h : obsK cs fs K = valK fs) (i j : Nat) {l : List Ck} {c : Ck} (e : cs[i]? = some l) (e2 : l[j]? = some c) : c K = true := by
  have h1 := congrArg Prod.fst h
  replace h1 : (cs.all (fun l => l.all fun c => c K) && fs.all (fun d => fnB K (d.at_ K) d.qual)) = true := h1
  rw [Bool.and_eq_true, List.all_eq_true] at h1
  have h2 := h1.1 l (List.mem_of_getElem? e)
  rw [List.all_eq_true] at h2
  exact h2 c (List.mem_of_getElem? e2)
theorem fn_of (h : obsK cs fs K = valK fs) (i : Nat) {d : FnP} (e : fs[i]? = some d) : ∃ fd, Fun K d.name d.qual d.st (d.at_ K) fd := by
  have hm := List.mem_of_getElem? e
  have h1 := congrArg Prod.fst h
  replace h1 : (cs.all (fun l => l.all fun c => c K) && fs.all (fun d => fnB K (d.at_ K) d.qual)) = true := h1
  rw [Bool.and_eq_true] at h1
  have h2 := (List.all_eq_true.mp h1.2) d hm
  have h3 : fs.map (fun d => fnAt K (d.at_ K)) = fs.map FnP.val := congrArg Prod.snd h
  have h4 : fnAt K (d.at_ K) = d.val := by
    have := congrArg (fun l => l[i]?) h3
    simp only [List.getElem?_map, e, Option.map_some, Option.some.injEq] at this
    exact this
  unfold fnB at h2
  rw [Bool.and_eq_true] at h2
  obtain ⟨kp, h2⟩ := h2
  unfold fnAt at h4
  split at h4
  · rename_i oc od fd osl el
    rw [el] at h2
    rw [Bool.and_eq_true] at h2
    unfold FnP.val at h4
    simp only [Option.some.injEq, Prod.mk.injEq] at h4
    obtain ⟨e1, e2, e3, e4, e5, e6, e7, e8⟩ := h4
    have en : fd.defaults = .none := by
      have := h2.2
      unfold nonB at this
      split at this
      · assumption
      · cases this
    refine ⟨fd, ⟨⟨oc, od, fd.kwdefaults, fd.doc, fd.pyModule, fd.annotations, fd.code, fd.closureTuple, osl, ?_, el, h2.1⟩, kp⟩⟩
    cases fd
    simp only at e1 e2 e3 e4 e5 e6 e7 e8 en
    subst e1 e2 e3 e4 e5 e6 e7 e8 en
    rfl
  · cases h4
/-- the law's function, bound -/
theorem bindsTo_of {x qual : Str} {st : Stmt} {f : Addr} {fd : FuncData} {p : Str} (F : Fun K x qual st f fd) (h : ∀ (kV doc pm : Value) (an : Option Addr) (cdv ct u : Value), bindArgs (PySem.W.fnOf x qual (defArgs st) (defBody st) (defScope st) Value.none kV doc pm an cdv ct) { pos := [u] } = pure [(p, u)]) (s : Shared) (v : Value) : BindsTo s fd ⟨[v], []⟩ [(p, v)] := by
  obtain ⟨⟨oc, od, kV, doc, pm, an, cdv, ct, osl, rfl, el, hc⟩, kp⟩ := F
  exact .of_eq (h kV doc pm an cdv ct v)
end
end RH


/-! t[::-1] of a tuple -/
namespace HT
open PySem PySem.Spec PyProof.Rows
section
variable {prog : Program} {w : World} {A : Around} {E : Value → Shared → Prop} {s : Shared}
theorem adjust_back (n : Nat) : Builtin.Slice.sliceAdjust none none (-1) (n : Int) = ((n : Int) - 1, -1) := by
  unfold Builtin.Slice.sliceAdjust
  simp
theorem places_back (n : Nat) : Builtin.Slice.slicePlaces ((n : Int) - 1) (-1) (-1) = n := by
  unfold Builtin.Slice.slicePlaces
  have h1 : ¬ ((-1 : Int) > 0) := by decide
  simp only [h1, if_false]
  split
  · show (((n : Int) - 1 - -1 - 1) / (- -1) + 1).toNat = n
    rw [show (- -1 : Int) = 1 from rfl, Int.ediv_one]
    omega
  · show (0 : Int).toNat = n
    omega
theorem fm_map {α β : Type} {f : α → Option β} {g : α → β} : ∀ {l : List α}, (∀ x ∈ l, f x = some (g x)) → l.filterMap f = l.map g
  | [], _ => rfl
  | x :: l, h => by
    rw [List.filterMap_cons, h x List.mem_cons_self, List.map_cons]
    show g x :: l.filterMap f = _
    rw [fm_map fun y hy => h y (List.mem_cons_of_mem _ hy)]
theorem pick_back (xs : Array Value) : ((List.range xs.size).filterMap fun (k : Nat) => xs[(((xs.size : Int) - 1) + (k : Int) * (-1)).toNat]?).toArray = xs.toList.reverse.toArray := by
  have e : (List.range xs.size).filterMap (fun (k : Nat) => xs[(((xs.size : Int) - 1) + (k : Int) * (-1)).toNat]?) = (List.range xs.size).map fun k => xs.toList.getD (xs.size - 1 - k) .none := by
    refine fm_map fun k hk => ?_
    have hk := List.mem_range.mp hk
    have : (((xs.size : Int) - 1) + (k : Int) * (-1)).toNat = xs.size - 1 - k := by omega
    rw [this]
    have lt : xs.size - 1 - k < xs.size := by omega
    rw [Array.getElem?_eq_getElem lt]
    show some _ = some _
    rw [List.getD_eq_getElem?_getD, Array.getElem?_toList, Array.getElem?_eq_getElem lt]
    rfl
  rw [e]
  congr 1
  refine List.ext_getElem ?_ fun i h1 h2 => ?_
  · rw [List.length_map, List.length_range, List.length_reverse, Array.length_toList]
  · rw [List.getElem_map, List.getElem_range, List.getElem_reverse]
    have lt : xs.size - 1 - i < xs.toList.length := by
      rw [List.length_map, List.length_range] at h1
      rw [Array.length_toList]
      omega
    rw [List.getD_eq_getElem?_getD, List.getElem?_eq_getElem lt]
    rfl
theorem sliceApplied_back {sl : Addr} {n : Nat} {vs : Value} {Q : Int × Int × Nat → Shared → Prop} (hs : s.heap.IsSliceOf sl .none .none vs) (pst : IsPart vs (some (-1)))
    (h : Q ((n : Int) - 1, -1, n) s) : wpAny (model prog w) A (Builtin.Slice.sliceApplied (.ref sl) (pure (n : Int))) Q E s := by
  obtain ⟨os, hos, hcs, hds⟩ := id hs
  unfold Builtin.Slice.sliceApplied Builtin.Slice.sliceFields
  refine wpAny_bind (wpAny_bind (wpAny_field hos hds (x := .none) rfl (wpAny_bind (wpAny_field hos hds (x := .none) rfl (wpAny_bind (wpAny_field hos hds (x := vs) rfl (wpAny_pure ?_)))))))
  refine wpAny_bind (slicePart_ pst ?_)
  show wpAny _ _ (if ((-1 : Int) == 0) = true then _ else _) _ _ s
  rw [if_neg (by decide)]
  refine wpAny_bind (slicePart_none (wpAny_bind (slicePart_none (wpAny_bind (wpAny_pure ?_)))))
  show wpAny _ _ (match Builtin.Slice.sliceAdjust none none (-1) (n : Int) with | (lo, hi) => pure (lo, (-1 : Int), Builtin.Slice.slicePlaces lo hi (-1))) _ _ s
  rw [adjust_back]
  show wpAny _ _ (pure ((n : Int) - 1, (-1 : Int), Builtin.Slice.slicePlaces ((n : Int) - 1) (-1) (-1))) _ _ s
  rw [places_back]
  exact wpAny_pure h
theorem getItem_tuple_back {t sl : Addr} {items : Array Value} {vs : Value} {Q : Value → Shared → Prop} (ht : IsTup s.heap t items) (hs : s.heap.IsSliceOf sl .none .none vs) (pst : IsPart vs (some (-1)))
    (h : Q (.ref s.heap.objs.size) { s with heap := s.heap.push { cls := .type "tuple", data := .seq items.toList.reverse.toArray } })
    (hsz : items.size ≤ sizeLine) : wpAny (model prog w) A (getItem (.ref t) (.ref sl)) Q E s := by
  have hnew : sizeOk (.seq items.toList.reverse.toArray) := by
    show items.toList.reverse.toArray.size ≤ sizeLine
    rw [List.size_toArray, List.length_reverse, Array.length_toList]
    exact hsz
  obtain ⟨os, hos, hcs, hds⟩ := id hs
  have hTs : s.TypeIs (.ref sl) "slice" := ⟨os, hos, hcs⟩
  unfold getItem
  try with_reducible refine wpAny_holding ?_
  first | refine wpAny_bind (wpAny_pure ?_) | skip
  refine wpAny_bind (wpAny_sequenceKey ht.typeIs (by decide) ?_)
  refine wpAny_bind (wpAny_callSpecial?_slot (name := Str.ofString "__getitem__") ht.typeIs PyProof.Rows.slot_tuple_getitem
    (wpAny_call_entry PyProof.Rows.slot_tuple_getitem ht.typeIs entry_tuple_getitem ?_
      (args_tuple_getitem _ _)))
  show wpAny _ _
    (Builtin.Tuple.tupleItemsOf (.ref t) >>= _) _ _ s
  refine wpAny_bind (tupleItemsOf_ ht
    (wpAny_bind (wpAny_typeOf hTs ?_)))
  rw [if_pos (by decide)]
  refine wpAny_bind (sliceApplied_back hs pst ?_)
  have hno : ¬ ((((items.size : Int) - 1) == 0 && (-1 : Int) == 1 && items.size == items.size) = true) := by
    intro q
    rw [Bool.and_eq_true, Bool.and_eq_true] at q
    exact absurd q.1.2 (by decide)
  show wpAny _ _ (if (((items.size : Int) - 1) == 0 && (-1 : Int) == 1 && items.size == items.size) = true then _ else _) _ _ s
  rw [if_neg hno, pick_back]
  first
    | exact wpAny_bind (m := Builtin.Tuple.tupleExact _)
        (wpAny_newObj_type (wpAny_pure ⟨_, rfl, wpAny_pure h⟩) hnew)
    | exact wpAny_bind (m := Builtin.Tuple.tupleExact _)
        (wpAny_newObj_type (wpAny_bind (wpAny_pure (wpAny_pure ⟨_, rfl, wpAny_pure h⟩))) hnew)
    | exact wpAny_bind (wpAny_bind (m := Builtin.Tuple.tupleExact _)
        (wpAny_newObj_type (wpAny_pure (wpAny_pure ⟨_, rfl, wpAny_pure h⟩)) hnew))
    | exact wpAny_bind (wpAny_bind (m := Builtin.Tuple.tupleExact _)
        (wpAny_newObj_type (wpAny_pure ⟨_, rfl, wpAny_pure h⟩) hnew))
end
end HT
namespace L2
open PySem PySem.Spec PyProof.Rows
def tRevT (K : PySem.W.Frag) (te : TE) : TE := fun σ H Q => te σ H fun x H1 =>
  ∃ a xs, x = .ref a ∧ SqT K H1 a xs ∧ ∀ p, H1 p = none → Q (.ref p) (upd H1 p (.tup xs.reverse))
theorem pe_revT {X : Cx} {e : Expr} {te : TE} {k : Nat} {p1 p2 p3 pos : Pos} (he : PE X e te) :
    PE X (.Subscript e (.Slice none none (some (.UnaryOp .USub (.Constant (.int 1) k p1) p2)) p3) pos) (tRevT X.K te) := by
  refine ⟨fun pins s σ H Q I h => Subscript_ (thn (he.run pins s σ H _ I h) fun v s1 ⟨x, H1, I1, r1, a, xs, ex, hx, q⟩ => ?_)⟩
  subst ex
  cases r1
  have back : PO X (some (.UnaryOp .USub (.Constant (.int 1) k p1) p2)) (tPart (tUn (rU fun i => .int (-i)) (tC (.int 1)))) :=
    po_some (pe_un un_neg pe_int)
  refine wpAny_Slice (thn (po_none.run pins s1 σ H1
    (fun o H2 => o = none ∧ H2 = H1) I1 ⟨rfl, rfl⟩) fun vl s2 ⟨l, H2, I2, pl, el, e2⟩ => ?_)
  subst el e2
  refine thn (po_none.run pins s2 σ H2
    (fun o H3 => o = none ∧ H3 = H2) I2 ⟨rfl, rfl⟩) fun vu s3 ⟨u, H3, I3, pu, eu, e3⟩ => ?_
  subst eu e3
  refine thn (back.run pins s3 σ H3
    (fun o H4 => o = some (-1) ∧ H4 = H3) I3 ⟨1, rfl, -1, rfl, rfl, rfl⟩) fun vs s4 ⟨o, H4, I4, ps, eo, e4⟩ => ?_
  subst eo e4
  cases pl
  cases pu
  have I5 : Inv X pins σ H4 { s4 with heap := s4.heap.push { cls := .type "slice", data := .fields #[.none, .none, vs] } } :=
    I4.kept (t' := s4.toks) fun b ob q => Heap.get?_push_of_some _ q
  obtain ⟨its, r, ht, hz⟩ := I5.tuple hx
  have ln := r.length
  show wpAny (model X.prog X.w) X.A (subscriptTail e _ (.ref a) (.ref s4.heap.objs.size)) (EP X pins σ Q) X.xe
    { s4 with heap := s4.heap.push { cls := .type "slice", data := .fields #[.none, .none, vs] } }
  refine tail_any (ops := [.ref a, .ref s4.heap.objs.size]) ht.typeIs
    (PyProof.Rows.slot_tuple_getitem.lookup) ?_ (by with_unfolding_all rfl)
  refine HT.getItem_tuple_back ht (Heap.IsSliceOf.new _ .none .none vs) ps ?_ (by rw [List.size_toArray]; omega)
  refine ⟨.ref _, _, I5.laid (t' := s4.toks) (o := .tup xs.reverse) (fun b ob q => Heap.get?_push_of_some _ q) (Nat.le_refl _) ?_, rfl,
    q _ (I5.hok.fresh (Nat.le_refl _))⟩
  exact ⟨by rw [List.length_reverse]; exact hz, _, r.reverse, IsTup.new _ _⟩
end L2


/-! an own class's operators, its ==, its text, a call of its instances -/
namespace L2
open PySem PySem.Spec PyProof.Rows
theorem back_of {Q : Value → Shared → Prop} {v : V} {u : Value} {s' : Shared} (r : RelV v u) (q : Q u s') : PySem.W.CmpBack Q u s' := by
  cases u with
  | notImplemented =>
    cases v <;> first
      | (obtain ⟨_, z⟩ := r; cases z)
      | cases r
      | (exact absurd r (by simp [RelV]))
  | _ => exact q
/-- a special method of the class at C -/
structure Spec1 (K : PySem.W.Frag) (C f : Addr) (nm : Str) : Prop where
  at_ : PySem.W.findIn K (.ref C) nm = some (some (.ref f))
  fn : PySem.W.isFn K (.ref f) = true
section
variable {X : Cx} {CX : CXT} {k : Nat} {C f : Addr} {fd : FuncData} {ps : List Str} {sp : Sp} {E : XK}
/-- x == y, x of the class, y anything else or of it -/
theorem op_eqOwn (m : Spec1 X.K C f "__eq__") (F : FnOk X.prog X.w X.K X.mg X.base CX k f fd ps sp) (hr : Room k X.A) (hb : Binds X.K fd ps []) (hx : Passes CX X E) :
    OpR X (compareOp .Eq) (fun x y H Q => ∃ a dx fs t, x = .ref a ∧ H a = some (.ins C dx fs) ∧ TyX X.K H y t ∧ PySem.W.notFirst X.K C t = true ∧ sp [.ref a, y] H Q E) := by
  intro pins s σ H x y v u Q I rx ry h
  obtain ⟨a, dx, fs, t, rfl, ha, ty, nf, q⟩ := h
  cases rx
  obtain ⟨_, J, _⟩ := ins_get I.hok ha
  obtain ⟨od, J, _⟩ := J.look
  obtain ⟨mf, hF⟩ := I.fr
  obtain ⟨P, kit, hp, _⟩ := kit_of I ry ty
  have LT : PySem.W.Looks (model X.prog X.w) s.heap (typeOf u) t := kit.ty _ _ I.kIn hp
  refine PySem.W.cmp_K (op := .Eq) (tb := t) hr.units0 hF I.ok.mod.kin J LT nf m.at_ m.fn ?_
  refine wpAny_mono (run_fn (us := [.ref a, u]) (vs := [.ref a, y]) F hr hb .nil hx I (.cons rfl (.cons ry .nil)) q) (fun w s' hw => ?_) fun _ _ z => z
  obtain ⟨v, H', J', rv, q'⟩ := id hw
  exact back_of rv hw
/-- str(x) -/
theorem call_strOwn (m : Spec1 X.K C f "__str__") (F : FnOk X.prog X.w X.K X.mg X.base CX k f fd ps sp) (hr : Room (k + 2) X.A) (hb : Binds X.K fd ps []) (hx : Passes CX X E) :
    CallR X (.type "str") (fun xs H Q => ∃ a dx fs, xs = [.ref a] ∧ H a = some (.ins C dx fs) ∧ sp [.ref a] H (fun v H' => (∃ z, v = .str z) ∧ Q v H') E) := by
  intro pins s σ H xs us Q I r h
  obtain ⟨a, dx, fs, rfl, ha, q⟩ := h
  obtain ⟨u, rfl, rx⟩ := vals1 r
  cases rx
  obtain ⟨_, J, _⟩ := ins_get I.hok ha
  obtain ⟨od, J, _⟩ := J.look
  refine PySem.W.kso_call (by have := hr.un; show X.A.units + 1 + 1 < cLine; omega) I.kIn J m.at_ m.fn (wpAny_call ?_)
  have ln : ([Value.ref a] ++ ([] : List Value)).length = ps.length := (F.len _ _ _ _ q).symm ▸ rfl
  refine codeAny_mono (F.run X.A.in1.in1 X.stack s H ⟨[.ref a], []⟩ [.ref a] [.ref a] _ E hr.in1.in1 I.env0.in1.in1
    (by simpa using hb s [.ref a] I.kIn (by simpa using F.len _ _ _ _ q)) (.cons rfl .nil) q) fun r s' hq => ?_
  match r, hq with
  | .error e, hq => exact hx pins σ H s e s' I hq
  | .ok (.ret u), hq =>
    obtain ⟨v, H', J', rv, ⟨z, rfl⟩, q'⟩ := I.after hq
    obtain ⟨t, rfl⟩ := rv
    exact ⟨.str z, H', J', ⟨t, rfl⟩, q'⟩
/-- the call's frame: whatever stands at x behind the arguments is an instance -/
theorem own_callWith {M : Model} {A : Around} {E : Value → Shared → Prop} {s : Shared} {env : Env} {pos : Pos} {x C : Addr} {e : Expr} {rest : List Expr} {Q : Value → Shared → Prop}
    (h : wpAny M A (spliced (backTo pos (starEach (e :: rest) env))) (fun vs s₁ => (∃ ox od, PySem.W.InstAt s₁.heap x ox C od ∧ ox.data = .plain) ∧ wpAny M A (call (.ref x) vs) Q E s₁) E s)
    (he : starEach (e :: rest) env = (false, eval e env) :: starEach rest env) (hpl : (backTo pos (starEach rest env)).any (·.1) = false) :
    wpAny M A (callWith pos (.ref x) [] (backTo pos (starEach (e :: rest) env)) []) Q E s := by
  rw [he] at h ⊢
  have none_kw : (((false, eval e env) :: backTo pos (starEach rest env)).any (·.1) || ([] : List (Option Str × Sem Value)).any (·.1.isNone)) = false := by
    show ((false || (backTo pos (starEach rest env)).any (·.1)) || false) = false
    rw [hpl]
    rfl
  unfold callWith
  refine wpAny_bind (wpAny_holding (wpAny_mono (PySem.Calls.evalArgs_plain (Q := fun a s₁ => (∃ ox od, PySem.W.InstAt s₁.heap x ox C od ∧ ox.data = .plain) ∧ wpAny M A (call (.ref x) ([] ++ a.pos) a.kw) Q E s₁) ?_)
    (fun a s₁ h₁ => wpAny_bind (wpAny_standAt ?_)) fun _ _ y => y))
  · exact h
  · obtain ⟨⟨ox, od, J, hd⟩, h2⟩ := h₁
    have L := PySem.W.kco_keeper (M := M) J hd
    simp only [none_kw]
    refine wpAny_bind (L.here ?_)
    refine wpAny_bind (wpAny_mono (wpAny_operateT h2)
      (fun r s₂ hr => wpAny_bind (wpAny_holding (wpAny_point (wpAny_pure hr)))) fun _ _ y => y)
/-- x(e), x a name that holds an instance -/
def tCallOwn (C : Addr) (i : Nat) (sp : Sp) (E : XK) (t : TA) : TE := fun σ H Q => ∃ a dx fs, σ[i]? = some (some (.ref a)) ∧ H a = some (.ins C dx fs) ∧
  t σ H fun vs H1 => (∃ dx1 fs1, H1 a = some (.ins C dx1 fs1)) ∧ sp (.ref a :: vs) H1 Q E
theorem pe_callOwn {x : Str} {i : Nat} {p pos : Pos} {e : Expr} {es : List Expr} {t : TA} (m : Spec1 X.K C f "__call__") (hfn : PySem.W.fnIn X.K f = true)
    (F : FnOk X.prog X.w X.K X.mg X.base CX k f fd ps sp) (hr : Room (k + 1) X.A) (hb : Binds X.K fd ps []) (hx : Passes CX X E) (ha : PA X (e :: es) t)
    (hN : X.N[i]? = some x := by rfl) (hv : Vis X.env.scope x := by first | exact Or.inl rfl | exact Or.inr (Or.inl rfl) | exact Or.inr (Or.inr rfl))
    (hd : (x == ("__debug__" : Str)) = false := by decide) (hcd : (x == ("__classdict__" : Str)) = false := by decide)
    (he : starEach (e :: es) X.env = (false, eval e X.env) :: starEach es X.env := by rfl)
    (hpl : (backTo pos (starEach es X.env)).any (·.1) = false := by rfl) : PE X (.Call (.Name x p) (e :: es) [] pos) (tCallOwn C i sp E t) := by
  refine ⟨fun pins s σ H Q I h => ?_⟩
  obtain ⟨a, dx, fs, hs, hi, q⟩ := h
  refine wpAny_Call_Name_kw (thn ((pe_var (pos := p) (i := i) hN hv hd hcd).run pins s σ H
    (fun v H1 => v = .ref a ∧ H1 = H) I ⟨.ref a, hs, rfl, rfl⟩) fun u s1 ⟨v, H1, I1, r1, ev, eH⟩ => ?_)
  subst ev
  subst eH
  obtain rfl : u = Value.ref a := r1
  obtain ⟨_, J, _⟩ := ins_get I1.hok hi
  obtain ⟨od, J, hpl0⟩ := J.look
  refine own_callWith (C := C) (thn (ha.run pos pins s1 σ H1 _ I1 q) fun us s2 ⟨vs, H2, I2, rel, ⟨dx2, fs2, hi2⟩, q2⟩ => ?_) he hpl
  obtain ⟨_, J2, _⟩ := ins_get I2.hok hi2
  obtain ⟨od2, J2, _⟩ := J2.look
  refine ⟨⟨_, _, J2, rfl⟩, wpAny_call (PySem.W.kco_code I2.kIn J2 rfl m.at_ m.fn hfn ?_)⟩
  have ln : us.length + 1 = ps.length := by
    rw [← F.len _ _ _ _ q2, List.length_cons, rel.length]
  refine codeAny_mono (F.run X.A X.stack s2 H2 ⟨.ref a :: us, []⟩ (.ref a :: us) (.ref a :: vs) Q E (hr.mono (Nat.le_succ k)) I2.env0
    (by simpa using hb s2 (.ref a :: us) I2.kIn (by simpa using ln)) (.cons rfl rel) q2) fun r s' hq => ?_
  match r, hq with
  | .error e, hq => exact hx pins σ H2 s2 e s' I2 hq
  | .ok (.ret u), hq => exact I2.after hq
end
end L2


/-! x != y and x[y] of an own class that has __eq__ (and no __ne__), __getitem__ -/
namespace PySem.W
open PySem PySem.Spec PySem.Calls PyProof.Rows
section
variable {prog : Program} {w : World} {A : Around} {E : Value → Shared → Prop} {s : Shared} {K : Frag} {x C L f : Addr} {h₀ : Heap} {m : Str → Option Value} {ox : Obj} {od : Option Obj} {b tb : Value}
theorem slot_ne : Slot "object" "__ne__" "object.__ne__" :=
  .of (owner := "object") (n := "__ne__")
    (by
      rw [typeLookup_type, builtinLookup_eq_fast]
      kernel_rfl)
    (by decide +kernel)
    (by decide +kernel)
    (by decide +kernel)
    (by
      first
        | exact .inl (by decide +kernel)
        | exact .inr (by decide +kernel))
    (by
      rw [isSubtype_type]
      kernel_rfl)
theorem is_object {M : Model} (X : K.In s.heap) (I : InstAt s.heap x ox C od) (hob : subIn K (.ref C) (.type "object") = some true) :
    Looks M s.heap (isInstance (.ref x) (.type "object")) true := by
  unfold isInstance
  exact I.type.andThen (looks_subIn X hob)
theorem own_ne_try {Q : Value → Shared → Prop} (X : K.In s.heap) (I : InstAt s.heap x ox C od)
    (hn : findIn K (.ref C) "__ne__" = some (some (.builtin "object.__ne__"))) (hs : findIn K (.ref C) "__eq__" = some (some (.ref f))) (hf : isFn K (.ref f) = true)
    (hob : subIn K (.ref C) (.type "object") = some true) (hu : A.units + 1 < cLine)
    (h : wpAny (model prog w) A.in1 (call (.ref f) [.ref x, b]) (BoolBack fun r s' => Q (.bool (!r)) s') E s) :
    wpAny (model prog w) A (tryCompare (.ref x) "__ne__" b) (fun r s' => ∃ v, r = some v ∧ Q v s') E s := by
  unfold tryCompare
  have called : wpAny (model prog w) A (call (.builtin "object.__ne__") [.ref x, b])
      (fun v s' => ∃ r, v = .bool r ∧ Q (.bool r) s') E s := by
    refine wpAny_call (codeAny_call_builtin slot_ne.plain F.cmpEntry_ne
      (check_slot F.cmpKind_ne F.cmpSplit_ne (is_object X I hob) (F.cmpArgs_ne _ _) ?_))
    show wpAny _ A.in1 (Builtin.«object.__ne__» ⟨[.ref x, b], []⟩) _ _ s
    unfold Builtin.«object.__ne__»
    refine wpAny_bind (wpAny_of_eq rfl ?_)
    refine wpAny_bind (m := cRoomFor _ _) (wpAny_cRoomFor (show A.units + 1 < cLine from hu) ?_)
    refine wpAny_bind (ifBound_K X I hs hf (wpAny_mono h (fun v s' hv => ?_) fun _ _ e => e))
    cases v with
    | bool r => exact wpAny_bind (wpAny_pure (wpAny_pure ⟨_, rfl, hv⟩))
    | _ => exact hv.elim
  have bound : wpAny (model prog w) A (callSpecialIfBound? (.ref x) "__ne__" [b])
      (fun v s' => ∃ r, v = some (.bool r) ∧ Q (.bool r) s') E s := by
    simp only [callSpecialIfBound?, bindSpecialIfBound?]
    refine wpAny_holding (wpAny_bind (wpAny_bind (wpAny_bind (I.type.here ((looks_findIn X hn).here ?_)))))
    simp only [slot_ne.bind]
    refine wpAny_bind (wpAny_askSetting (wpAny_ite ?_))
    have fin : wpAny (model prog w) A (call (.builtin "object.__ne__") ([.ref x] ++ [b]) >>= fun v => pure (some v))
        (fun v s' => ∃ r, v = some (.bool r) ∧ Q (.bool r) s') E s :=
      wpAny_bind (wpAny_mono called (fun v s' ⟨r, e, q⟩ => wpAny_pure ⟨r, congrArg some e, q⟩) fun _ _ e => e)
    split
    · exact wpAny_bind (wpAny_pure (wpAny_pure fin))
    · exact wpAny_tryCatch (wpAny_bind (wpAny_pure (wpAny_pure fin)))
  refine wpAny_bind (wpAny_mono bound (fun v s' ⟨r, e, q⟩ => ?_) fun _ _ e => e)
  subst e
  exact wpAny_pure ⟨_, rfl, q⟩
theorem own_ne {Q : Value → Shared → Prop} (hu : A.units + 1 < cLine) (X : K.In s.heap) (I : InstAt s.heap x ox C od) (hb : Looks (model prog w) s.heap (typeOf b) tb)
    (first : notFirst K C tb = true) (hn : findIn K (.ref C) "__ne__" = some (some (.builtin "object.__ne__"))) (hs : findIn K (.ref C) "__eq__" = some (some (.ref f)))
    (hf : isFn K (.ref f) = true) (hob : subIn K (.ref C) (.type "object") = some true)
    (h : wpAny (model prog w) A.in1 (call (.ref f) [.ref x, b]) (BoolBack fun r s' => Q (.bool (!r)) s') E s) :
    wpAny (model prog w) A (richCompare .NotEq (.ref x) b) Q E s := by
  have one := own_ne_try X I hn hs hf hob hu h
  have room : A.units < cLine := by omega
  unfold richCompare
  simp only [oneThing_ref]
  refine wpAny_holding (wpAny_bind (wpAny_cRoomFor room ?_))
  refine wpAny_bind (I.type.here (wpAny_bind (hb.here ?_)))
  have tail : ∀ {t : Sem (Option Value)} {k : Option Value → Sem Value},
      wpAny (model prog w) A t (fun r s' => ∃ v, r = some v ∧ Q v s') E s → (∀ v, k (some v) = pure v) →
      wpAny (model prog w) A (t >>= k) Q E s := fun ht hk =>
    wpAny_bind (wpAny_mono ht (fun r s' ⟨v, e, q⟩ => by rw [e, hk]; exact wpAny_pure q) fun _ _ e => e)
  split
  · rename_i ne
    have sub : subIn K tb (.ref C) = some false := by
      rcases Bool.or_eq_true_iff.mp first with e | e
      · rw [beq_iff_eq.mp e] at ne
        simp at ne
      · exact beq_iff_eq.mp e
    refine wpAny_bind ((looks_subIn X sub).here ?_)
    simp only [Bool.false_eq_true, if_false]
    exact tail one fun _ => rfl
  · refine wpAny_bind (wpAny_pure ?_)
    simp only [Bool.false_eq_true, if_false]
    exact tail one fun _ => rfl
end
end PySem.W
namespace L2
open PySem PySem.Spec PyProof.Rows
section
variable {X : Cx} {CX : CXT} {k : Nat} {C f : Addr} {fd : FuncData} {ps : List Str} {sp : Sp} {E : XK}
/-- x != y, x of the class, by its == -/
theorem op_neOwn (m : Spec1 X.K C f "__eq__") (hn : PySem.W.findIn X.K (.ref C) "__ne__" = some (some (.builtin "object.__ne__"))) (hob : PySem.W.subIn X.K (.ref C) (.type "object") = some true)
    (F : FnOk X.prog X.w X.K X.mg X.base CX k f fd ps sp) (hr : Room (k + 1) X.A) (hb : Binds X.K fd ps []) (hx : Passes CX X E) :
    OpR X (compareOp .NotEq) (fun x y H Q => ∃ a dx fs t, x = .ref a ∧ H a = some (.ins C dx fs) ∧ TyX X.K H y t ∧ PySem.W.notFirst X.K C t = true ∧
      sp [.ref a, y] H (fun v H' => ∃ r, v = .bl r ∧ Q (.bl (!r)) H') E) := by
  intro pins s σ H x y v u Q I rx ry h
  obtain ⟨a, dx, fs, t, rfl, ha, ty, nf, q⟩ := h
  cases rx
  obtain ⟨_, J, _⟩ := ins_get I.hok ha
  obtain ⟨od, J, _⟩ := J.look
  obtain ⟨P, kit, hp, _⟩ := kit_of I ry ty
  have LT : PySem.W.Looks (model X.prog X.w) s.heap (typeOf u) t := kit.ty _ _ I.kIn hp
  refine PySem.W.own_ne (by have := hr.un; omega) I.kIn J LT nf hn m.at_ m.fn hob (wpAny_call ?_)
  have ln : ([Value.ref a, u] ++ ([] : List Value)).length = ps.length := by
    rw [← F.len _ _ _ _ q]
    rfl
  refine codeAny_mono (F.run X.A.in1 X.stack s H ⟨[.ref a, u], []⟩ [.ref a, u] [.ref a, y] _ E hr.in1 I.env0.in1
    (by simpa using hb s [.ref a, u] I.kIn (by simpa using ln)) (.cons rfl (.cons ry .nil)) q) fun r s' hq => ?_
  match r, hq with
  | .error e, hq => exact hx pins σ H s e s' I hq
  | .ok (.ret w), hq =>
    obtain ⟨v2, H', J', rv, ⟨b, rfl, q'⟩⟩ := I.after hq
    obtain rfl : w = Value.bool b := rv
    exact ⟨.bl (!b), H', J', rfl, q'⟩
/-- x[y], x of the class -/
theorem pe_ixOwn {e b : Expr} {te tb : TE} {pos : Pos} (m : Spec1 X.K C f "__getitem__") (hfn : PySem.W.fnIn X.K f = true)
    (F : FnOk X.prog X.w X.K X.mg X.base CX k f fd ps sp) (hr : Room (k + 1) X.A) (hb : Binds X.K fd ps []) (hx : Passes CX X E) (he : PE X e te) (hi : PE X b tb)
    (hsl : ∀ o i, subscripted b true o i = runValue (.builtin "lifetime.subscript" ⟨[o, i], []⟩)) :
    PE X (.Subscript e b pos) (tOp (fun x y H Q => ∃ a dx fs, x = .ref a ∧ H a = some (.ins C dx fs) ∧ sp [.ref a, y] H Q E) te tb) := by
  refine ⟨fun pins s σ H Q I h => Subscript_ (binT he hi I h fun v u s2 x y H2 I2 rx ry q => ?_)⟩
  obtain ⟨a, dx, fs, rfl, ha, q⟩ := q
  cases rx
  obtain ⟨_, J, _⟩ := ins_get I2.hok ha
  obtain ⟨od, J, _⟩ := J.look
  obtain ⟨mf, hF⟩ := I2.fr
  refine PySem.W.sub_K hF I2.ok.mod.kin J m.at_ hfn m.fn (wpAny_call ?_) (hsl _ _)
  have ln : ([Value.ref a, u] ++ ([] : List Value)).length = ps.length := by
    rw [← F.len _ _ _ _ q]
    rfl
  refine codeAny_mono (F.run X.A.in1 X.stack s2 H2 ⟨[.ref a, u], []⟩ [.ref a, u] [.ref a, y] _ E hr.in1 I2.env0.in1
    (by simpa using hb s2 [.ref a, u] I2.kIn (by simpa using ln)) (.cons rfl (.cons ry .nil)) q) fun r s' hq => ?_
  match r, hq with
  | .error e, hq => exact hx pins σ H2 s2 e s' I2 hq
  | .ok (.ret w), hq => exact I2.after hq
end
end L2


/-! what readings give, told by what holds of the value: predicates of a value and a heap, that stay as the heap grows -/
namespace Mir
open PySem PySem.Spec L2
abbrev PV := V → Hp → Prop
/-- things that never change -/
def isFz : HO → Bool
  | .lst _ => false
  | .dK _ => false
  | .dT _ => false
  | .set _ _ => false
  | .xd _ => false
  | _ => true
/-- all stays, but what stands at M and may change -/
structure Ch (M : List Addr) (H H' : Hp) : Prop where
  fz : ∀ a o, isFz o = true → H a = some o → H' a = some o
  keep : ∀ a o, a ∉ M → H a = some o → H' a = some o
theorem Ch.refl {M : List Addr} (H : Hp) : Ch M H H := ⟨fun _ _ _ h => h, fun _ _ _ h => h⟩
theorem Ch.trans {M : List Addr} {H H1 H2 : Hp} (a : Ch M H H1) (b : Ch M H1 H2) : Ch M H H2 := ⟨fun x o f h => b.fz x o f (a.fz x o f h), fun x o f h => b.keep x o f (a.keep x o f h)⟩
theorem Ch.of {M : List Addr} {H H' : Hp} (s : Same H H') : Ch M H H' := ⟨fun a o _ h => s a o h, fun a o _ h => s a o h⟩
theorem Ch.same {H H' : Hp} (c : Ch [] H H') : Same H H' := fun a o h => c.keep a o (fun z => nomatch z) h
theorem Ch.more {M : List Addr} {H H' : Hp} {l : Addr} (c : Ch M H H') : Ch (l :: M) H H' := ⟨c.fz, fun a o h e => c.keep a o (fun z => h (List.mem_cons_of_mem _ z)) e⟩
theorem Ch.any {M : List Addr} {H H' : Hp} (c : Ch [] H H') : Ch M H H' := .of c.same
/-- what was not there may change -/
theorem Ch.drop {M : List Addr} {H H' : Hp} {l : Addr} (c : Ch (l :: M) H H') (n : H l = none) : Ch M H H' := ⟨c.fz, fun a o h e => c.keep a o (fun z => by
  rcases List.mem_cons.mp z with z | z
  · rw [z, n] at e
    cases e
  · exact h z) e⟩
theorem same_new {H : Hp} {d : Addr} {o : HO} (h : H d = none) : Same H (upd H d o) := fun a u e => by rw [upd_ne (ne_of_none e h)]; exact e
theorem Ch.new {M : List Addr} {H : Hp} {d : Addr} {o : HO} (h : H d = none) : Ch M H (upd H d o) := .of (same_new h)
/-- a list that may change, changed -/
theorem Ch.set {M : List Addr} {H : Hp} {l : Addr} {u o : HO} (h : H l = some u) (f : isFz u = false) (hm : l ∈ M) : Ch M H (upd H l o) := by
  refine ⟨fun a w k e => ?_, fun a w n e => ?_⟩
  · have ne : a ≠ l := fun z => by
      rw [z, h] at e
      cases e
      rw [f] at k
      cases k
    rw [upd_ne ne]
    exact e
  · rw [upd_ne (fun z => n (by rw [z]; exact hm))]
    exact e
/-- a list of three ints: the dice -/
def Dc (a : Addr) (H : Hp) : Prop := ∃ x y z : Int, H a = some (.lst [.int x, .int y, .int z])
def Dcs (M : List Addr) (H : Hp) : Prop := ∀ a ∈ M, Dc a H
theorem Dcs.nil {H : Hp} : Dcs [] H := fun _ h => nomatch h
theorem Dcs.new {M : List Addr} {H : Hp} (d : Dcs M H) {H' : Hp} (s : Same H H') : Dcs M H' := fun a h => by
  obtain ⟨x, y, z, e⟩ := d a h
  exact ⟨x, y, z, s _ _ e⟩
theorem Dcs.ne {M : List Addr} {H : Hp} (d : Dcs M H) {l : Addr} (n : H l = none) : l ∉ M := fun h => by
  obtain ⟨x, y, z, e⟩ := d l h
  rw [n] at e
  cases e
theorem Ch.free {M : List Addr} {H H' : Hp} (c : Ch M H H') (d : Dcs M H') {l : Addr} (n : H' l = none) : H l = none := by
  cases e : H l with
  | none => rfl
  | some o =>
    have := c.keep l o (d.ne n) e
    rw [n] at this
    cases this
inductive AllH (H : Hp) : List PV → List V → Prop
  | nil : AllH H [] []
  | cons {P : PV} {Ps : List PV} {v : V} {vs : List V} : P v H → AllH H Ps vs → AllH H (P :: Ps) (v :: vs)
abbrev All2 (Ps : List PV) (vs : List V) (H : Hp) : Prop := AllH H Ps vs
theorem All2.nil {H : Hp} : All2 [] [] H := AllH.nil
theorem All2.cons {P : PV} {Ps : List PV} {v : V} {vs : List V} {H : Hp} (p : P v H) (k : All2 Ps vs H) : All2 (P :: Ps) (v :: vs) H := AllH.cons p k
class Mono (M : List Addr) (P : PV) : Prop where
  mono : ∀ {v : V} {H H' : Hp}, Ch M H H' → P v H → P v H'
class MonoA (M : List Addr) (Ps : List PV) : Prop where
  mono : ∀ {vs : List V} {H H' : Hp}, Ch M H H' → All2 Ps vs H → All2 Ps vs H'
/-- stays whatever changes that can change -/
class FzP (P : PV) : Prop where
  mono : ∀ {v : V} {H H' : Hp}, (∀ a o, isFz o = true → H a = some o → H' a = some o) → P v H → P v H'
class FzA (Ps : List PV) : Prop where
  mono : ∀ {vs : List V} {H H' : Hp}, (∀ a o, isFz o = true → H a = some o → H' a = some o) → All2 Ps vs H → All2 Ps vs H'
instance (priority := 2000) {M : List Addr} {P : PV} [p : FzP P] : Mono M P := ⟨fun c h => p.mono c.fz h⟩
instance (priority := 2000) {M : List Addr} {Ps : List PV} [p : FzA Ps] : MonoA M Ps := ⟨fun c h => p.mono c.fz h⟩
instance : FzA [] := ⟨fun _ h => by cases h; exact .nil⟩
instance {P : PV} {Ps : List PV} [p : FzP P] [q : FzA Ps] : FzA (P :: Ps) := ⟨fun c h => by
  cases h with
  | cons h1 h2 => exact .cons (p.mono c h1) (q.mono c h2)⟩
instance {α : Type} {P : α → PV} {xs : List α} [p : ∀ x, FzP (P x)] : FzA (xs.map P) := ⟨fun {vs H H'} c h => by
  induction xs generalizing vs with
  | nil => cases h; exact .nil
  | cons x xs ih =>
    cases h with
    | cons h1 h2 => exact .cons ((p x).mono c h1) (ih h2)⟩
instance {M : List Addr} : MonoA M [] := ⟨fun _ h => by cases h; exact .nil⟩
instance {M : List Addr} {P : PV} {Ps : List PV} [p : Mono M P] [q : MonoA M Ps] : MonoA M (P :: Ps) := ⟨fun c h => by
  cases h with
  | cons h1 h2 => exact .cons (p.mono c h1) (q.mono c h2)⟩
theorem All2.len {Ps : List PV} {vs : List V} {H : Hp} (h : All2 Ps vs H) : vs.length = Ps.length := by
  induction h with
  | nil => rfl
  | cons _ _ ih => rw [List.length_cons, List.length_cons, ih]
theorem All2.app {Ps Qs : List PV} {vs ws : List V} {H : Hp} (h : All2 Ps vs H) (k : All2 Qs ws H) : All2 (Ps ++ Qs) (vs ++ ws) H := by
  induction h with
  | nil => exact k
  | cons a _ ih => exact .cons a ih
theorem All2.get {Ps : List PV} {vs : List V} {H : Hp} (h : All2 Ps vs H) : ∀ {i : Nat} {P : PV}, Ps[i]? = some P → ∃ v, vs[i]? = some v ∧ P v H := by
  induction h with
  | nil => intro i P e; simp at e
  | cons a _ ih =>
    intro i P e
    cases i with
    | zero =>
      cases e
      exact ⟨_, rfl, a⟩
    | succ i => exact ih e
theorem All2.getV {Ps : List PV} {vs : List V} {H : Hp} (h : All2 Ps vs H) : ∀ {i : Nat} {v : V}, vs[i]? = some v → ∃ P, Ps[i]? = some P ∧ P v H := by
  induction h with
  | nil => intro i P e; simp at e
  | cons a _ ih =>
    intro i P e
    cases i with
    | zero =>
      cases e
      exact ⟨_, rfl, a⟩
    | succ i => exact ih e
theorem All2.drop {Ps : List PV} {vs : List V} {H : Hp} (h : All2 Ps vs H) : ∀ n, All2 (Ps.drop n) (vs.drop n) H := by
  induction h with
  | nil => intro n; simpa using All2.nil
  | cons a b ih =>
    intro n
    cases n with
    | zero => exact .cons a b
    | succ n => exact ih n
theorem All2.take {Ps : List PV} {vs : List V} {H : Hp} (h : All2 Ps vs H) : ∀ n, All2 (Ps.take n) (vs.take n) H := by
  induction h with
  | nil => intro n; simpa using All2.nil
  | cons a b ih =>
    intro n
    cases n with
    | zero => exact .nil
    | succ n => exact .cons a (ih n)
theorem All2.rev {Ps : List PV} {vs : List V} {H : Hp} (h : All2 Ps vs H) : All2 Ps.reverse vs.reverse H := by
  induction h with
  | nil => exact .nil
  | cons a b ih =>
    rw [List.reverse_cons, List.reverse_cons]
    exact ih.app (.cons a .nil)
theorem All2.set {Ps : List PV} {vs : List V} {H : Hp} (h : All2 Ps vs H) {P : PV} {v : V} (p : P v H) : ∀ i, All2 (Ps.set i P) (vs.set i v) H := by
  induction h with
  | nil => intro i; exact .nil
  | cons a b ih =>
    intro i
    cases i with
    | zero => exact .cons p b
    | succ i => exact .cons a (ih i)
instance {M : List Addr} {α : Type} {P : α → PV} {xs : List α} [p : ∀ x, Mono M (P x)] : MonoA M (xs.map P) := ⟨fun {vs H H'} c h => by
  induction xs generalizing vs with
  | nil => cases h; exact .nil
  | cons x xs ih =>
    cases h with
    | cons h1 h2 => exact .cons ((p x).mono c h1) (ih h2)⟩
theorem all1 {P : PV} {vs : List V} {H : Hp} (h : All2 [P] vs H) : ∃ v, vs = [v] ∧ P v H := by
  cases h with
  | cons a b => cases b; exact ⟨_, rfl, a⟩
theorem all2 {P R : PV} {vs : List V} {H : Hp} (h : All2 [P, R] vs H) : ∃ v w, vs = [v, w] ∧ P v H ∧ R w H := by
  cases h with
  | cons a b => obtain ⟨w, rfl, c⟩ := all1 b; exact ⟨_, w, rfl, a, c⟩
theorem all3 {P R S : PV} {vs : List V} {H : Hp} (h : All2 [P, R, S] vs H) : ∃ u v w, vs = [u, v, w] ∧ P u H ∧ R v H ∧ S w H := by
  cases h with
  | cons a b => obtain ⟨v, w, rfl, c⟩ := all2 b; exact ⟨_, v, w, rfl, a, c⟩
/-! ### what values are -/
def pI (i : Int) : PV := fun v _ => v = .int i
def pB (b : Bool) : PV := fun v _ => v = .bl b
def pN : PV := fun v _ => v = .non
def pS (s : Str) : PV := fun v _ => v = .str s
def pV (u : V) : PV := fun v _ => v = u
/-- a tuple; a list that M lets alone -/
def pT (K : PySem.W.Frag) (Ps : List PV) : PV := fun v H => ∃ a vs, v = .ref a ∧ SqT K H a vs ∧ All2 Ps vs H
/-- a list that was made behind the start: it is there, and it is one of those that are told -/
def RdL (H : Hp) (a : Addr) (vs : List V) : Prop := H a = some (.lst vs)
instance rdCoe {K : PySem.W.Frag} {H : Hp} {a : Addr} {vs : List V} : Coe (RdL H a vs) (SqL K H a vs) := ⟨fun h => SqL.of h⟩
def pL (K : PySem.W.Frag) (M : List Addr) (Ps : List PV) : PV := fun v H => ∃ a vs, v = .ref a ∧ a ∉ M ∧ RdL H a vs ∧ All2 Ps vs H
/-- some x with φ, and P of it -/
def pX {α : Type} (φ : α → Prop) (P : α → PV) : PV := fun v H => ∃ x, φ x ∧ P x v H
def pO {α : Type} (P : α → PV) : Option α → PV
  | none => pN
  | some x => P x
instance {i : Int} : FzP (pI i) := ⟨fun _ h => h⟩
instance {i : Bool} : FzP (pB i) := ⟨fun _ h => h⟩
instance : FzP pN := ⟨fun _ h => h⟩
instance {i : Str} : FzP (pS i) := ⟨fun _ h => h⟩
instance {u : V} : FzP (pV u) := ⟨fun _ h => h⟩
theorem sqT_fz {K : PySem.W.Frag} {H H' : Hp} {a : Addr} {vs : List V} (c : ∀ a o, isFz o = true → H a = some o → H' a = some o) (h : SqT K H a vs) : SqT K H' a vs := by
  rcases h with (h | ⟨o, h⟩) | h
  · exact .inl (.inl (c _ _ rfl h))
  · exact .inl (.inr ⟨o, c _ _ rfl h⟩)
  · exact .inr h
theorem sqT_mono {M : List Addr} {K : PySem.W.Frag} {H H' : Hp} {a : Addr} {vs : List V} (c : Ch M H H') (h : SqT K H a vs) : SqT K H' a vs := sqT_fz c.fz h
theorem rdL_mono {M : List Addr} {H H' : Hp} {a : Addr} {vs : List V} (c : Ch M H H') (n : a ∉ M) (h : RdL H a vs) : RdL H' a vs := c.keep _ _ n h
theorem sqL_mono {M : List Addr} {K : PySem.W.Frag} {H H' : Hp} {a : Addr} {vs : List V} (c : Ch M H H') (n : a ∉ M) (h : SqL K H a vs) : SqL K H' a vs := by
  rcases h with (h | ⟨o, h⟩) | h
  · exact .inl (.inl (c.keep _ _ n h))
  · exact .inl (.inr ⟨o, c.keep _ _ n h⟩)
  · exact .inr h
instance {K : PySem.W.Frag} {Ps : List PV} [p : FzA Ps] : FzP (pT K Ps) := ⟨fun c ⟨a, vs, e, h, k⟩ => ⟨a, vs, e, sqT_fz c h, p.mono c k⟩⟩
instance {M : List Addr} {K : PySem.W.Frag} {Ps : List PV} [p : MonoA M Ps] : Mono M (pT K Ps) := ⟨fun c ⟨a, vs, e, h, k⟩ => ⟨a, vs, e, sqT_mono c h, p.mono c k⟩⟩
instance {M : List Addr} {K : PySem.W.Frag} {Ps : List PV} [p : MonoA M Ps] : Mono M (pL K M Ps) := ⟨fun c ⟨a, vs, e, n, h, k⟩ => ⟨a, vs, e, n, rdL_mono c n h, p.mono c k⟩⟩
instance {α : Type} {φ : α → Prop} {P : α → PV} [p : ∀ x, FzP (P x)] : FzP (pX φ P) := ⟨fun c ⟨x, f, h⟩ => ⟨x, f, (p x).mono c h⟩⟩
instance {α : Type} {P : α → PV} {o : Option α} [p : ∀ x, FzP (P x)] : FzP (pO P o) := ⟨fun {v H H'} c h => by
  cases o with
  | none => exact h
  | some x => exact (p x).mono c h⟩
/-- a row of ints -/
def pRow (K : PySem.W.Frag) (r : List Int) : PV := pT K (r.map pI)
instance {K : PySem.W.Frag} {r : List Int} : FzP (pRow K r) := inferInstanceAs (FzP (pT K (r.map pI)))
theorem ints_of {r : List Int} {vs : List V} {H : Hp} (h : All2 (r.map pI) vs H) : vs = r.map V.int := by
  induction r generalizing vs with
  | nil => cases h; rfl
  | cons x r ih =>
    cases h with
    | cons a b =>
      rw [ih b, show _ = V.int x from a]
      rfl
theorem of_ints {r : List Int} {H : Hp} : All2 (r.map pI) (r.map V.int) H := by
  induction r with
  | nil => exact .nil
  | cons x r ih => exact .cons rfl ih
theorem pRow.of {K : PySem.W.Frag} {r : List Int} {v : V} {H : Hp} (h : pRow K r v H) : ∃ a, v = .ref a ∧ SqT K H a (r.map V.int) := by
  obtain ⟨a, vs, e, s, k⟩ := h
  rw [ints_of k] at s
  exact ⟨a, e, s⟩
theorem pRow.mk {K : PySem.W.Frag} {r : List Int} {a : Addr} {H : Hp} (s : SqT K H a (r.map V.int)) : pRow K r (.ref a) H := ⟨a, _, rfl, s, of_ints⟩
/-! ### what readings give -/
def EvP (M : List Addr) (te : TE) (σ : St) (H : Hp) (P : PV) : Prop := ∀ H1, Ch M H H1 → Dcs M H1 → ∀ Q : VK, (∀ v H2, Ch M H1 H2 → Dcs M H2 → P v H2 → Q v H2) → te σ H1 Q
def EvB (M : List Addr) (tt : TT) (σ : St) (H : Hp) (b : Bool) : Prop := ∀ H1, Ch M H H1 → Dcs M H1 → ∀ Q : Bool → Hp → Prop, (∀ H2, Ch M H1 H2 → Dcs M H2 → Q b H2) → tt σ H1 Q
def EvA (M : List Addr) (ta : TA) (σ : St) (H : Hp) (Ps : List PV) : Prop := ∀ H1, Ch M H H1 → Dcs M H1 → ∀ Q : List V → Hp → Prop, (∀ vs H2, Ch M H1 H2 → Dcs M H2 → All2 Ps vs H2 → Q vs H2) → ta σ H1 Q
def EvO (M : List Addr) (to : TO) (σ : St) (H : Hp) (o : Option Int) : Prop := ∀ H1, Ch M H H1 → Dcs M H1 → ∀ Q : Option Int → Hp → Prop, (∀ H2, Ch M H1 H2 → Dcs M H2 → Q o H2) → to σ H1 Q
section
variable {K : PySem.W.Frag} {M : List Addr} {σ : St} {H H' : Hp} {ta tb te tc : TE} {tt tu : TT} {P P' R : PV} {i j : Int} {b c : Bool}
theorem EvP.up (c : Ch M H H') (h : EvP M te σ H P) : EvP M te σ H' P := fun H1 e d Q q => h H1 (c.trans e) d Q q
theorem EvB.up (c : Ch M H H') (h : EvB M tt σ H b) : EvB M tt σ H' b := fun H1 e d Q q => h H1 (c.trans e) d Q q
theorem EvP.to (h : EvP M te σ H P) (k : ∀ v H1, P v H1 → R v H1) : EvP M te σ H R := fun H1 e d Q q => h H1 e d Q fun v H2 e2 d2 p => q v H2 e2 d2 (k v H2 p)
theorem EvP.is (h : EvP M te σ H P) (e : P = R) : EvP M te σ H R := e ▸ h
theorem EvB.is (h : EvB M tt σ H b) (e : b = c) : EvB M tt σ H c := e ▸ h
theorem ev_var {i : Nat} {v : V} [m : Mono M P] (hs : σ[i]? = some (some v)) (h : P v H) : EvP M (tVar i) σ H P := fun H1 e d Q q => ⟨v, hs, q v H1 (.refl H1) d (m.mono e h)⟩
theorem ev_c {v : V} (h : ∀ H, P v H) : EvP M (tC v) σ H P := fun H1 e d Q q => q v H1 (.refl H1) d (h H1)
theorem ev_int {i : Int} : EvP M (tC (.int i)) σ H (pI i) := ev_c fun _ => rfl
theorem ev_bl {b : Bool} : EvP M (tC (.bl b)) σ H (pB b) := ev_c fun _ => rfl
theorem ev_non : EvP M (tC .non) σ H pN := ev_c fun _ => rfl
theorem ev_str {z : Str} : EvP M (tC (.str z)) σ H (pS z) := ev_c fun _ => rfl
theorem ev_op {r : R2} [m : Mono M P] (ha : EvP M ta σ H P) (hb : EvP M tb σ H P')
    (hr : ∀ x y H1, Dcs M H1 → P x H1 → P' y H1 → ∀ Q : VK, (∀ v H2, Ch M H1 H2 → Dcs M H2 → R v H2 → Q v H2) → r x y H1 Q) : EvP M (tOp r ta tb) σ H R := fun H1 e d Q q =>
  ha H1 e d _ fun x H2 e2 d2 p => hb H2 (e.trans e2) d2 _ fun y H3 e3 d3 p' => hr x y H3 d3 (m.mono e3 p) p' Q fun v H4 e4 d4 r => q v H4 ((e2.trans e3).trans e4) d4 r
theorem ev_I0 {g : Int → Int → V} (ha : EvP M ta σ H (pI i)) (hb : EvP M tb σ H (pI j)) (k : ∀ H1, R (g i j) H1) : EvP M (tOp (rI0 g) ta tb) σ H R :=
  ev_op ha hb fun x y H1 d p p' Q q => ⟨i, j, p, p', q _ H1 (.refl H1) d (k H1)⟩
theorem ev_I {C : Int → Int → Prop} {g : Int → Int → V} (ha : EvP M ta σ H (pI i)) (hb : EvP M tb σ H (pI j)) (hc : C i j) (k : ∀ H1, R (g i j) H1) : EvP M (tOp (rI C g) ta tb) σ H R :=
  ev_op ha hb fun x y H1 d p p' Q q => ⟨i, j, p, p', hc, q _ H1 (.refl H1) d (k H1)⟩
theorem ev_add (ha : EvP M ta σ H (pI i)) (hb : EvP M tb σ H (pI j)) : EvP M (tOp (rI0 fun i j => .int (i + j)) ta tb) σ H (pI (i + j)) := ev_I0 ha hb fun _ => rfl
theorem ev_sub (ha : EvP M ta σ H (pI i)) (hb : EvP M tb σ H (pI j)) : EvP M (tOp (rI0 fun i j => .int (i - j)) ta tb) σ H (pI (i - j)) := ev_I0 ha hb fun _ => rfl
theorem ev_mul (ha : EvP M ta σ H (pI i)) (hb : EvP M tb σ H (pI j)) (h : CMul i j) : EvP M (tOp (rI CMul fun i j => .int (i * j)) ta tb) σ H (pI (i * j)) := ev_I ha hb h fun _ => rfl
theorem ev_mod (ha : EvP M ta σ H (pI i)) (hb : EvP M tb σ H (pI j)) (h : 0 < j) : EvP M (tOp (rI (fun _ j => 0 < j) fun i j => .int (i % j)) ta tb) σ H (pI (i % j)) := ev_I ha hb h fun _ => rfl
theorem ev_fdiv (ha : EvP M ta σ H (pI i)) (hb : EvP M tb σ H (pI j)) (h : CDiv i j) : EvP M (tOp (rI CDiv fun i j => .int (i / j)) ta tb) σ H (pI (i / j)) := ev_I ha hb h fun _ => rfl
theorem ev_pow (ha : EvP M ta σ H (pI i)) (hb : EvP M tb σ H (pI j)) (h : CPow i j) : EvP M (tOp (rI CPow fun i j => .int (i ^ j.toNat)) ta tb) σ H (pI (i ^ j.toNat)) := ev_I ha hb h fun _ => rfl
theorem ev_lt (ha : EvP M ta σ H (pI i)) (hb : EvP M tb σ H (pI j)) : EvP M (tOp (rI0 fun i j => .bl (decide (i < j))) ta tb) σ H (pB (decide (i < j))) := ev_I0 ha hb fun _ => rfl
theorem ev_le (ha : EvP M ta σ H (pI i)) (hb : EvP M tb σ H (pI j)) : EvP M (tOp (rI0 fun i j => .bl (decide (i ≤ j))) ta tb) σ H (pB (decide (i ≤ j))) := ev_I0 ha hb fun _ => rfl
theorem ev_gt (ha : EvP M ta σ H (pI i)) (hb : EvP M tb σ H (pI j)) : EvP M (tOp (rI0 fun i j => .bl (decide (j < i))) ta tb) σ H (pB (decide (j < i))) := ev_I0 ha hb fun _ => rfl
theorem dec_int (a c : Int) : decide (V.int a = V.int c) = decide (a = c) := decide_eq_decide.mpr ⟨fun h => by injection h, fun h => h ▸ rfl⟩
theorem dec_bl (a c : Bool) : decide (V.bl a = V.bl c) = decide (a = c) := decide_eq_decide.mpr ⟨fun h => by injection h, fun h => h ▸ rfl⟩
theorem dec_str (a c : Str) : decide (V.str a = V.str c) = decide (a = c) := decide_eq_decide.mpr ⟨fun h => by injection h, fun h => h ▸ rfl⟩
theorem ev_eqI (ha : EvP M ta σ H (pI i)) (hb : EvP M tb σ H (pI j)) : EvP M (tOp rEq ta tb) σ H (pB (decide (i = j))) := ev_op ha hb fun x y H1 d p p' Q q => by
  cases p
  cases p'
  exact ⟨rfl, q _ H1 (.refl H1) d (by rw [dec_int]; rfl)⟩
theorem ev_neI (ha : EvP M ta σ H (pI i)) (hb : EvP M tb σ H (pI j)) : EvP M (tOp rNe ta tb) σ H (pB (!decide (i = j))) := ev_op ha hb fun x y H1 d p p' Q q => by
  cases p
  cases p'
  exact ⟨rfl, q _ H1 (.refl H1) d (by rw [dec_int]; rfl)⟩
theorem ev_neB (ha : EvP M ta σ H (pB b)) (hb : EvP M tb σ H (pB c)) : EvP M (tOp rNe ta tb) σ H (pB (!decide (b = c))) := ev_op ha hb fun x y H1 d p p' Q q => by
  cases p
  cases p'
  exact ⟨rfl, q _ H1 (.refl H1) d (by rw [dec_bl]; rfl)⟩
theorem ev_eqS {y z : Str} (ha : EvP M ta σ H (pS y)) (hb : EvP M tb σ H (pS z)) : EvP M (tOp rEq ta tb) σ H (pB (decide (y = z))) := ev_op ha hb fun x y H1 d p p' Q q => by
  cases p
  cases p'
  exact ⟨rfl, q _ H1 (.refl H1) d (by rw [dec_str]; rfl)⟩
theorem ev_neS {y z : Str} (ha : EvP M ta σ H (pS y)) (hb : EvP M tb σ H (pS z)) : EvP M (tOp rNe ta tb) σ H (pB (!decide (y = z))) := ev_op ha hb fun x y H1 d p p' Q q => by
  cases p
  cases p'
  exact ⟨rfl, q _ H1 (.refl H1) d (by rw [dec_str]; rfl)⟩
theorem ev_un {r : V → Hp → VK → Prop} (ha : EvP M ta σ H P) (hr : ∀ x H1, Dcs M H1 → P x H1 → ∀ Q : VK, (∀ v H2, Ch M H1 H2 → Dcs M H2 → R v H2 → Q v H2) → r x H1 Q) : EvP M (tUn r ta) σ H R := fun H1 e d Q q =>
  ha H1 e d _ fun x H2 e2 d2 p => hr x H2 d2 p Q fun v H3 e3 d3 r => q v H3 (e2.trans e3) d3 r
theorem ev_neg (ha : EvP M ta σ H (pI i)) : EvP M (tUn (rU fun i => .int (-i)) ta) σ H (pI (-i)) := ev_un ha fun x H1 d p Q q => ⟨i, p, q _ H1 (.refl H1) d rfl⟩
theorem ev_isN {α : Type} {F : α → PV} {o : Option α} (no : ∀ x v H, F x v H → v ≠ .non) (ha : EvP M ta σ H (pO F o)) (hb : EvP M tb σ H pN) : EvP M (tOp rIsN ta tb) σ H (pB o.isNone) := by
  refine fun H1 e d Q q => ha H1 e d _ fun x H2 e2 d2 p => hb H2 (e.trans e2) d2 _ fun y H3 e3 d3 p' => ⟨p', q _ H3 (e2.trans e3) d3 ?_⟩
  cases o with
  | none =>
    have e : x = .non := p
    subst e
    rfl
  | some z =>
    show V.bl _ = V.bl _
    rw [decide_eq_false (no z x H2 p)]
    rfl
/-! truth, tests -/
theorem eb_val (h : EvP M te σ H (pB b)) : EvB M (tB te) σ H b := fun H1 e d Q q => h H1 e d _ fun v H2 e2 d2 p => ⟨b, p, q H2 e2 d2⟩
theorem eb_test (h : EvP M te σ H (pB b)) : EvB M (tTest te) σ H b := fun H1 e d Q q => h H1 e d _ fun v H2 e2 d2 p => ⟨b, p, q H2 e2 d2⟩
theorem eb_not (h : EvB M tt σ H b) : EvB M (tNot tt) σ H (!b) := fun H1 e d Q q => h H1 e d _ fun H2 e2 d2 => q H2 e2 d2
theorem eb_and (h : EvB M tt σ H b) (k : b = true → EvB M tu σ H c) : EvB M (tAnd tt tu) σ H (b && c) := fun H1 e d Q q => h H1 e d _ fun H2 e2 d2 => by
  cases b with
  | true => exact iteT (k rfl H2 (e.trans e2) d2 Q fun H3 e3 d3 => q H3 (e2.trans e3) d3)
  | false => exact iteF (q H2 e2 d2)
theorem eb_or (h : EvB M tt σ H b) (k : b = false → EvB M tu σ H c) : EvB M (tOr tt tu) σ H (b || c) := fun H1 e d Q q => h H1 e d _ fun H2 e2 d2 => by
  cases b with
  | true => exact iteT (q H2 e2 d2)
  | false => exact iteF (k rfl H2 (e.trans e2) d2 Q fun H3 e3 d3 => q H3 (e2.trans e3) d3)
theorem ev_and (h : EvP M ta σ H (pB b)) (k : b = true → EvP M tb σ H (pB c)) : EvP M (tAndV ta tb) σ H (pB (b && c)) := fun H1 e d Q q => h H1 e d _ fun v H2 e2 d2 p => ⟨b, p, by
  cases b with
  | true => exact iteT (k rfl H2 (e.trans e2) d2 Q fun v H3 e3 d3 p => q v H3 (e2.trans e3) d3 p)
  | false => exact iteF (q _ H2 e2 d2 rfl)⟩
theorem ev_or (h : EvP M ta σ H (pB b)) (k : b = false → EvP M tb σ H (pB c)) : EvP M (tOrV ta tb) σ H (pB (b || c)) := fun H1 e d Q q => h H1 e d _ fun v H2 e2 d2 p => ⟨b, p, by
  cases b with
  | true => exact iteT (q _ H2 e2 d2 rfl)
  | false => exact iteF (k rfl H2 (e.trans e2) d2 Q fun v H3 e3 d3 p => q v H3 (e2.trans e3) d3 p)⟩
theorem ev_if {α : Type} {F : α → PV} {x y : α} (h : EvB M tt σ H b) (k1 : b = true → EvP M ta σ H (F x)) (k2 : b = false → EvP M tb σ H (F y)) : EvP M (tIf tt ta tb) σ H (F (if b = true then x else y)) := fun H1 e d Q q => h H1 e d _ fun H2 e2 d2 => by
  cases b with
  | true => exact iteT (k1 rfl H2 (e.trans e2) d2 Q fun v H3 e3 d3 p => q v H3 (e2.trans e3) d3 p)
  | false => exact iteF (k2 rfl H2 (e.trans e2) d2 Q fun v H3 e3 d3 p => q v H3 (e2.trans e3) d3 p)
theorem eb_tru (h : EvP M te σ H P) (hk : ∀ v H1, P v H1 → TruV K v H1 b) : EvB M (fun σ H Q => te σ H fun x H' => ∃ k, TruV K x H' k ∧ Q k H') σ H b := fun H1 e d Q q => h H1 e d _ fun v H2 e2 d2 p => ⟨b, hk v H2 p, q H2 e2 d2⟩
theorem tru_int {v : V} {H1 : Hp} (p : pI i v H1) : TruV K v H1 (i != 0) := by
  cases p
  exact rfl
theorem tru_str {z : Str} {v : V} {H1 : Hp} (hz : z.length ≤ sizeLine) (p : pS z v H1) : TruV K v H1 ((z.length : Int) != 0) := by
  cases p
  exact ⟨hz, rfl⟩
theorem emp_of {α : Type} {F : α → PV} {xs : List α} {vs : List V} {H1 : Hp} (h : All2 (xs.map F) vs H1) : vs.isEmpty = xs.isEmpty := by
  cases xs with
  | nil => cases h; rfl
  | cons x xs => cases h; rfl
theorem tru_tup {α : Type} {F : α → PV} {xs : List α} {v : V} {H1 : Hp} (p : pT K (xs.map F) v H1) : TruV K v H1 (!xs.isEmpty) := by
  obtain ⟨a, vs, rfl, s, k⟩ := p
  exact .inr (.inl ⟨vs, ↑s, by rw [emp_of k]⟩)
theorem tru_row {r : List Int} {v : V} {H1 : Hp} (p : pRow K r v H1) : TruV K v H1 (!r.isEmpty) := tru_tup p
theorem tru_lst {α : Type} {F : α → PV} {xs : List α} {v : V} {H1 : Hp} (p : pL K M (xs.map F) v H1) : TruV K v H1 (!xs.isEmpty) := by
  obtain ⟨a, vs, rfl, _, s, k⟩ := p
  exact .inl ⟨vs, ↑s, by rw [emp_of k]⟩
/-! arguments, displays -/
theorem ea_nil : EvA M tNil σ H [] := fun H1 e d Q q => q [] H1 (.refl H1) d .nil
theorem ea_cons {tr : TA} {Ps : List PV} [m : Mono M P] (h : EvP M ta σ H P) (hr : EvA M tr σ H Ps) : EvA M (tCons ta tr) σ H (P :: Ps) := fun H1 e d Q q =>
  h H1 e d _ fun v H2 e2 d2 p => hr H2 (e.trans e2) d2 _ fun vs H3 e3 d3 k => q _ H3 (e2.trans e3) d3 (.cons (m.mono e3 p) k)
theorem ev_tup {tr : TA} {Ps : List PV} [m : MonoA M Ps] (h : EvA M tr σ H Ps) (hz : Ps.length ≤ 100000) : EvP M (tTup tr) σ H (pT K Ps) := fun H1 e d Q q =>
  h H1 e d _ fun vs H2 e2 d2 k => ⟨Evl.sz_of (by rw [k.len]; exact hz), fun p hp => q _ _ (e2.trans (.new hp)) (d2.new (same_new hp)) ⟨p, vs, rfl, SqT.of upd_same, m.mono (.new hp) k⟩⟩
theorem ev_lst {tr : TA} {Ps : List PV} [m : MonoA M Ps] (h : EvA M tr σ H Ps) (hz : Ps.length ≤ 100000) : EvP M (tLst tr) σ H (pL K M Ps) := fun H1 e d Q q =>
  h H1 e d _ fun vs H2 e2 d2 k => ⟨Evl.sz_of (by rw [k.len]; exact hz), fun p hp => q _ _ (e2.trans (.new hp)) (d2.new (same_new hp)) ⟨p, vs, rfl, d2.ne hp, (show RdL _ _ _ from upd_same), m.mono (.new hp) k⟩⟩
theorem ev_call {sp : Sp} {E : XK} {tr : TA} {Ps : List PV} (h : EvA M tr σ H Ps)
    (hs : ∀ vs H1, Dcs M H1 → All2 Ps vs H1 → ∀ Q : VK, (∀ v H2, Ch M H1 H2 → Dcs M H2 → R v H2 → Q v H2) → sp vs H1 Q E) : EvP M (tCall sp [] E tr) σ H R := fun H1 e d Q q =>
  h H1 e d _ fun vs H2 e2 d2 k => by
    rw [List.append_nil]
    exact hs vs H2 d2 k Q fun v H3 e3 d3 r => q v H3 (e2.trans e3) d3 r
theorem ev_cb {r : List V → Hp → VK → Prop} {tr : TA} {Ps : List PV} (h : EvA M tr σ H Ps)
    (hs : ∀ vs H1, Dcs M H1 → All2 Ps vs H1 → ∀ Q : VK, (∀ v H2, Ch M H1 H2 → Dcs M H2 → R v H2 → Q v H2) → r vs H1 Q) : EvP M (tCB r tr) σ H R := fun H1 e d Q q =>
  h H1 e d _ fun vs H2 e2 d2 k => hs vs H2 d2 k Q fun v H3 e3 d3 r => q v H3 (e2.trans e3) d3 r
end
end Mir


/-! more of what readings give: items, slices, built-ins, data, comprehensions, statements, loops -/
namespace Mir
open PySem PySem.Spec L2
/-- an item by Python's index -/
def ixd {α : Type} [Inhabited α] (xs : List α) (i : Int) : α := (atI xs i).getD default
def inb (n : Nat) (i : Int) : Prop := -(n : Int) ≤ i ∧ i < n
/-- xs[lo:hi] -/
def cutA {α : Type} (xs : List α) (lo hi : Option Int) : List α := (xs.drop (HT.sIx xs.length 0 lo)).take (HT.sIx xs.length xs.length hi - HT.sIx xs.length 0 lo)
theorem ixN_in {n : Nat} {i : Int} (h : inb n i) : ∃ j, ixN n i = some j ∧ j < n := by
  unfold ixN
  obtain ⟨h1, h2⟩ := h
  by_cases c : 0 ≤ i
  · exact ⟨i.toNat, by rw [if_pos c, if_pos h2], by omega⟩
  · exact ⟨(i + n).toNat, by rw [if_neg c, if_pos h1], by omega⟩
theorem at_in {α : Type} [Inhabited α] {F : α → PV} {xs : List α} {vs : List V} {H : Hp} {i : Int} (h : All2 (xs.map F) vs H) (b : inb xs.length i) : ∃ v, atI vs i = some v ∧ F (ixd xs i) v H := by
  obtain ⟨j, e, l⟩ := ixN_in b
  have ln : vs.length = xs.length := by rw [h.len, List.length_map]
  have g : (xs.map F)[j]? = some (F xs[j]) := by rw [List.getElem?_map, List.getElem?_eq_getElem l]; rfl
  obtain ⟨v, e1, p⟩ := h.get g
  refine ⟨v, ?_, ?_⟩
  · unfold atI
    rw [ln, e]
    exact e1
  · unfold ixd atI
    rw [e]
    show F ((xs[j]?).getD default) v H
    rw [List.getElem?_eq_getElem l]
    exact p
theorem ixd_nat {α : Type} [Inhabited α] {xs : List α} {j : Nat} {x : α} (h : xs[j]? = some x) : ixd xs (j : Int) = x := by
  unfold ixd
  rw [atI_nat h]
  rfl
theorem ixd_last {α : Type} [Inhabited α] {xs : List α} : ixd xs (-1) = xs.getLast?.getD default := by
  cases xs with
  | nil => rfl
  | cons x xs =>
    have : atI (x :: xs) (-1) = (x :: xs).getLast? := by
      unfold atI ixN
      rw [if_neg (by decide), if_pos (by simp only [List.length_cons]; omega)]
      rw [List.getLast?_eq_getElem?]
      show (x :: xs)[((-1 : Int) + ((x :: xs).length : Int)).toNat]? = _
      congr 1
      simp only [List.length_cons]
      omega
    unfold ixd
    rw [this]
theorem cut_map {α : Type} {F : α → PV} (xs : List α) (lo hi : Option Int) {vs : List V} {H : Hp} (h : All2 (xs.map F) vs H) : All2 ((cutA xs lo hi).map F) (cutV vs lo hi) H := by
  have ln : vs.length = xs.length := by rw [h.len, List.length_map]
  unfold cutA cutV
  rw [List.map_take, List.map_drop, ln]
  exact (h.drop _).take _
section
variable {K : PySem.W.Frag} {M : List Addr} {σ : St} {H H' : Hp} {ta tb te tc : TE} {tt tu : TT} {P P' R : PV} {i j : Int} {b c : Bool} {α β : Type} {F G : α → PV}
theorem ev_ixT [Inhabited α] [m : ∀ x, Mono M (F x)] {xs : List α} (ha : EvP M ta σ H (pT K (xs.map F))) (hb : EvP M tb σ H (pI i)) (h : inb xs.length i) : EvP M (tOp (rIxT K) ta tb) σ H (F (ixd xs i)) :=
  ev_op ha hb fun x y H1 d p p' Q q => by
    obtain ⟨a, vs, rfl, s, k⟩ := p
    cases p'
    obtain ⟨v, e, f⟩ := at_in k h
    exact ⟨a, vs, i, v, rfl, rfl, s, e, q v H1 (.refl H1) d f⟩
theorem ev_ixR {r : List Int} (ha : EvP M ta σ H (pRow K r)) (hb : EvP M tb σ H (pI i)) (h : inb r.length i) : EvP M (tOp (rIxT K) ta tb) σ H (pI (ixd r i)) := ev_ixT ha hb h
theorem ev_ixL [Inhabited α] [m : ∀ x, Mono M (F x)] {xs : List α} (ha : EvP M ta σ H (pL K M (xs.map F))) (hb : EvP M tb σ H (pI i)) (h : inb xs.length i) : EvP M (tOp (rIxL K) ta tb) σ H (F (ixd xs i)) :=
  ev_op ha hb fun x y H1 d p p' Q q => by
    obtain ⟨a, vs, rfl, n, s, k⟩ := p
    cases p'
    obtain ⟨v, e, f⟩ := at_in k h
    exact ⟨a, vs, i, v, rfl, rfl, s, e, q v H1 (.refl H1) d f⟩
/-- a written place of a tuple of unlike things -/
theorem ev_ixN {Ps : List PV} {n : Nat} [m : MonoA M Ps] (ha : EvP M ta σ H (pT K Ps)) (hb : EvP M tb σ H (pI (n : Int))) (h : Ps[n]? = some P) : EvP M (tOp (rIxT K) ta tb) σ H P :=
  ev_op ha hb fun x y H1 d p p' Q q => by
    obtain ⟨a, vs, rfl, s, k⟩ := p
    cases p'
    obtain ⟨v, e, f⟩ := k.get h
    exact ⟨a, vs, _, v, rfl, rfl, s, atI_nat e, q v H1 (.refl H1) d f⟩
/-! slices -/
theorem eo_none : EvO M tNoPart σ H none := fun H1 e d Q q => q H1 (.refl H1) d
theorem eo_some (h : EvP M te σ H (pI i)) : EvO M (tPart te) σ H (some i) := fun H1 e d Q q => h H1 e d _ fun v H2 e2 d2 p => ⟨i, p, q H2 e2 d2⟩
theorem ev_slL [m : ∀ x, Mono M (F x)] {xs : List α} {tl th : TO} {lo hi : Option Int} (h : EvP M te σ H (pL K M (xs.map F))) (h1 : EvO M tl σ H lo) (h2 : EvO M th σ H hi) : EvP M (tSl (rSlL K) te tl th) σ H (pL K M ((cutA xs lo hi).map F)) := fun H1 e d Q q =>
  h H1 e d _ fun v H2 e2 d2 p => h1 H2 (e.trans e2) d2 _ fun H3 e3 d3 => h2 H3 ((e.trans e2).trans e3) d3 _ fun H4 e4 d4 => by
    obtain ⟨a, vs, rfl, n, s, k⟩ := Mono.mono (M := M) (e3.trans e4) p
    exact ⟨a, vs, rfl, s, fun p hp => q _ _ (((e2.trans e3).trans e4).trans (.new hp)) (d4.new (same_new hp)) ⟨p, _, rfl, d4.ne hp, (show RdL _ _ _ from upd_same), MonoA.mono (M := M) (.new hp) (cut_map xs lo hi k)⟩⟩
theorem ev_slS {z : Str} {tl th : TO} {lo hi : Option Int} (h : EvP M te σ H (pS z)) (h1 : EvO M tl σ H lo) (h2 : EvO M th σ H hi) (hz : z.length ≤ sizeLine) : EvP M (tSl rSlS te tl th) σ H (pS (cutS z lo hi)) := fun H1 e d Q q =>
  h H1 e d _ fun v H2 e2 d2 p => h1 H2 (e.trans e2) d2 _ fun H3 e3 d3 => h2 H3 ((e.trans e2).trans e3) d3 _ fun H4 e4 d4 => ⟨z, p, hz, q _ H4 ((e2.trans e3).trans e4) d4 rfl⟩
theorem ev_revT [m : ∀ x, Mono M (F x)] {xs : List α} (h : EvP M te σ H (pT K (xs.map F))) : EvP M (tRevT K te) σ H (pT K (xs.reverse.map F)) := fun H1 e d Q q =>
  h H1 e d _ fun v H2 e2 d2 p => by
    obtain ⟨a, vs, rfl, s, k⟩ := p
    refine ⟨a, vs, rfl, s, fun p hp => q _ _ (e2.trans (.new hp)) (d2.new (same_new hp)) ⟨p, _, rfl, SqT.of upd_same, MonoA.mono (M := M) (.new hp) ?_⟩⟩
    rw [List.map_reverse]
    exact k.rev
theorem ev_revR {r : List Int} (h : EvP M te σ H (pRow K r)) : EvP M (tRevT K te) σ H (pRow K r.reverse) := ev_revT h
/-- t + u -/
theorem ev_catT [m : ∀ x, Mono M (F x)] {xs ys : List α} (ha : EvP M ta σ H (pT K (xs.map F))) (hb : EvP M tb σ H (pT K (ys.map F))) (hz : xs.length + ys.length ≤ 100000) : EvP M (tOp (rCatA K) ta tb) σ H (pT K ((xs ++ ys).map F)) :=
  ev_op ha hb fun x y H1 d p p' Q q => by
    obtain ⟨a, vs, rfl, s, k⟩ := p
    obtain ⟨a', ws, rfl, s', k'⟩ := p'
    have l1 : vs.length = xs.length := by rw [k.len, List.length_map]
    have l2 : ws.length = ys.length := by rw [k'.len, List.length_map]
    have kk := k.app k'
    rw [← List.map_append] at kk
    refine ⟨a, a', vs, ws, rfl, rfl, s, s', Evl.sz_of (by omega), fun e => ?_, fun _ e => ?_, fun _ _ p hp => ?_⟩
    · subst e
      exact q _ H1 (.refl H1) d ⟨a', ws, rfl, s', kk⟩
    · subst e
      rw [List.append_nil] at kk
      exact q _ H1 (.refl H1) d ⟨a, vs, rfl, s, kk⟩
    · exact q _ _ (.new hp) (d.new (same_new hp)) ⟨p, _, rfl, SqT.of upd_same, MonoA.mono (M := M) (.new hp) kk⟩
theorem ev_catR {r s : List Int} (ha : EvP M ta σ H (pRow K r)) (hb : EvP M tb σ H (pRow K s)) (hz : r.length + s.length ≤ 100000) : EvP M (tOp (rCatA K) ta tb) σ H (pRow K (r ++ s)) := ev_catT ha hb hz
/-! built-ins -/
theorem ev_lenT {xs : List α} {tr : TA} (h : EvA M tr σ H [pT K (xs.map F)]) : EvP M (tCB (fun xs H Q => ∃ p ys, xs = [.ref p] ∧ (SqL K H p ys ∨ SqT K H p ys) ∧ Q (.int ys.length) H) tr) σ H (pI xs.length) := ev_cb h fun vs H1 d k Q q => by
  obtain ⟨v, rfl, a, ws, rfl, s, k⟩ := all1 k
  exact ⟨a, ws, rfl, .inr s, q _ H1 (.refl H1) d (by rw [k.len, List.length_map]; rfl)⟩
theorem ev_lenR {r : List Int} {tr : TA} (h : EvA M tr σ H [pRow K r]) : EvP M (tCB (fun xs H Q => ∃ p ys, xs = [.ref p] ∧ (SqL K H p ys ∨ SqT K H p ys) ∧ Q (.int ys.length) H) tr) σ H (pI r.length) := ev_lenT (F := pI) h
theorem ev_lenL {xs : List α} {tr : TA} (h : EvA M tr σ H [pL K M (xs.map F)]) : EvP M (tCB (fun xs H Q => ∃ p ys, xs = [.ref p] ∧ (SqL K H p ys ∨ SqT K H p ys) ∧ Q (.int ys.length) H) tr) σ H (pI xs.length) := ev_cb h fun vs H1 d k Q q => by
  obtain ⟨v, rfl, a, ws, rfl, n, s, k⟩ := all1 k
  exact ⟨a, ws, rfl, .inl s, q _ H1 (.refl H1) d (by rw [k.len, List.length_map]; rfl)⟩
theorem ev_lenS {z : Str} {tr : TA} (h : EvA M tr σ H [pS z]) (hz : z.length ≤ sizeLine) : EvP M (tCB (fun xs H Q => ∃ z, xs = [.str z] ∧ z.length ≤ sizeLine ∧ Q (.int z.length) H) tr) σ H (pI z.length) := ev_cb h fun vs H1 d k Q q => by
  obtain ⟨v, rfl, rfl⟩ := all1 k
  exact ⟨z, rfl, hz, q _ H1 (.refl H1) d rfl⟩
theorem ev_max {tr : TA} (h : EvA M tr σ H [pI i, pI j]) : EvP M (tCB (fun xs H Q => ∃ i j, xs = [.int i, .int j] ∧ Q (.int (if j > i then j else i)) H) tr) σ H (pI (if j > i then j else i)) := ev_cb h fun vs H1 d k Q q => by
  obtain ⟨v, w, rfl, rfl, rfl⟩ := all2 k
  exact ⟨i, j, rfl, q _ H1 (.refl H1) d rfl⟩
theorem ev_min {tr : TA} (h : EvA M tr σ H [pI i, pI j]) : EvP M (tCB (fun xs H Q => ∃ i j, xs = [.int i, .int j] ∧ Q (.int (if j < i then j else i)) H) tr) σ H (pI (if j < i then j else i)) := ev_cb h fun vs H1 d k Q q => by
  obtain ⟨v, w, rfl, rfl, rfl⟩ := all2 k
  exact ⟨i, j, rfl, q _ H1 (.refl H1) d rfl⟩
theorem ev_intI {tr : TA} (h : EvA M tr σ H [pI i]) : EvP M (tCB (fun xs H Q => (∃ i, xs = [.int i] ∧ Q (.int i) H) ∨ ∃ k, xs = [.bl k] ∧ Q (.int (if k then 1 else 0)) H) tr) σ H (pI i) := ev_cb h fun vs H1 d k Q q => by
  obtain ⟨v, rfl, rfl⟩ := all1 k
  exact .inl ⟨i, rfl, q _ H1 (.refl H1) d rfl⟩
theorem ev_strI {tr : TA} (h : EvA M tr σ H [pI i]) (hz : i.natAbs.log2 < 1920) : EvP M (tCB (fun xs H Q => ∃ i, xs = [.int i] ∧ i.natAbs.log2 < 1920 ∧ Q (.str (toString i)) H) tr) σ H (pS (Str.ofString (toString i))) := ev_cb h fun vs H1 d k Q q => by
  obtain ⟨v, rfl, rfl⟩ := all1 k
  exact ⟨i, rfl, hz, q _ H1 (.refl H1) d rfl⟩
theorem ev_listT [m : ∀ x, Mono M (F x)] {xs : List α} {tr : TA} (h : EvA M tr σ H [pT K (xs.map F)]) : EvP M (tCB (fun xs H Q => ∃ p ys, xs = [.ref p] ∧ (SqL K H p ys ∨ SqT K H p ys) ∧ ∀ l, H l = none → Q (.ref l) (upd H l (.lst ys))) tr) σ H (pL K M (xs.map F)) := ev_cb h fun vs H1 d k Q q => by
  obtain ⟨v, rfl, a, ws, rfl, s, k⟩ := all1 k
  exact ⟨a, ws, rfl, .inr s, fun l hl => q _ _ (.new hl) (d.new (same_new hl)) ⟨l, ws, rfl, d.ne hl, (show RdL _ _ _ from upd_same), MonoA.mono (M := M) (.new hl) k⟩⟩
theorem ev_listR {r : List Int} {tr : TA} (h : EvA M tr σ H [pRow K r]) : EvP M (tCB (fun xs H Q => ∃ p ys, xs = [.ref p] ∧ (SqL K H p ys ∨ SqT K H p ys) ∧ ∀ l, H l = none → Q (.ref l) (upd H l (.lst ys))) tr) σ H (pL K M (r.map pI)) := ev_listT h
theorem ev_tupL [m : ∀ x, Mono M (F x)] {xs : List α} {tr : TA} (h : EvA M tr σ H [pL K M (xs.map F)]) : EvP M (tCB (fun xs H Q => ∃ p ys, xs = [.ref p] ∧ ((SqL K H p ys ∧ ∀ l, H l = none → Q (.ref l) (upd H l (.tup ys))) ∨ (SqT K H p ys ∧ Q (.ref p) H))) tr) σ H (pT K (xs.map F)) := ev_cb h fun vs H1 d k Q q => by
  obtain ⟨v, rfl, a, ws, rfl, n, s, k⟩ := all1 k
  exact ⟨a, ws, rfl, .inl ⟨s, fun l hl => q _ _ (.new hl) (d.new (same_new hl)) ⟨l, ws, rfl, SqT.of upd_same, MonoA.mono (M := M) (.new hl) k⟩⟩⟩
theorem ev_tupR {r : List Int} {tr : TA} (h : EvA M tr σ H [pL K M (r.map pI)]) : EvP M (tCB (fun xs H Q => ∃ p ys, xs = [.ref p] ∧ ((SqL K H p ys ∧ ∀ l, H l = none → Q (.ref l) (upd H l (.tup ys))) ∨ (SqT K H p ys ∧ Q (.ref p) H))) tr) σ H (pRow K r) := ev_tupL h
theorem bls_of {r : List Bool} {vs : List V} {H : Hp} (h : All2 (r.map pB) vs H) : vs = r.map V.bl := by
  induction r generalizing vs with
  | nil => cases h; rfl
  | cons x r ih =>
    cases h with
    | cons a b =>
      rw [ih b, show _ = V.bl x from a]
      rfl
theorem strs_of {r : List Str} {vs : List V} {H : Hp} (h : All2 (r.map pS) vs H) : vs = r.map V.str := by
  induction r generalizing vs with
  | nil => cases h; rfl
  | cons x r ih =>
    cases h with
    | cons a b =>
      rw [ih b, show _ = V.str x from a]
      rfl
theorem of_strs {r : List Str} {H : Hp} : All2 (r.map pS) (r.map V.str) H := by
  induction r with
  | nil => exact .nil
  | cons x r ih => exact .cons rfl ih
theorem ev_all {r : List Bool} {tr : TA} (h : EvA M tr σ H [pL K M (r.map pB)]) : EvP M (tCB (rAll K) tr) σ H (pB (r.all id)) := ev_cb h fun vs H1 d k Q q => by
  obtain ⟨v, rfl, a, ws, rfl, n, s, k⟩ := all1 k
  rw [bls_of k] at s
  exact ⟨a, r, rfl, s, q _ H1 (.refl H1) d rfl⟩
/-! data -/
class Dat (K : PySem.W.Frag) (P : PV) (d : outParam PyData) : Prop where
  dp : ∀ {v : V} {H : Hp}, P v H → Dp K H v d
class DatA (K : PySem.W.Frag) (Ps : List PV) (ds : outParam (List PyData)) : Prop where
  dp : ∀ {vs : List V} {H : Hp}, All2 Ps vs H → DpAll K H vs ds
instance : Dat K (pI i) (.int i) := ⟨fun h => by cases h; exact .int i⟩
instance : Dat K (pB b) (.bool b) := ⟨fun h => by cases h; exact .bl b⟩
instance : Dat K pN .none := ⟨fun h => by cases h; exact .non⟩
instance {z : Str} : Dat K (pS z) (.str z) := ⟨fun h => by cases h; exact .str z⟩
instance : DatA K [] [] := ⟨fun h => by cases h; exact .nil⟩
instance {P : PV} {Ps : List PV} {d : PyData} {ds : List PyData} [p : Dat K P d] [q : DatA K Ps ds] : DatA K (P :: Ps) (d :: ds) := ⟨fun h => by
  cases h with
  | cons a b => exact .cons (p.dp a) (q.dp b)⟩
theorem dat_map {f : α → PyData} (p : ∀ x, Dat K (F x) (f x)) (xs : List α) {vs : List V} {H : Hp} (h : All2 (xs.map F) vs H) : DpAll K H vs (xs.map f) := by
  induction xs generalizing vs with
  | nil => cases h; exact .nil
  | cons x xs ih =>
    cases h with
    | cons a b => exact .cons ((p x).dp a) (ih b)
instance {f : α → PyData} [p : ∀ x, Dat K (F x) (f x)] {xs : List α} : DatA K (xs.map F) (xs.map f) := ⟨fun h => dat_map p xs h⟩
instance {Ps : List PV} {ds : List PyData} [p : DatA K Ps ds] : Dat K (pT K Ps) (.tuple ds) := ⟨fun ⟨a, vs, e, s, k⟩ => e ▸ .tup s (p.dp k)⟩
instance {Ps : List PV} {ds : List PyData} [p : DatA K Ps ds] : Dat K (pL K M Ps) (.list ds) := ⟨fun ⟨a, vs, e, n, s, k⟩ => e ▸ .lst s (p.dp k)⟩
instance {r : List Int} : Dat K (pRow K r) (.tuple (r.map PyData.int)) := inferInstanceAs (Dat K (pT K (r.map pI)) (.tuple (r.map PyData.int)))
theorem ev_eqD {d e : PyData} [x : Dat K P d] [y : Dat K P' e] [m : Mono M P] (ha : EvP M ta σ H P) (hb : EvP M tb σ H P') (s1 : SeqAt.shaped d = true) (s2 : SeqAt.shaped e = true) : EvP M (tOp (rEqD K) ta tb) σ H (pB (PyData.eqv d e)) :=
  ev_op ha hb fun v w H1 dd p p' Q q => ⟨d, e, x.dp p, y.dp p', s1, s2, q _ H1 (.refl H1) dd rfl⟩
theorem ev_neD {d e : PyData} [x : Dat K P d] [y : Dat K P' e] [m : Mono M P] (ha : EvP M ta σ H P) (hb : EvP M tb σ H P') (s1 : SeqAt.shaped d = true) (s2 : SeqAt.shaped e = true) : EvP M (tOp (rNeD K) ta tb) σ H (pB (!PyData.eqv d e)) :=
  ev_op ha hb fun v w H1 dd p p' Q q => ⟨d, e, x.dp p, y.dp p', s1, s2, q _ H1 (.refl H1) dd rfl⟩
theorem eqvAll_ints : ∀ r s : List Int, PyData.eqvAll (r.map PyData.int) (s.map PyData.int) = decide (r = s)
  | [], [] => rfl
  | [], _ :: _ => rfl
  | _ :: _, [] => rfl
  | x :: r, y :: s => by
    show (PyData.eqv (.int x) (.int y) && PyData.eqvAll (r.map PyData.int) (s.map PyData.int)) = _
    rw [eqvAll_ints r s]
    show ((x == y) && decide (r = s)) = _
    by_cases h : x = y
    · subst h
      by_cases k : r = s
      · subst k
        simp
      · simp [k]
    · simp [h]
theorem eqv_rows (r s : List Int) : PyData.eqv (.tuple (r.map PyData.int)) (.tuple (s.map PyData.int)) = decide (r = s) := eqvAll_ints r s
theorem eqv_lists (r s : List Int) : PyData.eqv (.list (r.map PyData.int)) (.list (s.map PyData.int)) = decide (r = s) := eqvAll_ints r s
theorem lay_ints : ∀ r : List Int, PyData.canLayAll0 (r.map PyData.int) = true
  | [] => rfl
  | _ :: r => lay_ints r
theorem dep_ints : ∀ r : List Int, PyData.depthAll (r.map PyData.int) = 0
  | [] => rfl
  | x :: r => by
    show max (PyData.depth (.int x)) (PyData.depthAll (r.map PyData.int)) = 0
    rw [dep_ints r]
    rfl
theorem shaped_row (r : List Int) : SeqAt.shaped (.tuple (r.map PyData.int)) = true := by
  unfold SeqAt.shaped
  rw [show PyData.canLay0 (.tuple (r.map PyData.int)) = PyData.canLayAll0 (r.map PyData.int) from rfl, lay_ints]
  rw [show PyData.depth (.tuple (r.map PyData.int)) = PyData.depthAll (r.map PyData.int) + 1 from rfl, dep_ints]
  rfl
theorem shaped_list (r : List Int) : SeqAt.shaped (.list (r.map PyData.int)) = true := by
  unfold SeqAt.shaped
  rw [show PyData.canLay0 (.list (r.map PyData.int)) = PyData.canLayAll0 (r.map PyData.int) from rfl, lay_ints]
  rw [show PyData.depth (.list (r.map PyData.int)) = PyData.depthAll (r.map PyData.int) + 1 from rfl, dep_ints]
  rfl
theorem ev_eqR {r s : List Int} (ha : EvP M ta σ H (pRow K r)) (hb : EvP M tb σ H (pRow K s)) : EvP M (tOp (rEqD K) ta tb) σ H (pB (decide (r = s))) := by
  rw [← eqv_rows]
  exact ev_eqD ha hb (shaped_row r) (shaped_row s)
theorem ev_neR {r s : List Int} (ha : EvP M ta σ H (pRow K r)) (hb : EvP M tb σ H (pRow K s)) : EvP M (tOp (rNeD K) ta tb) σ H (pB (!decide (r = s))) := by
  rw [← eqv_rows]
  exact ev_neD ha hb (shaped_row r) (shaped_row s)
theorem ev_eqLI {r s : List Int} (ha : EvP M ta σ H (pL K M (r.map pI))) (hb : EvP M tb σ H (pL K M (s.map pI))) : EvP M (tOp (rEqD K) ta tb) σ H (pB (decide (r = s))) := by
  rw [← eqv_lists]
  exact ev_eqD ha hb (shaped_list r) (shaped_list s)
end
end Mir


/-! what is walked: comprehensions, loops; statements -/
namespace Mir
open PySem PySem.Spec L2
/-- what a walk gives, one after the other; M is what may change while it is told, M' while it is walked -/
def EvI (M M' : List Addr) (wi : TI) (σ : St) (H : Hp) (Ps : List PV) : Prop := ∀ H1, Ch M H H1 → Dcs M H1 → ∀ R : It → Hp → Prop,
  (∀ (J : It) (H2 : Hp) (G : Hp → Prop) (Y : Nat → Hp → V → Hp → Prop), Ch M H1 H2 → Dcs M H2 → Walk J Ps.length G Y → (∀ H3, Ch M' H2 H3 → G H3) →
    (∀ i H3 x H4, i < Ps.length → Ch M' H2 H3 → Y i H3 x H4 → Same H3 H4 ∧ ∀ P, Ps[i]? = some P → P x H4) → R J H2) → wi σ H1 R
def irange (lo hi : Int) : List Int := (List.range (hi - lo).toNat).map fun (i : Nat) => lo + (i : Int)
theorem irange_at {lo hi : Int} {i : Nat} (h : i < (hi - lo).toNat) : (irange lo hi)[i]? = some (lo + (i : Int)) := by
  unfold irange
  rw [List.getElem?_map, List.getElem?_range h]
  rfl
theorem irange_len {lo hi : Int} : (irange lo hi).length = (hi - lo).toNat := by
  unfold irange
  rw [List.length_map, List.length_range]
section
variable {K : PySem.W.Frag} {M M' : List Addr} {σ : St} {H H' : Hp} {ta tb te tc : TE} {tt : TT} {P P' R : PV} {i j : Int} {b c : Bool} {α β : Type} {F G : α → PV} {wi : TI}
theorem src_tup {Ps : List PV} [m : MonoA M' Ps] (h : EvP M te σ H (pT K Ps)) : EvI M M' (iTup K te) σ H Ps := fun H1 e d R r =>
  h H1 e d _ fun v H2 e2 d2 p => by
    obtain ⟨a, vs, rfl, s, k⟩ := p
    refine ⟨a, rfl, ⟨vs, s⟩, r (Itt K a) H2 (fun H => SqT K H a vs) (YAt vs) e2 d2 (k.len ▸ walk_tup) (fun H3 e3 => sqT_mono e3 s) fun i H3 x H4 hi e3 y => ?_⟩
    obtain ⟨rfl, y⟩ := y
    refine ⟨Same.refl _, fun P hP => ?_⟩
    obtain ⟨v, hv, p⟩ := (m.mono e3 k).get hP
    rw [y] at hv
    cases hv
    exact p
theorem src_row {r : List Int} (h : EvP M te σ H (pRow K r)) : EvI M M' (iTup K te) σ H (r.map pI) := src_tup h
theorem src_lst {Ps : List PV} [m : MonoA M' Ps] (h : EvP M te σ H (pL K M' Ps)) : EvI M M' (iList K te) σ H Ps := fun H1 e d R r =>
  h H1 e d _ fun v H2 e2 d2 p => by
    obtain ⟨a, vs, rfl, n, s, k⟩ := p
    refine ⟨a, rfl, ⟨vs, s⟩, r (Itl K a) H2 (fun H => SqL K H a vs) (YAt vs) e2 d2 (k.len ▸ walk_list) (fun H3 e3 => sqL_mono e3 n s) fun i H3 x H4 hi e3 y => ?_⟩
    obtain ⟨rfl, y⟩ := y
    refine ⟨Same.refl _, fun P hP => ?_⟩
    obtain ⟨v, hv, p⟩ := (m.mono e3 k).get hP
    rw [y] at hv
    cases hv
    exact p
theorem src_range1 {tr : TA} {n : Int} (h : EvA M tr σ H [pI n]) (hb : -(2 ^ 62) ≤ n ∧ n < 2 ^ 62) : EvI M M' (iRng1 tr) σ H ((irange 0 n).map pI) := fun H1 e d R r =>
  h H1 e d _ fun vs H2 e2 d2 k => by
    obtain ⟨v, rfl, rfl⟩ := all1 k
    refine ⟨n, rfl, hb.1, hb.2, r (Itr 0 n.toNat) H2 (fun _ => True) (YFn fun i => .int (0 + i)) e2 d2 ?_ (fun _ _ => trivial) fun i H3 x H4 hi e3 y => ?_⟩
    · rw [List.length_map, irange_len, Int.sub_zero]
      exact walk_range
    · obtain ⟨rfl, rfl⟩ := y
      refine ⟨Same.refl _, fun P hP => ?_⟩
      rw [List.length_map, irange_len] at hi
      rw [List.getElem?_map, irange_at hi] at hP
      cases hP
      rfl
/-- a text's signs -/
def pC (c : Nat) : PV := pS ⟨#[c]⟩
instance {c : Nat} : FzP (pC c) := inferInstanceAs (FzP (pS _))
theorem src_str {z : Str} (h : EvP M te σ H (pS z)) : EvI M M' (iStr te) σ H (z.cps.toList.map pC) := fun H1 e d R r =>
  h H1 e d _ fun v H2 e2 d2 p => by
    refine ⟨z, p, r (Its z) H2 (fun _ => True) (fun i H v H' => H' = H ∧ ∃ c, z.cps[i]? = some c ∧ v = .str ⟨#[c]⟩) e2 d2 ?_ (fun _ _ => trivial) fun i H3 x H4 hi e3 y => ?_⟩
    · rw [List.length_map, Array.length_toList]
      exact walk_str
    · obtain ⟨rfl, c, hc, rfl⟩ := y
      refine ⟨Same.refl _, fun P hP => ?_⟩
      rw [List.getElem?_map, Array.getElem?_toList, hc] at hP
      cases hP
      rfl
/-! a list made by the def itself: new -/
def EvF (M : List Addr) (te : TE) (σ : St) (H : Hp) (Ps : List PV) : Prop := ∀ H1, Ch M H H1 → Dcs M H1 → ∀ Q : VK, (∀ l vs H2, H1 l = none → Ch M H1 H2 → Dcs M H2 → H2 l = some (.lst vs) → All2 Ps vs H2 → Q (.ref l) H2) → te σ H1 Q
theorem EvF.p {Ps : List PV} (h : EvF M te σ H Ps) : EvP M te σ H (pL K M Ps) := fun H1 e d Q q => h H1 e d Q fun l vs H2 n e2 d2 g a => q _ H2 e2 d2 ⟨l, vs, rfl, d.ne n, (show RdL _ _ _ from g), a⟩
/-! comprehensions -/
theorem take_filter {xs : List α} {f : α → Bool} {i : Nat} {x : α} (h : xs[i]? = some x) : ((xs.take (i + 1)).filter f) = (xs.take i).filter f ++ if f x = true then [x] else [] := by
  rw [List.take_add_one, h, List.filter_append]
  congr 1
  show ([x].filter f) = _
  rw [List.filter_cons]
  split <;> rfl
theorem evf_lcG {g : TG} {vs : List Nat} {xs : List α} {f : α → Bool} (src : EvI M M wi σ H (xs.map F)) [fz : ∀ x, FzP (G x)] (hz : xs.length ≤ 100000)
    (step : ∀ x, x ∈ xs → ∀ v H3, Ch M H H3 → Dcs M H3 → F x v H3 → ∀ (N : Hp → Prop) (Y : V → Hp → Prop), (∀ H4, Ch M H3 H4 → Dcs M H4 → f x = false → N H4) → (∀ y H4, Ch M H3 H4 → Dcs M H4 → f x = true → G x y H4 → Y y H4) →
      g v (wipe σ vs) H3 fun σ2 H2 => wipe σ2 vs = wipe σ vs ∧ tt σ2 H2 fun b H3 => if b = true then te σ2 H3 Y else N H3) : EvF M (tLc wi g tt te vs) σ H ((xs.filter f).map G) := fun H1 e d Q q =>
  src H1 e d _ fun J H2 Gd Yd e2 d2 w st yl => by
    intro D hD
    have hDM : D ∉ M := d2.ne hD
    rw [List.length_map] at w
    refine lc_it w (fun i H' => ∃ acc, H' D = some (.lst acc) ∧ All2 (((xs.take i).filter f).map G) acc H' ∧ Ch M H2 H' ∧ Dcs M H') ⟨[], upd_same, .nil, .new hD, d2.new (same_new hD)⟩ (fun i H' _ ⟨acc, h1, h2, h3, h4⟩ => st H' h3) ?_ ?_
    · rintro i x Ha Hb hi ⟨acc, h1, h2, h3, h4⟩ y
      obtain ⟨sm, py⟩ := yl i Ha x Hb (by rw [List.length_map]; exact hi) h3 y
      have hx : xs[i]? = some xs[i] := List.getElem?_eq_getElem hi
      have px := py (F xs[i]) (by rw [List.getElem?_map, hx]; rfl)
      have h3b : Ch M H2 Hb := h3.trans (.of sm)
      have h4b : Dcs M Hb := h4.new sm
      have la : acc.length ≤ i := by
        rw [h2.len, List.length_map]
        refine Nat.le_trans (List.length_filter_le _ _) ?_
        rw [List.length_take]
        omega
      refine step xs[i] (List.getElem_mem hi) x Hb ((e.trans e2).trans h3b) h4b px (fun H3 => ∃ acc, H3 D = some (.lst acc) ∧ All2 (((xs.take (i + 1)).filter f).map G) acc H3 ∧ Ch M H2 H3 ∧ Dcs M H3) (fun y H4 => ∃ acc, H4 D = some (.lst acc) ∧ acc.length < sizeLine ∧ _) (fun Hc ec dc fx => ?_) (fun yv Hc ec dc fx gy => ?_)
      · rw [take_filter hx, if_neg (by rw [fx]; decide), List.append_nil]
        have ed : Ch M Ha Hc := (Ch.of sm).trans ec
        exact ⟨acc, ed.keep D _ hDM h1, MonoA.mono (M := M) ed h2, h3b.trans ec, dc⟩
      · have ed : Ch M Ha Hc := (Ch.of sm).trans ec
        have hc := ed.keep D _ hDM h1
        refine ⟨acc, hc, Evl.sz_lt (by omega), acc ++ [yv], upd_same, ?_, ?_, fun a ha => ?_⟩
        · rw [take_filter hx, if_pos fx, List.map_append]
          have up : Ch [D] Hc (upd Hc D (.lst (acc ++ [yv]))) := Ch.set hc rfl (List.mem_singleton.mpr rfl)
          exact All2.app (MonoA.mono (M := [D]) up (MonoA.mono (M := M) ed h2)) (.cons (Mono.mono (M := [D]) up gy) .nil)
        · refine Ch.drop (l := D) ((h3b.trans ec).more.trans ?_) hD
          exact Ch.set hc rfl List.mem_cons_self
        · obtain ⟨x1, y1, z1, hh⟩ := dc a ha
          exact ⟨x1, y1, z1, by rw [upd_ne (fun z => hDM (by rw [← z]; exact ha))]; exact hh⟩
    · rintro Ha ⟨acc, h1, h2, h3, h4⟩
      rw [List.take_length] at h2
      exact q D acc Ha (e2.free d2 hD) (e2.trans h3) h4 h1 h2
/-- over names -/
theorem evf_lc {vs : List Nat} {j : Nat} {xs : List α} {f : α → Bool} (src : EvI M M wi σ H (xs.map F)) [fz : ∀ x, FzP (G x)] (hz : xs.length ≤ 100000) (hw : ∀ x, wipe ((wipe σ vs).set j (some x)) vs = wipe σ vs)
    (step : ∀ x, x ∈ xs → ∀ v H3, Ch M H H3 → Dcs M H3 → F x v H3 → EvB M tt ((wipe σ vs).set j (some v)) H3 (f x) ∧ (f x = true → EvP M te ((wipe σ vs).set j (some v)) H3 (G x))) :
    EvF M (tLc wi (gName j) tt te vs) σ H ((xs.filter f).map G) :=
  evf_lcG src hz fun x hx v H3 e d p N Y hN hY => by
    obtain ⟨s1, s2⟩ := step x hx v H3 e d p
    refine ⟨hw _, s1 H3 (.refl H3) d _ fun H4 e4 d4 => ?_⟩
    cases fx : f x with
    | true => exact iteT (s2 fx H4 e4 d4 Y fun y H5 e5 d5 g => hY y H5 (e4.trans e5) d5 fx g)
    | false => exact iteF (hN H4 e4 d4 fx)
theorem ev_lc {vs : List Nat} {j : Nat} {xs : List α} {f : α → Bool} (src : EvI M M wi σ H (xs.map F)) [fz : ∀ x, FzP (G x)] (hz : xs.length ≤ 100000) (hw : ∀ x, wipe ((wipe σ vs).set j (some x)) vs = wipe σ vs)
    (step : ∀ x, x ∈ xs → ∀ v H3, Ch M H H3 → Dcs M H3 → F x v H3 → EvB M tt ((wipe σ vs).set j (some v)) H3 (f x) ∧ (f x = true → EvP M te ((wipe σ vs).set j (some v)) H3 (G x))) :
    EvP M (tLc wi (gName j) tt te vs) σ H (pL K M ((xs.filter f).map G)) := (evf_lc src hz hw step).p
theorem evf_lc1 {vs : List Nat} {j : Nat} {xs : List α} (src : EvI M M wi σ H (xs.map F)) [fz : ∀ x, FzP (G x)] (hz : xs.length ≤ 100000) (hw : ∀ x, wipe ((wipe σ vs).set j (some x)) vs = wipe σ vs)
    (step : ∀ x, x ∈ xs → ∀ v H3, Ch M H H3 → Dcs M H3 → F x v H3 → EvP M te ((wipe σ vs).set j (some v)) H3 (G x)) :
    EvF M (tLc wi (gName j) tYes te vs) σ H (xs.map G) := by
  have h : EvF M (tLc wi (gName j) tYes te vs) σ H ((xs.filter fun _ => true).map G) := evf_lc (f := fun _ => true) src hz hw fun x hx v H3 e d p => ⟨fun H1 e1 d1 Q q => q H1 (.refl H1) d1, fun _ => step x hx v H3 e d p⟩
  rw [List.filter_eq_self.mpr (fun _ _ => rfl)] at h
  exact h
theorem ev_lc1 {vs : List Nat} {j : Nat} {xs : List α} (src : EvI M M wi σ H (xs.map F)) [fz : ∀ x, FzP (G x)] (hz : xs.length ≤ 100000) (hw : ∀ x, wipe ((wipe σ vs).set j (some x)) vs = wipe σ vs)
    (step : ∀ x, x ∈ xs → ∀ v H3, Ch M H H3 → Dcs M H3 → F x v H3 → EvP M te ((wipe σ vs).set j (some v)) H3 (G x)) :
    EvP M (tLc wi (gName j) tYes te vs) σ H (pL K M (xs.map G)) := (evf_lc1 src hz hw step).p
/-! statements -/
variable {D : Ends} {tu tw tz : TS} {g : TG}
theorem s_asg {i : Nat} (h : EvP M te σ H P) (d : Dcs M H) (k : ∀ v H1, Ch M H H1 → Dcs M H1 → P v H1 → D.nx (σ.set i (some v)) H1) : tAsg te (gName i) D σ H := h H (.refl H) d _ k
theorem q_asg {i : Nat} (h : EvP M te σ H P) (d : Dcs M H) (k : ∀ v H1, Ch M H H1 → Dcs M H1 → P v H1 → tz D (σ.set i (some v)) H1) : tSeq (tAsg te (gName i)) tz D σ H := h H (.refl H) d _ k
theorem s_asg2 {i j : Nat} (h : EvP M te σ H (pT K [P, R])) (d : Dcs M H) (k : ∀ v w H1, Ch M H H1 → Dcs M H1 → P v H1 → R w H1 → D.nx ((σ.set i (some v)).set j (some w)) H1) :
    tAsg te (gTup K 2 (gCons (gName i) (gCons (gName j) gNil))) D σ H := h H (.refl H) d _ fun v H1 e1 d1 p => by
  obtain ⟨a, vs, rfl, s, kk⟩ := p
  obtain ⟨v1, v2, rfl, p1, p2⟩ := all2 kk
  exact ⟨a, [v1, v2], rfl, s, rfl, v1, [v2], rfl, v2, [], rfl, rfl, k v1 v2 H1 e1 d1 p1 p2⟩
theorem q_asg2 {i j : Nat} (h : EvP M te σ H (pT K [P, R])) (d : Dcs M H) (k : ∀ v w H1, Ch M H H1 → Dcs M H1 → P v H1 → R w H1 → tz D ((σ.set i (some v)).set j (some w)) H1) :
    tSeq (tAsg te (gTup K 2 (gCons (gName i) (gCons (gName j) gNil)))) tz D σ H := s_asg2 (D := { D with nx := tz D }) h d k
theorem q_asg3 {i j l : Nat} {S : PV} (h : EvP M te σ H (pT K [P, R, S])) (d : Dcs M H) (k : ∀ u v w H1, Ch M H H1 → Dcs M H1 → P u H1 → R v H1 → S w H1 → tz D (((σ.set i (some u)).set j (some v)).set l (some w)) H1) :
    tSeq (tAsg te (gTup K 3 (gCons (gName i) (gCons (gName j) (gCons (gName l) gNil))))) tz D σ H := h H (.refl H) d _ fun v H1 e1 d1 p => by
  obtain ⟨a, vs, rfl, s, kk⟩ := p
  obtain ⟨v1, v2, v3, rfl, p1, p2, p3⟩ := all3 kk
  exact ⟨a, [v1, v2, v3], rfl, s, rfl, v1, [v2, v3], rfl, v2, [v3], rfl, v3, [], rfl, rfl, k v1 v2 v3 H1 e1 d1 p1 p2 p3⟩
theorem s_par {i j : Nat} {tr : TA} (h : EvA M tr σ H [P, R]) (d : Dcs M H) (k : ∀ v w H1, Ch M H H1 → Dcs M H1 → P v H1 → R w H1 → D.nx ((σ.set i (some v)).set j (some w)) H1) : tPar i j tr D σ H := h H (.refl H) d _ fun vs H1 e1 d1 kk => by
  obtain ⟨v1, v2, rfl, p1, p2⟩ := all2 kk
  exact ⟨v1, v2, rfl, k v1 v2 H1 e1 d1 p1 p2⟩
theorem q_par {i j : Nat} {tr : TA} (h : EvA M tr σ H [P, R]) (d : Dcs M H) (k : ∀ v w H1, Ch M H H1 → Dcs M H1 → P v H1 → R w H1 → tz D ((σ.set i (some v)).set j (some w)) H1) : tSeq (tPar i j tr) tz D σ H := s_par (D := { D with nx := tz D }) h d k
theorem s_ret (h : EvP M te σ H P) (d : Dcs M H) (k : ∀ v H1, Ch M H H1 → Dcs M H1 → P v H1 → D.rt v H1) : tRet te D σ H := h H (.refl H) d _ k
theorem s_if (h : EvB M tt σ H b) (d : Dcs M H) (h1 : b = true → ∀ H1, Ch M H H1 → Dcs M H1 → tu D σ H1) (h2 : b = false → ∀ H1, Ch M H H1 → Dcs M H1 → tw D σ H1) : tIfS tt tu tw D σ H := h H (.refl H) d _ fun H1 e1 d1 => by
  cases b with
  | true => exact iteT (h1 rfl H1 e1 d1)
  | false => exact iteF (h2 rfl H1 e1 d1)
theorem q_if (h : EvB M tt σ H b) (d : Dcs M H) (h1 : b = true → ∀ H1, Ch M H H1 → Dcs M H1 → tu { D with nx := tz D } σ H1) (h2 : b = false → ∀ H1, Ch M H H1 → Dcs M H1 → tw { D with nx := tz D } σ H1) : tSeq (tIfS tt tu tw) tz D σ H := s_if (D := { D with nx := tz D }) h d h1 h2
theorem q_drop (h : EvP M te σ H P) (d : Dcs M H) (k : ∀ v H1, Ch M H H1 → Dcs M H1 → P v H1 → tz D σ H1) : tSeq (tDrop te) tz D σ H := h H (.refl H) d _ k
/-- xs.append(e), xs in slot n -/
theorem s_app {l : Addr} {xs : List V} {n : Nat} (hs : σ[n]? = some (some (.ref l))) (hl : H l = some (.lst xs)) (hM : l ∉ M) (h : EvP M te σ H P) (d : Dcs M H) (hz : xs.length < 100000)
    (k : ∀ v H1, Ch M H H1 → Dcs M H1 → P v H1 → H1 l = some (.lst xs) → D.nx σ (upd H1 l (.lst (xs ++ [v])))) : tDrop (tBM K "list" rAppend (tVar n) (tCons te tNil)) D σ H :=
  ⟨_, hs, .inl ⟨rfl, xs, SqL.of hl⟩, h H (.refl H) d _ fun v H1 e1 d1 p => ⟨l, xs, v, rfl, rfl, e1.keep l _ hM hl, Evl.sz_lt hz, k v H1 e1 d1 p (e1.keep l _ hM hl)⟩⟩
/-! loops -/
theorem s_forG {xs : List α} (src : EvI M M' wi σ H (xs.map F)) (d : Dcs M H) (W : Hp → List α → St → Hp → Prop) (h0 : ∀ H2, Ch M H H2 → Dcs M H2 → W H2 xs σ H2) (hC : ∀ H2 r σ' H', W H2 r σ' H' → Ch M' H2 H')
    (step : ∀ H2 x r v σ' H0 H', x ∈ xs → W H2 (x :: r) σ' H0 → Same H0 H' → F x v H' → g v σ' H' fun σ2 H3 => tu { D with nx := W H2 r, ct := W H2 r, bk := D.nx } σ2 H3)
    (done : ∀ H2 σ' H', W H2 [] σ' H' → D.nx σ' H') : tFor wi g tu D σ H :=
  src H (.refl H) d _ fun J H2 Gd Yd e2 d2 w st yl => by
    rw [List.length_map] at w
    refine for_it w (fun i σ' H' => W H2 (xs.drop i) σ' H') (h0 H2 e2 d2) (fun i σ' H' _ h => st H' (hC _ _ _ _ h)) ?_ (fun σ' H' h => done H2 σ' H' (by rw [List.drop_length] at h; exact h))
    intro i x σ' Ha Hb hi h y
    rw [List.drop_eq_getElem_cons hi] at h
    obtain ⟨sm, py⟩ := yl i Ha x Hb (by rw [List.length_map]; exact hi) (hC _ _ _ _ h) y
    exact step H2 xs[i] _ x σ' Ha Hb (List.getElem_mem hi) h sm (py _ (by rw [List.getElem?_map, List.getElem?_eq_getElem hi]; rfl))
theorem s_for {n : Nat} {xs : List α} (src : EvI M M' wi σ H (xs.map F)) (d : Dcs M H) (W : Hp → List α → St → Hp → Prop) (h0 : ∀ H2, Ch M H H2 → Dcs M H2 → W H2 xs σ H2) (hC : ∀ H2 r σ' H', W H2 r σ' H' → Ch M' H2 H')
    (step : ∀ H2 x r v σ' H0 H', x ∈ xs → W H2 (x :: r) σ' H0 → Same H0 H' → F x v H' → tu { D with nx := W H2 r, ct := W H2 r, bk := D.nx } (σ'.set n (some v)) H')
    (done : ∀ H2 σ' H', W H2 [] σ' H' → D.nx σ' H') : tFor wi (gName n) tu D σ H := s_forG src d W h0 hC step done
theorem q_for {n : Nat} {xs : List α} (src : EvI M M' wi σ H (xs.map F)) (d : Dcs M H) (W : Hp → List α → St → Hp → Prop) (h0 : ∀ H2, Ch M H H2 → Dcs M H2 → W H2 xs σ H2) (hC : ∀ H2 r σ' H', W H2 r σ' H' → Ch M' H2 H')
    (step : ∀ H2 x r v σ' H0 H', x ∈ xs → W H2 (x :: r) σ' H0 → Same H0 H' → F x v H' → tu { D with nx := W H2 r, ct := W H2 r, bk := tz D } (σ'.set n (some v)) H')
    (done : ∀ H2 σ' H', W H2 [] σ' H' → tz D σ' H') : tSeq (tFor wi (gName n) tu) tz D σ H := s_for (D := { D with nx := tz D }) src d W h0 hC step done
theorem s_while (W : Nat → St → Hp → Prop) (n : Nat) (h0 : W n σ H)
    (step : ∀ n σ' H', W n σ' H' → ∃ b, EvB M tt σ' H' b ∧ Dcs M H' ∧ (b = true → ∀ H1, Ch M H' H1 → Dcs M H1 → ∃ m, m < n ∧ tu { D with nx := W m, ct := W m, bk := D.nx } σ' H1) ∧ (b = false → ∀ H1, Ch M H' H1 → Dcs M H1 → D.nx σ' H1)) :
    tWhile tt tu D σ H := ⟨W, ⟨n, h0⟩, fun n σ' H' w => by
  obtain ⟨b, hb, d, h1, h2⟩ := step n σ' H' w
  refine hb H' (.refl H') d _ fun H1 e1 d1 => ?_
  cases b with
  | true =>
    obtain ⟨m, lt, h⟩ := h1 rfl H1 e1 d1
    exact iteT ⟨W m, fun σ2 H2 w2 => ⟨m, lt, w2⟩, h⟩
  | false => exact iteF (h2 rfl H1 e1 d1)⟩
theorem q_while (W : Nat → St → Hp → Prop) (n : Nat) (h0 : W n σ H)
    (step : ∀ n σ' H', W n σ' H' → ∃ b, EvB M tt σ' H' b ∧ Dcs M H' ∧ (b = true → ∀ H1, Ch M H' H1 → Dcs M H1 → ∃ m, m < n ∧ tu { D with nx := W m, ct := W m, bk := tz D } σ' H1) ∧ (b = false → ∀ H1, Ch M H' H1 → Dcs M H1 → tz D σ' H1)) :
    tSeq (tWhile tt tu) tz D σ H := s_while (D := { D with nx := tz D }) W n h0 step
end
end Mir
namespace Mir
open PySem PySem.Spec L2
theorem wipe_out {σ : St} {j : Nat} {x : Option V} : ∀ {vs : List Nat}, j ∉ vs → wipe (σ.set j x) vs = (wipe σ vs).set j x
  | [], _ => rfl
  | v :: vs, h => by
    show (wipe (σ.set j x) vs).set v none = ((wipe σ vs).set v none).set j x
    rw [wipe_out (fun z => h (List.mem_cons_of_mem _ z)), List.set_comm _ _ (fun z : j = v => h (by rw [z]; exact List.mem_cons_self))]
theorem wipe_in {σ : St} {j : Nat} {x : Option V} : ∀ {vs : List Nat}, j ∈ vs → wipe (σ.set j x) vs = wipe σ vs
  | v :: vs, h => by
    show (wipe (σ.set j x) vs).set v none = (wipe σ vs).set v none
    by_cases m : j ∈ vs
    · rw [wipe_in m]
    · have e : j = v := (List.mem_cons.mp h).resolve_right m
      rw [wipe_out m, e, List.set_set]
theorem wipe_wipe {σ : St} : ∀ {ws vs : List Nat}, (∀ v ∈ ws, v ∈ vs) → wipe (wipe σ ws) vs = wipe σ vs
  | [], _, _ => rfl
  | w :: ws, vs, h => by
    show wipe ((wipe σ ws).set w none) vs = _
    rw [wipe_in (h w List.mem_cons_self), wipe_wipe fun v hv => h v (List.mem_cons_of_mem _ hv)]
section
variable {σ : St} {j k l : Nat} {vs : List Nat}
theorem wipe1 (h1 : j ∈ vs) : ∀ x : V, wipe ((wipe σ vs).set j (some x)) vs = wipe σ vs := fun x => by rw [wipe_in h1, wipe_wipe fun _ h => h]
theorem wipe2 (h1 : j ∈ vs) (h2 : k ∈ vs) : ∀ x y : V, wipe (((wipe σ vs).set j (some x)).set k (some y)) vs = wipe σ vs := fun x y => by rw [wipe_in h2, wipe_in h1, wipe_wipe fun _ h => h]
end
end Mir


/-! small words for the walk -/
namespace Mir
open PySem PySem.Spec L2 RZ
theorem no_str (x : Str) (v : V) (H : Hp) (h : pS x v H) : v ≠ .non := by cases h; intro z; cases z
theorem pT.ne {K : PySem.W.Frag} {Ps : List PV} {v : V} {H : Hp} (h : pT K Ps v H) : v ≠ .non := by
  obtain ⟨a, vs, rfl, _⟩ := h
  intro z
  cases z
theorem pL.less {K : PySem.W.Frag} {M : List Addr} {Ps : List PV} {v : V} {H : Hp} (h : pL K M Ps v H) : pL K [] Ps v H := by
  obtain ⟨a, vs, e, _, s, k⟩ := h
  exact ⟨a, vs, e, (fun z => absurd z (by simp)), s, k⟩
theorem ne_true {b : Bool} {α : Sort _} {x y : α} (h : b = false) : (if b = true then x else y) = y := if_neg (by rw [h]; decide)
theorem tgt {α : Type} {F : α → PV} {t m : α} (e : t = m) {v : V} {H : Hp} (h : F m v H) : F t v H := e ▸ h
theorem inb_last {α : Type} {r : List α} (h : r ≠ []) : inb r.length (-1) := by
  cases r with
  | nil => exact absurd rfl h
  | cons x r => exact ⟨by simp only [List.length_cons]; omega, by simp only [List.length_cons]; omega⟩
theorem pO.get {α : Type} [Inhabited α] {F : α → PV} {o : Option α} {v : V} {H : Hp} (h : o.isNone = false) (p : pO F o v H) : F (o.getD default) v H := by
  cases o with
  | none => cases h
  | some x => exact p
theorem or_said1 {b c : Bool} (h : (b || c) = false) : b = false := by cases b <;> simp_all
theorem or_said2 {b c : Bool} (h : (b || c) = false) : c = false := by cases b <;> simp_all
def joinedS (ys : List Str) : Str := ys.foldl (· ++ ·) Str.empty
def repeated {α : Type} (xs : List α) (n : Int) : List α := (List.replicate n.toNat xs).flatten
/-- the numbers from hi down to above lo -/
def idown (hi lo : Int) : List Int := (List.range (hi - lo).toNat).map fun (i : Nat) => hi - (i : Int)
def intOf (s : Str) : Int := (PySem.intText? s).getD 0
section
variable {K : PySem.W.Frag} {M M' : List Addr} {σ : St} {H H' : Hp} {ta tb te tc : TE} {tt : TT} {P P' R : PV} {i j k : Int} {b c : Bool} {α β : Type} {F : α → PV} {G : β → PV}
theorem EvP.row {r : List Int} {Ps : List PV} (h : EvP M te σ H (pT K Ps)) (e : Ps = r.map pI := by rfl) : EvP M te σ H (pRow K r) := by
  subst e
  exact h
theorem EvP.lst {xs : List α} {Ps : List PV} (h : EvP M te σ H (pL K M Ps)) (e : Ps = xs.map F := by rfl) : EvP M te σ H (pL K M (xs.map F)) := by
  subst e
  exact h
theorem EvF.lst {xs : List α} {Ps : List PV} (h : EvF M te σ H Ps) (e : Ps = xs.map F := by rfl) : EvF M te σ H (xs.map F) := by
  subst e
  exact h
theorem EvF.map {xs : List β} {g : β → α} {G : α → PV} (h : EvF M te σ H (xs.map fun x => G (g x))) : EvF M te σ H ((xs.map g).map G) := by
  rw [List.map_map]
  exact h
theorem EvP.map {xs : List β} {g : β → α} {G : α → PV} (h : EvP M te σ H (pL K M (xs.map fun x => G (g x)))) : EvP M te σ H (pL K M ((xs.map g).map G)) := by
  rw [List.map_map]
  exact h
theorem EvP.some {x : α} (h : EvP M te σ H (F x)) : EvP M te σ H (pO F (some x)) := h
theorem EvP.non {F : α → PV} (h : EvP M te σ H pN) : EvP M te σ H (pO F (none : Option α)) := h
/-- a list of the def's own -/
theorem ev_mut {n : Nat} {l : Addr} {vs : List V} {Ps : List PV} [m : MonoA M Ps] (hs : σ[n]? = some (some (.ref l))) (h : H l = some (.lst vs)) (a : All2 Ps vs H) (hn : l ∉ M) : EvP M (tVar n) σ H (pL K M Ps) := fun H1 e d Q q =>
  ⟨_, hs, q _ H1 (.refl H1) d ⟨l, vs, rfl, hn, (show RdL _ _ _ from e.keep _ _ hn h), m.mono e a⟩⟩
theorem ev_chain {C1 C2 : Int → Int → Bool} (ha : EvP M ta σ H (pI i)) (hb : EvP M tb σ H (pI j)) (hc : EvP M tc σ H (pI k)) : EvP M (tChain (rI0 fun i j => .bl (C1 i j)) (rI0 fun i j => .bl (C2 i j)) ta tb tc) σ H (pB (C1 i j && C2 j k)) := fun H1 e d Q q =>
  ha H1 e d _ fun x H2 e2 d2 p => hb H2 (e.trans e2) d2 _ fun y H3 e3 d3 p' => ⟨i, j, p, p', C1 i j, rfl, by
    cases h : C1 i j with
    | true => exact iteT (hc H3 ((e.trans e2).trans e3) d3 _ fun z H4 e4 d4 p'' => ⟨j, k, p', p'', q _ H4 ((e2.trans e3).trans e4) d4 (by show V.bl _ = V.bl _; rw [h, Bool.true_and])⟩)
    | false => exact iteF (q _ H3 (e2.trans e3) d3 (by show V.bl _ = V.bl _; rw [h, Bool.false_and]))⟩
theorem ev_addS {y z : Str} (ha : EvP M ta σ H (pS y)) (hb : EvP M tb σ H (pS z)) (hz : y.length + z.length ≤ sizeLine) : EvP M (tOp (fun x y H Q => ∃ i j, x = .str i ∧ y = .str j ∧ i.length + j.length ≤ sizeLine ∧ Q (.str (i ++ j)) H) ta tb) σ H (pS (y ++ z)) :=
  ev_op ha hb fun x w H1 d p p' Q q => ⟨y, z, p, p', hz, q _ H1 (.refl H1) d rfl⟩
theorem ev_intS {z : Str} {n : Int} {tr : TA} (h : EvA M tr σ H [pS z]) (hn : PySem.intText? z = some n ∧ z.length ≤ 640) : EvP M (tCB (fun xs H Q => ∃ a n, xs = [.str a] ∧ PySem.intText? a = some n ∧ a.length ≤ 640 ∧ Q (.int n) H) tr) σ H (pI (intOf z)) := ev_cb h fun vs H1 d k Q q => by
  obtain ⟨v, rfl, rfl⟩ := all1 k
  exact ⟨z, n, rfl, hn.1, hn.2, q _ H1 (.refl H1) d (by unfold intOf; rw [hn.1]; rfl)⟩
theorem ev_chainS {y z w : Str} (ha : EvP M ta σ H (pS y)) (hb : EvP M tb σ H (pS z)) (hc : EvP M tc σ H (pS w)) : EvP M (tChain (fun x y H Q => ∃ i j, x = .str i ∧ y = .str j ∧ Q (.bl (!decide (j.cps.toList < i.cps.toList))) H) (fun x y H Q => ∃ i j, x = .str i ∧ y = .str j ∧ Q (.bl (!decide (j.cps.toList < i.cps.toList))) H) ta tb tc) σ H
    (pB (!decide (z.cps.toList < y.cps.toList) && !decide (w.cps.toList < z.cps.toList))) := fun H1 e d Q q =>
  ha H1 e d _ fun x H2 e2 d2 p => hb H2 (e.trans e2) d2 _ fun u H3 e3 d3 p' => ⟨y, z, p, p', _, rfl, by
    cases h : (!decide (z.cps.toList < y.cps.toList)) with
    | true => exact iteT (hc H3 ((e.trans e2).trans e3) d3 _ fun v H4 e4 d4 p'' => ⟨z, w, p', p'', q _ H4 ((e2.trans e3).trans e4) d4 (by show V.bl _ = V.bl _; rw [h, Bool.true_and])⟩)
    | false => exact iteF (q _ H3 (e2.trans e3) d3 (by show V.bl _ = V.bl _; rw [h, Bool.false_and]))⟩
theorem inV_ints (i : Int) : ∀ r : List Int, inV (.int i) (r.map V.int) = decide (i ∈ r)
  | [] => by simp [inV]
  | x :: r => by
    have ih := inV_ints i r
    unfold inV at ih ⊢
    rw [List.map_cons, List.any_cons, ih]
    show ((x == i) || decide (i ∈ r)) = decide (i ∈ x :: r)
    by_cases h : x = i
    · subst h
      simp
    · simp [h, Ne.symm h]
theorem ev_inR {i : Int} {r : List Int} (ha : EvP M ta σ H (pI i)) (hb : EvP M tb σ H (pRow K r)) : EvP M (tOp (rIn K false) ta tb) σ H (pB (decide (i ∈ r))) :=
  ev_op ha hb fun x y H1 d p p' Q q => by
    cases p
    obtain ⟨a, rfl, s⟩ := p'.of
    refine ⟨a, _, rfl, .inr s, rfl, ?_, q _ H1 (.refl H1) d ?_⟩
    · rw [List.all_eq_true]
      intro z hz
      obtain ⟨w, _, rfl⟩ := List.mem_map.mp hz
      rfl
    · show V.bl (inV _ _) = V.bl _
      rw [inV_ints]
/-! methods of texts -/
theorem kn_self {M : List Addr} {H : Hp} : ∀ a ∈ M, a ∉ M → H a ≠ none := fun a h n => absurd h n
theorem kn_cons {M L : List Addr} {H : Hp} {l : Addr} {o : HO} (h : H l = Option.some o) (k : ∀ a ∈ L, a ∉ M → H a ≠ none) : ∀ a ∈ l :: L, a ∉ M → H a ≠ none := fun a ha n => by
  rcases List.mem_cons.mp ha with e | ha
  · rw [e, h]
    intro z
    cases z
  · exact k a ha n
theorem src_lstF {Ps : List PV} [mm : MonoA M' Ps] (h : EvF M te σ H Ps) (hM : ∀ a ∈ M', a ∉ M → H a ≠ none) : EvI M M' (iList K te) σ H Ps := fun H1 e d R r =>
  h H1 e d _ fun a vs H2 hn e2 d2 s k => by
    have n : a ∉ M' := fun ha => by
      by_cases m : a ∈ M
      · exact d.ne hn m
      · cases q : H a with
        | none => exact hM a ha m q
        | some o =>
          have := e.keep a o m q
          rw [hn] at this
          cases this
    refine ⟨a, rfl, ⟨vs, SqL.of s⟩, r (Itl K a) H2 (fun H => SqL K H a vs) (YAt vs) e2 d2 (k.len ▸ walk_list) (fun H3 e3 => sqL_mono e3 n (SqL.of s)) fun i H3 x H4 hi e3 y => ?_⟩
    obtain ⟨rfl, y⟩ := y
    refine ⟨Same.refl _, fun P hP => ?_⟩
    obtain ⟨v, hv, p⟩ := (mm.mono e3 k).get hP
    rw [y] at hv
    cases hv
    exact p
theorem evf_split {y z : Str} (ha : EvP M ta σ H (pS y)) (hb : EvP M tb σ H (pS z)) (hz : (z.length == 0) = false ∧ y.length + 2 ≤ sizeLine) : EvF M (tM1 (fun x xs H Q => ∃ a b, x = .str a ∧ xs = [.str b] ∧ (b.length == 0) = false ∧ a.length + 2 ≤ sizeLine ∧ rNewStrs (Txt.split a b) H Q) ta tb) σ H ((Txt.split y z).map pS) := fun H1 e d Q q =>
  ha H1 e d _ fun v H2 e2 d2 p => ⟨⟨y, p⟩, hb H2 (e.trans e2) d2 _ fun w H3 e3 d3 p' => ⟨y, z, p, by rw [show w = _ from p'], hz.1, hz.2, fun l hl => q l _ _ ((e2.trans e3).free d3 hl) ((e2.trans e3).trans (.new hl)) (d3.new (same_new hl)) upd_same of_strs⟩⟩
theorem ev_partition {y z : Str} (ha : EvP M ta σ H (pS y)) (hb : EvP M tb σ H (pS z)) (hz : (z.length == 0) = false ∧ y.length ≤ sizeLine) : EvP M (tM1 (fun x xs H Q => ∃ a b, x = .str a ∧ xs = [.str b] ∧ (b.length == 0) = false ∧ a.length ≤ sizeLine ∧
    ∀ p, H p = none → Q (.ref p) (upd H p (.tup [.str (Txt.partition a b).1, .str (Txt.partition a b).2.1, .str (Txt.partition a b).2.2]))) ta tb) σ H (pT K [pS (Txt.partition y z).1, pS (Txt.partition y z).2.1, pS (Txt.partition y z).2.2]) := fun H1 e d Q q =>
  ha H1 e d _ fun v H2 e2 d2 p => ⟨⟨y, p⟩, hb H2 (e.trans e2) d2 _ fun w H3 e3 d3 p' => ⟨y, z, p, by rw [show w = _ from p'], hz.1, hz.2, fun l hl => q _ _ ((e2.trans e3).trans (.new hl)) (d3.new (same_new hl)) ⟨l, _, rfl, SqT.of upd_same, .cons rfl (.cons rfl (.cons rfl .nil))⟩⟩⟩
theorem ev_join {z : Str} {ys : List Str} (ha : EvP M ta σ H (pS z)) (hb : EvP M tb σ H (pL K M (ys.map pS))) (hz : (ys.map (·.length)).sum + ys.length * z.length ≤ 16777216) : EvP M (tM1 (fun x xs H Q => ∃ a p, ∃ ys : List Str, x = .str a ∧ xs = [.ref p] ∧ (SqL K H p (ys.map V.str) ∨ SqT K H p (ys.map V.str)) ∧
    (ys.map (·.length)).sum + ys.length * a.length ≤ 16777216 ∧ Q (.str (Txt.join a ys)) H) ta tb) σ H (pS (Txt.join z ys)) := fun H1 e d Q q =>
  ha H1 e d _ fun v H2 e2 d2 p => ⟨⟨z, p⟩, hb H2 (e.trans e2) d2 _ fun w H3 e3 d3 ⟨l, vs, ew, _, s, k⟩ => ⟨z, l, ys, p, by rw [ew], .inl (by rw [strs_of k] at s; exact SqL.of s), hz, q _ H3 (e2.trans e3) d3 rfl⟩⟩
/-! f-strings -/
theorem ev_fmtS {y : Str} (h : EvP M te σ H (pS y)) (hz : y.length ≤ sizeLine) : EvP M (tFmt te) σ H (pS y) := fun H1 e d Q q => h H1 e d _ fun v H2 e2 d2 p => .inl ⟨y, p, hz, q _ H2 e2 d2 rfl⟩
theorem ev_fmtI {i : Int} (h : EvP M te σ H (pI i)) (hz : i.natAbs.log2 < 1920) : EvP M (tFmt te) σ H (pS (Str.ofString (toString i))) := fun H1 e d Q q => h H1 e d _ fun v H2 e2 d2 p => .inr ⟨i, p, hz, q _ H2 e2 d2 rfl⟩
/-- the parts, one behind the other -/
inductive EvJ (M : List Addr) (σ : St) (H : Hp) : List TE → List Str → Prop
  | nil : EvJ M σ H [] []
  | cons {t : TE} {ts : List TE} {y : Str} {ys : List Str} : EvP M t σ H (pS y) → EvJ M σ H ts ys → EvJ M σ H (t :: ts) (y :: ys)
theorem ej_run {ts : List TE} {ys : List Str} (h : EvJ M σ H ts ys) : ∀ (acc : Str) (H1 : Hp), Ch M H H1 → Dcs M H1 → acc.length + (ys.map Str.length).sum ≤ sizeLine → ∀ Q : Str → Hp → Prop, (∀ H2, Ch M H1 H2 → Dcs M H2 → Q (ys.foldl (· ++ ·) acc) H2) → tJs ts acc σ H1 Q := by
  induction h with
  | nil => exact fun acc H1 e d _ Q q => q H1 (.refl H1) d
  | @cons t ts y ys h1 h2 ih =>
    intro acc H1 e d hz Q q
    have la : (acc ++ y).length = acc.length + y.length := by
      show (acc.cps ++ y.cps).size = _
      rw [Array.size_append]
      rfl
    rw [List.map_cons, List.sum_cons] at hz
    refine h1 H1 e d _ fun v H2 e2 d2 p => ⟨y, p, by rw [la]; omega, ih (acc ++ y) H2 (e.trans e2) d2 (by rw [la]; omega) Q fun H3 e3 d3 => q H3 (e2.trans e3) d3⟩
theorem ev_joined {ts : List TE} {ys : List Str} (h : EvJ M σ H ts ys) (hz : (ys.map Str.length).sum ≤ sizeLine) : EvP M (fun σ H Q => tJs ts Str.empty σ H fun out H1 => Q (.str out) H1) σ H (pS (joinedS ys)) := fun H1 e d Q q =>
  ej_run h Str.empty H1 e d (by show 0 + _ ≤ _; omega) _ fun H2 e2 d2 => q _ H2 e2 d2 rfl
/-! further walks -/
theorem src_rangeD {tr : TA} {hi lo : Int} (h : EvA M tr σ H [pI hi, pI lo, pI (-1)]) (hb : -(2 ^ 62) ≤ hi ∧ hi < 2 ^ 62 ∧ -(2 ^ 62) ≤ lo ∧ lo < 2 ^ 62) : EvI M M' (iRng3 tr) σ H ((idown hi lo).map pI) := fun H1 e d R r =>
  h H1 e d _ fun vs H2 e2 d2 k => by
    obtain ⟨u, v, w, rfl, rfl, rfl, rfl⟩ := all3 k
    refine ⟨hi, lo, -1, (hi - lo).toNat, rfl, RgC.neg hb.1 hb.2.1 hb.2.2.1 hb.2.2.2, r (Itc hi (-1) (hi - lo).toNat) H2 (fun _ => True) (YFn fun i => .int (hi + (i : Nat) * (-1))) e2 d2 ?_ (fun _ _ => trivial) fun i H3 x H4 hi2 e3 y => ?_⟩
    · rw [List.length_map]
      unfold idown
      rw [List.length_map, List.length_range]
      exact walk_rangeC
    · obtain ⟨rfl, rfl⟩ := y
      refine ⟨Same.refl _, fun P hP => ?_⟩
      rw [List.length_map] at hi2
      unfold idown at hP hi2
      rw [List.length_map, List.length_range] at hi2
      rw [List.getElem?_map, List.getElem?_map, List.getElem?_range hi2] at hP
      cases hP
      show V.int (hi + (i : Int) * (-1)) = V.int (hi - (i : Int))
      congr 1
      omega
theorem evf_lst {tr : TA} {Ps : List PV} [m : MonoA M Ps] (h : EvA M tr σ H Ps) (hz : Ps.length ≤ 100000) : EvF M (tLst tr) σ H Ps := fun H1 e d Q q =>
  h H1 e d _ fun vs H2 e2 d2 k => ⟨Evl.sz_of (by rw [k.len]; exact hz), fun p hp => q p vs _ (e2.free d2 hp) (e2.trans (.new hp)) (d2.new (same_new hp)) upd_same (m.mono (.new hp) k)⟩
theorem evf_nil : EvF M (tLst tNil) σ H [] := evf_lst ea_nil (by decide)
variable {D : Ends} {tz : TS}
theorem q_mut {n : Nat} {Ps : List PV} (h : EvF M te σ H Ps) (d : Dcs M H) (k : ∀ l vs H1, H l = none → l ∉ M → Ch M H H1 → Dcs M H1 → H1 l = some (.lst vs) → All2 Ps vs H1 → tz D (σ.set n (some (.ref l))) H1) : tSeq (tAsg te (gName n)) tz D σ H :=
  h H (.refl H) d _ fun l vs H2 nn e2 d2 g a => k l vs H2 nn (d.ne nn) e2 d2 g a
theorem s_app' {l : Addr} {xs : List V} {n : Nat} {Ps : List PV} [fp : FzP P] [fa : FzA Ps] (hs : σ[n]? = some (some (.ref l))) (hl : H l = some (.lst xs)) (ha : All2 Ps xs H) (hM : l ∉ M) (h : EvP M te σ H P) (d : Dcs M H) (hz : Ps.length < 100000)
    (k : ∀ ys H2, Ch (l :: M) H H2 → Dcs M H2 → H2 l = some (.lst ys) → All2 (Ps ++ [P]) ys H2 → D.nx σ H2) : tDrop (tBM K "list" rAppend (tVar n) (tCons te tNil)) D σ H :=
  s_app hs hl hM h d (by rw [ha.len]; exact hz) fun v H1 e1 d1 p h1 => by
    have up : Ch (l :: M) H1 (upd H1 l (.lst (xs ++ [v]))) := Ch.set h1 rfl List.mem_cons_self
    refine k (xs ++ [v]) _ (e1.more.trans up) (fun a h => ?_) upd_same ?_
    · obtain ⟨x1, y1, z1, hh⟩ := d1 a h
      exact ⟨x1, y1, z1, by rw [upd_ne (fun z => hM (by rw [← z]; exact h))]; exact hh⟩
    · exact All2.app (fa.mono up.fz (fa.mono e1.fz ha)) (.cons (fp.mono up.fz p) .nil)
theorem q_app' {l : Addr} {xs : List V} {n : Nat} {Ps : List PV} [fp : FzP P] [fa : FzA Ps] (hs : σ[n]? = some (some (.ref l))) (hl : H l = some (.lst xs)) (ha : All2 Ps xs H) (hM : l ∉ M) (h : EvP M te σ H P) (d : Dcs M H) (hz : Ps.length < 100000)
    (k : ∀ ys H2, Ch (l :: M) H H2 → Dcs M H2 → H2 l = some (.lst ys) → All2 (Ps ++ [P]) ys H2 → tz D σ H2) : tSeq (tDrop (tBM K "list" rAppend (tVar n) (tCons te tNil))) tz D σ H := s_app' (D := { D with nx := tz D }) hs hl ha hM h d hz k
theorem app_map {xs : List α} {x : α} {vs : List V} (h : All2 (xs.map F ++ [F x]) vs H) : All2 ((xs ++ [x]).map F) vs H := by
  rw [List.map_append]
  exact h
/-- made within, so not there before -/
theorem none_back {L : List Addr} {H0 : Hp} (c : Ch L H0 H) {l : Addr} (n : H l = none) (hL : ∀ a ∈ L, H a ≠ none) : H0 l = none := by
  cases e : H0 l with
  | none => rfl
  | some o =>
    by_cases m : l ∈ L
    · exact absurd n (hL l m)
    · have := c.keep l o m e
      rw [n] at this
      cases this
end
end Mir


/-! instances of own classes -/
namespace Mir
open PySem PySem.Spec L2 RZ
/-- an instance of the class at C whose attributes are so -/
def pObj (C : Addr) (fs : List (Str × PV)) : PV := fun v H => ∃ a dx gs, v = .ref a ∧ H a = some (.ins C dx gs) ∧ (∀ f P, fs.lookup f = some P → ∃ w, gs.lookup f = some w ∧ P w H) ∧ ∀ f, fs.lookup f = none → gs.lookup f = none
class FzF (fs : List (Str × PV)) : Prop where
  fz : ∀ f P, fs.lookup f = some P → FzP P
instance : FzF [] := ⟨fun f P h => by cases h⟩
instance {k : Str} {P : PV} {fs : List (Str × PV)} [p : FzP P] [q : FzF fs] : FzF ((k, P) :: fs) := ⟨fun f R h => by
  rw [List.lookup_cons] at h
  split at h
  · cases h
    exact p
  · exact q.fz f R h⟩
instance {C : Addr} {fs : List (Str × PV)} [q : FzF fs] : FzP (pObj C fs) := ⟨fun c ⟨a, dx, gs, e, h, k, n⟩ => ⟨a, dx, gs, e, c _ _ rfl h, fun f P l => by
  obtain ⟨w, e, p⟩ := k f P l
  exact ⟨w, e, (q.fz f P l).mono c p⟩, n⟩⟩
/-- told of what stands away from an instance that changes -/
class AwP (P : PV) : Prop where
  aw : ∀ {v : V} {H H' : Hp} {a C dx : Addr} {gs : List (Str × V)}, H a = some (.ins C dx gs) → (∀ b o, b ≠ a → H b = some o → H' b = some o) → P v H → P v H'
instance {i : Int} : AwP (pI i) := ⟨fun _ _ h => h⟩
instance {i : Bool} : AwP (pB i) := ⟨fun _ _ h => h⟩
instance : AwP pN := ⟨fun _ _ h => h⟩
instance {i : Str} : AwP (pS i) := ⟨fun _ _ h => h⟩
theorem sqT_aw {K : PySem.W.Frag} {H H' : Hp} {a C dx t : Addr} {gs : List (Str × V)} {vs : List V} (e : H a = some (.ins C dx gs)) (c : ∀ b o, b ≠ a → H b = some o → H' b = some o) (h : SqT K H t vs) : SqT K H' t vs := by
  rcases h with (h | ⟨o, h⟩) | h
  · exact .inl (.inl (c _ _ (ne_of h e (by intro z; cases z)) h))
  · exact .inl (.inr ⟨o, c _ _ (ne_of h e (by intro z; cases z)) h⟩)
  · exact .inr h
class AwA (Ps : List PV) : Prop where
  aw : ∀ {vs : List V} {H H' : Hp} {a C dx : Addr} {gs : List (Str × V)}, H a = some (.ins C dx gs) → (∀ b o, b ≠ a → H b = some o → H' b = some o) → All2 Ps vs H → All2 Ps vs H'
instance : AwA [] := ⟨fun _ _ h => by cases h; exact .nil⟩
instance {P : PV} {Ps : List PV} [p : AwP P] [q : AwA Ps] : AwA (P :: Ps) := ⟨fun e c h => by
  cases h with
  | cons h1 h2 => exact .cons (p.aw e c h1) (q.aw e c h2)⟩
instance {α : Type} {P : α → PV} {xs : List α} [p : ∀ x, AwP (P x)] : AwA (xs.map P) := ⟨fun {vs H H' a C dx gs} e c h => by
  induction xs generalizing vs with
  | nil => cases h; exact .nil
  | cons x xs ih =>
    cases h with
    | cons h1 h2 => exact .cons ((p x).aw e c h1) (ih h2)⟩
instance {K : PySem.W.Frag} {Ps : List PV} [p : AwA Ps] : AwP (pT K Ps) := ⟨fun e c ⟨a, vs, ev, s, k⟩ => ⟨a, vs, ev, sqT_aw e c s, p.aw e c k⟩⟩
instance {K : PySem.W.Frag} {r : List Int} : AwP (pRow K r) := inferInstanceAs (AwP (pT K (r.map pI)))
class AwF (fs : List (Str × PV)) : Prop where
  aw : ∀ f P, fs.lookup f = some P → AwP P
instance : AwF [] := ⟨fun f P h => by cases h⟩
instance {k : Str} {P : PV} {fs : List (Str × PV)} [p : AwP P] [q : AwF fs] : AwF ((k, P) :: fs) := ⟨fun f R h => by
  rw [List.lookup_cons] at h
  split at h
  · cases h
    exact p
  · exact q.aw f R h⟩
/-- an instance that is being made -/
structure Mk1 (H : Hp) (a C dx : Addr) (gs : List (Str × V)) (fs : List (Str × PV)) : Prop where
  at_ : H a = some (.ins C dx gs)
  has : ∀ f P, fs.lookup f = some P → ∃ w, gs.lookup f = some w ∧ P w H
  no : ∀ f, fs.lookup f = none → gs.lookup f = none
  sz : gs.length ≤ fs.length
theorem Mk1.nil {H : Hp} {a C dx : Addr} (h : H a = some (.ins C dx [])) : Mk1 H a C dx [] [] := ⟨h, fun f P e => (by cases e), fun _ _ => rfl, Nat.le_refl _⟩
theorem Mk1.obj {H : Hp} {a C dx : Addr} {gs : List (Str × V)} {fs : List (Str × PV)} (m : Mk1 H a C dx gs fs) : pObj C fs (.ref a) H := ⟨a, dx, gs, rfl, m.at_, m.has, m.no⟩
theorem Mk1.mono {H H' : Hp} {a C dx : Addr} {gs : List (Str × V)} {fs : List (Str × PV)} [q : FzF fs] (c : Ch [] H H') (m : Mk1 H a C dx gs fs) : Mk1 H' a C dx gs fs :=
  ⟨c.fz _ _ rfl m.at_, fun f P l => by
    obtain ⟨w, e, p⟩ := m.has f P l
    exact ⟨w, e, (q.fz f P l).mono c.fz p⟩, m.no, m.sz⟩
theorem putF_len (f : Str) (v : V) : ∀ gs : List (Str × V), (putF f v gs).length ≤ gs.length + 1
  | [] => Nat.le_refl _
  | (k, w) :: gs => by
    show (if k = f then (k, v) :: gs else (k, w) :: putF f v gs).length ≤ _
    split
    · simp
    · have := putF_len f v gs
      simp
      omega
section
variable {K : PySem.W.Frag} {M : List Addr} {σ : St} {H H' : Hp} {ta tb te tc : TE} {tt : TT} {P P' R : PV} {C a dx : Addr} {fs : List (Str × PV)} {gs : List (Str × V)} {f m : Str} {D : Ends} {tz : TS} {E : XK} {sp : Sp}
theorem Mk1.put [q : AwF fs] [p : AwP P] (I : Mk1 H a C dx gs fs) {y : V} (h : P y H) (new : fs.lookup f = none) : Mk1 (upd H a (.ins C dx (putF f y gs))) a C dx (putF f y gs) ((f, P) :: fs) := by
  have c : ∀ b o, b ≠ a → H b = some o → upd H a (.ins C dx (putF f y gs)) b = some o := fun b o n e => by rw [upd_ne n]; exact e
  refine ⟨upd_same, fun g R l => ?_, fun g l => ?_, ?_⟩
  · rw [List.lookup_cons] at l
    split at l
    · rename_i e
      cases l
      refine ⟨y, ?_, p.aw I.at_ c h⟩
      rw [lookup_putF, if_pos (beq_iff_eq.mp e)]
    · rename_i e
      obtain ⟨w, e1, p1⟩ := I.has g R l
      refine ⟨w, ?_, (q.aw g R l).aw I.at_ c p1⟩
      rw [lookup_putF, if_neg (by simpa using e)]
      exact e1
  · rw [List.lookup_cons] at l
    split at l
    · cases l
    · rename_i e
      rw [lookup_putF, if_neg (by simpa using e)]
      exact I.no g l
  · have := putF_len f y gs
    have := I.sz
    simp only [List.length_cons]
    omega
/-- self.f = e, in __init__ -/
theorem s_fld [q : AwF fs] [p : AwP P] [z : FzF fs] (hs : σ[0]? = some (some (.ref a))) (I : Mk1 H a C dx gs fs) (h : EvP [] te σ H P) (cl : Cls K C) (na : NoAttr K C f) (new : fs.lookup f = none) (sz : fs.length < 500)
    (k : ∀ gs' H', (∀ b o, b ≠ a → H b = some o → H' b = some o) → Mk1 H' a C dx gs' ((f, P) :: fs) → D.nx σ H') : sFld K (tVar 0) te f D σ H :=
  h H (.refl H) .nil _ fun y H1 e1 d1 py => ⟨_, hs, a, C, dx, gs, rfl, e1.fz _ _ rfl I.at_, cl, na, (by have := I.sz; omega), k _ _ (fun b o n e => by rw [upd_ne n]; exact e1.same b o e) ((I.mono e1).put py new)⟩
theorem q_fld [q : AwF fs] [p : AwP P] [z : FzF fs] (hs : σ[0]? = some (some (.ref a))) (I : Mk1 H a C dx gs fs) (h : EvP [] te σ H P) (cl : Cls K C) (na : NoAttr K C f) (new : fs.lookup f = none) (sz : fs.length < 500)
    (k : ∀ gs' H', (∀ b o, b ≠ a → H b = some o → H' b = some o) → Mk1 H' a C dx gs' ((f, P) :: fs) → tz D σ H') : tSeq (sFld K (tVar 0) te f) tz D σ H := s_fld (D := { D with nx := tz D }) hs I h cl na new sz k
/-- o.f -/
theorem ev_fld [q : FzF fs] (h : EvP M te σ H (pObj C fs)) (cl : Cls K C) (na : NoAttr K C f) (hf : fs.lookup f = some P) : EvP M (tFld K te f) σ H P := fun H1 e d Q q => h H1 e d _ fun v H2 e2 d2 ⟨a, dx, gs, ev, g, k, n⟩ => by
  obtain ⟨w, e3, p⟩ := k f P hf
  exact ⟨a, C, dx, gs, w, ev, g, cl, na, e3, q w H2 e2 d2 p⟩
theorem ev_self [q : FzF fs] {n : Nat} (hs : σ[n]? = some (some (.ref a))) (I : Mk1 H a C dx gs fs) : EvP M (tVar n) σ H (pObj C fs) := ev_var hs I.obj
/-- not e, by truth -/
theorem ev_notT {b : Bool} (h : EvP M te σ H P) (hk : ∀ v H1, P v H1 → TruV K v H1 b) : EvP M (tNotT K te) σ H (pB (!b)) := fun H1 e d Q q => h H1 e d _ fun v H2 e2 d2 p => ⟨b, hk v H2 p, q _ H2 e2 d2 rfl⟩
theorem ev_and0 (h : EvP M ta σ H (pB false)) : EvP M (tAndV ta tb) σ H (pB false) := fun H1 e d Q q => h H1 e d _ fun v H2 e2 d2 p => ⟨false, p, iteF (q _ H2 e2 d2 rfl)⟩
/-- C(..) -/
theorem ev_make {tr : TA} {Ps : List PV} (h : EvA M tr σ H Ps)
    (hs : ∀ vs H1, Dcs M H1 → All2 Ps vs H1 → ∀ x dx, H1 x = none → H1 dx = none → dx ≠ x → ∀ Q : VK, (∀ H2, Same H1 H2 → R (.ref x) H2 → Q .non H2) → sp (.ref x :: vs) (upd (upd H1 dx (.own x)) x (.ins C dx [])) Q E) :
    EvP M (tMake C sp [] E tr) σ H R := fun H1 e d Q q => h H1 e d _ fun vs H2 e2 d2 k x dx hx hdx ne => by
  rw [List.append_nil]
  exact hs vs H2 d2 k x dx hx hdx ne _ fun H3 s r => ⟨rfl, q _ H3 (e2.trans (.of s)) (d2.new s) r⟩
theorem same_made {H : Hp} {x dx C : Addr} (hx : H x = none) (hdx : H dx = none) : Same H (upd (upd H dx (.own x)) x (.ins C dx [])) := fun b o e => by
  rw [upd_ne (ne_of_none e hx), upd_ne (ne_of_none e hdx)]
  exact e
theorem ev_prop (h : EvP M te σ H (pObj C fs)) (hs : ∀ vs H1, Dcs M H1 → All2 [pObj C fs] vs H1 → ∀ Q : VK, (∀ v H2, Ch M H1 H2 → Dcs M H2 → R v H2 → Q v H2) → sp vs H1 Q E) : EvP M (tProp C sp [] E te) σ H R := fun H1 e d Q q =>
  h H1 e d _ fun v H2 e2 d2 p => by
    obtain ⟨a, dx, gs, rfl, g, k, n⟩ := id p
    exact ⟨a, dx, gs, rfl, g, hs _ H2 d2 (.cons p .nil) Q fun w H4 e4 d4 r => q w H4 (e2.trans e4) d4 r⟩
theorem ev_callOwn {i : Nat} {tr : TA} {Ps : List PV} [z : FzF fs] {v : V} (hv : σ[i]? = some (some v)) (h : pObj C fs v H) (ha : EvA M tr σ H Ps)
    (hs : ∀ vs H1, Dcs M H1 → All2 (pObj C fs :: Ps) vs H1 → ∀ Q : VK, (∀ v H2, Ch M H1 H2 → Dcs M H2 → R v H2 → Q v H2) → sp vs H1 Q E) : EvP M (tCallOwn C i sp E tr) σ H R := fun H1 e d Q q => by
  have h1 := Mono.mono e h
  obtain ⟨a, dx, gs, rfl, g, k, n⟩ := id h1
  refine ⟨a, dx, gs, hv, g, ha H1 e d _ fun vs H2 e2 d2 kk => ?_⟩
  have h2 := Mono.mono e2 h1
  obtain ⟨a2, dx2, gs2, ea, g2, k2, n2⟩ := id h2
  cases ea
  exact ⟨⟨dx2, gs2, g2⟩, hs _ H2 d2 (.cons h2 kk) Q fun w H4 e4 d4 r => q w H4 (e2.trans e4) d4 r⟩
theorem ev_ixOwn [z : FzF fs] (h : EvP M ta σ H (pObj C fs)) (hb : EvP M tb σ H P)
    (hs : ∀ vs H1, Dcs M H1 → All2 [pObj C fs, P] vs H1 → ∀ Q : VK, (∀ v H2, Ch M H1 H2 → Dcs M H2 → R v H2 → Q v H2) → sp vs H1 Q E) : EvP M (tOp (fun x y H Q => ∃ a dx fs, x = .ref a ∧ H a = some (.ins C dx fs) ∧ sp [.ref a, y] H Q E) ta tb) σ H R :=
  ev_op h hb fun x y H1 d p p' Q q => by
    obtain ⟨a, dx, gs, rfl, g, k, n⟩ := id p
    exact ⟨a, dx, gs, rfl, g, hs _ H1 d (.cons p (.cons p' .nil)) Q q⟩
/-- what type a value has -/
class Tyd (K : PySem.W.Frag) (P : PV) (t : outParam Value) : Prop where
  ty : ∀ {v : V} {H : Hp}, P v H → TyX K H v t
instance {i : Int} : Tyd K (pI i) (.type "int") := ⟨fun h => by cases h; exact .base (.int i)⟩
instance {i : Bool} : Tyd K (pB i) (.type "bool") := ⟨fun h => by cases h; exact .base (.bl i)⟩
instance {i : Str} : Tyd K (pS i) (.type "str") := ⟨fun h => by cases h; exact .base (.str i)⟩
instance : Tyd K pN (.type "NoneType") := ⟨fun h => by cases h; exact .base .non⟩
instance {Ps : List PV} : Tyd K (pT K Ps) (.type "tuple") := ⟨fun ⟨a, vs, e, s, _⟩ => by
  subst e
  rcases s with (h | ⟨o, h⟩) | ⟨o, its, n, hk, hc, _⟩
  · exact .base (.tup h)
  · exact .fTuple h
  · exact .kTuple hk hc⟩
instance {r : List Int} : Tyd K (pRow K r) (.type "tuple") := inferInstanceAs (Tyd K (pT K (r.map pI)) _)
/-- the class's own facts for isinstance -/
structure IsC (K : PySem.W.Frag) (C : Addr) : Prop where
  cl : Cls K C
  ha : PySem.W.findIn K (.ref C) "__class__" = some (some (.builtin "object.__class__"))
  hn : PySem.W.specialIn K (.builtin "object.__class__") "__get__" = some (some (.builtin "getset_descriptor.__get__"))
  htk : PySem.W.takesIn K (.builtin "object.__class__") = some true
  hm : PySem.W.mroIn K C (.type "object") = some true
theorem IsC.ty (c : IsC K C) {v : V} (h : pObj C fs v H) : TyX K H v (.ref C) := by
  obtain ⟨a, dx, gs, rfl, g, _⟩ := h
  exact .base (.ins g c.cl c.ha c.hn c.htk c.hm)
theorem ev_isi {tr : TA} {t u : Value} {c : V} {b : Bool} (h : EvA M tr σ H [P, pV c]) (ty : ∀ v H1, P v H1 → TyX K H1 v t) (cv : ClsV c u) (ek : PySem.W.kitOne K t u = some b) : EvP M (tCB (rIsi K) tr) σ H (pB b) := ev_cb h fun vs H1 d k Q q => by
  obtain ⟨v, w, rfl, p, hw⟩ := all2 k
  exact ⟨v, c, t, u, b, (by rw [show w = c from hw]), cv, ty v H1 p, ek, q _ H1 (.refl H1) d rfl⟩
theorem kit_self {K : PySem.W.Frag} {t : Value} : PySem.W.kitOne K t t = some true := by
  unfold PySem.W.kitOne
  rw [if_pos (beq_self_eq_true t)]
theorem ev_ty {c : V} : EvP M (tC c) σ H (pV c) := ev_c fun _ => rfl
/-- x == y, x of the class -/
theorem ev_eqOwn {t : Value} [z : FzF fs] (h : EvP M ta σ H (pObj C fs)) (hb : EvP M tb σ H P) (ty : ∀ v H1, P v H1 → TyX K H1 v t) (nf : PySem.W.notFirst K C t = true)
    (hs : ∀ vs H1, Dcs M H1 → All2 [pObj C fs, P] vs H1 → ∀ Q : VK, (∀ v H2, Ch M H1 H2 → Dcs M H2 → R v H2 → Q v H2) → sp vs H1 Q E) :
    EvP M (tOp (fun x y H Q => ∃ a dx fs t, x = .ref a ∧ H a = some (.ins C dx fs) ∧ TyX K H y t ∧ PySem.W.notFirst K C t = true ∧ sp [.ref a, y] H Q E) ta tb) σ H R :=
  ev_op h hb fun x y H1 d p p' Q q => by
    obtain ⟨a, dx, gs, rfl, g, k, n⟩ := id p
    exact ⟨a, dx, gs, t, rfl, g, ty y H1 p', nf, hs _ H1 d (.cons p (.cons p' .nil)) Q q⟩
theorem ev_neOwn {t : Value} {b : Bool} [z : FzF fs] (h : EvP M ta σ H (pObj C fs)) (hb : EvP M tb σ H P) (ty : ∀ v H1, P v H1 → TyX K H1 v t) (nf : PySem.W.notFirst K C t = true)
    (hs : ∀ vs H1, Dcs M H1 → All2 [pObj C fs, P] vs H1 → ∀ Q : VK, (∀ v H2, Ch M H1 H2 → Dcs M H2 → pB b v H2 → Q v H2) → sp vs H1 Q E) :
    EvP M (tOp (fun x y H Q => ∃ a dx fs t, x = .ref a ∧ H a = some (.ins C dx fs) ∧ TyX K H y t ∧ PySem.W.notFirst K C t = true ∧ sp [.ref a, y] H (fun v H' => ∃ r, v = .bl r ∧ Q (.bl (!r)) H') E) ta tb) σ H (pB (!b)) :=
  ev_op h hb fun x y H1 d p p' Q q => by
    obtain ⟨a, dx, gs, rfl, g, k, n⟩ := id p
    exact ⟨a, dx, gs, t, rfl, g, ty y H1 p', nf, hs _ H1 d (.cons p (.cons p' .nil)) _ fun v H2 e2 d2 r => ⟨b, r, q _ H2 e2 d2 rfl⟩⟩
theorem ev_strOwn {tr : TA} {z : Str} (h : EvA M tr σ H [pObj C fs]) (hs : ∀ vs H1, Dcs M H1 → All2 [pObj C fs] vs H1 → ∀ Q : VK, (∀ v H2, Ch M H1 H2 → Dcs M H2 → pS z v H2 → Q v H2) → sp vs H1 Q E) :
    EvP M (tCB (fun xs H Q => ∃ a dx fs, xs = [.ref a] ∧ H a = some (.ins C dx fs) ∧ sp [.ref a] H (fun v H' => (∃ z, v = .str z) ∧ Q v H') E) tr) σ H (pS z) := ev_cb h fun vs H1 d k Q q => by
  obtain ⟨v, rfl, p⟩ := all1 k
  obtain ⟨a, dx, gs, rfl, g, _⟩ := id p
  exact ⟨a, dx, gs, rfl, g, hs _ H1 d (.cons p .nil) _ fun w H2 e2 d2 r => ⟨⟨z, r⟩, q w H2 e2 d2 r⟩⟩
theorem ev_cmeth {tr : TA} {Ps : List PV} (he : EvP M te σ H (pV (.ref C))) (ha : EvA M tr σ H Ps)
    (hs : ∀ vs H1, Dcs M H1 → All2 (pV (.ref C) :: Ps) vs H1 → ∀ Q : VK, (∀ v H2, Ch M H1 H2 → Dcs M H2 → R v H2 → Q v H2) → sp vs H1 Q E) : EvP M (ClX.tCMeth C sp E te tr) σ H R := fun H1 e d Q q =>
  he H1 e d _ fun v H2 e2 d2 p => ⟨p, ha H2 (e.trans e2) d2 _ fun vs H3 e3 d3 k => hs _ H3 d3 (.cons rfl k) Q fun w H4 e4 d4 r => q w H4 ((e2.trans e3).trans e4) d4 r⟩

/-! the rules whose readings name the written part, told which it is -/
section
variable {X : Cx} {CX : CXT} {k : Nat} {C f : Addr} {fd : FuncData} {ps : List Str} {sp : Sp} {E : XK}
theorem ix_tupK (K : PySem.W.Frag) (h : X.K = K := by rfl) : IxR X (rIxT K) := by subst h; exact ix_tup
theorem ix_listK (K : PySem.W.Frag) (h : X.K = K := by rfl) : IxR X (rIxL K) := by subst h; exact ix_list
theorem sl_listK (K : PySem.W.Frag) (h : X.K = K := by rfl) : SlR X (rSlL K) := by subst h; exact sl_list
theorem op_catAK (K : PySem.W.Frag) (h : X.K = K := by rfl) : OpR X (binaryOp .Add) (rCatA K) := by subst h; exact op_catA
theorem op_in_seqK (K : PySem.W.Frag) (h : X.K = K := by rfl) : OpR X (compareOp .In) (rIn K false) := by subst h; exact op_in_seq
theorem op_eqDK (K : PySem.W.Frag) (hu : X.A.units + 64 < cLine) (h : X.K = K := by rfl) : OpR X (compareOp .Eq) (rEqD K) := by subst h; exact op_eqD hu
theorem op_neDK (K : PySem.W.Frag) (hu : X.A.units + 64 < cLine) (h : X.K = K := by rfl) : OpR X (compareOp .NotEq) (rNeD K) := by subst h; exact op_neD hu
theorem call_len_seqK (K : PySem.W.Frag) (h : X.K = K := by rfl) : CallR X (.builtin "len") (fun xs H Q => ∃ p ys, xs = [.ref p] ∧ (SqL K H p ys ∨ SqT K H p ys) ∧ Q (.int ys.length) H) := by subst h; exact call_len_seq
theorem call_list_ofK (K : PySem.W.Frag) (h : X.K = K := by rfl) : CallR X (.type "list") (fun xs H Q => ∃ p ys, xs = [.ref p] ∧ (SqL K H p ys ∨ SqT K H p ys) ∧ ∀ l, H l = none → Q (.ref l) (upd H l (.lst ys))) := by subst h; exact call_list_of
theorem call_tuple_ofK (K : PySem.W.Frag) (h : X.K = K := by rfl) : CallR X (.type "tuple") (fun xs H Q => ∃ p ys, xs = [.ref p] ∧ ((SqL K H p ys ∧ ∀ l, H l = none → Q (.ref l) (upd H l (.tup ys))) ∨ (SqT K H p ys ∧ Q (.ref p) H))) := by subst h; exact call_tuple_of
theorem cr_allK (K : PySem.W.Frag) (hc : X.calm = true) (h : X.K = K := by rfl) : CallR X (.builtin "all") (rAll K) := by subst h; exact cr_all hc
theorem call_isiK' (K : PySem.W.Frag) (h : X.K = K := by rfl) : CallR X (.builtin "isinstance") (rIsi K) := by subst h; exact call_isi
theorem pi_listK (K : PySem.W.Frag) {tg l : Expr} {tl : TE} (hl : PE X l tl) (h : X.K = K := by rfl) : PI X tg l (iList K tl) := by subst h; exact pi_list hl
theorem pi_tupK (K : PySem.W.Frag) {tg l : Expr} {tl : TE} (hl : PE X l tl) (h : X.K = K := by rfl) : PI X tg l (iTup K tl) := by subst h; exact pi_tup hl
theorem pe_fldK (K : PySem.W.Frag) {e : Expr} {ta : TE} {g : Str} {pos : Pos} (he : PE X e ta) (hb : attributeBase e g X.env (eval e X.env) = eval e X.env) (h : X.K = K := by rfl) : PE X (.Attribute e g pos) (tFld K ta g) := by subst h; exact pe_fld he hb
theorem pt_truthK (K : PySem.W.Frag) {a : Expr} {ta : TE} (ha : PE X a ta) (he : ∀ whole, isTrue a X.env whole = (do let v ← whole; standAt a.pos; holding [v] (truthy v))) (h : X.K = K := by rfl) :
    PT X a (fun σ H Q => ta σ H fun x H' => ∃ k, TruV K x H' k ∧ Q k H') := by subst h; exact pt_truth ha he
theorem pe_notTK (K : PySem.W.Frag) {a : Expr} {ta : TE} {pos : Pos} (ha : PE X a ta) (h : X.K = K := by rfl) : PE X (.UnaryOp .Not a pos) (tNotT K ta) := by subst h; exact pe_notT ha
theorem pe_revTK (K : PySem.W.Frag) {e : Expr} {te : TE} {k : Nat} {p1 p2 p3 pos : Pos} (he : PE X e te) (h : X.K = K := by rfl) :
    PE X (.Subscript e (.Slice none none (some (.UnaryOp .USub (.Constant (.int 1) k p1) p2)) p3) pos) (tRevT K te) := by subst h; exact pe_revT he
theorem op_eqOwnK (K : PySem.W.Frag) (h : X.K = K) (m : Spec1 K C f "__eq__") (F : FnOk X.prog X.w K X.mg X.base CX k f fd ps sp) (hr : Room k X.A) (hb : Binds K fd ps []) (hx : Passes CX X E) :
    OpR X (compareOp .Eq) (fun x y H Q => ∃ a dx fs t, x = .ref a ∧ H a = some (.ins C dx fs) ∧ TyX K H y t ∧ PySem.W.notFirst K C t = true ∧ sp [.ref a, y] H Q E) := by subst h; exact op_eqOwn m F hr hb hx
theorem op_neOwnK (K : PySem.W.Frag) (h : X.K = K) (m : Spec1 K C f "__eq__") (hn : PySem.W.findIn K (.ref C) "__ne__" = some (some (.builtin "object.__ne__"))) (hob : PySem.W.subIn K (.ref C) (.type "object") = some true)
    (F : FnOk X.prog X.w K X.mg X.base CX k f fd ps sp) (hr : Room (k + 1) X.A) (hb : Binds K fd ps []) (hx : Passes CX X E) :
    OpR X (compareOp .NotEq) (fun x y H Q => ∃ a dx fs t, x = .ref a ∧ H a = some (.ins C dx fs) ∧ TyX K H y t ∧ PySem.W.notFirst K C t = true ∧ sp [.ref a, y] H (fun v H' => ∃ r, v = .bl r ∧ Q (.bl (!r)) H') E) := by subst h; exact op_neOwn m hn hob F hr hb hx
end

theorem _root_.L2.FnOk.raw0 {P : Program} {w : World} {K : PySem.W.Frag} {mg : Str → Option Value} {base : Heap} {CX : CXT} {k : Nat} {f : Addr} {fd : FuncData} {ps : List Str} {sp : Sp} (F : FnOk P w K mg base CX k f fd ps sp) (hb : Binds K fd ps []) : FnR P w K mg base CX k f sp := by
  have h := F.raw (dvs := []) hb .nil
  intro A outer s H us vs Q E hr e0 r hs
  exact h A outer s H us vs Q E hr e0 r (by show sp (vs ++ []) H Q E; rw [List.append_nil]; exact hs)
end
end Mir


/-! a class held by a local name, called -/
namespace L2
open PySem PySem.Spec PyProof.Rows
section
variable {X : Cx} {CX : CXT} {k : Nat} {C f : Addr} {fd : FuncData} {ps : List Str} {sp : Sp} {E : XK} {e : Expr} {es : List Expr} {t : TA} {p pos : Pos} {x : Str}
def tMakeV (C : Addr) (i : Nat) (sp : Sp) (E : XK) (t : TA) : TE := fun σ H Q => σ[i]? = some (some (.ref C)) ∧ tMake C sp [] E t σ H Q
theorem pe_makeV {i : Nat} (M : Mk X.K C f) (F : FnOk X.prog X.w X.K X.mg X.base CX k f fd ps sp) (hr : Room (k + 1) X.A) (hb : Binds X.K fd ps []) (hx : Passes CX X E) (ha : PA X (e :: es) t)
    (hN : X.N[i]? = some x := by rfl) (hv : Vis X.env.scope x := by first | exact Or.inl rfl | exact Or.inr (Or.inl rfl) | exact Or.inr (Or.inr rfl))
    (hd : (x == ("__debug__" : Str)) = false := by decide) (hcd : (x == ("__classdict__" : Str)) = false := by decide)
    (he : starEach (e :: es) X.env = (false, eval e X.env) :: starEach es X.env := by rfl) (hpl : (backTo pos (starEach es X.env)).any (·.1) = false := by rfl) :
    PE X (.Call (.Name x p) (e :: es) [] pos) (tMakeV C i sp E t) := by
  refine ⟨fun pins s σ H Q I h => ?_⟩
  obtain ⟨hs, q⟩ := h
  refine wpAny_Call_Name_kw (thn ((pe_var (pos := p) (i := i) hN hv hd hcd).run pins s σ H
    (fun v H1 => v = .ref C ∧ H1 = H) I ⟨.ref C, hs, rfl, rfl⟩) fun u s1 ⟨v, H1, I1, r1, ev, eH⟩ => ?_)
  subst ev
  subst eH
  obtain rfl : u = Value.ref C := r1
  refine PySem.W.callWith_K (h₀ := X.base) I1.ok.mod.kin M.kp (thn (ha.run pos pins s1 σ H1 _ I1 q) fun us s2 ⟨vs, H2, I2, r, q⟩ => ⟨I2.kIn, ?_⟩) he hpl
  exact run_make M F hr hb .nil hx I2 r q
end
end L2
namespace Mir
open PySem PySem.Spec L2 RZ
section
variable {K : PySem.W.Frag} {M : List Addr} {σ : St} {H : Hp} {R : PV} {C : Addr} {E : XK} {sp : Sp}
theorem ev_makeV {i : Nat} {tr : TA} {v : V} (hs : σ[i]? = some (some v)) (hv : pV (.ref C) v H) (h : EvP M (tMake C sp [] E tr) σ H R) : EvP M (tMakeV C i sp E tr) σ H R := fun H1 e d Q q =>
  ⟨by rw [hs, show v = _ from hv], h H1 e d Q q⟩
end
end Mir


/-! what is drawn: some value with a property -/
namespace Mir
open PySem PySem.Spec L2 RZ
/-- the dice's address -/
def pD (a : Addr) : PV := fun v _ => v = .ref a
instance {a : Addr} : FzP (pD a) := ⟨fun _ h => h⟩
section
variable {K : PySem.W.Frag} {M : List Addr} {σ : St} {H H' : Hp} {ta tb te : TE} {tt : TT} {P P' : PV} {α β γ : Type} {φ : α → Prop} {F R : α → PV}
theorem ev_cst {v : V} [m : Mono M P] (h : P v H) : EvP M (tC v) σ H P := fun H1 e d Q q => q v H1 (.refl H1) d (m.mono e h)
theorem fo_op {r : R2} (ha : EvP M ta σ H (pX φ F)) (k : ∀ m v H2, Ch M H H2 → Dcs M H2 → φ m → F m v H2 → EvP M (tOp r (tC v) tb) σ H2 (R m)) : EvP M (tOp r ta tb) σ H (pX φ R) := fun H1 e d Q q =>
  ha H1 e d _ fun v H2 e2 d2 ⟨m, hm, p⟩ => k m v H2 (e.trans e2) d2 hm p H2 (.refl H2) d2 Q fun w H3 e3 d3 r => q w H3 (e2.trans e3) d3 ⟨m, hm, r⟩
theorem fo_op2 {r : R2} [mo : Mono M P] (ha : EvP M ta σ H P) (hb : EvP M tb σ H (pX φ F)) (k : ∀ m x v H2, Ch M H H2 → Dcs M H2 → φ m → P x H2 → F m v H2 → EvP M (tOp r (tC x) (tC v)) σ H2 (R m)) : EvP M (tOp r ta tb) σ H (pX φ R) := fun H1 e d Q q =>
  ha H1 e d _ fun x H2 e2 d2 p => hb H2 (e.trans e2) d2 _ fun v H3 e3 d3 ⟨m, hm, p'⟩ => k m x v H3 ((e.trans e2).trans e3) d3 hm (mo.mono e3 p) p' H3 (.refl H3) d3 Q fun w H4 e4 d4 r => q w H4 ((e2.trans e3).trans e4) d4 ⟨m, hm, r⟩
/-- a tuple one of whose items is drawn -/
theorem fo_tup1 (h : EvP M te σ H (pT K [pX φ F])) : EvP M te σ H (pX φ fun m => pT K [F m]) := h.to fun v H1 ⟨a, vs, e, s, k⟩ => by
  obtain ⟨w, rfl, m, hm, p⟩ := all1 k
  exact ⟨m, hm, a, _, e, s, .cons p .nil⟩
/-- a list of drawn ones -/
theorem fo_lst {ψ : β → Prop} {G : β → PV} : ∀ {xs : List γ} {vs : List V} {H : Hp}, All2 (xs.map fun _ => pX ψ G) vs H → ∃ ys : List β, ys.length = xs.length ∧ (∀ y ∈ ys, ψ y) ∧ All2 (ys.map G) vs H
  | [], _, _, h => by
    cases h
    exact ⟨[], rfl, fun _ z => (by cases z), .nil⟩
  | x :: xs, _, _, h => by
    cases h with
    | cons h1 h2 =>
      obtain ⟨y, hy, p⟩ := h1
      obtain ⟨ys, e, ha, k⟩ := fo_lst (xs := xs) h2
      refine ⟨y :: ys, by rw [List.length_cons, List.length_cons, e], fun z hz => ?_, .cons p k⟩
      rcases List.mem_cons.mp hz with rfl | hz
      · exact hy
      · exact ha z hz
theorem ev_drawn {ψ : β → Prop} {G : β → PV} {xs : List γ} (h : EvP M te σ H (pL K M (xs.map fun _ => pX ψ G))) : EvP M te σ H (pX (fun ys : List β => ys.length = xs.length ∧ ∀ y ∈ ys, ψ y) fun ys => pL K M (ys.map G)) := h.to fun v H1 ⟨a, vs, e, n, s, k⟩ => by
  obtain ⟨ys, el, ha, kk⟩ := fo_lst k
  exact ⟨ys, ⟨el, ha⟩, a, vs, e, n, s, kk⟩
def EvBX (M : List Addr) (tt : TT) (σ : St) (H : Hp) (φ : Bool → Prop) : Prop := ∀ H1, Ch M H H1 → Dcs M H1 → ∀ Q : Bool → Hp → Prop, (∀ b H2, Ch M H1 H2 → Dcs M H2 → φ b → Q b H2) → tt σ H1 Q
theorem ebx_test {B : α → Bool} (h : EvP M te σ H (pX φ fun m => pB (B m))) : EvBX M (tTest te) σ H (fun b => ∃ m, φ m ∧ b = B m) := fun H1 e d Q q => h H1 e d _ fun v H2 e2 d2 ⟨m, hm, p⟩ => ⟨B m, p, q _ H2 e2 d2 ⟨m, hm, rfl⟩⟩
variable {D : Ends} {tu tw tz : TS} {ψ : Bool → Prop}
theorem s_ifX (h : EvBX M tt σ H ψ) (d : Dcs M H) (h1 : ψ true → ∀ H1, Ch M H H1 → Dcs M H1 → tu D σ H1) (h2 : ψ false → ∀ H1, Ch M H H1 → Dcs M H1 → tw D σ H1) : tIfS tt tu tw D σ H := h H (.refl H) d _ fun b H1 e1 d1 p => by
  cases b with
  | true => exact iteT (h1 p H1 e1 d1)
  | false => exact iteF (h2 p H1 e1 d1)
theorem q_ifX (h : EvBX M tt σ H ψ) (d : Dcs M H) (h1 : ψ true → ∀ H1, Ch M H H1 → Dcs M H1 → tu { D with nx := tz D } σ H1) (h2 : ψ false → ∀ H1, Ch M H H1 → Dcs M H1 → tw { D with nx := tz D } σ H1) : tSeq (tIfS tt tu tw) tz D σ H := s_ifX (D := { D with nx := tz D }) h d h1 h2
end
/-! the dice of the laws -/
theorem roll_ch {a : Addr} {H : Hp} {xs : List V} (h : H a = some (.lst xs)) (x y z : Int) : Ch [a] H (upd H a (.lst [.int x, .int y, .int z])) ∧ Dc a (upd H a (.lst [.int x, .int y, .int z])) :=
  ⟨Ch.set h rfl (List.mem_singleton.mpr rfl), x, y, z, upd_same⟩
theorem dcs1 {a : Addr} {H : Hp} (h : Dc a H) : Dcs [a] H := fun b hb => by rw [List.mem_singleton.mp hb]; exact h
theorem Dcs.one {a : Addr} {H : Hp} (h : Dcs [a] H) : Dc a H := h a (List.mem_singleton.mpr rfl)
end Mir


/-! mir8: data compared of any shape; (number, row) < (number, row) -/
namespace Mir
open PySem PySem.Spec L2 RZ
section
class Lay (n : Nat) (d : PyData) : Prop where
  lay : d.depth ≤ n
class LayA (n : Nat) (ds : List PyData) : Prop where
  lay : PyData.depthAll ds ≤ n
instance {n : Nat} {i : Int} : Lay n (.int i) := ⟨Nat.zero_le _⟩
instance {n : Nat} {b : Bool} : Lay n (.bool b) := ⟨Nat.zero_le _⟩
instance {n : Nat} {z : Str} : Lay n (.str z) := ⟨Nat.zero_le _⟩
instance {n : Nat} : Lay n .none := ⟨Nat.zero_le _⟩
instance {n : Nat} : LayA n [] := ⟨Nat.zero_le _⟩
instance {d : PyData} {ds : List PyData} {n : Nat} [p : Lay n d] [q : LayA n ds] : LayA n (d :: ds) := ⟨by
  show max d.depth (PyData.depthAll ds) ≤ _
  have := p.lay
  have := q.lay
  omega⟩
theorem layMap {α : Type} {f : α → PyData} {n : Nat} (p : ∀ x, Lay n (f x)) : ∀ xs : List α, PyData.depthAll (xs.map f) ≤ n
  | [] => Nat.zero_le _
  | x :: xs => by
    have ih := layMap p xs
    show max (f x).depth (PyData.depthAll (xs.map f)) ≤ _
    have := (p x).lay
    omega
instance {α : Type} {f : α → PyData} {n : Nat} [p : ∀ x, Lay n (f x)] {xs : List α} : LayA n (xs.map f) := ⟨layMap p xs⟩
instance {ds : List PyData} {n : Nat} [p : LayA n ds] : Lay (n + 1) (.tuple ds) := ⟨Nat.succ_le_succ p.lay⟩
instance {ds : List PyData} {n : Nat} [p : LayA n ds] : Lay (n + 1) (.list ds) := ⟨Nat.succ_le_succ p.lay⟩
class Alk (d e : PyData) : Prop where
  ok : PySem.W.alike d e = true
class AlkA (ds es : List PyData) : Prop where
  ok : PySem.W.alikeAll ds es = true
instance {i j : Int} : Alk (.int i) (.int j) := ⟨rfl⟩
instance {i j : Bool} : Alk (.bool i) (.bool j) := ⟨rfl⟩
instance {i j : Str} : Alk (.str i) (.str j) := ⟨rfl⟩
instance : Alk .none .none := ⟨rfl⟩
instance {es : List PyData} : AlkA [] es := ⟨by cases es <;> rfl⟩
instance {es : List PyData} : AlkA es [] := ⟨by cases es <;> rfl⟩
instance {d e : PyData} {ds es : List PyData} [p : Alk d e] [q : AlkA ds es] : AlkA (d :: ds) (e :: es) := ⟨by
  show (PySem.W.alike d e && PySem.W.alikeAll ds es) = true
  rw [p.ok, q.ok]
  rfl⟩
theorem alkMap {α β : Type} {f : α → PyData} {g : β → PyData} (p : ∀ x y, Alk (f x) (g y)) : ∀ (xs : List α) (ys : List β), PySem.W.alikeAll (xs.map f) (ys.map g) = true
  | [], ys => by cases ys <;> rfl
  | _ :: _, [] => rfl
  | x :: xs, y :: ys => by
    show (PySem.W.alike (f x) (g y) && PySem.W.alikeAll (xs.map f) (ys.map g)) = true
    rw [(p x y).ok, alkMap p xs ys]
    rfl
instance {α β : Type} {f : α → PyData} {g : β → PyData} [p : ∀ x y, Alk (f x) (g y)] {xs : List α} {ys : List β} : AlkA (xs.map f) (ys.map g) := ⟨alkMap p xs ys⟩
instance {ds es : List PyData} [p : AlkA ds es] : Alk (.tuple ds) (.tuple es) := ⟨p.ok⟩
instance {ds es : List PyData} [p : AlkA ds es] : Alk (.list ds) (.list es) := ⟨p.ok⟩
class Eqd (d e : PyData) (b : outParam Bool) : Prop where
  eq : PyData.eqv d e = b
class EqdA (ds es : List PyData) (b : outParam Bool) : Prop where
  eq : PyData.eqvAll ds es = b
instance {i j : Int} : Eqd (.int i) (.int j) (decide (i = j)) := ⟨by
  show (i == j) = _
  by_cases h : i = j <;> simp [h]⟩
instance {i j : Str} : Eqd (.str i) (.str j) (decide (i = j)) := ⟨by
  show (i == j) = _
  by_cases h : i = j <;> simp [h]⟩
instance {i j : Bool} : Eqd (.bool i) (.bool j) (decide (i = j)) := ⟨by cases i <;> cases j <;> rfl⟩
instance : EqdA [] [] true := ⟨rfl⟩
instance {d e : PyData} {ds es : List PyData} {b c : Bool} [p : Eqd d e b] [q : EqdA ds es c] : EqdA (d :: ds) (e :: es) (b && c) := ⟨by
  show (PyData.eqv d e && PyData.eqvAll ds es) = _
  rw [p.eq, q.eq]⟩
theorem eqMap {α : Type} [DecidableEq α] {f : α → PyData} (p : ∀ x y, Eqd (f x) (f y) (decide (x = y))) : ∀ xs ys : List α, PyData.eqvAll (xs.map f) (ys.map f) = decide (xs = ys)
  | [], [] => rfl
  | [], _ :: _ => rfl
  | _ :: _, [] => rfl
  | x :: xs, y :: ys => by
    show (PyData.eqv (f x) (f y) && PyData.eqvAll (xs.map f) (ys.map f)) = _
    rw [(p x y).eq, eqMap p xs ys]
    by_cases h : x = y
    · by_cases k : xs = ys
      · simp [h, k]
      · simp [h, k]
    · simp [h]
instance {α : Type} [DecidableEq α] {f : α → PyData} [p : ∀ x y, Eqd (f x) (f y) (decide (x = y))] {xs ys : List α} : EqdA (xs.map f) (ys.map f) (decide (xs = ys)) := ⟨eqMap p xs ys⟩
instance {α : Type} {f : α → PyData} {xs : List α} : EqdA (xs.map f) [] xs.isEmpty := ⟨by cases xs <;> rfl⟩
instance {ds es : List PyData} {b : Bool} [p : EqdA ds es b] : Eqd (.tuple ds) (.tuple es) b := ⟨p.eq⟩
instance {ds es : List PyData} {b : Bool} [p : EqdA ds es b] : Eqd (.list ds) (.list es) b := ⟨p.eq⟩
variable {K : PySem.W.Frag} {M : List Addr} {σ : St} {H : Hp} {ta tb : TE} {P P' : PV}
def isSq : PyData → Bool
  | .list _ => true
  | .tuple _ => true
  | _ => false
class Sqd (d : PyData) : Prop where
  ok : isSq d = true
instance {ds : List PyData} : Sqd (.list ds) := ⟨rfl⟩
instance {ds : List PyData} : Sqd (.tuple ds) := ⟨rfl⟩
def rEqA (K : PySem.W.Frag) : R2 := fun x y H Q => ∃ d e, Dp K H x d ∧ Dp K H y e ∧ PySem.W.alike d e = true ∧ isSq d = true ∧ d.depth ≤ 64 ∧ Q (.bl (PyData.eqv d e)) H
def rNeA (K : PySem.W.Frag) : R2 := fun x y H Q => ∃ d e, Dp K H x d ∧ Dp K H y e ∧ PySem.W.alike d e = true ∧ isSq d = true ∧ d.depth ≤ 64 ∧ Q (.bl (!PyData.eqv d e)) H
section
open PySem.SeqAt PySem.W PyProof.Rows
variable {A : Around} {s : Shared}
theorem pairs_at {xs ys : List PyData} {us ws : Array Value} {p q : List Addr} (r : ReadsAll s.heap us.toList xs p) (t : ReadsAll s.heap ws.toList ys q) (al : alikeAll xs ys = true) (room : A.in1.units + min (PyData.depthAll xs) (PyData.depthAll ys) < cLine) (j : Nat) (a : j < us.size) (b : j < ws.size) : EqAt A.in1 s us[j] ws[j] (pairEq xs ys j) := by
  have z := eqAt_alikeAll xs ys A.in1 s _ _ p q r t al room j (by rw [Array.length_toList]; exact a) (by rw [Array.length_toList]; exact b)
  rwa [Array.getElem_toList, Array.getElem_toList] at z
theorem size_of {xs : List PyData} {us : Array Value} {p : List Addr} (r : ReadsAll s.heap us.toList xs p) : us.size = xs.length := by
  rw [← ReadsAll.length _ _ _ r, Array.length_toList]
theorem rc_alike {d e : PyData} {a b : Value} {p q : List Addr} (r : Reads s.heap a d p) (t : Reads s.heap b e q) (al : alike d e = true) (sq : isSq d = true) (room : A.units + min d.depth e.depth < cLine) : RcAt A s a b (PyData.eqv d e) ∧ RcNeAt A s a b (!PyData.eqv d e) := by
  match d, e, r, t with
  | .list xs, .list ys, .list g c d0 k, .list g' c' d0' k' =>
    have k0 := pairs_at k k' (by unfold alike at al; exact al) (room_in room)
    have n := size_of k
    have n' := size_of k'
    rw [show PyData.eqv (.list xs) (.list ys) = PyData.eqvAll xs ys from rfl]
    rcases Nat.decEq xs.length ys.length with ne | eq
    · rw [eqvAll_other_length ne]
      have z := bne_iff_ne.mpr (show _ ≠ _ from fun h => ne (n ▸ n' ▸ h))
      exact ⟨.lists_lengths ⟨_, g, c, _, d0⟩ ⟨_, g', c', _, d0'⟩ z (room_here room), .lists_lengths ⟨_, g, c, _, d0⟩ ⟨_, g', c', _, d0'⟩ z (room_here room)⟩
    · rw [← eqvAll_same_length eq, ← n]
      have z := n.trans (eq.trans n'.symm)
      exact ⟨.lists ⟨_, g, c, _, d0⟩ ⟨_, g', c', _, d0'⟩ z (room_here room) k0, .lists ⟨_, g, c, _, d0⟩ ⟨_, g', c', _, d0'⟩ z (room_here room) k0⟩
  | .tuple xs, .tuple ys, .tuple g c d0 k, .tuple g' c' d0' k' =>
    have k0 := pairs_at k k' (by unfold alike at al; exact al) (room_in room)
    rw [show PyData.eqv (.tuple xs) (.tuple ys) = PyData.eqvAll xs ys from rfl, ← eqvAll_eq xs ys, ← size_of k, ← size_of k']
    exact ⟨.tuples ⟨_, g, c, _, d0⟩ ⟨_, g', c', _, d0'⟩ (room_here room) k0, .tuples ⟨_, g, c, _, d0⟩ ⟨_, g', c', _, d0'⟩ (room_here room) k0⟩
end
section
variable {X : Cx}
theorem op_eqA (hu : X.A.units + 64 < cLine) : OpR X (compareOp .Eq) (rEqA X.K) := by
  intro pins s σ H x y v u Q I rx ry h
  obtain ⟨d, e, hd, he, al, sq, dp, q⟩ := h
  obtain ⟨as, r1⟩ := Dp.reads I d x v hd rx
  obtain ⟨bs, r2⟩ := Dp.reads I e y u he ry
  exact (rc_alike r1 r2 al sq (by omega)).1 _ _ _ _ ⟨.bl _, H, I, rfl, q⟩
theorem op_neA (hu : X.A.units + 64 < cLine) : OpR X (compareOp .NotEq) (rNeA X.K) := by
  intro pins s σ H x y v u Q I rx ry h
  obtain ⟨d, e, hd, he, al, sq, dp, q⟩ := h
  obtain ⟨as, r1⟩ := Dp.reads I d x v hd rx
  obtain ⟨bs, r2⟩ := Dp.reads I e y u he ry
  exact (rc_alike r1 r2 al sq (by omega)).2 _ _ _ _ ⟨.bl _, H, I, rfl, q⟩
theorem op_eqAK (K : PySem.W.Frag) (hu : X.A.units + 64 < cLine) (h : X.K = K := by rfl) : OpR X (compareOp .Eq) (rEqA K) := by subst h; exact op_eqA hu
theorem op_neAK (K : PySem.W.Frag) (hu : X.A.units + 64 < cLine) (h : X.K = K := by rfl) : OpR X (compareOp .NotEq) (rNeA K) := by subst h; exact op_neA hu
end
theorem ev_eqM {d e : PyData} {b : Bool} [x : Dat K P d] [y : Dat K P' e] [mo : Mono M P] [q : Eqd d e b] [l1 : Lay 60 d] [sq : Sqd d] [al : Alk d e] (ha : EvP M ta σ H P) (hb : EvP M tb σ H P') : EvP M (tOp (rEqA K) ta tb) σ H (pB b) := by
  rw [← q.eq]
  exact ev_op ha hb fun v w H1 dd p p' Q q => ⟨d, e, x.dp p, y.dp p', al.ok, sq.ok, Nat.le_trans l1.lay (by decide), q _ H1 (.refl H1) dd rfl⟩
theorem ev_neM {d e : PyData} {b : Bool} [x : Dat K P d] [y : Dat K P' e] [mo : Mono M P] [q : Eqd d e b] [l1 : Lay 60 d] [sq : Sqd d] [al : Alk d e] (ha : EvP M ta σ H P) (hb : EvP M tb σ H P') : EvP M (tOp (rNeA K) ta tb) σ H (pB (!b)) := by
  rw [← q.eq]
  exact ev_op ha hb fun v w H1 dd p p' Q q => ⟨d, e, x.dp p, y.dp p', al.ok, sq.ok, Nat.le_trans l1.lay (by decide), q _ H1 (.refl H1) dd rfl⟩
/-! list + list, list * int -/
theorem ev_catL {α : Type} {F : α → PV} [m : ∀ x, Mono M (F x)] {xs ys : List α} (ha : EvP M ta σ H (pL K M (xs.map F))) (hb : EvP M tb σ H (pL K M (ys.map F))) (hz : xs.length + ys.length ≤ 100000) : EvP M (tOp rCat ta tb) σ H (pL K M ((xs ++ ys).map F)) :=
  ev_op ha hb fun x y H1 d p p' Q q => by
    obtain ⟨a, vs, rfl, n, s, k⟩ := p
    obtain ⟨a', ws, rfl, n', s', k'⟩ := p'
    have l1 : vs.length = xs.length := by rw [k.len, List.length_map]
    have l2 : ws.length = ys.length := by rw [k'.len, List.length_map]
    have kk := k.app k'
    rw [← List.map_append] at kk
    exact ⟨a, a', vs, ws, rfl, rfl, s, s', Evl.sz_of (by omega), fun p hp => q _ _ (.new hp) (d.new (same_new hp)) ⟨p, _, rfl, d.ne hp, (show RdL _ _ _ from upd_same), MonoA.mono (M := M) (.new hp) kk⟩⟩
theorem all_rep {α : Type} {F : α → PV} {xs : List α} {vs : List V} {H : Hp} (h : All2 (xs.map F) vs H) : ∀ n : Nat, All2 ((List.replicate n xs).flatten.map F) (List.replicate n vs).flatten H
  | 0 => .nil
  | n + 1 => by
    rw [List.replicate_succ, List.replicate_succ, List.flatten_cons, List.flatten_cons, List.map_append]
    exact h.app (all_rep h n)
theorem ev_rep {α : Type} {F : α → PV} [m : ∀ x, Mono M (F x)] {xs : List α} {i : Int} (ha : EvP M ta σ H (pL K M (xs.map F))) (hb : EvP M tb σ H (pI i)) (hz : -1000000 ≤ i ∧ i ≤ 1000000 ∧ xs.length * i.toNat ≤ 100000) : EvP M (tOp rRep ta tb) σ H (pL K M ((repeated xs i).map F)) :=
  ev_op ha hb fun x y H1 d p p' Q q => by
    obtain ⟨a, vs, rfl, n, s, k⟩ := p
    cases p'
    have l1 : vs.length = xs.length := by rw [k.len, List.length_map]
    exact ⟨a, i, vs, rfl, rfl, s, by omega, by omega, Evl.sz_of (by rw [l1]; exact hz.2.2), fun p hp => q _ _ (.new hp) (d.new (same_new hp)) ⟨p, _, rfl, d.ne hp, (show RdL _ _ _ from upd_same), MonoA.mono (M := M) (.new hp) (all_rep k i.toNat)⟩⟩
/-! less than -/
def rLtD (K : PySem.W.Frag) : R2 := fun x y H Q => ∃ d e, Dp K H x d ∧ Dp K H y e ∧ PySem.W.alike d e = true ∧ d ≠ .none ∧ d.depth ≤ 64 ∧ Q (.bl (PySem.W.dataLt d e)) H
variable {X : Cx}
theorem op_ltD (hu : X.A.units + 64 < cLine) : OpR X (compareOp .Lt) (rLtD X.K) := by
  intro pins s σ H x y v u Q I rx ry h
  obtain ⟨d, e, hd, he, al, ne, dp, q⟩ := h
  obtain ⟨as, r1⟩ := Dp.reads I d x v hd rx
  obtain ⟨bs, r2⟩ := Dp.reads I e y u he ry
  exact PySem.W.lt_data r1 r2 al ne (by omega) ⟨.bl _, H, I, rfl, q⟩
theorem op_ltDK (K : PySem.W.Frag) (hu : X.A.units + 64 < cLine) (h : X.K = K := by rfl) : OpR X (compareOp .Lt) (rLtD K) := by subst h; exact op_ltD hu
theorem ev_ltD {d e : PyData} [x : Dat K P d] [y : Dat K P' e] [mo : Mono M P] [l1 : Lay 60 d] (ha : EvP M ta σ H P) (hb : EvP M tb σ H P') (al : PySem.W.alike d e = true) (ne : d ≠ .none) : EvP M (tOp (rLtD K) ta tb) σ H (pB (PySem.W.dataLt d e)) :=
  ev_op ha hb fun v w H1 dd p p' Q q => ⟨d, e, x.dp p, y.dp p', al, ne, Nat.le_trans l1.lay (by decide), q _ H1 (.refl H1) dd rfl⟩
/-- a row before another, as texts are -/
def rowLt : List Int → List Int → Bool
  | [], [] => false
  | [], _ :: _ => true
  | _ :: _, [] => false
  | x :: r, y :: s => decide (x < y) || (!decide (y < x) && rowLt r s)
open PyProof.Rows in
theorem lex_rows (t : List (Int ⊕ List Nat)) : ∀ r s : List Int, PyProof.Rows.lexLt itemOrd (PySem.W.keyToksAll (r.map PyData.int) ++ t) (PySem.W.keyToksAll (s.map PyData.int) ++ t) = rowLt r s
  | [], [] => PyProof.Rows.lex_irrefl (O := itemOrd) _
  | [], y :: s => rfl
  | x :: r, [] => rfl
  | x :: r, y :: s => by
    show PyProof.Rows.lexLt itemOrd (.inl 1 :: .inl x :: (PySem.W.keyToksAll (r.map PyData.int) ++ t)) (.inl 1 :: .inl y :: (PySem.W.keyToksAll (s.map PyData.int) ++ t)) = _
    rw [PyProof.Rows.lex_cons (O := itemOrd), PyProof.Rows.lex_cons (O := itemOrd), lex_rows t r s]
    show (decide ((1 : Int) < 1) || (!decide ((1 : Int) < 1) && (decide (x < y) || (!decide (y < x) && rowLt r s)))) = _
    rfl
theorem alike_rows : ∀ r s : List Int, PySem.W.alikeAll (r.map PyData.int) (s.map PyData.int) = true
  | [], _ => by cases ‹List Int› <;> rfl
  | x :: r, [] => rfl
  | x :: r, y :: s => by
    show (true && PySem.W.alikeAll (r.map PyData.int) (s.map PyData.int)) = true
    rw [alike_rows r s]
    rfl
theorem lt_pair (a b : Int) (r s : List Int) : PySem.W.dataLt (.tuple [.int a, .tuple (r.map PyData.int)]) (.tuple [.int b, .tuple (s.map PyData.int)]) = (decide (a < b) || (!decide (b < a) && rowLt r s)) := by
  show PyProof.Rows.lexLt PyProof.Rows.itemOrd (.inl 1 :: .inl a :: .inl 1 :: (PySem.W.keyToksAll (r.map PyData.int) ++ [.inl 0])) (.inl 1 :: .inl b :: .inl 1 :: (PySem.W.keyToksAll (s.map PyData.int) ++ [.inl 0])) = _
  rw [PyProof.Rows.lex_cons (O := PyProof.Rows.itemOrd), PyProof.Rows.lex_cons (O := PyProof.Rows.itemOrd), PyProof.Rows.lex_cons (O := PyProof.Rows.itemOrd), lex_rows]
  show (decide ((1 : Int) < 1) || (!decide ((1 : Int) < 1) && (decide (a < b) || (!decide (b < a) && (decide ((1 : Int) < 1) || (!decide ((1 : Int) < 1) && rowLt r s)))))) = _
  rfl
theorem ev_ltIR {a b : Int} {r s : List Int} (ha : EvP M ta σ H (pT K [pI a, pRow K r])) (hb : EvP M tb σ H (pT K [pI b, pRow K s])) : EvP M (tOp (rLtD K) ta tb) σ H (pB (decide (a < b) || (!decide (b < a) && rowLt r s))) := by
  rw [← lt_pair]
  refine ev_ltD ha hb ?_ (fun h => nomatch h)
  show (true && (PySem.W.alikeAll (r.map PyData.int) (s.map PyData.int) && true)) = true
  rw [alike_rows]
  rfl
end
end Mir


/-! mir9: what a law is given, the dice, its answer -/
namespace Mir
open PySem PySem.Spec L2 RZ
def pSc (K : PySem.W.Frag) (ns : List Int) : PV := fun v H => ∃ a, v = .ref a ∧ SqL K H a (ns.map V.int)
instance {K : PySem.W.Frag} {ns : List Int} : Mono [] (pSc K ns) := ⟨fun c ⟨a, e, s⟩ => ⟨a, e, sqL_mono c (by simp) s⟩⟩
def pZ : PV := fun v _ => ∃ i, v = .int i
instance : FzP pZ := ⟨fun _ h => h⟩
def sp_law (K : PySem.W.Frag) : Sp := fun vs H Q _ => ∃ (a : Addr) (ns : List Int), vs = [.ref a] ∧ SqL K H a (ns.map V.int) ∧ ns.length ≤ 63 ∧ ∀ H', Q (.bl true) H'
section
variable {K : PySem.W.Frag} {M : List Addr} {σ : St} {H : Hp} {te : TE}
theorem ev_lenSc {ns : List Int} {tr : TA} (h : EvA M tr σ H [pSc K ns]) : EvP M (tCB (fun xs H Q => ∃ p ys, xs = [.ref p] ∧ (SqL K H p ys ∨ SqT K H p ys) ∧ Q (.int ys.length) H) tr) σ H (pI ns.length) := ev_cb h fun vs H1 d k Q q => by
  obtain ⟨v, rfl, a, rfl, s⟩ := all1 k
  exact ⟨a, _, rfl, .inl s, q _ H1 (.refl H1) d (by rw [List.length_map]; rfl)⟩
theorem dc_of {a : Addr} {vs : List V} (h : H a = some (.lst vs)) (k : All2 [pZ, pZ, pZ] vs H) : Dc a H := by
  obtain ⟨u, v, w, rfl, ⟨x, rfl⟩, ⟨y, rfl⟩, ⟨z, rfl⟩⟩ := all3 k
  exact ⟨x, y, z, h⟩
theorem ev_yes (h : EvP M te σ H (pX (fun b : Bool => b = true) pB)) : EvP M te σ H (pB true) := h.to fun v H1 ⟨b, e, p⟩ => by
  subst e
  exact p
theorem law_ret {Q : VK} {v : V} {m : Bool} (q : ∀ H', Q (.bl true) H') (e : m = true) (h : pB m v H) : Q v H := by
  subst e
  cases h
  exact q H
theorem spots_in {n : Nat} : -(2 ^ 62) ≤ (if (if (n : Int) < 3 then (n : Int) else 3) > 1 then (if (n : Int) < 3 then (n : Int) else 3) else 1) ∧ (if (if (n : Int) < 3 then (n : Int) else 3) > 1 then (if (n : Int) < 3 then (n : Int) else 3) else 1) < 2 ^ 62 := by
  constructor <;> split <;> (try split) <;> omega
end
end Mir


/-! dicts whose keys are ints: what is told of them; comprehensions that make them; texts compared -/
namespace Mir
open PySem PySem.Spec L2 RZ
section
variable {K : PySem.W.Frag} {M M' : List Addr} {σ : St} {H : Hp} {ta tb tc te td ty tv tk tx : TE} {P P' R : PV} {D : Ends} {tz : TS} {α β : Type} {F : α → PV} {G : β → PV} {wi : TI}
/-- what was not there may be anything -/
theorem Ch.over {H1 H2 : Hp} {l : Addr} {o : HO} (e : Ch M H1 H2) (z : H1 l = none) : Ch M H1 (upd H2 l o) := by
  refine ⟨fun a w f h => ?_, fun a w n h => ?_⟩
  · rw [upd_ne (fun q => by rw [q, z] at h; cases h)]
    exact e.fz a w f h
  · rw [upd_ne (fun q => by rw [q, z] at h; cases h)]
    exact e.keep a w n h
theorem Dcs.over {H2 : Hp} {l : Addr} {o : HO} (d : Dcs M H2) (n : l ∉ M) : Dcs M (upd H2 l o) := fun a ha => by
  obtain ⟨x, y, z, h⟩ := d a ha
  exact ⟨x, y, z, by rw [upd_ne (fun q => n (by rw [← q]; exact ha))]; exact h⟩
/-- the entries of a dict with these keys and values -/
def kz (m : List (Int × α)) (vs : List V) : List (Key × V) := List.zip (m.map fun p => (Sum.inl p.1 : Key)) vs
abbrev kvF (F : α → PV) : Int × α → PV := fun p => F p.2
def putD (m : List (Int × α)) (k : Int) (x : α) : List (Int × α) := if (m.any fun p => decide (p.1 = k)) = true then m.map (fun p => if p.1 = k then (p.1, x) else p) else m ++ [(k, x)]
def pDk (M : List Addr) (F : α → PV) (m : List (Int × α)) : PV := fun v H => ∃ a vs, v = .ref a ∧ a ∉ M ∧ H a = some (.dK (kz m vs)) ∧ All2 (m.map (kvF F)) vs H
/-- a new dict -/
def pDn (H0 : Hp) (F : α → PV) (m : List (Int × α)) : PV := fun v H => ∃ a vs, v = .ref a ∧ H0 a = none ∧ H a = some (.dK (kz m vs)) ∧ All2 (m.map (kvF F)) vs H
instance [fz : ∀ x, FzP (F x)] {m : List (Int × α)} : Mono M (pDk M F m) := ⟨fun c ⟨a, vs, e, n, h, k⟩ => ⟨a, vs, e, n, c.keep _ _ n h, FzA.mono c.fz k⟩⟩
instance {H0 : Hp} [fz : ∀ x, FzP (F x)] {m : List (Int × α)} : Mono [] (pDn H0 F m) := ⟨fun c ⟨a, vs, e, n, h, k⟩ => ⟨a, vs, e, n, c.keep _ _ (fun z => nomatch z) h, FzA.mono c.fz k⟩⟩
theorem pDn.d {H0 : Hp} {m : List (Int × α)} {v : V} (d : Dcs M H0) (h : pDn H0 F m v H) : pDk M F m v H := by
  obtain ⟨a, vs, e, z, r, k⟩ := h
  exact ⟨a, vs, e, d.ne z, r, k⟩
def EvD (M : List Addr) (te : TE) (σ : St) (H : Hp) (F : α → PV) (m : List (Int × α)) : Prop := ∀ H1, Ch M H H1 → Dcs M H1 → ∀ Q : VK, (∀ l vs H2, H1 l = none → Ch M H1 H2 → Dcs M H2 → H2 l = some (.dK (kz m vs)) → All2 (m.map (kvF F)) vs H2 → Q (.ref l) H2) → te σ H1 Q
theorem kz_len {m : List (Int × α)} {vs : List V} (h : vs.length = m.length) : (kz m vs).length = m.length := by
  unfold kz
  rw [List.length_zip, List.length_map, h, Nat.min_self]
theorem all_len {m : List (Int × α)} {vs : List V} (h : All2 (m.map (kvF F)) vs H) : vs.length = m.length := by rw [h.len, List.length_map]
theorem kz_put {m : List (Int × α)} {k : Int} {x : α} {v : V} : ∀ {vs : List V}, All2 (m.map (kvF F)) vs H → F x v H → ∃ ws, putK (kz m vs) (Sum.inl k) v = kz (putD m k x) ws ∧ All2 ((putD m k x).map (kvF F)) ws H := by
  intro vs ha hx
  have any : ∀ {m : List (Int × α)} {vs : List V}, All2 (m.map (kvF F)) vs H → ((kz m vs).any fun kv => decide (kv.1 = Sum.inl k)) = m.any fun p => decide (p.1 = k) := by
    intro m
    induction m with
    | nil => intro vs h; cases h; rfl
    | cons p m ih =>
      intro vs h
      cases h with
      | cons h1 h2 =>
        show (decide ((Sum.inl p.1 : Key) = Sum.inl k) || (kz m _).any _) = (decide (p.1 = k) || m.any _)
        rw [ih h2]
        congr 1
        by_cases c : p.1 = k
        · rw [decide_eq_true c, decide_eq_true (by rw [c])]
        · rw [decide_eq_false c, decide_eq_false (fun e => c (Sum.inl.inj e))]
  have rep : ∀ {m : List (Int × α)} {vs : List V}, All2 (m.map (kvF F)) vs H → ∃ ws, (kz m vs).map (fun kv => if kv.1 = Sum.inl k then (kv.1, v) else kv) = kz (m.map fun p => if p.1 = k then (p.1, x) else p) ws ∧ All2 ((m.map fun p => if p.1 = k then (p.1, x) else p).map (kvF F)) ws H := by
    intro m
    induction m with
    | nil => intro vs h; exact ⟨[], rfl, .nil⟩
    | cons p m ih =>
      intro vs h
      cases h with
      | @cons _ _ v0 vs0 h1 h2 =>
        obtain ⟨ws, e, a⟩ := ih h2
        by_cases c : p.1 = k
        · refine ⟨v :: ws, ?_, ?_⟩
          · show (if (Sum.inl p.1 : Key) = Sum.inl k then ((Sum.inl p.1 : Key), v) else (Sum.inl p.1, v0)) :: (kz m vs0).map _ = _
            rw [e, if_pos (by rw [c]), List.map_cons, if_pos c]
            rfl
          · rw [List.map_cons, if_pos c]
            exact .cons hx a
        · refine ⟨v0 :: ws, ?_, ?_⟩
          · show (if (Sum.inl p.1 : Key) = Sum.inl k then ((Sum.inl p.1 : Key), v) else (Sum.inl p.1, v0)) :: (kz m vs0).map _ = _
            rw [e, if_neg (fun z => c (Sum.inl.inj z)), List.map_cons, if_neg c]
            rfl
          · rw [List.map_cons, if_neg c]
            exact .cons h1 a
  unfold putK putD
  rw [any ha]
  split
  · exact rep ha
  · refine ⟨vs ++ [v], ?_, ?_⟩
    · unfold kz
      rw [List.map_append, List.zip_append (by rw [List.length_map, all_len ha])]
      rfl
    · rw [List.map_append]
      exact ha.app (.cons hx .nil)

/-- the dict of a comprehension: the items put in, one behind the other -/
def dcD {γ : Type} (k : γ → Int) (v : γ → α) (xs : List γ) : List (Int × α) := xs.foldl (fun m x => putD m (k x) (v x)) []
theorem dcD_snoc {γ : Type} (k : γ → Int) (v : γ → α) (xs : List γ) (x : γ) : dcD k v (xs ++ [x]) = putD (dcD k v xs) (k x) (v x) := by
  unfold dcD
  rw [List.foldl_append]
  rfl
theorem putD_len (m : List (Int × α)) (k : Int) (x : α) : (putD m k x).length ≤ m.length + 1 := by
  unfold putD
  split
  · rw [List.length_map]
    exact Nat.le_succ _
  · rw [List.length_append, List.length_singleton]
    exact Nat.le_refl _
theorem dcD_len {γ : Type} (k : γ → Int) (v : γ → α) : ∀ (n : Nat) (xs : List γ), xs.length = n → (dcD k v xs).length ≤ n
  | 0, xs, h => by
    rw [List.length_eq_zero_iff.mp h]
    exact Nat.le_refl _
  | n + 1, xs, h => by
    have hx : xs ≠ [] := fun e => by rw [e] at h; cases h
    rw [← List.dropLast_concat_getLast hx, dcD_snoc]
    refine Nat.le_trans (putD_len _ _ _) (Nat.succ_le_succ (dcD_len k v n _ ?_))
    rw [List.length_dropLast]
    omega
theorem yes_if {A B : Hp → Prop} (h : A H) : tYes σ H (fun b H3 => if b = true then A H3 else B H3) := by
  show (if true = true then A H else B H)
  exact iteT h
theorem evd_dcP {γ : Type} {vs : List Nat} {j k : Nat} {xs : List γ} {A B : γ → PV} {kx : γ → Int} {vx : γ → α} (src : EvI M M wi σ H (xs.map fun x => pT K [A x, B x])) [fz : ∀ x, FzP (F x)] (hz : xs.length < 100000) (hw : ∀ x y, wipe (((wipe σ vs).set j (some x)).set k (some y)) vs = wipe σ vs)
    (step : ∀ x, x ∈ xs → ∀ v w H3, Ch M H H3 → Dcs M H3 → A x v H3 → B x w H3 → EvP M tk (((wipe σ vs).set j (some v)).set k (some w)) H3 (pI (kx x)) ∧ EvP M tv (((wipe σ vs).set j (some v)).set k (some w)) H3 (F (vx x))) :
    EvD M (tDc wi (gTup K 2 (gCons (gName j) (gCons (gName k) gNil))) tYes tk tv vs) σ H F (dcD kx vx xs) := fun H1 e d Q q =>
  src H1 e d _ fun J H2 Gd Yd e2 d2 w st yl => by
    intro D hD
    have hDM : D ∉ M := d2.ne hD
    rw [List.length_map] at w
    refine ⟨fun i m H' => m = xs.length - i ∧ i ≤ xs.length ∧ ∃ ws, H' D = some (.dK (kz (dcD kx vx (xs.take i)) ws)) ∧ All2 ((dcD kx vx (xs.take i)).map (kvF F)) ws H' ∧ Ch M H2 H' ∧ Dcs M H', ⟨xs.length, by simp, Nat.zero_le _, [], upd_same, .nil, .new hD, d2.new (same_new hD)⟩, ?_⟩
    rintro i m Ha ⟨rfl, hi, ws, h1, h2, h3, h4⟩
    have g0 := st Ha h3
    by_cases hlt : i < xs.length
    · refine .inr ⟨w.goes i Ha hlt g0, fun H' => ∃ ws, H' D = some (.dK (kz (dcD kx vx (xs.take (i + 1))) ws)) ∧ All2 ((dcD kx vx (xs.take (i + 1))).map (kvF F)) ws H' ∧ Ch M H2 H' ∧ Dcs M H', fun H' p => ⟨xs.length - (i + 1), by omega, rfl, hlt, p⟩, fun x Hb y => ?_⟩
      have y := w.yields i Ha x Hb hlt g0 y
      obtain ⟨sm, py⟩ := yl i Ha x Hb (by rw [List.length_map]; exact hlt) h3 y
      have hx : xs[i]? = some xs[i] := List.getElem?_eq_getElem hlt
      have px := py (pT K [A xs[i], B xs[i]]) (by rw [List.getElem?_map, hx]; rfl)
      have h3b : Ch M H2 Hb := h3.trans (.of sm)
      have h4b : Dcs M Hb := h4.new sm
      have acb : All2 ((dcD kx vx (xs.take i)).map (kvF F)) ws Hb := FzA.mono (Ch.of (M := M) sm).fz h2
      have hDb : Hb D = some (.dK (kz (dcD kx vx (xs.take i)) ws)) := sm _ _ h1
      obtain ⟨a, vs', rfl, s, kk⟩ := px
      obtain ⟨v1, v2, rfl, p1, p2⟩ := all2 kk
      obtain ⟨s1, s2⟩ := step xs[i] (List.getElem_mem hlt) v1 v2 Hb ((e.trans e2).trans h3b) h4b p1 p2
      refine ⟨a, [v1, v2], rfl, s, rfl, v1, [v2], rfl, v2, [], rfl, rfl, hw _ _, ?_⟩
      refine yes_if ?_
      refine (s1 Hb (.refl Hb) h4b _ fun kv Hc ec dc pk => ?_)
      cases pk
      refine s2 Hc ec dc _ fun z Hd ed dd pz => ?_
      have hDd := (ec.trans ed).keep D _ hDM hDb
      have ad : All2 ((dcD kx vx (xs.take i)).map (kvF F)) ws Hd := FzA.mono (ec.trans ed).fz acb
      obtain ⟨us, eu, au⟩ := kz_put (k := kx xs[i]) (v := z) ad pz
      have t : xs.take (i + 1) = xs.take i ++ [xs[i]] := by rw [List.take_add_one, hx]; rfl
      have up : Ch [D] Hd (upd Hd D (.dK (putK (kz (dcD kx vx (xs.take i)) ws) (Sum.inl (kx xs[i])) z))) := Ch.set hDd rfl (List.mem_singleton.mpr rfl)
      refine ⟨kz (dcD kx vx (xs.take i)) ws, Sum.inl (kx xs[i]), rfl, hDd, ?_, us, ?_, ?_, ?_, ?_⟩
      · rw [kz_len (all_len ad)]
        exact Evl.sz_lt (Nat.lt_of_le_of_lt (dcD_len kx vx _ _ rfl) (by rw [List.length_take]; omega))
      · rw [upd_same, eu, t, dcD_snoc]
      · rw [t, dcD_snoc]
        exact FzA.mono up.fz au
      · have c1 := (h3b.trans ec).trans ed
        refine ⟨fun b o f h => ?_, fun b o n h => ?_⟩
        · exact up.fz _ _ f (c1.fz b o f h)
        · rw [upd_ne (fun q => by rw [q, hD] at h; cases h)]
          exact c1.keep b o n h
      · exact dd.over hDM
    · have ie : i = xs.length := by omega
      refine .inl ⟨by rw [ie]; exact w.stops Ha g0, ?_⟩
      have ei : xs.take i = xs := List.take_of_length_le (by omega)
      rw [ei] at h1 h2
      exact q D ws Ha (e2.free d2 hD) (e2.trans h3) h4 h1 h2
theorem EvD.p {m : List (Int × α)} (h : EvD M te σ H F m) : EvP M te σ H (pDk M F m) := fun H1 e d Q q => h H1 e d Q fun l vs H2 n e2 d2 g a => q _ H2 e2 d2 ⟨l, vs, rfl, d.ne n, g, a⟩
/-- what a dict has under a key, or another value -/
def getD (m : List (Int × α)) (k : Int) (x : α) : α := ((m.find? fun p => decide (p.1 = k)).map (·.2)).getD x
theorem kz_get {m : List (Int × α)} {k : Int} : ∀ {vs : List V}, All2 (m.map (kvF F)) vs H → (valV (kz m vs) (Sum.inl k : Key) = none ∧ (m.find? fun p => decide (p.1 = k)) = none) ∨ ∃ p v, (m.find? fun p => decide (p.1 = k)) = some p ∧ valV (kz m vs) (Sum.inl k : Key) = some v ∧ F p.2 v H := by
  induction m with
  | nil => intro vs h; exact .inl ⟨rfl, rfl⟩
  | cons p m ih =>
    intro vs h
    cases h with
    | @cons _ _ v0 vs0 h1 h2 =>
      unfold valV kz
      rw [List.map_cons, List.zip_cons_cons, List.find?_cons, List.find?_cons]
      by_cases c : p.1 = k
      · rw [decide_eq_true c, decide_eq_true (show ((Sum.inl p.1 : Key), v0).1 = Sum.inl k by rw [c])]
        exact .inr ⟨p, v0, rfl, rfl, h1⟩
      · rw [decide_eq_false c, decide_eq_false (show ¬ ((Sum.inl p.1 : Key), v0).1 = Sum.inl k from fun e => c (Sum.inl.inj e))]
        exact ih h2
theorem ev_dget2 {m : List (Int × α)} {k : Int} {x : α} [fz : ∀ x, FzP (F x)] (h : EvP M td σ H (pDk M F m)) (hk : EvP M ty σ H (pI k)) (hx : EvP M tx σ H (F x)) : EvP M (tDGet2 td ty tx) σ H (F (getD m k x)) := fun H1 e d Q q =>
  h H1 e d _ fun v H2 e2 d2 p => by
    obtain ⟨a, vs, rfl, n, g, k2⟩ := p
    refine ⟨a, rfl, .inl ⟨_, .inl g⟩, hk H2 (e.trans e2) d2 _ fun w H3 e3 d3 p3 => ?_⟩
    cases p3
    refine hx H3 ((e.trans e2).trans e3) d3 _ fun z H4 e4 d4 pz => ?_
    have g4 := (e3.trans e4).keep _ _ n g
    have a4 : All2 (m.map (kvF F)) vs H4 := FzA.mono (e3.trans e4).fz k2
    refine ⟨_, DGet.k (k := Sum.inl k) g4, q _ H4 ((e2.trans e3).trans e4) d4 ?_⟩
    unfold getD
    rcases kz_get (k := k) a4 with ⟨e1, e2⟩ | ⟨p, v, e1, e2, pv⟩
    · rw [e1, e2]
      exact pz
    · rw [e1, e2]
      exact pv
instance (priority := low) {P : α → PV} {o : Option α} [p : ∀ x, Mono M (P x)] : Mono M (pO P o) := ⟨fun {v H H'} c h => by
  cases o with
  | none => exact h
  | some x => exact (p x).mono c h⟩
theorem pL.ne {Ps : List PV} {v : V} (h : pL K M Ps v H) : v ≠ .non := by
  obtain ⟨a, vs, rfl, _⟩ := h
  intro e
  cases e
/-! texts -/
theorem ev_gtS {y z : Str} (ha : EvP M ta σ H (pS y)) (hb : EvP M tb σ H (pS z)) : EvP M (tOp (fun x y H Q => ∃ i j, x = .str i ∧ y = .str j ∧ Q (.bl (decide (j.cps.toList < i.cps.toList))) H) ta tb) σ H (pB (decide (z.cps.toList < y.cps.toList))) :=
  ev_op ha hb fun x y' H1 d p p' Q q => ⟨y, z, p, p', q _ H1 (.refl H1) d rfl⟩
theorem inV_strs (x : Str) : ∀ r : List Str, inV (.str x) (r.map V.str) = decide (x ∈ r)
  | [] => by simp [inV]
  | y :: r => by
    have ih := inV_strs x r
    unfold inV at ih ⊢
    rw [List.map_cons, List.any_cons, ih]
    show ((y == x) || decide (x ∈ r)) = decide (x ∈ y :: r)
    by_cases c : y = x
    · subst c
      simp
    · have c2 : x ≠ y := fun e => c e.symm
      simp [c, c2, List.mem_cons]
/-- x in a written tuple of two texts -/
theorem ev_in2S {x y z : Str} (ha : EvP M ta σ H (pS x)) (hb : EvP M tb σ H (pT K [pS y, pS z])) : EvP M (tOp (rIn K false) ta tb) σ H (pB (decide (x = y) || decide (x = z))) :=
  ev_op ha hb fun v w H1 d p p' Q q => by
    cases p
    obtain ⟨a, vs, rfl, s, k⟩ := p'
    obtain ⟨v1, v2, rfl, p1, p2⟩ := all2 k
    cases p1
    cases p2
    refine ⟨a, _, rfl, .inr s, rfl, rfl, q _ H1 (.refl H1) d ?_⟩
    have e := inV_strs x [y, z]
    show V.bl _ = V.bl _
    rw [show (([V.str y, V.str z] : List V)) = [y, z].map V.str from rfl, e]
    simp [List.mem_cons]
def ixS (z : Str) (i : Int) : Str := ⟨#[(atI z.cps.toList i).getD default]⟩
theorem ev_ixS {z : Str} {i : Int} (ha : EvP M ta σ H (pS z)) (hb : EvP M tb σ H (pI i)) (h : inb z.cps.toList.length i) (hz : z.length ≤ sizeLine) : EvP M (tOp rIxS ta tb) σ H (pS (ixS z i)) :=
  ev_op ha hb fun x y H1 d p p' Q q => by
    cases p
    cases p'
    obtain ⟨j, ej, l⟩ := ixN_in h
    have at_ : atI z.cps.toList i = some (z.cps.toList[j]) := by
      unfold atI
      rw [ej]
      exact List.getElem?_eq_getElem l
    refine ⟨z, i, _, rfl, rfl, hz, at_, q _ H1 (.refl H1) d ?_⟩
    show V.str _ = V.str _
    unfold ixS
    rw [at_]
    rfl
theorem lt_pairS (a b : Int) (r s : Str) : PySem.W.dataLt (.tuple [.int a, .str r]) (.tuple [.int b, .str s]) = (decide (a < b) || (!decide (b < a) && decide (r.cps.toList < s.cps.toList))) := by
  show PyProof.Rows.lexLt PyProof.Rows.itemOrd (.inl 1 :: .inl a :: .inl 1 :: .inr r.cps.toList :: [.inl 0]) (.inl 1 :: .inl b :: .inl 1 :: .inr s.cps.toList :: [.inl 0]) = _
  rw [PyProof.Rows.lex_cons (O := PyProof.Rows.itemOrd), PyProof.Rows.lex_cons (O := PyProof.Rows.itemOrd), PyProof.Rows.lex_cons (O := PyProof.Rows.itemOrd), PyProof.Rows.lex_cons (O := PyProof.Rows.itemOrd), PyProof.Rows.lex_irrefl (O := PyProof.Rows.itemOrd)]
  simp [PyProof.Rows.itemLt]
theorem ev_ltIS {a b : Int} {r s : Str} (ha : EvP M ta σ H (pT K [pI a, pS r])) (hb : EvP M tb σ H (pT K [pI b, pS s])) : EvP M (tOp (rLtD K) ta tb) σ H (pB (decide (a < b) || (!decide (b < a) && decide (r.cps.toList < s.cps.toList)))) := by
  rw [← lt_pairS]
  exact ev_ltD ha hb rfl (fun h => nomatch h)
theorem units1 {n c : Nat} (h : n + 64 < c) : n + 1 < c := by omega
end
end Mir


/-! a tuple times a number: one of it is the tuple itself, none of it is a new tuple without items -/
namespace L2
open PySem PySem.Spec PyProof.Rows
section
variable {X : Cx}
end
end L2


/-! loops over new pairs, by the library's word for a walk whose tuples are new (WalksT): enumerate of a tuple, zip of a list and a tuple; a slice of a list is set -/
namespace RZ
open L2 PySem PySem.Spec PyProof.Rows
/-- what a walk over pairs must know at each turn: the cells of its own stand in `own`, `Own` tells of them -/
structure PairWalk (prg : Program) (wd : World) (Kf : PySem.W.Frag) (J : It) (I : Addr) (own : List Addr) (Own : Nat → Heap → Prop) : Prop where
  main : I ∈ own
  objs : ∀ n h, Own n h → ∀ c ∈ own, ∃ ob, h.get? c = some ob ∧ ∀ v, ob.data ≠ .cell v
  stay : ∀ n h h2, Own n h → (∀ c ∈ own, ∀ ob, h.get? c = some ob → h2.get? c = some ob) → Own n h2
  iter : ∀ (B : Around) (n : Nat) (s : Shared) (Q E : Value → Shared → Prop), Own n s.heap → Q (.ref I) s → wpAny (model prg wd) B (pyIter (.ref I)) Q E s
  walk : ∀ (X : Cx), X.prog = prg → X.w = wd → X.K = Kf → X.calm = true → ∀ (n : Nat) (pins : List (Addr × Obj)) (s : Shared) (σ : L2.St) (H : Hp), Inv X pins σ H s → Own n s.heap → (J.go n H ∨ J.stop n H) →
    ∃ (fp wr : List Addr) (m : Nat) (Pt : Nat → Array Value → Prop) (S : Nat → Heap → Prop) (Mid : Nat → Addr → Heap → Prop), WalksT prg wd X.A I fp wr m Pt S Mid ∧ (∀ c ∈ wr, c ∈ own) ∧ S n s.heap ∧ (∀ k h, S k h → Own k h) ∧ (J.stop n H → n = m) ∧
      (J.go n H → n < m ∧ ∀ vals, Pt n vals → ∃ (x y : V) (a b : Value), vals = #[a, b] ∧ RelV x a ∧ RelV y b ∧ ∀ T, H T = none → J.yld n H (.ref T) (upd H T (.tup [x, y])))
theorem PairWalk.turn {prg : Program} {wd : World} {Kf : PySem.W.Frag} {J : It} {I : Addr} {own : List Addr} {Own : Nat → Heap → Prop} (G : PairWalk prg wd Kf J I own Own) (es : List Expr) (q : Nat) (at_ : Pos) : Turn prg wd Kf (.Tuple es q at_) J own I Own where
  mem := G.main
  obj := G.objs
  keep := G.stay
  self := G.iter
  item := fun X e1 e2 e3 cm n pins s σ H E inv away o1 go => by
    obtain ⟨fp, wr, m, Pt, S, Mid, W, sub, st, back, _, give⟩ := G.walk X e1 e2 e3 cm n pins s σ H inv o1 (.inl go)
    obtain ⟨lt, give⟩ := give go
    subst e1
    subst e2
    refine W.item n s _ E lt st fun T vals h1 tk pt le isT mid far => ?_
    obtain ⟨x, y, a, b, ev, ra, rb, yl⟩ := give vals pt
    subst ev
    refine ⟨.ref T, rfl, W.go es q at_ n T _ _ _ mid fun h2 st2 far2 => ?_⟩
    have not : T ∉ wr := W.apart n T h1 mid
    have pair : h2.IsTuple T #[a, b] := isT.at fun ob e => far2 T ob not e
    have made : ObjOk X.prog X.w (upd H T (.tup [x, y])) h2 T (.tup [x, y]) := ⟨Evl.sz_of (by show 2 ≤ 100000; decide), [a, b], .cons ra (.cons rb .nil), pair⟩
    refine ⟨.ref T, _, inv.turnedNew (t' := tk) (ch := own) (fun c ob hc e => far2 c ob (fun z => hc (sub c z)) (far c ob (fun z => hc (sub c z)) e)) away le made, rfl, yl T (inv.hok.fresh le), back _ _ st2, fun c hc => ?_⟩
    obtain ⟨ob, eo, _⟩ := G.objs n _ o1 c hc
    rw [upd_ne (Nat.ne_of_lt (Nat.lt_of_lt_of_le (Heap.lt_size eo) le))]
    exact (away c hc).1
  done := fun X e1 e2 e3 cm n pins s σ H E inv away o1 stop => by
    obtain ⟨fp, wr, m, Pt, S, Mid, W, sub, st, back, last, _⟩ := G.walk X e1 e2 e3 cm n pins s σ H inv o1 (.inr stop)
    subst e1
    subst e2
    have e := last stop
    subst e
    exact W.done s _ E st fun h1 tk far => ⟨rfl, inv.turnedL (t' := tk) (ch := own) (fun c ob hc e => far c ob (fun z => hc (sub c z)) e) away⟩
end RZ


/-! zip of a list and a tuple; a slice of a list is set -/
namespace RZ
open L2 PySem PySem.Spec PyProof.Rows
/-! a slice of a list is set -/
end RZ


namespace Mir
open PySem PySem.Spec L2 RZ
section
variable {K : PySem.W.Frag} {M M' : List Addr} {σ : St} {H H' : Hp} {ta tb te tc : TE} {P P' R : PV} {i j k : Int} {α β : Type} {F : α → PV} {G : β → PV} {a b : Addr}
variable {D : Ends} {tz : TS}
end
end Mir
namespace RZ
open PySem PySem.Spec PyProof.Rows L2
variable {X : Cx}
end RZ
namespace Mir
open PySem PySem.Spec L2 RZ
section
variable {K : PySem.W.Frag} {M : List Addr} {σ : St} {H : Hp} {ta tb tc te : TE} {P P' R : PV} {D : Ends} {tz : TS}
end
end Mir
namespace Mir
open PySem PySem.Spec L2 RZ
section
variable {X : Cx} {pos : Pos}
theorem pg_tupK (K : PySem.W.Frag) {es : List Expr} {k : Nat} {t : TGs} {n : Nat} (hc : X.calm = true) (h : PGs X es t)
    (hn : (assignEach es X.env).length = n := by rfl) (hst : (assignEach es X.env).findIdx? (·.1) = none := by rfl) (hk : X.K = K := by rfl) : PG X (.Tuple es k pos) (gTup K n t) := by
  subst hk
  exact pg_tup hc h hn hst
end
section
variable {K : PySem.W.Frag} {M M' : List Addr} {σ : St} {H H' : Hp} {wi : TI} {α : Type} {D : Ends} {tu tz : TS}
end
end Mir
namespace Mir
open PySem PySem.Spec L2
theorem kk_nil {H : Hp} : ∀ a ∈ ([] : List Addr), H a ≠ none := fun a h => nomatch h
theorem Ch.sub {M L : List Addr} {H H' : Hp} (c : Ch M H H') (h : ∀ a ∈ M, a ∈ L) : Ch L H H' := ⟨c.fz, fun a o n e => c.keep a o (fun z => n (h a z)) e⟩
theorem sub_self {M : List Addr} : ∀ b ∈ M, b ∈ M := fun _ h => h
end Mir
namespace Mir
open PySem PySem.Spec L2
section
variable {σ : St} {H : Hp} {D : Ends} {tz : TS}
end
end Mir
namespace Mir
open PySem PySem.Spec L2
section
variable {M M' : List Addr} {σ : St} {H : Hp}
end
end Mir


/-! an instance that an expression gives, called -/
namespace L2
open PySem PySem.Spec PyProof.Rows
section
variable {X : Cx} {CX : CXT} {k : Nat} {C f : Addr} {fd : FuncData} {ps : List Str} {sp : Sp} {E : XK}
end
end L2
namespace Mir
open PySem PySem.Spec L2 RZ
section
variable {M : List Addr} {σ : St} {H : Hp} {tf : TE} {R : PV} {C : Addr} {fs : List (Str × PV)} {sp : Sp} {E : XK}
end
end Mir
namespace Mir
open PySem PySem.Spec L2 RZ
section
variable {K : PySem.W.Frag} {M M' : List Addr} {σ : St} {H : Hp} {ta tb : TE} {P : PV}
end
end Mir


/-! zip of a tuple and a list; a tuple of like things walked -/
namespace RZ
open L2 PySem PySem.Spec PyProof.Rows
end RZ
namespace Mir
open PySem PySem.Spec L2 RZ
section
variable {K : PySem.W.Frag} {M M' : List Addr} {σ : St} {H : Hp} {α β : Type} {F : α → PV} {G : β → PV} {a b : Addr}
end
end Mir


namespace L2
open PySem PySem.Spec PyProof.Rows
section
variable {X : Cx}
end
end L2
namespace Mir
open PySem PySem.Spec L2 RZ
/-- the rows of a list, each once -/
def once : List (List Int) → List (List Int)
  | [] => []
  | r :: rs => if r ∈ rs then once rs else r :: once rs
section
variable {K : PySem.W.Frag} {M M' : List Addr} {σ : St} {H : Hp} {ta tb tc te : TE} {P P' R : PV} {D : Ends} {tz : TS} {β : Type}
theorem pL.keep {Ps : List PV} {v : V} {H' : Hp} [mm : MonoA M Ps] (e : Ch M H H') (s : ∀ a ∈ M, a ∈ M') (h : pL K M' Ps v H) : pL K M' Ps v H' := by
  obtain ⟨a, vs, rfl, n, r, k⟩ := h
  exact ⟨a, vs, rfl, n, e.keep _ _ (fun m => n (s a m)) r, mm.mono e k⟩
theorem pL.sub {Ps : List PV} {v : V} (s : ∀ a ∈ M, a ∈ M') (h : pL K M' Ps v H) : pL K M Ps v H := by
  obtain ⟨a, vs, rfl, n, r, k⟩ := h
  exact ⟨a, vs, rfl, fun m => n (s a m), r, k⟩
instance {l : Addr} {Ps : List PV} [MonoA M Ps] : Mono M (pL K (l :: M) Ps) := ⟨fun e h => h.keep e fun _ m => List.mem_cons_of_mem _ m⟩
instance {l l2 : Addr} {Ps : List PV} [MonoA M Ps] : Mono M (pL K (l2 :: l :: M) Ps) := ⟨fun e h => h.keep e fun _ m => List.mem_cons_of_mem _ (List.mem_cons_of_mem _ m)⟩
/-- a new list -/
def pLn (H0 : Hp) (Ps : List PV) : PV := fun v H => ∃ a vs, v = .ref a ∧ H0 a = none ∧ RdL H a vs ∧ All2 Ps vs H
theorem pLn.l {Ps : List PV} {v : V} {H0 : Hp} (d : Dcs M H0) (h : pLn H0 Ps v H) : pL K M Ps v H := by
  obtain ⟨a, vs, e, z, r, k⟩ := h
  exact ⟨a, vs, e, d.ne z, r, k⟩
instance {H0 : Hp} {Ps : List PV} [mm : MonoA [] Ps] : Mono [] (pLn H0 Ps) := ⟨fun e h => by
  obtain ⟨a, vs, rfl, z, r, k⟩ := h
  exact ⟨a, vs, rfl, z, e.keep _ _ (fun m => nomatch m) r, mm.mono e k⟩⟩
instance {φ : β → Prop} {F : β → PV} [m : ∀ x, Mono M (F x)] : Mono M (pX φ F) := ⟨fun e h => by
  obtain ⟨x, f, p⟩ := h
  exact ⟨x, f, (m x).mono e p⟩⟩
end
end Mir


/-! mir16: comprehensions over triples; a number in a list; tuples in which instances stand, compared -/
namespace RZ
open PySem PySem.SeqAt L2
open AutoSeq1 (wpAny_loadPart')
open MeetsSeq MeetsSeq2 MeetsSeq3 SeqRoads2
section
variable {prg : Program} {wd : World} {B : Around} {Z : Result → Shared → Prop}
end
section
variable {prg : Program} {wd : World} {B : Around} {E : Value → Shared → Prop} {z : Shared}
end
end RZ
namespace L2
open PySem PySem.Spec PyProof.Rows
end L2
namespace Mir
open PySem PySem.Spec L2 RZ
section
variable {K : PySem.W.Frag} {M : List Addr} {σ : St} {H : Hp} {ta tb te : TE} {tt : TT} {wi : TI} {α : Type} {F G : α → PV}
end
end Mir
namespace Mir
open PySem PySem.Spec L2 RZ
section
variable {σ : St} {H : Hp} {te : TE} {sp : Sp} {E : XK} {P : PV}
end
end Mir
namespace Mir
open PySem PySem.Spec L2 RZ
section
variable {M : List Addr} {σ : St} {H : Hp} {te : TE} {tt : TT} {wi : TI} {β : Type} {φ : β → Prop} {Ps : β → List PV} {R : β → PV}
end
end Mir
namespace Mir
open PySem PySem.Spec L2 RZ
section
variable {K : PySem.W.Frag} {M : List Addr} {σ : St} {H : Hp} {ta tb : TE} {P P' : PV}
end
end Mir


namespace R
open PySem PySem.Spec L2 Mir TL RZ
def topS (i : Nat) : Stmt := PySem.Challenge.pw_twinsheets_k03_polynomials_told.main.body.getD i (.Pass ⟨0, 0, 0, 0⟩)
abbrev s_is_integer : Stmt := topS 11
abbrev s_is_within : Stmt := topS 12
abbrev s_is_prime : Stmt := topS 13
abbrev s_check_prime : Stmt := topS 14
abbrev s_check_count : Stmt := topS 15
abbrev s_trimmed : Stmt := topS 21
abbrev s_row_number : Stmt := topS 22
abbrev s_row_at : Stmt := topS 23
abbrev s_row_value : Stmt := topS 35
abbrev s_Made___init__ : Stmt := inClass (topS 41) 0
abbrev s_Poly___init__ : Stmt := inClass (topS 42) 0
abbrev s_Poly_read : Stmt := inClass (topS 42) 1
abbrev s_Poly_number : Stmt := inClass (topS 42) 2
abbrev s_Poly___call__ : Stmt := inClass (topS 42) 9
abbrev s_Poly___getitem__ : Stmt := inClass (topS 42) 10
abbrev s_Poly___eq__ : Stmt := inClass (topS 42) 12
abbrev s_Poly___str__ : Stmt := inClass (topS 42) 13
abbrev s_poly_at : Stmt := topS 43
abbrev s_poly_of : Stmt := topS 44
abbrev s_is_row : Stmt := topS 45
abbrev s_are_entries : Stmt := topS 46
abbrev s_check_residue : Stmt := topS 48
abbrev s_terms_of : Stmt := topS 50
abbrev s_term_text : Stmt := topS 51
abbrev s_row_told : Stmt := topS 52
abbrev s_terms_told : Stmt := topS 53
abbrev s_entry_told : Stmt := topS 54
abbrev s_power_told : Stmt := topS 55
abbrev s_is_number : Stmt := topS 56
abbrev s_is_lesser : Stmt := topS 57
abbrev s__law_dice : Stmt := topS 59
abbrev s__law_roll : Stmt := topS 60
abbrev s__law_pick : Stmt := topS 61
abbrev s__law_worth : Stmt := topS 62
abbrev s__law_row_drawn : Stmt := topS 63
abbrev s__law_text : Stmt := topS 64
abbrev s__law_number : Stmt := topS 65
abbrev s__law_any_row : Stmt := topS 66
abbrev s__law_is_told : Stmt := topS 67
abbrev s__law_right : Stmt := topS 68
abbrev s_law : Stmt := topS 69
structure Cl where
  Poly : Addr
  Made : Addr
abbrev top60 : Int := 999999999999999999999999999999999999999999999999999999999999
def primes : List Int := [3, 5, 7, 11, 13, 17, 19, 23, 29, 31]
/-- a polynomial: its prime, its entries -/
structure Pol where
  p : Int
  r : List Int
instance : Inhabited Pol := ⟨⟨0, []⟩⟩
/-- a polynomial of a prime, with residues as entries -/
structure RowOk (p : Int) (r : List Int) : Prop where
  len : r.length ≤ 1000
  res : ∀ e ∈ r, 0 ≤ e ∧ e < p
  last : r.getLast? ≠ some 0
structure Okp (x : Pol) : Prop where
  pr : 3 ≤ x.p ∧ x.p ≤ 31
  mem : x.p ∈ primes
  row : RowOk x.p x.r
theorem Okp.few {x : Pol} (h : Okp x) : x.r.length ≤ 1000 ∧ ∀ e ∈ x.r, 0 ≤ e ∧ e ≤ 31 := ⟨h.row.len, fun e he => by have := h.row.res e he; have := h.pr; omega⟩
theorem Okp.pos {x : Pol} (h : Okp x) : 0 < x.p ∧ x.r.length ≤ 2000 := ⟨by have := h.pr; omega, by have := h.row.len; omega⟩
def deg (x : Pol) : Int := (x.r.length : Int) - 1
def lead (x : Pol) : Int := if (!(x.r).isEmpty) = true then ixd x.r (-1 : Int) else (0 : Int)
def isZero (x : Pol) : Bool := !(!(x.r).isEmpty)
def isMonic (x : Pol) : Bool := decide (lead x = (1 : Int))
def polyF (K : PySem.W.Frag) (x : Pol) : List (Str × PV) := [("is_monic", pB (isMonic x)), ("is_zero", pB (isZero x)), ("lead", pI (lead x)), ("degree", pI (deg x)), ("entries", pRow K x.r), ("prime", pI x.p)]
def pPoly (K : PySem.W.Frag) (Cc : Cl) (x : Pol) : PV := pObj Cc.Poly (polyF K x)
def pMade (K : PySem.W.Frag) (Cc : Cl) (r : List Int) : PV := pObj Cc.Made [("row", pRow K r)]
instance {K : PySem.W.Frag} {x : Pol} : FzF (polyF K x) := inferInstanceAs (FzF [("is_monic", pB (isMonic x)), ("is_zero", pB (isZero x)), ("lead", pI (lead x)), ("degree", pI (deg x)), ("entries", pRow K x.r), ("prime", pI x.p)])
instance {K : PySem.W.Frag} {Cc : Cl} {x : Pol} : FzP (pPoly K Cc x) := inferInstanceAs (FzP (pObj Cc.Poly (polyF K x)))
instance {K : PySem.W.Frag} {Cc : Cl} {r : List Int} : FzP (pMade K Cc r) := inferInstanceAs (FzP (pObj Cc.Made [("row", pRow K r)]))

theorem log_small {n : Int} (h : n.natAbs < 100000) : n.natAbs.log2 < 1920 := Nat.lt_of_lt_of_le (PySem.Flt.log2_lt_of (by decide) (show n.natAbs < 2 ^ 17 by omega)) (by decide)
open TL
theorem numlen {n : Int} (h0 : 0 ≤ n) (h : n < 100000) : (Str.ofString (toString n)).length ≤ 5 := by
  obtain ⟨k, rfl⟩ : ∃ k : Nat, n = (k : Int) := ⟨n.toNat, by omega⟩
  rw [len_tl, tl_num]
  exact numL_len (by decide) (by omega)
theorem strsz {z : Str} (h : z.length ≤ 1000) : z.cps.toList.length ≤ 100000 := by
  rw [Array.length_toList]
  exact Nat.le_trans h (by decide)
theorem numsz {n : Int} (h : 0 ≤ n ∧ n < 100000) : (Str.ofString (toString n)).length ≤ sizeLine := Nat.le_trans (numlen h.1 h.2) (by decide)
theorem one_lt (a b : Nat) : decide (([a] : List Nat) < [b]) = decide (a < b) := decide_eq_decide.mpr ⟨fun h => by
  rcases List.cons_lt_cons_iff.mp h with h | ⟨_, h⟩
  · exact h
  · exact absurd h (by simp), fun h => List.cons_lt_cons_iff.mpr (.inl h)⟩
/-- a number's entries are few -/
theorem few {p n : Int} {l N : Nat} (hp : 3 ≤ p) (hn : 0 < n) (h : n.toNat * 2 ^ l ≤ N) : (n / p).toNat * 2 ^ (l + 1) ≤ N := by
  have h1 : n / p * 2 ≤ n := by
    have := Int.ediv_mul_le n (show p ≠ 0 by omega)
    have h0 : 0 ≤ n / p := Int.ediv_nonneg (by omega) (by omega)
    have : n / p * 2 ≤ n / p * p := Int.mul_le_mul_of_nonneg_left (by omega) h0
    omega
  have h0 : 0 ≤ n / p := Int.ediv_nonneg (by omega) (by omega)
  have h2 : (n / p).toNat * 2 ≤ n.toNat := by omega
  rw [Nat.pow_succ, Nat.mul_comm (2 ^ l) 2, ← Nat.mul_assoc]
  exact Nat.le_trans (Nat.mul_le_mul_right _ h2) h
theorem few_len {n : Int} {l N : Nat} (hn : 0 < n) (h : n.toNat * 2 ^ l ≤ N) (hN : N < 2 ^ 400) : l < 400 := by
  by_cases c : l < 400
  · exact c
  · have : 2 ^ 400 ≤ 2 ^ l := Nat.pow_le_pow_right (by omega) (by omega)
    have : 1 * 2 ^ l ≤ n.toNat * 2 ^ l := Nat.mul_le_mul_right _ (by omega)
    omega
theorem div_less {p n : Int} (hp : 3 ≤ p) (hn : 0 < n) : 0 ≤ n / p ∧ n / p < n := by
  refine ⟨Int.ediv_nonneg (by omega) (by omega), ?_⟩
  exact Int.ediv_lt_self_of_pos_of_ne_one hn (by omega)

theorem dig1 (c : Nat) : (!decide (((⟨#[c]⟩ : Str)).cps.toList < ("0" : Str).cps.toList) && !decide (("9" : Str).cps.toList < ((⟨#[c]⟩ : Str)).cps.toList)) = (decide (48 ≤ c) && decide (c ≤ 57)) := by
  have e0 : ("0" : Str).cps.toList = [48] := by decide +kernel
  have e9 : ("9" : Str).cps.toList = [57] := by decide +kernel
  rw [e0, e9]
  show (!decide ([c] < [48]) && !decide ([57] < [c])) = _
  rw [one_lt, one_lt]
  by_cases h1 : 48 ≤ c
  · by_cases h2 : c ≤ 57
    · simp [h1, h2]
    · simp [h1, h2]; omega
  · simp [h1]
theorem alldig {z : Str} (h : (List.map (fun c => (!decide (((⟨#[c]⟩ : Str)).cps.toList < ("0" : Str).cps.toList) && !decide (("9" : Str).cps.toList < ((⟨#[c]⟩ : Str)).cps.toList))) z.cps.toList).all id = true) : NumText.AllDigits z.cps.toList := by
  intro c hc
  rw [List.all_map, List.all_eq_true] at h
  have := h c hc
  simp only [Function.comp, id] at this
  rw [dig1] at this
  simpa using this
theorem strlen_app (a b : Str) : (a ++ b).length = a.length + b.length := by
  show (a.cps ++ b.cps).size = _
  rw [Array.size_append]
  rfl
theorem text1 {e : Int} (h : 0 ≤ e ∧ e ≤ 31) : (List.map Str.length [if decide (e = (1 : Int)) = true then ("" : Str) else Str.ofString (toString e), ("x" : Str)]).sum ≤ sizeLine := by
  refine Evl.sz_of ?_
  have l1 : ("x" : Str).length = 1 := by decide +kernel
  have l0 : ("" : Str).length = 0 := by decide +kernel
  have := numlen h.1 (by omega)
  simp only [List.map_cons, List.map_nil, List.sum_cons, List.sum_nil, l1]
  split
  · rw [l0]
    omega
  · omega
theorem text2 {e p : Int} (h : 0 ≤ e ∧ e ≤ 31) (h2 : 0 ≤ p ∧ p ≤ 1000) : (List.map Str.length [if decide (e = (1 : Int)) = true then ("" : Str) else Str.ofString (toString e), ("x^" : Str), Str.ofString (toString p)]).sum ≤ sizeLine := by
  refine Evl.sz_of ?_
  have l1 : ("x^" : Str).length = 2 := by decide +kernel
  have l0 : ("" : Str).length = 0 := by decide +kernel
  have := numlen h.1 (by omega)
  have := numlen h2.1 (by omega)
  simp only [List.map_cons, List.map_nil, List.sum_cons, List.sum_nil, l1]
  split
  · rw [l0]
    omega
  · omega
theorem text0 {e : Int} (h : 0 ≤ e ∧ e ≤ 31) : (if decide (e = (1 : Int)) = true then ("" : Str) else Str.ofString (toString e)).length ≤ sizeLine := by
  have l0 : ("" : Str).length = 0 := by decide +kernel
  split
  · rw [l0]
    exact Nat.zero_le _
  · exact numsz ⟨h.1, by omega⟩
theorem mem_down {hi lo x : Int} (h : x ∈ idown hi lo) : lo < x ∧ x ≤ hi := by
  unfold idown at h
  obtain ⟨i, hi2, rfl⟩ := List.mem_map.mp h
  have := List.mem_range.mp hi2
  omega
theorem mem_irange {hi lo x : Int} (h : x ∈ irange lo hi) : lo ≤ x ∧ x < hi := by
  unfold irange at h
  obtain ⟨i, hi2, rfl⟩ := List.mem_map.mp h
  have := List.mem_range.mp hi2
  omega
theorem ix_down {r : List Int} {x : Int} (h : x ∈ idown ((r.length : Int) - 1) (-1)) : inb r.length x := by
  have := mem_down h
  exact ⟨by omega, by omega⟩
theorem ixd_mem {r : List Int} {x : Int} (h : inb r.length x) : ixd r x ∈ r := by
  obtain ⟨j, e, l⟩ := ixN_in h
  unfold ixd atI
  rw [e]
  show (r[j]?).getD default ∈ r
  rw [List.getElem?_eq_getElem l]
  exact List.getElem_mem l
theorem term_ok {r : List Int} {x : Int} (h : r.length ≤ 1000 ∧ ∀ e ∈ r, 0 ≤ e ∧ e ≤ 31) (hx : x ∈ idown ((r.length : Int) - 1) (-1)) : 0 ≤ ixd r x ∧ ixd r x ≤ 31 ∧ 0 ≤ x ∧ x ≤ 1000 := by
  have h1 := h.2 _ (ixd_mem (ix_down hx))
  have h2 := mem_down hx
  omega
theorem sep_len (a b : Str) (hb : tl b ≠ []) (h : b.length ≤ 1000) : (Txt.partition a b).2.1.length ≤ 1000 := by
  rw [partition_par a b hb]
  cases e : par (tl b) [] (tl a) with
  | none => exact Nat.zero_le _
  | some q => exact h
/-! lengths of a text's parts -/
theorem cutS_len {z : Str} {lo hi : Option Int} {n : Nat} (h : z.length ≤ n) : (cutS z lo hi).length ≤ n := Nat.le_trans (cutS_length z lo hi) h
theorem par_len {S : List Nat} : ∀ (L acc a b : List Nat), par S acc L = some (a, b) → a.length + b.length ≤ acc.length + L.length
  | [], acc, a, b, h => by simp [par] at h
  | c :: r, acc, a, b, h => by
    cases e : pre S (c :: r) with
    | true =>
      rw [par_hit e] at h
      cases h
      rw [List.length_drop]
      omega
    | false =>
      rw [par_miss e] at h
      have := par_len r (acc ++ [c]) a b h
      simp only [List.length_append, List.length_cons, List.length_nil] at this ⊢
      omega
theorem part_len (a b : Str) (hb : tl b ≠ []) : (Txt.partition a b).1.length ≤ a.length ∧ (Txt.partition a b).2.2.length ≤ a.length := by
  rw [partition_par a b hb]
  cases e : par (tl b) [] (tl a) with
  | none =>
    refine ⟨Nat.le_refl _, ?_⟩
    show Str.empty.length ≤ _
    exact Nat.zero_le _
  | some q =>
    obtain ⟨x, y⟩ := q
    have := par_len _ _ _ _ e
    rw [len_tl a]
    simp only [List.length_nil] at this
    exact ⟨by show x.toArray.size ≤ _; rw [List.size_toArray]; omega, by show y.toArray.size ≤ _; rw [List.size_toArray]; omega⟩
theorem spl_len {S : List Nat} : ∀ (L acc : List Nat) (k : Nat), ∀ p ∈ spl S k acc L, p.length ≤ acc.length + L.length
  | [], acc, k, p, h => by
    rw [spl_nil] at h
    rw [List.mem_singleton.mp h]
    simp
  | c :: r, acc, k + 1, p, h => by
    have h2 : p ∈ spl S k acc r := h
    have := spl_len r acc k p h2
    simp only [List.length_cons]
    omega
  | c :: r, acc, 0, p, h => by
    cases e : pre S (c :: r) with
    | true =>
      rw [spl_hit e] at h
      rcases List.mem_cons.mp h with rfl | h
      · simp
      · have := spl_len r [] _ p h
        simp only [List.length_cons, List.length_nil] at this ⊢
        omega
    | false =>
      rw [spl_miss e] at h
      have := spl_len r (acc ++ [c]) 0 p h
      simp only [List.length_append, List.length_cons, List.length_nil] at this ⊢
      omega
theorem split_len (x y : Str) (hy : tl y ≠ []) (hk : y.cps.all (· < 256) = true) {p : Str} (h : p ∈ Txt.split x y) : p.length ≤ x.length := by
  have e := split_spl x y hy (kind_ok hk)
  have h2 : tl p ∈ (Txt.split x y).map tl := List.mem_map.mpr ⟨p, h, rfl⟩
  rw [e] at h2
  have := spl_len _ _ _ _ h2
  rw [len_tl, len_tl]
  simpa using this

theorem down_len {r : List Int} (h : r.length ≤ 1000) : (idown ((r.length : Int) - 1) (-1)).length ≤ 100000 := by
  unfold idown
  rw [List.length_map, List.length_range]
  omega
theorem num400 {n : Int} (h : 0 ≤ n ∧ n ≤ top60) : n.toNat < 2 ^ 400 := by
  have : top60.toNat < 2 ^ 400 := by decide +kernel
  unfold top60 at *
  omega
structure Txt (K : PySem.W.Frag) (mg : Str → Option Value) where
  C : Cl
  f_is_integer : Addr
  fd_is_integer : FuncData
  F_is_integer : Fun K "is_integer" "is_integer" s_is_integer f_is_integer fd_is_integer
  b_is_integer : Binds K fd_is_integer ["value"] []
  g_is_integer : mg "is_integer" = some (.ref f_is_integer)
  f_is_within : Addr
  fd_is_within : FuncData
  F_is_within : Fun K "is_within" "is_within" s_is_within f_is_within fd_is_within
  b_is_within : Binds K fd_is_within ["value", "low", "high"] []
  g_is_within : mg "is_within" = some (.ref f_is_within)
  f_is_prime : Addr
  fd_is_prime : FuncData
  F_is_prime : Fun K "is_prime" "is_prime" s_is_prime f_is_prime fd_is_prime
  b_is_prime : Binds K fd_is_prime ["value"] []
  g_is_prime : mg "is_prime" = some (.ref f_is_prime)
  f_check_prime : Addr
  fd_check_prime : FuncData
  F_check_prime : Fun K "check_prime" "check_prime" s_check_prime f_check_prime fd_check_prime
  b_check_prime : Binds K fd_check_prime ["prime"] []
  g_check_prime : mg "check_prime" = some (.ref f_check_prime)
  f_check_count : Addr
  fd_check_count : FuncData
  F_check_count : Fun K "check_count" "check_count" s_check_count f_check_count fd_check_count
  b_check_count : Binds K fd_check_count ["value", "low", "high"] []
  g_check_count : mg "check_count" = some (.ref f_check_count)
  f_trimmed : Addr
  fd_trimmed : FuncData
  F_trimmed : Fun K "trimmed" "trimmed" s_trimmed f_trimmed fd_trimmed
  b_trimmed : Binds K fd_trimmed ["entries"] []
  g_trimmed : mg "trimmed" = some (.ref f_trimmed)
  f_row_number : Addr
  fd_row_number : FuncData
  F_row_number : Fun K "row_number" "row_number" s_row_number f_row_number fd_row_number
  b_row_number : Binds K fd_row_number ["prime", "row"] []
  g_row_number : mg "row_number" = some (.ref f_row_number)
  f_row_at : Addr
  fd_row_at : FuncData
  F_row_at : Fun K "row_at" "row_at" s_row_at f_row_at fd_row_at
  b_row_at : Binds K fd_row_at ["prime", "number"] []
  g_row_at : mg "row_at" = some (.ref f_row_at)
  f_row_value : Addr
  fd_row_value : FuncData
  F_row_value : Fun K "row_value" "row_value" s_row_value f_row_value fd_row_value
  b_row_value : Binds K fd_row_value ["prime", "row", "residue"] []
  g_row_value : mg "row_value" = some (.ref f_row_value)
  f_Made___init__ : Addr
  fd_Made___init__ : FuncData
  F_Made___init__ : Fun K "__init__" "Made.__init__" s_Made___init__ f_Made___init__ fd_Made___init__
  b_Made___init__ : Binds K fd_Made___init__ ["self", "row"] []
  f_Poly___init__ : Addr
  fd_Poly___init__ : FuncData
  F_Poly___init__ : Fun K "__init__" "Poly.__init__" s_Poly___init__ f_Poly___init__ fd_Poly___init__
  b_Poly___init__ : Binds K fd_Poly___init__ ["self", "prime", "entries"] []
  f_Poly_read : Addr
  fd_Poly_read : FuncData
  F_Poly_read : Fun K "read" "Poly.read" s_Poly_read f_Poly_read fd_Poly_read
  b_Poly_read : Binds K fd_Poly_read ["cls", "prime", "text"] []
  f_Poly_number : Addr
  fd_Poly_number : FuncData
  F_Poly_number : Fun K "number" "Poly.number" s_Poly_number f_Poly_number fd_Poly_number
  b_Poly_number : Binds K fd_Poly_number ["self"] []
  f_Poly___call__ : Addr
  fd_Poly___call__ : FuncData
  F_Poly___call__ : Fun K "__call__" "Poly.__call__" s_Poly___call__ f_Poly___call__ fd_Poly___call__
  b_Poly___call__ : Binds K fd_Poly___call__ ["self", "residue"] []
  f_Poly___getitem__ : Addr
  fd_Poly___getitem__ : FuncData
  F_Poly___getitem__ : Fun K "__getitem__" "Poly.__getitem__" s_Poly___getitem__ f_Poly___getitem__ fd_Poly___getitem__
  b_Poly___getitem__ : Binds K fd_Poly___getitem__ ["self", "power"] []
  f_Poly___eq__ : Addr
  fd_Poly___eq__ : FuncData
  F_Poly___eq__ : Fun K "__eq__" "Poly.__eq__" s_Poly___eq__ f_Poly___eq__ fd_Poly___eq__
  b_Poly___eq__ : Binds K fd_Poly___eq__ ["self", "other"] []
  f_Poly___str__ : Addr
  fd_Poly___str__ : FuncData
  F_Poly___str__ : Fun K "__str__" "Poly.__str__" s_Poly___str__ f_Poly___str__ fd_Poly___str__
  b_Poly___str__ : Binds K fd_Poly___str__ ["self"] []
  f_poly_at : Addr
  fd_poly_at : FuncData
  F_poly_at : Fun K "poly_at" "poly_at" s_poly_at f_poly_at fd_poly_at
  b_poly_at : Binds K fd_poly_at ["prime", "number"] []
  g_poly_at : mg "poly_at" = some (.ref f_poly_at)
  f_poly_of : Addr
  fd_poly_of : FuncData
  F_poly_of : Fun K "poly_of" "poly_of" s_poly_of f_poly_of fd_poly_of
  b_poly_of : Binds K fd_poly_of ["prime", "row"] []
  g_poly_of : mg "poly_of" = some (.ref f_poly_of)
  f_is_row : Addr
  fd_is_row : FuncData
  F_is_row : Fun K "is_row" "is_row" s_is_row f_is_row fd_is_row
  b_is_row : Binds K fd_is_row ["prime", "value"] []
  g_is_row : mg "is_row" = some (.ref f_is_row)
  f_are_entries : Addr
  fd_are_entries : FuncData
  F_are_entries : Fun K "are_entries" "are_entries" s_are_entries f_are_entries fd_are_entries
  b_are_entries : Binds K fd_are_entries ["prime", "value"] []
  g_are_entries : mg "are_entries" = some (.ref f_are_entries)
  f_check_residue : Addr
  fd_check_residue : FuncData
  F_check_residue : Fun K "check_residue" "check_residue" s_check_residue f_check_residue fd_check_residue
  b_check_residue : Binds K fd_check_residue ["prime", "value"] []
  g_check_residue : mg "check_residue" = some (.ref f_check_residue)
  f_terms_of : Addr
  fd_terms_of : FuncData
  F_terms_of : Fun K "terms_of" "terms_of" s_terms_of f_terms_of fd_terms_of
  b_terms_of : Binds K fd_terms_of ["row"] []
  g_terms_of : mg "terms_of" = some (.ref f_terms_of)
  f_term_text : Addr
  fd_term_text : FuncData
  F_term_text : Fun K "term_text" "term_text" s_term_text f_term_text fd_term_text
  b_term_text : Binds K fd_term_text ["entry", "power"] []
  g_term_text : mg "term_text" = some (.ref f_term_text)
  f_row_told : Addr
  fd_row_told : FuncData
  F_row_told : Fun K "row_told" "row_told" s_row_told f_row_told fd_row_told
  b_row_told : Binds K fd_row_told ["prime", "text"] []
  g_row_told : mg "row_told" = some (.ref f_row_told)
  f_terms_told : Addr
  fd_terms_told : FuncData
  F_terms_told : Fun K "terms_told" "terms_told" s_terms_told f_terms_told fd_terms_told
  b_terms_told : Binds K fd_terms_told ["prime", "text"] []
  g_terms_told : mg "terms_told" = some (.ref f_terms_told)
  f_entry_told : Addr
  fd_entry_told : FuncData
  F_entry_told : Fun K "entry_told" "entry_told" s_entry_told f_entry_told fd_entry_told
  b_entry_told : Binds K fd_entry_told ["ahead", "sign"] []
  g_entry_told : mg "entry_told" = some (.ref f_entry_told)
  f_power_told : Addr
  fd_power_told : FuncData
  F_power_told : Fun K "power_told" "power_told" s_power_told f_power_told fd_power_told
  b_power_told : Binds K fd_power_told ["sign", "behind"] []
  g_power_told : mg "power_told" = some (.ref f_power_told)
  f_is_number : Addr
  fd_is_number : FuncData
  F_is_number : Fun K "is_number" "is_number" s_is_number f_is_number fd_is_number
  b_is_number : Binds K fd_is_number ["text"] []
  g_is_number : mg "is_number" = some (.ref f_is_number)
  f_is_lesser : Addr
  fd_is_lesser : FuncData
  F_is_lesser : Fun K "is_lesser" "is_lesser" s_is_lesser f_is_lesser fd_is_lesser
  b_is_lesser : Binds K fd_is_lesser ["digits", "other"] []
  g_is_lesser : mg "is_lesser" = some (.ref f_is_lesser)
  f__law_dice : Addr
  fd__law_dice : FuncData
  F__law_dice : Fun K "_law_dice" "_law_dice" s__law_dice f__law_dice fd__law_dice
  b__law_dice : Binds K fd__law_dice ["_law_script", "_law_spot"] []
  g__law_dice : mg "_law_dice" = some (.ref f__law_dice)
  f__law_roll : Addr
  fd__law_roll : FuncData
  F__law_roll : Fun K "_law_roll" "_law_roll" s__law_roll f__law_roll fd__law_roll
  b__law_roll : Binds K fd__law_roll ["_law_dice_here", "_law_total"] []
  g__law_roll : mg "_law_roll" = some (.ref f__law_roll)
  f__law_pick : Addr
  fd__law_pick : FuncData
  F__law_pick : Fun K "_law_pick" "_law_pick" s__law_pick f__law_pick fd__law_pick
  b__law_pick : Binds K fd__law_pick ["_law_dice_here", "_law_items"] []
  g__law_pick : mg "_law_pick" = some (.ref f__law_pick)
  f__law_worth : Addr
  fd__law_worth : FuncData
  F__law_worth : Fun K "_law_worth" "_law_worth" s__law_worth f__law_worth fd__law_worth
  b__law_worth : Binds K fd__law_worth ["_law_prime", "_law_row", "_law_number_here"] []
  g__law_worth : mg "_law_worth" = some (.ref f__law_worth)
  f__law_row_drawn : Addr
  fd__law_row_drawn : FuncData
  F__law_row_drawn : Fun K "_law_row_drawn" "_law_row_drawn" s__law_row_drawn f__law_row_drawn fd__law_row_drawn
  b__law_row_drawn : Binds K fd__law_row_drawn ["_law_dice_here", "_law_prime", "_law_degree"] []
  g__law_row_drawn : mg "_law_row_drawn" = some (.ref f__law_row_drawn)
  f__law_text : Addr
  fd__law_text : FuncData
  F__law_text : Fun K "_law_text" "_law_text" s__law_text f__law_text fd__law_text
  b__law_text : Binds K fd__law_text ["_law_row"] []
  g__law_text : mg "_law_text" = some (.ref f__law_text)
  f__law_number : Addr
  fd__law_number : FuncData
  F__law_number : Fun K "_law_number" "_law_number" s__law_number f__law_number fd__law_number
  b__law_number : Binds K fd__law_number ["_law_prime", "_law_row"] []
  g__law_number : mg "_law_number" = some (.ref f__law_number)
  f__law_any_row : Addr
  fd__law_any_row : FuncData
  F__law_any_row : Fun K "_law_any_row" "_law_any_row" s__law_any_row f__law_any_row fd__law_any_row
  b__law_any_row : Binds K fd__law_any_row ["_law_dice_here", "_law_prime"] []
  g__law_any_row : mg "_law_any_row" = some (.ref f__law_any_row)
  f__law_is_told : Addr
  fd__law_is_told : FuncData
  F__law_is_told : Fun K "_law_is_told" "_law_is_told" s__law_is_told f__law_is_told fd__law_is_told
  b__law_is_told : Binds K fd__law_is_told ["_law_prime", "_law_row"] []
  g__law_is_told : mg "_law_is_told" = some (.ref f__law_is_told)
  f__law_right : Addr
  fd__law_right : FuncData
  F__law_right : Fun K "_law_right" "_law_right" s__law_right f__law_right fd__law_right
  b__law_right : Binds K fd__law_right ["_law_dice_here"] []
  g__law_right : mg "_law_right" = some (.ref f__law_right)
  f_law : Addr
  fd_law : FuncData
  F_law : Fun K "law" "law" s_law f_law fd_law
  b_law : Binds K fd_law ["_law_script"] []
  g_law : mg "law" = some (.ref f_law)
  z_int : mg "int" = none
  z_len : mg "len" = none
  z_range : mg "range" = none
  z_str : mg "str" = none
  z_all : mg "all" = none
  z_list : mg "list" = none
  z_min : mg "min" = none
  z_max : mg "max" = none
  z_bool : mg "bool" = none
  z_isinstance : mg "isinstance" = none
  z_tuple : mg "tuple" = none
  z_abs : mg "abs" = none
  mk_Poly : Mk K C.Poly f_Poly___init__
  g_Poly : mg "Poly" = some (.ref C.Poly)
  cl_Poly : Cls K C.Poly
  n_Poly_prime : NoAttr K C.Poly "prime"
  n_Poly_entries : NoAttr K C.Poly "entries"
  n_Poly_degree : NoAttr K C.Poly "degree"
  n_Poly_lead : NoAttr K C.Poly "lead"
  pa_Poly_number : Addr
  pr_Poly_number : PropOf K C.Poly "number" pa_Poly_number f_Poly_number
  is_Poly : IsC K C.Poly
  nf_Poly__ref_C_Poly : PySem.W.notFirst K C.Poly (.ref C.Poly) = true
  ne_Poly : PySem.W.findIn K (.ref C.Poly) "__ne__" = some (some (.builtin "object.__ne__"))
  ob_Poly : PySem.W.subIn K (.ref C.Poly) (.type "object") = some true
  s1_Poly___eq__ : Spec1 K C.Poly f_Poly___eq__ "__eq__"
  s1_Poly___str__ : Spec1 K C.Poly f_Poly___str__ "__str__"
  cr_Poly : ClX.CRead K C.Poly (.type "type")
  pc_Poly_read : Addr
  cm_Poly_read : ClX.CMet K C.Poly (.type "type") "read" pc_Poly_read f_Poly_read
  n_Poly_is_zero : NoAttr K C.Poly "is_zero"
  n_Poly_is_monic : NoAttr K C.Poly "is_monic"
  s1_Poly___call__ : Spec1 K C.Poly f_Poly___call__ "__call__"
  fi_Poly___call__ : PySem.W.fnIn K f_Poly___call__ = true
  s1_Poly___getitem__ : Spec1 K C.Poly f_Poly___getitem__ "__getitem__"
  fi_Poly___getitem__ : PySem.W.fnIn K f_Poly___getitem__ = true
  nf_Poly__type_tuple_ : PySem.W.notFirst K C.Poly (.type "tuple") = true
  nf_Poly__type_str_ : PySem.W.notFirst K C.Poly (.type "str") = true
  nf_Poly__type_int_ : PySem.W.notFirst K C.Poly (.type "int") = true
  mk_Made : Mk K C.Made f_Made___init__
  cl_Made : Cls K C.Made
  n_Made_row : NoAttr K C.Made "row"
  is_Made : IsC K C.Made
  g_Made : mg "Made" = some (.ref C.Made)
  i__type_tuple__Made : PySem.W.kitOne K (.type "tuple") (.ref C.Made) = some false
  i__type_tuple__Poly : PySem.W.kitOne K (.type "tuple") (.ref C.Poly) = some false
  i__type_str__Poly : PySem.W.kitOne K (.type "str") (.ref C.Poly) = some false
  i__type_int__Poly : PySem.W.kitOne K (.type "int") (.ref C.Poly) = some false
  a_PRIMES : Addr
  g_PRIMES : mg "PRIMES" = some (.ref a_PRIMES)
  q_PRIMES : ∀ H, SqT K H a_PRIMES (primes.map V.int)
  t_MAX_INTEGER : Tok
  g_MAX_INTEGER : mg "MAX_INTEGER" = some (.int 999999999999999999999999999999999999999999999999999999999999 t_MAX_INTEGER)
  t_MAX_ENTRIES : Tok
  g_MAX_ENTRIES : mg "MAX_ENTRIES" = some (.int 1000 t_MAX_ENTRIES)
  t__MAX_POWER : Tok
  g__MAX_POWER : mg "_MAX_POWER" = some (.int 1000 t__MAX_POWER)
  t__MAX_DIGITS : Tok
  g__MAX_DIGITS : mg "_MAX_DIGITS" = some (.int 2 t__MAX_DIGITS)
  t_LONG : Tok
  g_LONG : mg "LONG" = some (.int 24 t_LONG)
  t_LONG_DIVIDED : Tok
  g_LONG_DIVIDED : mg "LONG_DIVIDED" = some (.int 80 t_LONG_DIVIDED)
end R

namespace R
open PySem PySem.Spec L2 Mir TL RZ
def m_is_integer (a_value : Int) : Bool := (if (false || false) = true then false else (decide ((-(top60 : Int)) ≤ a_value) && decide (a_value ≤ (top60 : Int))))
def sp_is_integer (K : PySem.W.Frag) (Cc : Cl) : Sp := fun vs H Q _ => ∃ (a_value : Int) (v_value : V), vs = [v_value] ∧ (pI a_value) v_value H ∧ (True) ∧ ∀ u H', Ch [] H H' → Dcs [] H' → (pB (m_is_integer a_value)) u H' → Q u H'
abbrev N_is_integer : List Str := ["value"]
theorem sc_is_integer : FnScope N_is_integer ["value"] (defScope s_is_integer) := ⟨rfl, rfl, rfl, by decide +kernel, rfl, by decide +kernel, by decide +kernel⟩
section
variable {P : Program} {w : World} {K : PySem.W.Frag} {mg : Str → Option Value} {base : Heap}
theorem ok_is_integer (T : Txt K mg) : FnOk P w K mg base CX0 1 T.f_is_integer T.fd_is_integer ["value"] (sp_is_integer K T.C) := by
  refine T.F_is_integer.ok sc_is_integer (fun vs H Q E h => ?_) (fun cdv A outer s H vs Q E hr h => ?_)
  · obtain ⟨a_value, v_value, rfl, h_value, hpre, q⟩ := h
    rfl
  · obtain ⟨a_value, v_value, rfl, h_value, hpre, q⟩ := h
    refine ⟨_, (pss_cons (ps_if (PW.pt (pw_or (pt_val (pe_callB (call_isiK' K) (by rfl) T.z_isinstance (by decide +kernel) (pa_cons (pv 0) (pa_cons (pe_bltn (v := V.ty "bool") (by rfl) T.z_bool (by decide +kernel) rfl) pa_nil)))) (pw_or1 (pt_not (pt_val (pe_callB (call_isiK' K) (by rfl) T.z_isinstance (by decide +kernel) (pa_cons (pv 0) (pa_cons (pe_bltn (v := V.ty "int") (by rfl) T.z_int (by decide +kernel) rfl) pa_nil)))))))) (pss_one (ps_ret pe_bl)) pss_nil)
        (pss_one (ps_ret (pe_chain op_le op_le (pe_un un_neg (pe_glob (v := V.int top60) (by rfl) T.g_MAX_INTEGER ⟨_, rfl⟩)) (pv 0) (pe_glob (v := V.int top60) (by rfl) T.g_MAX_INTEGER ⟨_, rfl⟩))))), ?_⟩
    have c0 : Ch [] H H := .refl H
    have d0 : Dcs [] H := .nil
    have hq := m_is_integer.eq_1 a_value
    refine q_if (eb_or (eb_val (ev_isi (ea_cons (ev_var rfl h_value) (ea_cons (ev_ty (M := []) (c := V.ty "bool")) ea_nil)) (fun _ _ h => Tyd.ty (K := K) h) (.ty _) (kit_ty (show kitB "int" "bool" = some false by decide +kernel)))) (fun hb1 => (eb_not (eb_val (ev_isi (ea_cons (ev_var rfl h_value) (ea_cons (ev_ty (M := []) (c := V.ty "int")) ea_nil)) (fun _ _ h => Tyd.ty (K := K) h) (.ty _) (kit_ty (show kitB "int" "int" = some true by decide +kernel))))))) d0 ?_ ?_
    · intro hb6 H3 e4 d5
      have h_value := (Mono.mono e4 h_value)
      have c0 := c0.trans e4
      have hq := hq.trans (if_pos hb6)
      try simp only [decide_eq_true_eq, decide_eq_false_iff_not, Bool.not_eq_true', Bool.not_eq_false', Bool.and_eq_true, Bool.or_eq_false_iff, bne_iff_ne, bne_eq_false_iff_eq, ne_eq, Int.not_lt, Int.not_le] at hb6
      exact s_ret ev_bl d5 (fun v7 H8 e9 d10 h11 => q v7 H8 (c0.trans e9) d10 (tgt (F := pB) hq h11))
    · intro hb15 H12 e13 d14
      have h_value := (Mono.mono e13 h_value)
      have c0 := c0.trans e13
      have hq := hq.trans (ne_true hb15)
      try simp only [decide_eq_true_eq, decide_eq_false_iff_not, Bool.not_eq_true', Bool.not_eq_false', Bool.and_eq_true, Bool.or_eq_false_iff, bne_iff_ne, bne_eq_false_iff_eq, ne_eq, Int.not_lt, Int.not_le] at hb15
      exact s_ret (ev_chain (ev_neg (ev_int (i := top60))) (ev_var rfl h_value) (ev_int (i := top60))) d14 (fun v16 H17 e18 d19 h20 => q v16 H17 (c0.trans e18) d19 (tgt (F := pB) hq h20))
theorem cv_is_integer {Cc : Cl} {M : List Addr} {E : XK} {vs : List V} {H1 : Hp} {a_value : Int} (pre : (True)) (d : Dcs M H1) (k : All2 [(pI a_value)] vs H1) (Q : VK) (q : ∀ v H2, Ch M H1 H2 → Dcs M H2 → (pB (m_is_integer a_value)) v H2 → Q v H2) : sp_is_integer K Cc vs H1 Q E := by
  obtain ⟨v_value, rfl, h_value⟩ := all1 k
  exact ⟨a_value, v_value, rfl, h_value, pre, fun u H' c _ r => q u H' c.any (d.new c.same) r⟩
theorem ev_is_integer {Cc : Cl} {M : List Addr} {σ : St} {H : Hp} {tr : TA} {E : XK} {a_value : Int} (h : EvA M tr σ H [(pI a_value)]) (pre : (True)) : EvP M (tCall (sp_is_integer K Cc) [] E tr) σ H (pB (m_is_integer a_value)) := ev_call h fun vs H1 d k Q q => cv_is_integer pre d k Q q
end
end R

namespace R
open PySem PySem.Spec L2 Mir TL RZ
def m_trimmed_for1 (f1_entries : List Int) : Nat → Int → Int
  | 0, m1_size => m1_size
  | k1_ + 1, m1_size => (if ((m1_size != 0) && (decide ((ixd f1_entries (m1_size - (1 : Int))) = (0 : Int)))) = true then (m_trimmed_for1 f1_entries k1_ (m1_size - (1 : Int))) else m1_size)
def m_trimmed (a_entries : List Int) : List Int := (cutA a_entries none (some (m_trimmed_for1 (a_entries) ((((((a_entries).length : Int))).toNat) + 1) (((a_entries).length : Int)))))
def sp_trimmed (K : PySem.W.Frag) (Cc : Cl) : Sp := fun vs H Q _ => ∃ (a_entries : List Int) (v_entries : V), vs = [v_entries] ∧ (pL K [] (List.map pI a_entries)) v_entries H ∧ (a_entries.length ≤ 5000) ∧ ∀ u H', Ch [] H H' → Dcs [] H' → (pRow K (m_trimmed a_entries)) u H' → Q u H'
abbrev N_trimmed : List Str := ["entries", "size"]
theorem sc_trimmed : FnScope N_trimmed ["entries"] (defScope s_trimmed) := ⟨rfl, rfl, rfl, by decide +kernel, rfl, by decide +kernel, by decide +kernel⟩
section
variable {P : Program} {w : World} {K : PySem.W.Frag} {mg : Str → Option Value} {base : Heap}
theorem ok_trimmed (T : Txt K mg) : FnOk P w K mg base CX0 1 T.f_trimmed T.fd_trimmed ["entries"] (sp_trimmed K T.C) := by
  refine T.F_trimmed.ok sc_trimmed (fun vs H Q E h => ?_) (fun cdv A outer s H vs Q E hr h => ?_)
  · obtain ⟨a_entries, v_entries, rfl, h_entries, hpre, q⟩ := h
    rfl
  · obtain ⟨a_entries, v_entries, rfl, h_entries, hpre, q⟩ := h
    refine ⟨_, (pss_cons (ps_set (i := 1) sc_trimmed.nd rfl (Or.inl rfl) (pe_callB (call_len_seqK K) (by rfl) T.z_len (by decide +kernel) (pa_cons (pv 0) pa_nil)))
        (pss_cons (ps_while PassesOwn.never (PW.pt (pw_and (pt_truthK K (pv 1) (by intro _; rfl)) (pw_and1 (pt_cmpR op_eq (pe_ix (ix_listK K) (pv 0) (pe_op op_sub (pv 1) pe_int) (fun _ _ => rfl)) pe_int (nomark _))))) (pss_one (ps_set (i := 1) sc_trimmed.nd rfl (Or.inl rfl) (pe_op op_sub (pv 1) pe_int))))
        (pss_one (ps_ret (pe_callTy (call_tuple_ofK K) (by rfl) T.z_tuple (by decide +kernel) (pa_cons (pe_slice (sl_listK K) (pv 0) po_none (po_some (pv 1))) pa_nil)))))), ?_⟩
    have c0 : Ch [] H H := .refl H
    have d0 : Dcs [] H := .nil
    have hq := m_trimmed.eq_1 a_entries
    refine q_asg (ev_lenL (F := pI) (ea_cons (ev_var rfl h_entries) ea_nil)) d0 (fun v1 H2 e3 d4 h_5 => ?_)
    have h_entries := (Mono.mono e3 h_entries)
    have c0 := c0.trans e3
    refine q_while (M := []) (fun k1_ sg1_ Hc1_ => ∃ (m1_size : Int) (w1_size : V), sg1_ = [some v_entries, some w1_size] ∧ Ch ([]) H2 Hc1_ ∧ Ch ([]) H Hc1_ ∧ Dcs [] Hc1_ ∧ (pI m1_size) w1_size Hc1_ ∧ (((m1_size)).toNat) < k1_ ∧ (0 ≤ (m1_size) ∧ (m1_size) ≤ (a_entries.length : Int)) ∧ (m_trimmed_for1 (a_entries) ((((((a_entries).length : Int))).toNat) + 1) (((a_entries).length : Int))) = m_trimmed_for1 (a_entries) k1_ m1_size) ((((((a_entries).length : Int))).toNat) + 1) ⟨((a_entries).length : Int), _, rfl, .refl _, c0, d4, h_5, Nat.lt_succ_self _, (by omega), rfl⟩ ?_
    rintro k1_ sg1_ Hc1_ ⟨m1_size, w1_size, rfl, cH1_, c0, d1_, h1_size, hlt1, hinv1, hs1⟩
    obtain ⟨k1_, rfl⟩ : ∃ j, k1_ = j + 1 := ⟨k1_ - 1, by omega⟩
    have h_entries := (Mono.mono cH1_ h_entries)
    have hs1 := hs1.trans (m_trimmed_for1.eq_2 _ _ _)
    refine ⟨_, (eb_and (eb_tru (ev_var rfl h1_size) (fun _ _ p => tru_int p)) (fun hb6 => (eb_test (ev_eqI (ev_ixL (F := pI) (ev_var rfl h_entries) (ev_sub (ev_var rfl h1_size) ev_int) (by first | exact ⟨by omega, by omega⟩ | (refine inb_last ?_; intro hnil; simp [hnil] at *; done) | omega | assumption | decide | (simp only [decide_eq_true_eq, decide_eq_false_iff_not, Bool.not_eq_true', Bool.not_eq_false', Bool.and_eq_true, Bool.or_eq_false_iff, bne_iff_ne, bne_eq_false_iff_eq, ne_eq, Int.not_lt, Int.not_le] at *; first | omega | exact ⟨by omega, by omega⟩))) ev_int)))), d1_, ?_, ?_⟩
    · intro hb24 H8 e9 d10
      have h_entries := (Mono.mono e9 h_entries)
      have h1_size := (Mono.mono e9 h1_size)
      have c0 := c0.trans e9
      have cH1_ := cH1_.trans e9
      have hs1 := hs1.trans (if_pos hb24)
      try simp only [decide_eq_true_eq, decide_eq_false_iff_not, Bool.not_eq_true', Bool.not_eq_false', Bool.and_eq_true, Bool.or_eq_false_iff, bne_iff_ne, bne_eq_false_iff_eq, ne_eq, Int.not_lt, Int.not_le] at hb24
      refine ⟨k1_, Nat.lt_succ_self k1_, ?_⟩
      refine s_asg (ev_sub (ev_var rfl h1_size) ev_int) d10 (fun v11 H12 e13 d14 h_15 => ?_)
      have h_entries := (Mono.mono e13 h_entries)
      have h1_size := (Mono.mono e13 h1_size)
      have c0 := c0.trans e13
      have cH1_ := cH1_.trans e13
      exact ⟨(m1_size - (1 : Int)), v11, rfl, cH1_, c0, d14, h_15, (by omega), (by omega), hs1⟩
    · intro hb25 H16 e17 d18
      have h_entries := (Mono.mono e17 h_entries)
      have h1_size := (Mono.mono e17 h1_size)
      have c0 := c0.trans e17
      have cH1_ := cH1_.trans e17
      have hs1 := hs1.trans (ne_true hb25)
      try simp only [decide_eq_true_eq, decide_eq_false_iff_not, Bool.not_eq_true', Bool.not_eq_false', Bool.and_eq_true, Bool.or_eq_false_iff, bne_iff_ne, bne_eq_false_iff_eq, ne_eq, Int.not_lt, Int.not_le] at hb25
      subst hs1
      exact s_ret (ev_tupR (ea_cons (ev_slL (F := pI) (ev_var rfl h_entries) eo_none (eo_some (ev_var rfl h1_size))) ea_nil)) d18 (fun v19 H20 e21 d22 h23 => q v19 H20 (c0.trans e21) d22 (tgt (F := (pRow K)) hq h23))
theorem cv_trimmed {Cc : Cl} {M : List Addr} {E : XK} {vs : List V} {H1 : Hp} {a_entries : List Int} (pre : (a_entries.length ≤ 5000)) (d : Dcs M H1) (k : All2 [(pL K M (List.map pI a_entries))] vs H1) (Q : VK) (q : ∀ v H2, Ch M H1 H2 → Dcs M H2 → (pRow K (m_trimmed a_entries)) v H2 → Q v H2) : sp_trimmed K Cc vs H1 Q E := by
  obtain ⟨v_entries, rfl, h_entries⟩ := all1 k
  exact ⟨a_entries, v_entries, rfl, (pL.less h_entries), pre, fun u H' c _ r => q u H' c.any (d.new c.same) r⟩
theorem ev_trimmed {Cc : Cl} {M : List Addr} {σ : St} {H : Hp} {tr : TA} {E : XK} {a_entries : List Int} (h : EvA M tr σ H [(pL K M (List.map pI a_entries))]) (pre : (a_entries.length ≤ 5000)) : EvP M (tCall (sp_trimmed K Cc) [] E tr) σ H (pRow K (m_trimmed a_entries)) := ev_call h fun vs H1 d k Q q => cv_trimmed pre d k Q q
end
end R

namespace R
open PySem PySem.Spec L2 Mir TL RZ
def m_row_number_for1 (f1_prime : Int) (f1_row : List Int) : List Int → Int → Int
  | [], m1_number => m1_number
  | x1_ :: r1_, m1_number => (m_row_number_for1 f1_prime f1_row r1_ ((m1_number * f1_prime) + x1_))
def m_row_number (a_prime : Int) (a_row : List Int) : Int := (m_row_number_for1 (a_prime) (a_row) ((a_row).reverse) ((0 : Int)))
def sp_row_number (K : PySem.W.Frag) (Cc : Cl) : Sp := fun vs H Q _ => ∃ (a_prime : Int) (a_row : List Int) (v_prime v_row : V), vs = [v_prime, v_row] ∧ (pI a_prime) v_prime H ∧ (pRow K a_row) v_row H ∧ (3 ≤ a_prime ∧ a_prime ≤ 31) ∧ ∀ u H', Ch [] H H' → Dcs [] H' → (pI (m_row_number a_prime a_row)) u H' → Q u H'
abbrev N_row_number : List Str := ["prime", "row", "number", "entry"]
theorem sc_row_number : FnScope N_row_number ["prime", "row"] (defScope s_row_number) := ⟨rfl, rfl, rfl, by decide +kernel, rfl, by decide +kernel, by decide +kernel⟩
section
variable {P : Program} {w : World} {K : PySem.W.Frag} {mg : Str → Option Value} {base : Heap}
theorem ok_row_number (T : Txt K mg) : FnOk P w K mg base CX0 1 T.f_row_number T.fd_row_number ["prime", "row"] (sp_row_number K T.C) := by
  refine T.F_row_number.ok sc_row_number (fun vs H Q E h => ?_) (fun cdv A outer s H vs Q E hr h => ?_)
  · obtain ⟨a_prime, a_row, v_prime, v_row, rfl, h_prime, h_row, hpre, q⟩ := h
    rfl
  · obtain ⟨a_prime, a_row, v_prime, v_row, rfl, h_prime, h_row, hpre, q⟩ := h
    refine ⟨_, (pss_cons (ps_set (i := 2) sc_row_number.nd rfl (Or.inl rfl) pe_int)
        (pss_cons (ps_for PassesOwn.never rfl (pi_tupK K (pe_revTK K (pv 1))) (pg_name (i := 3) sc_row_number.nd rfl (Or.inl rfl)) (pss_one (ps_set (i := 2) sc_row_number.nd rfl (Or.inl rfl) (pe_op op_add (pe_op op_mul (pv 2) (pv 0)) (pv 3)))))
        (pss_one (ps_ret (pv 2))))), ?_⟩
    have c0 : Ch [] H H := .refl H
    have d0 : Dcs [] H := .nil
    have hq := m_row_number.eq_1 a_prime a_row
    refine q_asg ev_int d0 (fun v1 H2 e3 d4 h_5 => ?_)
    have h_prime := (Mono.mono e3 h_prime)
    have h_row := (Mono.mono e3 h_row)
    have c0 := c0.trans e3
    refine q_for (M' := ([])) (F := pI) (xs := (a_row).reverse) (src_row (ev_revR (ev_var rfl h_row))) d4 (fun Hs1_ r1_ sg1_ Hc1_ => ∃ (m1_number : Int) (w1_number : V) (o1_entry : Option V), sg1_ = [some v_prime, some v_row, some w1_number, o1_entry] ∧ Ch ([]) Hs1_ Hc1_ ∧ Ch ([]) H2 Hc1_ ∧ Ch ([]) H Hc1_ ∧ Dcs [] Hc1_ ∧ (pI m1_number) w1_number Hc1_ ∧ (m_row_number_for1 (a_prime) (a_row) ((a_row).reverse) ((0 : Int))) = m_row_number_for1 (a_prime) (a_row) r1_ m1_number) ?_ (fun _ _ _ _ h => ?_) ?_ ?_
    · intro H2 e2 d2
      exact ⟨(0 : Int), _, _, rfl, .refl _, e2, c0.trans e2, d2, Mono.mono e2 h_5, rfl⟩
    · obtain ⟨m1_number, w1_number, o1_entry, rfl, c21_, cH1_, c0, d1_, h1_number, hs1⟩ := h
      exact c21_
    · rintro Hs1_ x1_ r1_ v1_entry sg1_ Hx Hc1_ hx1 ⟨m1_number, w1_number, o1_entry, rfl, c21_, cH1_, c0, d1_, h1_number, hs1⟩ sm p1_entry
      have cs : Ch [] Hx Hc1_ := .of sm
      have d1_ := Dcs.new d1_ sm
      have h_prime := (Mono.mono (cH1_.trans (.of sm)) h_prime)
      have h_row := (Mono.mono (cH1_.trans (.of sm)) h_row)
      have h1_number := Mono.mono cs h1_number
      have c21_ := c21_.trans (.of sm)
      have cH1_ := cH1_.trans (.of sm)
      have c0 := c0.trans (.of sm)
      have hs1 := hs1.trans (m_row_number_for1.eq_2 _ _ _ _ _)
      refine s_asg (ev_add (ev_mul (ev_var rfl h1_number) (ev_var rfl h_prime) (by first | exact .inl ⟨by omega, by omega⟩ | exact .inr ⟨by omega, by omega⟩ | omega | assumption | decide | (simp only [decide_eq_true_eq, decide_eq_false_iff_not, Bool.not_eq_true', Bool.not_eq_false', Bool.and_eq_true, Bool.or_eq_false_iff, bne_iff_ne, bne_eq_false_iff_eq, ne_eq, Int.not_lt, Int.not_le] at *; first | omega | exact ⟨by omega, by omega⟩))) (ev_var rfl p1_entry)) d1_ (fun v6 H7 e8 d9 h_10 => ?_)
      have h_prime := (Mono.mono e8 h_prime)
      have h_row := (Mono.mono e8 h_row)
      have h1_number := (Mono.mono e8 h1_number)
      have p1_entry := (Mono.mono e8 p1_entry)
      have c0 := c0.trans e8
      have cH1_ := cH1_.trans e8
      have c21_ := c21_.trans e8
      exact ⟨((m1_number * (a_prime)) + x1_), v6, _, rfl, c21_, cH1_, c0, d9, h_10, hs1⟩
    · rintro Hs1_ sg1_ Hc1_ ⟨m1_number, w1_number, o1_entry, rfl, c21_, cH1_, c0, d1_, h1_number, hs1⟩
      have h_prime := (Mono.mono cH1_ h_prime)
      have h_row := (Mono.mono cH1_ h_row)
      have hs1 := hs1.trans (m_row_number_for1.eq_1 _ _ _)
      subst hs1
      exact s_ret (ev_var rfl h1_number) d1_ (fun v11 H12 e13 d14 h15 => q v11 H12 (c0.trans e13) d14 (tgt (F := pI) hq h15))
theorem cv_row_number {Cc : Cl} {M : List Addr} {E : XK} {vs : List V} {H1 : Hp} {a_prime : Int} {a_row : List Int} (pre : (3 ≤ a_prime ∧ a_prime ≤ 31)) (d : Dcs M H1) (k : All2 [(pI a_prime), (pRow K a_row)] vs H1) (Q : VK) (q : ∀ v H2, Ch M H1 H2 → Dcs M H2 → (pI (m_row_number a_prime a_row)) v H2 → Q v H2) : sp_row_number K Cc vs H1 Q E := by
  obtain ⟨v_prime, v_row, rfl, h_prime, h_row⟩ := all2 k
  exact ⟨a_prime, a_row, v_prime, v_row, rfl, h_prime, h_row, pre, fun u H' c _ r => q u H' c.any (d.new c.same) r⟩
theorem ev_row_number {Cc : Cl} {M : List Addr} {σ : St} {H : Hp} {tr : TA} {E : XK} {a_prime : Int} {a_row : List Int} (h : EvA M tr σ H [(pI a_prime), (pRow K a_row)]) (pre : (3 ≤ a_prime ∧ a_prime ≤ 31)) : EvP M (tCall (sp_row_number K Cc) [] E tr) σ H (pI (m_row_number a_prime a_row)) := ev_call h fun vs H1 d k Q q => cv_row_number pre d k Q q
end
end R

namespace R
open PySem PySem.Spec L2 Mir TL RZ
def m_row_at_for1 (f1_prime : Int) : Nat → Int → List Int → (Int × List Int)
  | 0, m1_number, m1_entries => (m1_number, m1_entries)
  | k1_ + 1, m1_number, m1_entries => (if (m1_number != 0) = true then (m_row_at_for1 f1_prime k1_ (m1_number / f1_prime) (m1_entries ++ [(m1_number % f1_prime)])) else (m1_number, m1_entries))
def m_row_at (a_prime : Int) (a_number : Int) : List Int := (m_row_at_for1 (a_prime) ((((a_number)).toNat) + 1) (a_number) (([] : List Int))).2
def sp_row_at (K : PySem.W.Frag) (Cc : Cl) : Sp := fun vs H Q _ => ∃ (a_prime : Int) (a_number : Int) (v_prime v_number : V), vs = [v_prime, v_number] ∧ (pI a_prime) v_prime H ∧ (pI a_number) v_number H ∧ (3 ≤ a_prime ∧ a_prime ≤ 31 ∧ 0 ≤ a_number ∧ (a_number).toNat < 2 ^ 400) ∧ ∀ u H', Ch [] H H' → Dcs [] H' → (pRow K (m_row_at a_prime a_number)) u H' → Q u H'
abbrev N_row_at : List Str := ["prime", "number", "entries"]
theorem sc_row_at : FnScope N_row_at ["prime", "number"] (defScope s_row_at) := ⟨rfl, rfl, rfl, by decide +kernel, rfl, by decide +kernel, by decide +kernel⟩
section
variable {P : Program} {w : World} {K : PySem.W.Frag} {mg : Str → Option Value} {base : Heap}
theorem ok_row_at (T : Txt K mg) : FnOk P w K mg base CX0 1 T.f_row_at T.fd_row_at ["prime", "number"] (sp_row_at K T.C) := by
  refine T.F_row_at.ok sc_row_at (fun vs H Q E h => ?_) (fun cdv A outer s H vs Q E hr h => ?_)
  · obtain ⟨a_prime, a_number, v_prime, v_number, rfl, h_prime, h_number, hpre, q⟩ := h
    rfl
  · obtain ⟨a_prime, a_number, v_prime, v_number, rfl, h_prime, h_number, hpre, q⟩ := h
    refine ⟨_, (pss_cons (ps_set (i := 2) sc_row_at.nd rfl (Or.inl rfl) (pe_lst pa_nil))
        (pss_cons (ps_while PassesOwn.never (pt_truthK K (pv 1) (by intro _; rfl)) (pss_cons (ps_expr (pe_bm PySem.F.plainAttrs_list PySem.F.slot_list_append PySem.F.type_list_append mt_append (pv 2) (pa_cons (pe_op op_mod (pv 1) (pv 0)) pa_nil)))
        (pss_one (ps_set (i := 1) sc_row_at.nd rfl (Or.inl rfl) (pe_op op_fdiv (pv 1) (pv 0))))))
        (pss_one (ps_ret (pe_callTy (call_tuple_ofK K) (by rfl) T.z_tuple (by decide +kernel) (pa_cons (pv 2) pa_nil)))))), ?_⟩
    have c0 : Ch [] H H := .refl H
    have d0 : Dcs [] H := .nil
    have hq := m_row_at.eq_1 a_prime a_number
    refine q_mut evf_nil d0 (fun l1 vs2 H3 u6_z u6_n e5 d6 u6_h u6_a => ?_)
    have u6_a : All2 (List.map pI ([] : List Int)) vs2 H3 := u6_a
    have u6_f := none_back c0 u6_z kk_nil
    have h_prime := (Mono.mono e5 h_prime)
    have h_number := (Mono.mono e5 h_number)
    have c0 := c0.trans e5
    have c0 : Ch (l1 :: _) _ _ := c0.more
    refine q_while (M := []) (fun k1_ sg1_ Hc1_ => ∃ (m1_number : Int) (w1_number : V) (m1_entries : List Int) (y1_entries : List V), sg1_ = [some v_prime, some w1_number, some (.ref l1)] ∧ Ch (l1 :: []) H3 Hc1_ ∧ Ch (l1 :: []) H Hc1_ ∧ Dcs [] Hc1_ ∧ (pI m1_number) w1_number Hc1_ ∧ Hc1_ l1 = some (.lst y1_entries) ∧ All2 (List.map pI m1_entries) y1_entries Hc1_ ∧ (((m1_number)).toNat) < k1_ ∧ (0 ≤ (m1_number) ∧ ((m1_number)).toNat * 2 ^ ((m1_entries)).length ≤ (a_number).toNat) ∧ (m_row_at_for1 (a_prime) ((((a_number)).toNat) + 1) (a_number) (([] : List Int))) = m_row_at_for1 (a_prime) k1_ m1_number m1_entries) ((((a_number)).toNat) + 1) ⟨a_number, _, ([] : List Int), _, rfl, .refl _, c0, d6, h_number, u6_h, u6_a, Nat.lt_succ_self _, (by exact ⟨by omega, by simp⟩), rfl⟩ ?_
    rintro k1_ sg1_ Hc1_ ⟨m1_number, w1_number, m1_entries, y1_entries, rfl, cH1_, c0, d1_, h1_number, u6_h, u6_a, hlt1, hinv1, hs1⟩
    obtain ⟨k1_, rfl⟩ : ∃ j, k1_ = j + 1 := ⟨k1_ - 1, by omega⟩
    have h_prime := (Mono.mono cH1_ h_prime)
    have hs1 := hs1.trans (m_row_at_for1.eq_2 _ _ _ _)
    refine ⟨_, (eb_tru (ev_var rfl h1_number) (fun _ _ p => tru_int p)), d1_, ?_, ?_⟩
    · intro hb27 H7 e8 d9
      have h_prime := (Mono.mono e8 h_prime)
      have h1_number := (Mono.mono e8 h1_number)
      have u6_h := e8.keep _ _ u6_n u6_h
      have u6_a := MonoA.mono e8 u6_a
      have c0 := c0.trans e8.more
      have cH1_ := cH1_.trans e8.more
      have hs1 := hs1.trans (if_pos hb27)
      try simp only [decide_eq_true_eq, decide_eq_false_iff_not, Bool.not_eq_true', Bool.not_eq_false', Bool.and_eq_true, Bool.or_eq_false_iff, bne_iff_ne, bne_eq_false_iff_eq, ne_eq, Int.not_lt, Int.not_le] at hb27
      refine ⟨k1_, Nat.lt_succ_self k1_, ?_⟩
      refine q_app' rfl u6_h u6_a u6_n (ev_mod (ev_var rfl h1_number) (ev_var rfl h_prime) (by first | omega | assumption | exact Nat.lt_trans (few_len (by omega) hinv1.2 (by omega)) (by decide) | exact ⟨by omega, by omega⟩ | decide | (simp only [decide_eq_true_eq, decide_eq_false_iff_not, Bool.not_eq_true', Bool.not_eq_false', Bool.and_eq_true, Bool.or_eq_false_iff, bne_iff_ne, bne_eq_false_iff_eq, ne_eq, Int.not_lt, Int.not_le] at *; first | omega | exact ⟨by omega, by omega⟩))) d9 (by simp only [List.length_map] <;> first | omega | assumption | exact Nat.lt_trans (few_len (by omega) hinv1.2 (by omega)) (by decide) | exact ⟨by omega, by omega⟩ | decide | (simp only [decide_eq_true_eq, decide_eq_false_iff_not, Bool.not_eq_true', Bool.not_eq_false', Bool.and_eq_true, Bool.or_eq_false_iff, bne_iff_ne, bne_eq_false_iff_eq, ne_eq, Int.not_lt, Int.not_le] at *; first | omega | exact ⟨by omega, by omega⟩)) (fun ys10 H11 e12 d13 u6_h u6_a => ?_)
      have u6_a : All2 (List.map pI (m1_entries ++ [(m1_number % (a_prime))])) ys10 H11 := app_map u6_a
      have h_prime := Mono.mono e12 h_prime
      have h1_number := Mono.mono e12 h1_number
      have c0 := c0.trans e12
      have cH1_ := cH1_.trans e12
      refine s_asg (ev_fdiv (ev_var rfl h1_number) (ev_var rfl h_prime) (by first | exact ⟨by omega, by omega⟩ | omega | assumption | exact Nat.lt_trans (few_len (by omega) hinv1.2 (by omega)) (by decide) | exact ⟨by omega, by omega⟩ | decide | (simp only [decide_eq_true_eq, decide_eq_false_iff_not, Bool.not_eq_true', Bool.not_eq_false', Bool.and_eq_true, Bool.or_eq_false_iff, bne_iff_ne, bne_eq_false_iff_eq, ne_eq, Int.not_lt, Int.not_le] at *; first | omega | exact ⟨by omega, by omega⟩))) d13 (fun v14 H15 e16 d17 h_18 => ?_)
      have h_prime := (Mono.mono e16 h_prime)
      have h1_number := (Mono.mono e16 h1_number)
      have u6_h := e16.keep _ _ u6_n u6_h
      have u6_a := MonoA.mono e16 u6_a
      have c0 := c0.trans e16.more
      have cH1_ := cH1_.trans e16.more
      exact ⟨(m1_number / (a_prime)), v14, (m1_entries ++ [(m1_number % (a_prime))]), _, rfl, cH1_, c0, d17, h_18, u6_h, u6_a, (by have := div_less (p := a_prime) (n := m1_number) (by omega) (by omega); omega), (by refine ⟨(div_less (p := a_prime) (n := m1_number) (by omega) (by omega)).1, ?_⟩; rw [List.length_append, List.length_singleton]; exact few (by omega) (by omega) hinv1.2), hs1⟩
    · intro hb28 H19 e20 d21
      have h_prime := (Mono.mono e20 h_prime)
      have h1_number := (Mono.mono e20 h1_number)
      have u6_h := e20.keep _ _ u6_n u6_h
      have u6_a := MonoA.mono e20 u6_a
      have c0 := c0.trans e20.more
      have cH1_ := cH1_.trans e20.more
      have hs1 := hs1.trans (ne_true hb28)
      try simp only [decide_eq_true_eq, decide_eq_false_iff_not, Bool.not_eq_true', Bool.not_eq_false', Bool.and_eq_true, Bool.or_eq_false_iff, bne_iff_ne, bne_eq_false_iff_eq, ne_eq, Int.not_lt, Int.not_le] at hb28
      have ha0 : (m_row_at_for1 (a_prime) ((((a_number)).toNat) + 1) (a_number) (([] : List Int))).1 = m1_number := by rw [hs1]
      have ha1 : (m_row_at_for1 (a_prime) ((((a_number)).toNat) + 1) (a_number) (([] : List Int))).2 = m1_entries := by rw [hs1]
      subst ha0
      subst ha1
      exact s_ret (ev_tupR (ea_cons (ev_mut (K := K) rfl u6_h u6_a u6_n) ea_nil)) d21 (fun v22 H23 e24 d25 h26 => q v22 H23 ((c0.trans e24.more).drop u6_f) d25 (tgt (F := (pRow K)) hq h26))
theorem cv_row_at {Cc : Cl} {M : List Addr} {E : XK} {vs : List V} {H1 : Hp} {a_prime : Int} {a_number : Int} (pre : (3 ≤ a_prime ∧ a_prime ≤ 31 ∧ 0 ≤ a_number ∧ (a_number).toNat < 2 ^ 400)) (d : Dcs M H1) (k : All2 [(pI a_prime), (pI a_number)] vs H1) (Q : VK) (q : ∀ v H2, Ch M H1 H2 → Dcs M H2 → (pRow K (m_row_at a_prime a_number)) v H2 → Q v H2) : sp_row_at K Cc vs H1 Q E := by
  obtain ⟨v_prime, v_number, rfl, h_prime, h_number⟩ := all2 k
  exact ⟨a_prime, a_number, v_prime, v_number, rfl, h_prime, h_number, pre, fun u H' c _ r => q u H' c.any (d.new c.same) r⟩
theorem ev_row_at {Cc : Cl} {M : List Addr} {σ : St} {H : Hp} {tr : TA} {E : XK} {a_prime : Int} {a_number : Int} (h : EvA M tr σ H [(pI a_prime), (pI a_number)]) (pre : (3 ≤ a_prime ∧ a_prime ≤ 31 ∧ 0 ≤ a_number ∧ (a_number).toNat < 2 ^ 400)) : EvP M (tCall (sp_row_at K Cc) [] E tr) σ H (pRow K (m_row_at a_prime a_number)) := ev_call h fun vs H1 d k Q q => cv_row_at pre d k Q q
end
end R

namespace R
open PySem PySem.Spec L2 Mir TL RZ
def m_row_value_for1 (f1_prime : Int) (f1_row : List Int) (f1_residue : Int) : List Int → Int → Int
  | [], m1_total => m1_total
  | x1_ :: r1_, m1_total => (m_row_value_for1 f1_prime f1_row f1_residue r1_ (((m1_total * f1_residue) + x1_) % f1_prime))
def m_row_value (a_prime : Int) (a_row : List Int) (a_residue : Int) : Int := (m_row_value_for1 (a_prime) (a_row) (a_residue) ((a_row).reverse) ((0 : Int)))
def sp_row_value (K : PySem.W.Frag) (Cc : Cl) : Sp := fun vs H Q _ => ∃ (a_prime : Int) (a_row : List Int) (a_residue : Int) (v_prime v_row v_residue : V), vs = [v_prime, v_row, v_residue] ∧ (pI a_prime) v_prime H ∧ (pRow K a_row) v_row H ∧ (pI a_residue) v_residue H ∧ (3 ≤ a_prime ∧ a_prime ≤ 31 ∧ 0 ≤ a_residue ∧ a_residue < a_prime) ∧ ∀ u H', Ch [] H H' → Dcs [] H' → (pI (m_row_value a_prime a_row a_residue)) u H' → Q u H'
abbrev N_row_value : List Str := ["prime", "row", "residue", "total", "entry"]
theorem sc_row_value : FnScope N_row_value ["prime", "row", "residue"] (defScope s_row_value) := ⟨rfl, rfl, rfl, by decide +kernel, rfl, by decide +kernel, by decide +kernel⟩
section
variable {P : Program} {w : World} {K : PySem.W.Frag} {mg : Str → Option Value} {base : Heap}
theorem ok_row_value (T : Txt K mg) : FnOk P w K mg base CX0 1 T.f_row_value T.fd_row_value ["prime", "row", "residue"] (sp_row_value K T.C) := by
  refine T.F_row_value.ok sc_row_value (fun vs H Q E h => ?_) (fun cdv A outer s H vs Q E hr h => ?_)
  · obtain ⟨a_prime, a_row, a_residue, v_prime, v_row, v_residue, rfl, h_prime, h_row, h_residue, hpre, q⟩ := h
    rfl
  · obtain ⟨a_prime, a_row, a_residue, v_prime, v_row, v_residue, rfl, h_prime, h_row, h_residue, hpre, q⟩ := h
    refine ⟨_, (pss_cons (ps_set (i := 3) sc_row_value.nd rfl (Or.inl rfl) pe_int)
        (pss_cons (ps_for PassesOwn.never rfl (pi_tupK K (pe_revTK K (pv 1))) (pg_name (i := 4) sc_row_value.nd rfl (Or.inl rfl)) (pss_one (ps_set (i := 3) sc_row_value.nd rfl (Or.inl rfl) (pe_op op_mod (pe_op op_add (pe_op op_mul (pv 3) (pv 2)) (pv 4)) (pv 0)))))
        (pss_one (ps_ret (pv 3))))), ?_⟩
    have c0 : Ch [] H H := .refl H
    have d0 : Dcs [] H := .nil
    have hq := m_row_value.eq_1 a_prime a_row a_residue
    refine q_asg ev_int d0 (fun v1 H2 e3 d4 h_5 => ?_)
    have h_prime := (Mono.mono e3 h_prime)
    have h_row := (Mono.mono e3 h_row)
    have h_residue := (Mono.mono e3 h_residue)
    have c0 := c0.trans e3
    refine q_for (M' := ([])) (F := pI) (xs := (a_row).reverse) (src_row (ev_revR (ev_var rfl h_row))) d4 (fun Hs1_ r1_ sg1_ Hc1_ => ∃ (m1_total : Int) (w1_total : V) (o1_entry : Option V), sg1_ = [some v_prime, some v_row, some v_residue, some w1_total, o1_entry] ∧ Ch ([]) Hs1_ Hc1_ ∧ Ch ([]) H2 Hc1_ ∧ Ch ([]) H Hc1_ ∧ Dcs [] Hc1_ ∧ (pI m1_total) w1_total Hc1_ ∧ (m_row_value_for1 (a_prime) (a_row) (a_residue) ((a_row).reverse) ((0 : Int))) = m_row_value_for1 (a_prime) (a_row) (a_residue) r1_ m1_total) ?_ (fun _ _ _ _ h => ?_) ?_ ?_
    · intro H2 e2 d2
      exact ⟨(0 : Int), _, _, rfl, .refl _, e2, c0.trans e2, d2, Mono.mono e2 h_5, rfl⟩
    · obtain ⟨m1_total, w1_total, o1_entry, rfl, c21_, cH1_, c0, d1_, h1_total, hs1⟩ := h
      exact c21_
    · rintro Hs1_ x1_ r1_ v1_entry sg1_ Hx Hc1_ hx1 ⟨m1_total, w1_total, o1_entry, rfl, c21_, cH1_, c0, d1_, h1_total, hs1⟩ sm p1_entry
      have cs : Ch [] Hx Hc1_ := .of sm
      have d1_ := Dcs.new d1_ sm
      have h_prime := (Mono.mono (cH1_.trans (.of sm)) h_prime)
      have h_row := (Mono.mono (cH1_.trans (.of sm)) h_row)
      have h_residue := (Mono.mono (cH1_.trans (.of sm)) h_residue)
      have h1_total := Mono.mono cs h1_total
      have c21_ := c21_.trans (.of sm)
      have cH1_ := cH1_.trans (.of sm)
      have c0 := c0.trans (.of sm)
      have hs1 := hs1.trans (m_row_value_for1.eq_2 _ _ _ _ _ _)
      refine s_asg (ev_mod (ev_add (ev_mul (ev_var rfl h1_total) (ev_var rfl h_residue) (by first | exact .inl ⟨by omega, by omega⟩ | exact .inr ⟨by omega, by omega⟩ | omega | assumption | decide | (simp only [decide_eq_true_eq, decide_eq_false_iff_not, Bool.not_eq_true', Bool.not_eq_false', Bool.and_eq_true, Bool.or_eq_false_iff, bne_iff_ne, bne_eq_false_iff_eq, ne_eq, Int.not_lt, Int.not_le] at *; first | omega | exact ⟨by omega, by omega⟩))) (ev_var rfl p1_entry)) (ev_var rfl h_prime) (by first | omega | assumption | decide | (simp only [decide_eq_true_eq, decide_eq_false_iff_not, Bool.not_eq_true', Bool.not_eq_false', Bool.and_eq_true, Bool.or_eq_false_iff, bne_iff_ne, bne_eq_false_iff_eq, ne_eq, Int.not_lt, Int.not_le] at *; first | omega | exact ⟨by omega, by omega⟩))) d1_ (fun v6 H7 e8 d9 h_10 => ?_)
      have h_prime := (Mono.mono e8 h_prime)
      have h_row := (Mono.mono e8 h_row)
      have h_residue := (Mono.mono e8 h_residue)
      have h1_total := (Mono.mono e8 h1_total)
      have p1_entry := (Mono.mono e8 p1_entry)
      have c0 := c0.trans e8
      have cH1_ := cH1_.trans e8
      have c21_ := c21_.trans e8
      exact ⟨(((m1_total * (a_residue)) + x1_) % (a_prime)), v6, _, rfl, c21_, cH1_, c0, d9, h_10, hs1⟩
    · rintro Hs1_ sg1_ Hc1_ ⟨m1_total, w1_total, o1_entry, rfl, c21_, cH1_, c0, d1_, h1_total, hs1⟩
      have h_prime := (Mono.mono cH1_ h_prime)
      have h_row := (Mono.mono cH1_ h_row)
      have h_residue := (Mono.mono cH1_ h_residue)
      have hs1 := hs1.trans (m_row_value_for1.eq_1 _ _ _ _)
      subst hs1
      exact s_ret (ev_var rfl h1_total) d1_ (fun v11 H12 e13 d14 h15 => q v11 H12 (c0.trans e13) d14 (tgt (F := pI) hq h15))
theorem cv_row_value {Cc : Cl} {M : List Addr} {E : XK} {vs : List V} {H1 : Hp} {a_prime : Int} {a_row : List Int} {a_residue : Int} (pre : (3 ≤ a_prime ∧ a_prime ≤ 31 ∧ 0 ≤ a_residue ∧ a_residue < a_prime)) (d : Dcs M H1) (k : All2 [(pI a_prime), (pRow K a_row), (pI a_residue)] vs H1) (Q : VK) (q : ∀ v H2, Ch M H1 H2 → Dcs M H2 → (pI (m_row_value a_prime a_row a_residue)) v H2 → Q v H2) : sp_row_value K Cc vs H1 Q E := by
  obtain ⟨v_prime, v_row, v_residue, rfl, h_prime, h_row, h_residue⟩ := all3 k
  exact ⟨a_prime, a_row, a_residue, v_prime, v_row, v_residue, rfl, h_prime, h_row, h_residue, pre, fun u H' c _ r => q u H' c.any (d.new c.same) r⟩
theorem ev_row_value {Cc : Cl} {M : List Addr} {σ : St} {H : Hp} {tr : TA} {E : XK} {a_prime : Int} {a_row : List Int} {a_residue : Int} (h : EvA M tr σ H [(pI a_prime), (pRow K a_row), (pI a_residue)]) (pre : (3 ≤ a_prime ∧ a_prime ≤ 31 ∧ 0 ≤ a_residue ∧ a_residue < a_prime)) : EvP M (tCall (sp_row_value K Cc) [] E tr) σ H (pI (m_row_value a_prime a_row a_residue)) := ev_call h fun vs H1 d k Q q => cv_row_value pre d k Q q
end
end R

namespace R
open PySem PySem.Spec L2 Mir TL RZ
def m_Made___init__ (a_row : List Int) : List Int := a_row
def sp_Made___init__ (K : PySem.W.Frag) (Cc : Cl) : Sp := fun vs H Q _ => ∃ (H1 : Hp) (self dx : Addr) (a_row : List Int) (v_row : V), vs = [.ref self, v_row] ∧ H1 self = none ∧ Same H1 H ∧ H self = some (.ins Cc.Made dx []) ∧ (pRow K a_row) v_row H1 ∧ (True) ∧ ∀ H', Same H1 H' → (pMade K Cc (m_Made___init__ a_row)) (.ref self) H' → Q .non H'
abbrev N_Made___init__ : List Str := ["self", "row"]
theorem sc_Made___init__ : FnScope N_Made___init__ ["self", "row"] (defScope s_Made___init__) := ⟨rfl, rfl, rfl, by decide +kernel, rfl, by decide +kernel, by decide +kernel⟩
section
variable {P : Program} {w : World} {K : PySem.W.Frag} {mg : Str → Option Value} {base : Heap}
theorem ok_Made___init__ (T : Txt K mg) : FnOk P w K mg base CX0 1 T.f_Made___init__ T.fd_Made___init__ ["self", "row"] (sp_Made___init__ K T.C) := by
  refine T.F_Made___init__.ok sc_Made___init__ (fun vs H Q E h => ?_) (fun cdv A outer s H vs Q E hr h => ?_)
  · obtain ⟨H1, self, dx, a_row, v_row, rfl, hz, hs, hself, h_row, hpre, q⟩ := h
    rfl
  · obtain ⟨H1, self, dx, a_row, v_row, rfl, hz, hs, hself, h_row, hpre, q⟩ := h
    refine ⟨_, (pss_one (ps_fld (pv 0) (pv 1) rfl)), ?_⟩
    have cI : Ch [] H1 H := .of hs
    have I := Mk1.nil hself
    refine s_fld (P := (pRow K a_row)) rfl I (ev_var rfl (Mono.mono cI h_row)) T.cl_Made T.n_Made_row (by rfl) (by show 0 < 500; decide) (fun gs1 H2 c3 I' => ?_)
    have cI : Ch [] H1 H2 := .of (fun b o e => c3 b o (ne_of_none e hz) (cI.same b o e))
    have I := I'
    exact q _ cI.same I.obj
theorem ev_Made___init__ {Cc : Cl} {M : List Addr} {σ : St} {H : Hp} {tr : TA} {E : XK} {a_row : List Int} (h : EvA M tr σ H [(pRow K a_row)]) (pre : (True)) : EvP M (tMake Cc.Made (sp_Made___init__ K Cc) [] E tr) σ H (pMade K Cc (m_Made___init__ a_row)) := ev_make h fun vs H1 d k x dx hx hdx ne Q q => by
  obtain ⟨v_row, rfl, h_row⟩ := all1 k
  exact ⟨H1, x, dx, a_row, v_row, rfl, hx, same_made hx hdx, upd_same, h_row, pre, q⟩
end
end R

namespace R
open PySem PySem.Spec L2 Mir TL RZ
def m_Poly___eq__ (a_self : Pol) (a_other : Pol) : Bool := (true && ((decide ((a_self).p = (a_other).p)) && (decide ((a_self).r = (a_other).r))))
def sp_Poly___eq__ (K : PySem.W.Frag) (Cc : Cl) : Sp := fun vs H Q _ => ∃ (a_self : Pol) (a_other : Pol) (v_self v_other : V), vs = [v_self, v_other] ∧ (pPoly K Cc a_self) v_self H ∧ (pPoly K Cc a_other) v_other H ∧ (True) ∧ ∀ u H', Ch [] H H' → Dcs [] H' → (pB (m_Poly___eq__ a_self a_other)) u H' → Q u H'
abbrev N_Poly___eq__ : List Str := ["self", "other"]
theorem sc_Poly___eq__ : FnScope N_Poly___eq__ ["self", "other"] (defScope s_Poly___eq__) := ⟨rfl, rfl, rfl, by decide +kernel, rfl, by decide +kernel, by decide +kernel⟩
section
variable {P : Program} {w : World} {K : PySem.W.Frag} {mg : Str → Option Value} {base : Heap}
theorem ok_Poly___eq__ (T : Txt K mg) : FnOk P w K mg base CX0 1 T.f_Poly___eq__ T.fd_Poly___eq__ ["self", "other"] (sp_Poly___eq__ K T.C) := by
  refine T.F_Poly___eq__.ok sc_Poly___eq__ (fun vs H Q E h => ?_) (fun cdv A outer s H vs Q E hr h => ?_)
  · obtain ⟨a_self, a_other, v_self, v_other, rfl, h_self, h_other, hpre, q⟩ := h
    rfl
  · obtain ⟨a_self, a_other, v_self, v_other, rfl, h_self, h_other, hpre, q⟩ := h
    refine ⟨_, (pss_one (ps_ret (pe_and (pe_callB (call_isiK' K) (by rfl) T.z_isinstance (by decide +kernel) (pa_cons (pv 1) (pa_cons (pe_glob (v := V.ref T.C.Poly) (by rfl) T.g_Poly rfl) pa_nil))) (pe_and (pe_cmpR op_eq (pe_fldK K (pv 0) rfl) (pe_fldK K (pv 1) rfl) (nomark _)) (pe_one (pe_cmpR (op_eqDK K hr.units) (pe_fldK K (pv 0) rfl) (pe_fldK K (pv 1) rfl) (nomark _))))))), ?_⟩
    have c0 : Ch [] H H := .refl H
    have d0 : Dcs [] H := .nil
    have hq := m_Poly___eq__.eq_1 a_self a_other
    exact s_ret (ev_and (ev_isi (ea_cons (ev_var rfl h_other) (ea_cons (ev_ty (M := []) (c := V.ref T.C.Poly)) ea_nil)) (fun _ _ h => T.is_Poly.ty h) (.own _) kit_self) (fun hb1 => (ev_and (ev_eqI (ev_fld (P := (pI (a_self).p)) (ev_var rfl h_self) T.cl_Poly T.n_Poly_prime (by rfl)) (ev_fld (P := (pI (a_other).p)) (ev_var rfl h_other) T.cl_Poly T.n_Poly_prime (by rfl))) (fun hb2 => (ev_eqR (ev_fld (P := (pRow K (a_self).r)) (ev_var rfl h_self) T.cl_Poly T.n_Poly_entries (by rfl)) (ev_fld (P := (pRow K (a_other).r)) (ev_var rfl h_other) T.cl_Poly T.n_Poly_entries (by rfl))))))) d0 (fun v4 H5 e6 d7 h8 => q v4 H5 (c0.trans e6) d7 (tgt (F := pB) hq h8))
theorem cv_Poly___eq__ {Cc : Cl} {M : List Addr} {E : XK} {vs : List V} {H1 : Hp} {a_self : Pol} {a_other : Pol} (pre : (True)) (d : Dcs M H1) (k : All2 [(pPoly K Cc a_self), (pPoly K Cc a_other)] vs H1) (Q : VK) (q : ∀ v H2, Ch M H1 H2 → Dcs M H2 → (pB (m_Poly___eq__ a_self a_other)) v H2 → Q v H2) : sp_Poly___eq__ K Cc vs H1 Q E := by
  obtain ⟨v_self, v_other, rfl, h_self, h_other⟩ := all2 k
  exact ⟨a_self, a_other, v_self, v_other, rfl, h_self, h_other, pre, fun u H' c _ r => q u H' c.any (d.new c.same) r⟩
end
end R

namespace R
open PySem PySem.Spec L2 Mir TL RZ
def m_Poly___eq___V_row (a_self : Pol) (a_other : List Int) : Bool := false
def sp_Poly___eq___V_row (K : PySem.W.Frag) (Cc : Cl) : Sp := fun vs H Q _ => ∃ (a_self : Pol) (a_other : List Int) (v_self v_other : V), vs = [v_self, v_other] ∧ (pPoly K Cc a_self) v_self H ∧ (pRow K a_other) v_other H ∧ (True) ∧ ∀ u H', Ch [] H H' → Dcs [] H' → (pB (m_Poly___eq___V_row a_self a_other)) u H' → Q u H'
abbrev N_Poly___eq___V_row : List Str := ["self", "other"]
theorem sc_Poly___eq___V_row : FnScope N_Poly___eq___V_row ["self", "other"] (defScope s_Poly___eq__) := ⟨rfl, rfl, rfl, by decide +kernel, rfl, by decide +kernel, by decide +kernel⟩
section
variable {P : Program} {w : World} {K : PySem.W.Frag} {mg : Str → Option Value} {base : Heap}
theorem ok_Poly___eq___V_row (T : Txt K mg) : FnOk P w K mg base CX0 1 T.f_Poly___eq__ T.fd_Poly___eq__ ["self", "other"] (sp_Poly___eq___V_row K T.C) := by
  refine T.F_Poly___eq__.ok sc_Poly___eq___V_row (fun vs H Q E h => ?_) (fun cdv A outer s H vs Q E hr h => ?_)
  · obtain ⟨a_self, a_other, v_self, v_other, rfl, h_self, h_other, hpre, q⟩ := h
    rfl
  · obtain ⟨a_self, a_other, v_self, v_other, rfl, h_self, h_other, hpre, q⟩ := h
    refine ⟨_, (pss_one (ps_ret (pe_and (pe_callB (call_isiK' K) (by rfl) T.z_isinstance (by decide +kernel) (pa_cons (pv 1) (pa_cons (pe_glob (v := V.ref T.C.Poly) (by rfl) T.g_Poly rfl) pa_nil))) (pe_and (pe_cmpR op_eq (pe_fldK K (pv 0) rfl) (pe_fldK K (pv 1) rfl) (nomark _)) (pe_one (pe_cmpR op_eq (pe_fldK K (pv 0) rfl) (pe_fldK K (pv 1) rfl) (nomark _))))))), ?_⟩
    have c0 : Ch [] H H := .refl H
    have d0 : Dcs [] H := .nil
    have hq := m_Poly___eq___V_row.eq_1 a_self a_other
    exact s_ret (ev_and0 (ev_isi (ea_cons (ev_var rfl h_other) (ea_cons (ev_ty (M := []) (c := V.ref T.C.Poly)) ea_nil)) (fun _ _ h => Tyd.ty (K := K) h) (.own _) T.i__type_tuple__Poly)) d0 (fun v1 H2 e3 d4 h5 => q v1 H2 (c0.trans e3) d4 (tgt (F := pB) hq h5))
theorem cv_Poly___eq___V_row {Cc : Cl} {M : List Addr} {E : XK} {vs : List V} {H1 : Hp} {a_self : Pol} {a_other : List Int} (pre : (True)) (d : Dcs M H1) (k : All2 [(pPoly K Cc a_self), (pRow K a_other)] vs H1) (Q : VK) (q : ∀ v H2, Ch M H1 H2 → Dcs M H2 → (pB (m_Poly___eq___V_row a_self a_other)) v H2 → Q v H2) : sp_Poly___eq___V_row K Cc vs H1 Q E := by
  obtain ⟨v_self, v_other, rfl, h_self, h_other⟩ := all2 k
  exact ⟨a_self, a_other, v_self, v_other, rfl, h_self, h_other, pre, fun u H' c _ r => q u H' c.any (d.new c.same) r⟩
end
end R

namespace R
open PySem PySem.Spec L2 Mir TL RZ
def m_Poly___eq___V_str (a_self : Pol) (a_other : Str) : Bool := false
def sp_Poly___eq___V_str (K : PySem.W.Frag) (Cc : Cl) : Sp := fun vs H Q _ => ∃ (a_self : Pol) (a_other : Str) (v_self v_other : V), vs = [v_self, v_other] ∧ (pPoly K Cc a_self) v_self H ∧ (pS a_other) v_other H ∧ (True) ∧ ∀ u H', Ch [] H H' → Dcs [] H' → (pB (m_Poly___eq___V_str a_self a_other)) u H' → Q u H'
abbrev N_Poly___eq___V_str : List Str := ["self", "other"]
theorem sc_Poly___eq___V_str : FnScope N_Poly___eq___V_str ["self", "other"] (defScope s_Poly___eq__) := ⟨rfl, rfl, rfl, by decide +kernel, rfl, by decide +kernel, by decide +kernel⟩
section
variable {P : Program} {w : World} {K : PySem.W.Frag} {mg : Str → Option Value} {base : Heap}
theorem ok_Poly___eq___V_str (T : Txt K mg) : FnOk P w K mg base CX0 1 T.f_Poly___eq__ T.fd_Poly___eq__ ["self", "other"] (sp_Poly___eq___V_str K T.C) := by
  refine T.F_Poly___eq__.ok sc_Poly___eq___V_str (fun vs H Q E h => ?_) (fun cdv A outer s H vs Q E hr h => ?_)
  · obtain ⟨a_self, a_other, v_self, v_other, rfl, h_self, h_other, hpre, q⟩ := h
    rfl
  · obtain ⟨a_self, a_other, v_self, v_other, rfl, h_self, h_other, hpre, q⟩ := h
    refine ⟨_, (pss_one (ps_ret (pe_and (pe_callB (call_isiK' K) (by rfl) T.z_isinstance (by decide +kernel) (pa_cons (pv 1) (pa_cons (pe_glob (v := V.ref T.C.Poly) (by rfl) T.g_Poly rfl) pa_nil))) (pe_and (pe_cmpR op_eq (pe_fldK K (pv 0) rfl) (pe_fldK K (pv 1) rfl) (nomark _)) (pe_one (pe_cmpR op_eq (pe_fldK K (pv 0) rfl) (pe_fldK K (pv 1) rfl) (nomark _))))))), ?_⟩
    have c0 : Ch [] H H := .refl H
    have d0 : Dcs [] H := .nil
    have hq := m_Poly___eq___V_str.eq_1 a_self a_other
    exact s_ret (ev_and0 (ev_isi (ea_cons (ev_var rfl h_other) (ea_cons (ev_ty (M := []) (c := V.ref T.C.Poly)) ea_nil)) (fun _ _ h => Tyd.ty (K := K) h) (.own _) T.i__type_str__Poly)) d0 (fun v1 H2 e3 d4 h5 => q v1 H2 (c0.trans e3) d4 (tgt (F := pB) hq h5))
theorem cv_Poly___eq___V_str {Cc : Cl} {M : List Addr} {E : XK} {vs : List V} {H1 : Hp} {a_self : Pol} {a_other : Str} (pre : (True)) (d : Dcs M H1) (k : All2 [(pPoly K Cc a_self), (pS a_other)] vs H1) (Q : VK) (q : ∀ v H2, Ch M H1 H2 → Dcs M H2 → (pB (m_Poly___eq___V_str a_self a_other)) v H2 → Q v H2) : sp_Poly___eq___V_str K Cc vs H1 Q E := by
  obtain ⟨v_self, v_other, rfl, h_self, h_other⟩ := all2 k
  exact ⟨a_self, a_other, v_self, v_other, rfl, h_self, h_other, pre, fun u H' c _ r => q u H' c.any (d.new c.same) r⟩
end
end R

namespace R
open PySem PySem.Spec L2 Mir TL RZ
def m_Poly___eq___V_int (a_self : Pol) (a_other : Int) : Bool := false
def sp_Poly___eq___V_int (K : PySem.W.Frag) (Cc : Cl) : Sp := fun vs H Q _ => ∃ (a_self : Pol) (a_other : Int) (v_self v_other : V), vs = [v_self, v_other] ∧ (pPoly K Cc a_self) v_self H ∧ (pI a_other) v_other H ∧ (True) ∧ ∀ u H', Ch [] H H' → Dcs [] H' → (pB (m_Poly___eq___V_int a_self a_other)) u H' → Q u H'
abbrev N_Poly___eq___V_int : List Str := ["self", "other"]
theorem sc_Poly___eq___V_int : FnScope N_Poly___eq___V_int ["self", "other"] (defScope s_Poly___eq__) := ⟨rfl, rfl, rfl, by decide +kernel, rfl, by decide +kernel, by decide +kernel⟩
section
variable {P : Program} {w : World} {K : PySem.W.Frag} {mg : Str → Option Value} {base : Heap}
theorem ok_Poly___eq___V_int (T : Txt K mg) : FnOk P w K mg base CX0 1 T.f_Poly___eq__ T.fd_Poly___eq__ ["self", "other"] (sp_Poly___eq___V_int K T.C) := by
  refine T.F_Poly___eq__.ok sc_Poly___eq___V_int (fun vs H Q E h => ?_) (fun cdv A outer s H vs Q E hr h => ?_)
  · obtain ⟨a_self, a_other, v_self, v_other, rfl, h_self, h_other, hpre, q⟩ := h
    rfl
  · obtain ⟨a_self, a_other, v_self, v_other, rfl, h_self, h_other, hpre, q⟩ := h
    refine ⟨_, (pss_one (ps_ret (pe_and (pe_callB (call_isiK' K) (by rfl) T.z_isinstance (by decide +kernel) (pa_cons (pv 1) (pa_cons (pe_glob (v := V.ref T.C.Poly) (by rfl) T.g_Poly rfl) pa_nil))) (pe_and (pe_cmpR op_eq (pe_fldK K (pv 0) rfl) (pe_fldK K (pv 1) rfl) (nomark _)) (pe_one (pe_cmpR op_eq (pe_fldK K (pv 0) rfl) (pe_fldK K (pv 1) rfl) (nomark _))))))), ?_⟩
    have c0 : Ch [] H H := .refl H
    have d0 : Dcs [] H := .nil
    have hq := m_Poly___eq___V_int.eq_1 a_self a_other
    exact s_ret (ev_and0 (ev_isi (ea_cons (ev_var rfl h_other) (ea_cons (ev_ty (M := []) (c := V.ref T.C.Poly)) ea_nil)) (fun _ _ h => Tyd.ty (K := K) h) (.own _) T.i__type_int__Poly)) d0 (fun v1 H2 e3 d4 h5 => q v1 H2 (c0.trans e3) d4 (tgt (F := pB) hq h5))
theorem cv_Poly___eq___V_int {Cc : Cl} {M : List Addr} {E : XK} {vs : List V} {H1 : Hp} {a_self : Pol} {a_other : Int} (pre : (True)) (d : Dcs M H1) (k : All2 [(pPoly K Cc a_self), (pI a_other)] vs H1) (Q : VK) (q : ∀ v H2, Ch M H1 H2 → Dcs M H2 → (pB (m_Poly___eq___V_int a_self a_other)) v H2 → Q v H2) : sp_Poly___eq___V_int K Cc vs H1 Q E := by
  obtain ⟨v_self, v_other, rfl, h_self, h_other⟩ := all2 k
  exact ⟨a_self, a_other, v_self, v_other, rfl, h_self, h_other, pre, fun u H' c _ r => q u H' c.any (d.new c.same) r⟩
end
end R

namespace R
open PySem PySem.Spec L2 Mir TL RZ
def m_term_text (a_entry : Int) (a_power : Int) : Str := (if (decide (a_power = (0 : Int))) = true then (Str.ofString (toString (a_entry : Int))) else (if (decide (a_power = (1 : Int))) = true then (joinedS [(if (decide (a_entry = (1 : Int))) = true then ("" : Str) else (Str.ofString (toString (a_entry : Int)))), ("x" : Str)]) else (joinedS [(if (decide (a_entry = (1 : Int))) = true then ("" : Str) else (Str.ofString (toString (a_entry : Int)))), ("x^" : Str), (Str.ofString (toString (a_power : Int)))])))
def sp_term_text (K : PySem.W.Frag) (Cc : Cl) : Sp := fun vs H Q _ => ∃ (a_entry : Int) (a_power : Int) (v_entry v_power : V), vs = [v_entry, v_power] ∧ (pI a_entry) v_entry H ∧ (pI a_power) v_power H ∧ (0 ≤ a_entry ∧ a_entry ≤ 31 ∧ 0 ≤ a_power ∧ a_power ≤ 1000) ∧ ∀ u H', Ch [] H H' → Dcs [] H' → (pS (m_term_text a_entry a_power)) u H' → Q u H'
abbrev N_term_text : List Str := ["entry", "power", "ahead"]
theorem sc_term_text : FnScope N_term_text ["entry", "power"] (defScope s_term_text) := ⟨rfl, rfl, rfl, by decide +kernel, rfl, by decide +kernel, by decide +kernel⟩
section
variable {P : Program} {w : World} {K : PySem.W.Frag} {mg : Str → Option Value} {base : Heap}
theorem ok_term_text (T : Txt K mg) : FnOk P w K mg base CX0 1 T.f_term_text T.fd_term_text ["entry", "power"] (sp_term_text K T.C) := by
  refine T.F_term_text.ok sc_term_text (fun vs H Q E h => ?_) (fun cdv A outer s H vs Q E hr h => ?_)
  · obtain ⟨a_entry, a_power, v_entry, v_power, rfl, h_entry, h_power, hpre, q⟩ := h
    rfl
  · obtain ⟨a_entry, a_power, v_entry, v_power, rfl, h_entry, h_power, hpre, q⟩ := h
    refine ⟨_, (pss_cons (ps_if (pt_cmpR op_eq (pv 1) pe_int (nomark _)) (pss_one (ps_ret (pe_callTy call_str_int (by rfl) T.z_str (by decide +kernel) (pa_cons (pv 0) pa_nil)))) pss_nil)
        (pss_cons (ps_set (i := 2) sc_term_text.nd rfl (Or.inl rfl) (pe_ifExp (pt_cmpR op_eq (pv 0) pe_int (nomark _)) pe_str (pe_callTy call_str_int (by rfl) T.z_str (by decide +kernel) (pa_cons (pv 0) pa_nil))))
        (pss_one (ps_ret (pe_ifExp (pt_cmpR op_eq (pv 1) pe_int (nomark _)) (pe_joined (.cons (pe_fmt (pv 2)) (.cons pe_str .nil))) (pe_joined (.cons (pe_fmt (pv 2)) (.cons pe_str (.cons (pe_fmt (pv 1)) .nil))))))))), ?_⟩
    have c0 : Ch [] H H := .refl H
    have d0 : Dcs [] H := .nil
    have hq := m_term_text.eq_1 a_entry a_power
    refine q_if (eb_test (ev_eqI (ev_var rfl h_power) ev_int)) d0 ?_ ?_
    · intro hb4 H1 e2 d3
      have h_entry := (Mono.mono e2 h_entry)
      have h_power := (Mono.mono e2 h_power)
      have c0 := c0.trans e2
      have hq := hq.trans (if_pos hb4)
      try simp only [decide_eq_true_eq, decide_eq_false_iff_not, Bool.not_eq_true', Bool.not_eq_false', Bool.and_eq_true, Bool.or_eq_false_iff, bne_iff_ne, bne_eq_false_iff_eq, ne_eq, Int.not_lt, Int.not_le] at hb4
      exact s_ret (ev_strI (ea_cons (ev_var rfl h_entry) ea_nil) (by first | omega | assumption | exact log_small (by omega) | exact Evl.sz_of (by decide +kernel) | exact text0 (by omega) | exact text1 (by omega) | exact text2 (by omega) (by omega) | decide | (simp only [decide_eq_true_eq, decide_eq_false_iff_not, Bool.not_eq_true', Bool.not_eq_false', Bool.and_eq_true, Bool.or_eq_false_iff, bne_iff_ne, bne_eq_false_iff_eq, ne_eq, Int.not_lt, Int.not_le] at *; first | omega | exact ⟨by omega, by omega⟩))) d3 (fun v5 H6 e7 d8 h9 => q v5 H6 (c0.trans e7) d8 (tgt (F := pS) hq h9))
    · intro hb13 H10 e11 d12
      have h_entry := (Mono.mono e11 h_entry)
      have h_power := (Mono.mono e11 h_power)
      have c0 := c0.trans e11
      have hq := hq.trans (ne_true hb13)
      try simp only [decide_eq_true_eq, decide_eq_false_iff_not, Bool.not_eq_true', Bool.not_eq_false', Bool.and_eq_true, Bool.or_eq_false_iff, bne_iff_ne, bne_eq_false_iff_eq, ne_eq, Int.not_lt, Int.not_le] at hb13
      refine q_asg (ev_if (F := pS) (eb_test (ev_eqI (ev_var rfl h_entry) ev_int)) (fun hb14 => ev_str) (fun hb14 => (ev_strI (ea_cons (ev_var rfl h_entry) ea_nil) (by first | omega | assumption | exact log_small (by omega) | exact Evl.sz_of (by decide +kernel) | exact text0 (by omega) | exact text1 (by omega) | exact text2 (by omega) (by omega) | decide | (simp only [decide_eq_true_eq, decide_eq_false_iff_not, Bool.not_eq_true', Bool.not_eq_false', Bool.and_eq_true, Bool.or_eq_false_iff, bne_iff_ne, bne_eq_false_iff_eq, ne_eq, Int.not_lt, Int.not_le] at *; first | omega | exact ⟨by omega, by omega⟩))))) d12 (fun v15 H16 e17 d18 h_19 => ?_)
      have h_entry := (Mono.mono e17 h_entry)
      have h_power := (Mono.mono e17 h_power)
      have c0 := c0.trans e17
      exact s_ret (ev_if (F := pS) (eb_test (ev_eqI (ev_var rfl h_power) ev_int)) (fun hb20 => (ev_joined (.cons (ev_fmtS (ev_var rfl h_19) (by first | omega | assumption | exact log_small (by omega) | exact Evl.sz_of (by decide +kernel) | exact text0 (by omega) | exact text1 (by omega) | exact text2 (by omega) (by omega) | decide | (simp only [decide_eq_true_eq, decide_eq_false_iff_not, Bool.not_eq_true', Bool.not_eq_false', Bool.and_eq_true, Bool.or_eq_false_iff, bne_iff_ne, bne_eq_false_iff_eq, ne_eq, Int.not_lt, Int.not_le] at *; first | omega | exact ⟨by omega, by omega⟩))) (.cons ev_str .nil)) (by first | omega | assumption | exact log_small (by omega) | exact Evl.sz_of (by decide +kernel) | exact text0 (by omega) | exact text1 (by omega) | exact text2 (by omega) (by omega) | decide | (simp only [decide_eq_true_eq, decide_eq_false_iff_not, Bool.not_eq_true', Bool.not_eq_false', Bool.and_eq_true, Bool.or_eq_false_iff, bne_iff_ne, bne_eq_false_iff_eq, ne_eq, Int.not_lt, Int.not_le] at *; first | omega | exact ⟨by omega, by omega⟩)))) (fun hb20 => (ev_joined (.cons (ev_fmtS (ev_var rfl h_19) (by first | omega | assumption | exact log_small (by omega) | exact Evl.sz_of (by decide +kernel) | exact text0 (by omega) | exact text1 (by omega) | exact text2 (by omega) (by omega) | decide | (simp only [decide_eq_true_eq, decide_eq_false_iff_not, Bool.not_eq_true', Bool.not_eq_false', Bool.and_eq_true, Bool.or_eq_false_iff, bne_iff_ne, bne_eq_false_iff_eq, ne_eq, Int.not_lt, Int.not_le] at *; first | omega | exact ⟨by omega, by omega⟩))) (.cons ev_str (.cons (ev_fmtI (ev_var rfl h_power) (by first | omega | assumption | exact log_small (by omega) | exact Evl.sz_of (by decide +kernel) | exact text0 (by omega) | exact text1 (by omega) | exact text2 (by omega) (by omega) | decide | (simp only [decide_eq_true_eq, decide_eq_false_iff_not, Bool.not_eq_true', Bool.not_eq_false', Bool.and_eq_true, Bool.or_eq_false_iff, bne_iff_ne, bne_eq_false_iff_eq, ne_eq, Int.not_lt, Int.not_le] at *; first | omega | exact ⟨by omega, by omega⟩))) .nil))) (by first | omega | assumption | exact log_small (by omega) | exact Evl.sz_of (by decide +kernel) | exact text0 (by omega) | exact text1 (by omega) | exact text2 (by omega) (by omega) | decide | (simp only [decide_eq_true_eq, decide_eq_false_iff_not, Bool.not_eq_true', Bool.not_eq_false', Bool.and_eq_true, Bool.or_eq_false_iff, bne_iff_ne, bne_eq_false_iff_eq, ne_eq, Int.not_lt, Int.not_le] at *; first | omega | exact ⟨by omega, by omega⟩))))) d18 (fun v21 H22 e23 d24 h25 => q v21 H22 (c0.trans e23) d24 (tgt (F := pS) hq h25))
theorem cv_term_text {Cc : Cl} {M : List Addr} {E : XK} {vs : List V} {H1 : Hp} {a_entry : Int} {a_power : Int} (pre : (0 ≤ a_entry ∧ a_entry ≤ 31 ∧ 0 ≤ a_power ∧ a_power ≤ 1000)) (d : Dcs M H1) (k : All2 [(pI a_entry), (pI a_power)] vs H1) (Q : VK) (q : ∀ v H2, Ch M H1 H2 → Dcs M H2 → (pS (m_term_text a_entry a_power)) v H2 → Q v H2) : sp_term_text K Cc vs H1 Q E := by
  obtain ⟨v_entry, v_power, rfl, h_entry, h_power⟩ := all2 k
  exact ⟨a_entry, a_power, v_entry, v_power, rfl, h_entry, h_power, pre, fun u H' c _ r => q u H' c.any (d.new c.same) r⟩
theorem ev_term_text {Cc : Cl} {M : List Addr} {σ : St} {H : Hp} {tr : TA} {E : XK} {a_entry : Int} {a_power : Int} (h : EvA M tr σ H [(pI a_entry), (pI a_power)]) (pre : (0 ≤ a_entry ∧ a_entry ≤ 31 ∧ 0 ≤ a_power ∧ a_power ≤ 1000)) : EvP M (tCall (sp_term_text K Cc) [] E tr) σ H (pS (m_term_text a_entry a_power)) := ev_call h fun vs H1 d k Q q => cv_term_text pre d k Q q
end
end R

namespace R
open PySem PySem.Spec L2 Mir TL RZ
def m_is_number (a_text : Str) : Bool := ((decide ((("0" : Str)).cps.toList < ((cutS a_text none (some (1 : Int)))).cps.toList)) && (((List.map (fun x7 => (!decide (((⟨#[x7]⟩ : Str)).cps.toList < (("0" : Str)).cps.toList) && !decide ((("9" : Str)).cps.toList < ((⟨#[x7]⟩ : Str)).cps.toList))) (a_text).cps.toList)).all id))
def sp_is_number (K : PySem.W.Frag) (Cc : Cl) : Sp := fun vs H Q _ => ∃ (a_text : Str) (v_text : V), vs = [v_text] ∧ (pS a_text) v_text H ∧ ((a_text).length ≤ 1000) ∧ ∀ u H', Ch [] H H' → Dcs [] H' → (pB (m_is_number a_text)) u H' → Q u H'
abbrev N_is_number : List Str := ["text", "digit"]
theorem sc_is_number : FnScope N_is_number ["text"] (defScope s_is_number) := ⟨rfl, rfl, rfl, by decide +kernel, rfl, by decide +kernel, by decide +kernel⟩
section
variable {P : Program} {w : World} {K : PySem.W.Frag} {mg : Str → Option Value} {base : Heap}
theorem ok_is_number (T : Txt K mg) : FnOk P w K mg base CX0 1 T.f_is_number T.fd_is_number ["text"] (sp_is_number K T.C) := by
  refine T.F_is_number.ok sc_is_number (fun vs H Q E h => ?_) (fun cdv A outer s H vs Q E hr h => ?_)
  · obtain ⟨a_text, v_text, rfl, h_text, hpre, q⟩ := h
    rfl
  · obtain ⟨a_text, v_text, rfl, h_text, hpre, q⟩ := h
    refine ⟨_, (pss_one (ps_ret (pe_and (pe_cmpR op_gt_str (pe_slice sl_str (pv 0) po_none (po_some pe_int)) pe_str (nomark _)) (pe_one (pe_callB (cr_allK K rfl) (by rfl) T.z_all (by decide +kernel) (pa_cons (pe_lc (own := [("digit", 1)]) (g := gName 1) (tt := tYes) rfl sc_is_number.nd (pi_str (pv 0)) (blkOk_by (own := [("digit", 1)]) (N := N_is_number) (sc := defScope s_is_number) (by decide +kernel)) (fun _ _ _ _ _ => pg_name (i := 1) sc_is_number.nd rfl (Or.inl rfl)) (fun _ _ _ _ _ => pts_nil) (fun _ _ _ _ _ => (pe_chain op_le_str op_le_str pe_str (pv 1) pe_str))) pa_nil)))))), ?_⟩
    have c0 : Ch [] H H := .refl H
    have d0 : Dcs [] H := .nil
    have hq := m_is_number.eq_1 a_text
    exact s_ret (ev_and (ev_gtS (ev_slS (ev_var rfl h_text) eo_none (eo_some ev_int) (by first | omega | assumption | exact Evl.sz_of (by omega) | exact strsz (by omega) | decide | (simp only [decide_eq_true_eq, decide_eq_false_iff_not, Bool.not_eq_true', Bool.not_eq_false', Bool.and_eq_true, Bool.or_eq_false_iff, bne_iff_ne, bne_eq_false_iff_eq, ne_eq, Int.not_lt, Int.not_le] at *; first | omega | exact ⟨by omega, by omega⟩))) ev_str) (fun hb1 => (ev_all (ea_cons (EvP.map (K := K) (G := pB) (g := fun x7 => (!decide (((⟨#[x7]⟩ : Str)).cps.toList < (("0" : Str)).cps.toList) && !decide ((("9" : Str)).cps.toList < ((⟨#[x7]⟩ : Str)).cps.toList))) (ev_lc1 (F := pC) (G := fun x7 => (pB (!decide (((⟨#[x7]⟩ : Str)).cps.toList < (("0" : Str)).cps.toList) && !decide ((("9" : Str)).cps.toList < ((⟨#[x7]⟩ : Str)).cps.toList)))) (xs := (a_text).cps.toList) (src_str (ev_var rfl h_text)) (by first | omega | assumption | exact Evl.sz_of (by omega) | exact strsz (by omega) | decide | (simp only [decide_eq_true_eq, decide_eq_false_iff_not, Bool.not_eq_true', Bool.not_eq_false', Bool.and_eq_true, Bool.or_eq_false_iff, bne_iff_ne, bne_eq_false_iff_eq, ne_eq, Int.not_lt, Int.not_le] at *; first | omega | exact ⟨by omega, by omega⟩)) (wipe1 (by decide)) (fun x7 hx_x7 v3 H5 e2 d6 p4 => (ev_chainS ev_str (ev_var rfl p4) ev_str)))) ea_nil)))) d0 (fun v9 H10 e11 d12 h13 => q v9 H10 (c0.trans e11) d12 (tgt (F := pB) hq h13))
theorem cv_is_number {Cc : Cl} {M : List Addr} {E : XK} {vs : List V} {H1 : Hp} {a_text : Str} (pre : ((a_text).length ≤ 1000)) (d : Dcs M H1) (k : All2 [(pS a_text)] vs H1) (Q : VK) (q : ∀ v H2, Ch M H1 H2 → Dcs M H2 → (pB (m_is_number a_text)) v H2 → Q v H2) : sp_is_number K Cc vs H1 Q E := by
  obtain ⟨v_text, rfl, h_text⟩ := all1 k
  exact ⟨a_text, v_text, rfl, h_text, pre, fun u H' c _ r => q u H' c.any (d.new c.same) r⟩
theorem ev_is_number {Cc : Cl} {M : List Addr} {σ : St} {H : Hp} {tr : TA} {E : XK} {a_text : Str} (h : EvA M tr σ H [(pS a_text)]) (pre : ((a_text).length ≤ 1000)) : EvP M (tCall (sp_is_number K Cc) [] E tr) σ H (pB (m_is_number a_text)) := ev_call h fun vs H1 d k Q q => cv_is_number pre d k Q q
end
end R

namespace R
open PySem PySem.Spec L2 Mir TL RZ
def m_is_lesser (a_digits : Str) (a_other : Str) : Bool := (decide (((a_digits).length : Int) < ((a_other).length : Int)) || (!decide (((a_other).length : Int) < ((a_digits).length : Int)) && decide ((a_digits).cps.toList < (a_other).cps.toList)))
def sp_is_lesser (K : PySem.W.Frag) (Cc : Cl) : Sp := fun vs H Q _ => ∃ (a_digits : Str) (a_other : Str) (v_digits v_other : V), vs = [v_digits, v_other] ∧ (pS a_digits) v_digits H ∧ (pS a_other) v_other H ∧ ((a_digits).length ≤ 1000 ∧ (a_other).length ≤ 1000) ∧ ∀ u H', Ch [] H H' → Dcs [] H' → (pB (m_is_lesser a_digits a_other)) u H' → Q u H'
abbrev N_is_lesser : List Str := ["digits", "other"]
theorem sc_is_lesser : FnScope N_is_lesser ["digits", "other"] (defScope s_is_lesser) := ⟨rfl, rfl, rfl, by decide +kernel, rfl, by decide +kernel, by decide +kernel⟩
section
variable {P : Program} {w : World} {K : PySem.W.Frag} {mg : Str → Option Value} {base : Heap}
theorem ok_is_lesser (T : Txt K mg) : FnOk P w K mg base CX0 1 T.f_is_lesser T.fd_is_lesser ["digits", "other"] (sp_is_lesser K T.C) := by
  refine T.F_is_lesser.ok sc_is_lesser (fun vs H Q E h => ?_) (fun cdv A outer s H vs Q E hr h => ?_)
  · obtain ⟨a_digits, a_other, v_digits, v_other, rfl, h_digits, h_other, hpre, q⟩ := h
    rfl
  · obtain ⟨a_digits, a_other, v_digits, v_other, rfl, h_digits, h_other, hpre, q⟩ := h
    refine ⟨_, (pss_one (ps_ret (pe_cmpR (op_ltDK K hr.units) (pe_tup (pa_cons (pe_callB call_len_str (by rfl) T.z_len (by decide +kernel) (pa_cons (pv 0) pa_nil)) (pa_cons (pv 0) pa_nil))) (pe_tup (pa_cons (pe_callB call_len_str (by rfl) T.z_len (by decide +kernel) (pa_cons (pv 1) pa_nil)) (pa_cons (pv 1) pa_nil))) (nomark _)))), ?_⟩
    have c0 : Ch [] H H := .refl H
    have d0 : Dcs [] H := .nil
    have hq := m_is_lesser.eq_1 a_digits a_other
    exact s_ret (ev_ltIS (K := K) (ev_tup (K := K) (ea_cons (ev_lenS (ea_cons (ev_var rfl h_digits) ea_nil) (by first | omega | assumption | exact Evl.sz_of (by omega) | decide | (simp only [decide_eq_true_eq, decide_eq_false_iff_not, Bool.not_eq_true', Bool.not_eq_false', Bool.and_eq_true, Bool.or_eq_false_iff, bne_iff_ne, bne_eq_false_iff_eq, ne_eq, Int.not_lt, Int.not_le] at *; first | omega | exact ⟨by omega, by omega⟩))) (ea_cons (ev_var rfl h_digits) ea_nil)) (by show 2 ≤ 100000; decide)) (ev_tup (K := K) (ea_cons (ev_lenS (ea_cons (ev_var rfl h_other) ea_nil) (by first | omega | assumption | exact Evl.sz_of (by omega) | decide | (simp only [decide_eq_true_eq, decide_eq_false_iff_not, Bool.not_eq_true', Bool.not_eq_false', Bool.and_eq_true, Bool.or_eq_false_iff, bne_iff_ne, bne_eq_false_iff_eq, ne_eq, Int.not_lt, Int.not_le] at *; first | omega | exact ⟨by omega, by omega⟩))) (ea_cons (ev_var rfl h_other) ea_nil)) (by show 2 ≤ 100000; decide))) d0 (fun v1 H2 e3 d4 h5 => q v1 H2 (c0.trans e3) d4 (tgt (F := pB) hq h5))
theorem cv_is_lesser {Cc : Cl} {M : List Addr} {E : XK} {vs : List V} {H1 : Hp} {a_digits : Str} {a_other : Str} (pre : ((a_digits).length ≤ 1000 ∧ (a_other).length ≤ 1000)) (d : Dcs M H1) (k : All2 [(pS a_digits), (pS a_other)] vs H1) (Q : VK) (q : ∀ v H2, Ch M H1 H2 → Dcs M H2 → (pB (m_is_lesser a_digits a_other)) v H2 → Q v H2) : sp_is_lesser K Cc vs H1 Q E := by
  obtain ⟨v_digits, v_other, rfl, h_digits, h_other⟩ := all2 k
  exact ⟨a_digits, a_other, v_digits, v_other, rfl, h_digits, h_other, pre, fun u H' c _ r => q u H' c.any (d.new c.same) r⟩
theorem ev_is_lesser {Cc : Cl} {M : List Addr} {σ : St} {H : Hp} {tr : TA} {E : XK} {a_digits : Str} {a_other : Str} (h : EvA M tr σ H [(pS a_digits), (pS a_other)]) (pre : ((a_digits).length ≤ 1000 ∧ (a_other).length ≤ 1000)) : EvP M (tCall (sp_is_lesser K Cc) [] E tr) σ H (pB (m_is_lesser a_digits a_other)) := ev_call h fun vs H1 d k Q q => cv_is_lesser pre d k Q q
end
end R

namespace R
open PySem PySem.Spec L2 Mir TL RZ
def m__law_worth_for1 (f1__law_prime : Int) (f1__law_row : List Int) (f1__law_number_here : Int) : List Int → Int → Int
  | [], m1__law_found => m1__law_found
  | x1_ :: r1_, m1__law_found => (m__law_worth_for1 f1__law_prime f1__law_row f1__law_number_here r1_ (((m1__law_found * f1__law_number_here) + x1_) % f1__law_prime))
def m__law_worth (a__law_prime : Int) (a__law_row : List Int) (a__law_number_here : Int) : Int := (m__law_worth_for1 (a__law_prime) (a__law_row) (a__law_number_here) ((a__law_row).reverse) ((0 : Int)))
def sp__law_worth (K : PySem.W.Frag) (Cc : Cl) : Sp := fun vs H Q _ => ∃ (a__law_prime : Int) (a__law_row : List Int) (a__law_number_here : Int) (v__law_prime v__law_row v__law_number_here : V), vs = [v__law_prime, v__law_row, v__law_number_here] ∧ (pI a__law_prime) v__law_prime H ∧ (pRow K a__law_row) v__law_row H ∧ (pI a__law_number_here) v__law_number_here H ∧ (3 ≤ a__law_prime ∧ a__law_prime ≤ 31 ∧ 0 ≤ a__law_number_here ∧ a__law_number_here < a__law_prime) ∧ ∀ u H', Ch [] H H' → Dcs [] H' → (pI (m__law_worth a__law_prime a__law_row a__law_number_here)) u H' → Q u H'
abbrev N__law_worth : List Str := ["_law_prime", "_law_row", "_law_number_here", "_law_found", "_law_entry"]
theorem sc__law_worth : FnScope N__law_worth ["_law_prime", "_law_row", "_law_number_here"] (defScope s__law_worth) := ⟨rfl, rfl, rfl, by decide +kernel, rfl, by decide +kernel, by decide +kernel⟩
section
variable {P : Program} {w : World} {K : PySem.W.Frag} {mg : Str → Option Value} {base : Heap}
theorem ok__law_worth (T : Txt K mg) : FnOk P w K mg base CX0 1 T.f__law_worth T.fd__law_worth ["_law_prime", "_law_row", "_law_number_here"] (sp__law_worth K T.C) := by
  refine T.F__law_worth.ok sc__law_worth (fun vs H Q E h => ?_) (fun cdv A outer s H vs Q E hr h => ?_)
  · obtain ⟨a__law_prime, a__law_row, a__law_number_here, v__law_prime, v__law_row, v__law_number_here, rfl, h__law_prime, h__law_row, h__law_number_here, hpre, q⟩ := h
    rfl
  · obtain ⟨a__law_prime, a__law_row, a__law_number_here, v__law_prime, v__law_row, v__law_number_here, rfl, h__law_prime, h__law_row, h__law_number_here, hpre, q⟩ := h
    refine ⟨_, (pss_cons (ps_set (i := 3) sc__law_worth.nd rfl (Or.inl rfl) pe_int)
        (pss_cons (ps_for PassesOwn.never rfl (pi_tupK K (pe_revTK K (pv 1))) (pg_name (i := 4) sc__law_worth.nd rfl (Or.inl rfl)) (pss_one (ps_set (i := 3) sc__law_worth.nd rfl (Or.inl rfl) (pe_op op_mod (pe_callTy call_int1 (by rfl) T.z_int (by decide +kernel) (pa_cons (pe_op op_add (pe_op op_mul (pv 3) (pv 2)) (pv 4)) pa_nil)) (pv 0)))))
        (pss_one (ps_ret (pv 3))))), ?_⟩
    have c0 : Ch [] H H := .refl H
    have d0 : Dcs [] H := .nil
    have hq := m__law_worth.eq_1 a__law_prime a__law_row a__law_number_here
    refine q_asg ev_int d0 (fun v1 H2 e3 d4 h_5 => ?_)
    have h__law_prime := (Mono.mono e3 h__law_prime)
    have h__law_row := (Mono.mono e3 h__law_row)
    have h__law_number_here := (Mono.mono e3 h__law_number_here)
    have c0 := c0.trans e3
    refine q_for (M' := ([])) (F := pI) (xs := (a__law_row).reverse) (src_row (ev_revR (ev_var rfl h__law_row))) d4 (fun Hs1_ r1_ sg1_ Hc1_ => ∃ (m1__law_found : Int) (w1__law_found : V) (o1__law_entry : Option V), sg1_ = [some v__law_prime, some v__law_row, some v__law_number_here, some w1__law_found, o1__law_entry] ∧ Ch ([]) Hs1_ Hc1_ ∧ Ch ([]) H2 Hc1_ ∧ Ch ([]) H Hc1_ ∧ Dcs [] Hc1_ ∧ (pI m1__law_found) w1__law_found Hc1_ ∧ (m__law_worth_for1 (a__law_prime) (a__law_row) (a__law_number_here) ((a__law_row).reverse) ((0 : Int))) = m__law_worth_for1 (a__law_prime) (a__law_row) (a__law_number_here) r1_ m1__law_found) ?_ (fun _ _ _ _ h => ?_) ?_ ?_
    · intro H2 e2 d2
      exact ⟨(0 : Int), _, _, rfl, .refl _, e2, c0.trans e2, d2, Mono.mono e2 h_5, rfl⟩
    · obtain ⟨m1__law_found, w1__law_found, o1__law_entry, rfl, c21_, cH1_, c0, d1_, h1__law_found, hs1⟩ := h
      exact c21_
    · rintro Hs1_ x1_ r1_ v1__law_entry sg1_ Hx Hc1_ hx1 ⟨m1__law_found, w1__law_found, o1__law_entry, rfl, c21_, cH1_, c0, d1_, h1__law_found, hs1⟩ sm p1__law_entry
      have cs : Ch [] Hx Hc1_ := .of sm
      have d1_ := Dcs.new d1_ sm
      have h__law_prime := (Mono.mono (cH1_.trans (.of sm)) h__law_prime)
      have h__law_row := (Mono.mono (cH1_.trans (.of sm)) h__law_row)
      have h__law_number_here := (Mono.mono (cH1_.trans (.of sm)) h__law_number_here)
      have h1__law_found := Mono.mono cs h1__law_found
      have c21_ := c21_.trans (.of sm)
      have cH1_ := cH1_.trans (.of sm)
      have c0 := c0.trans (.of sm)
      have hs1 := hs1.trans (m__law_worth_for1.eq_2 _ _ _ _ _ _)
      refine s_asg (ev_mod (ev_intI (ea_cons (ev_add (ev_mul (ev_var rfl h1__law_found) (ev_var rfl h__law_number_here) (by first | exact .inl ⟨by omega, by omega⟩ | exact .inr ⟨by omega, by omega⟩ | omega | assumption | decide | (simp only [decide_eq_true_eq, decide_eq_false_iff_not, Bool.not_eq_true', Bool.not_eq_false', Bool.and_eq_true, Bool.or_eq_false_iff, bne_iff_ne, bne_eq_false_iff_eq, ne_eq, Int.not_lt, Int.not_le] at *; first | omega | exact ⟨by omega, by omega⟩))) (ev_var rfl p1__law_entry)) ea_nil)) (ev_var rfl h__law_prime) (by first | omega | assumption | decide | (simp only [decide_eq_true_eq, decide_eq_false_iff_not, Bool.not_eq_true', Bool.not_eq_false', Bool.and_eq_true, Bool.or_eq_false_iff, bne_iff_ne, bne_eq_false_iff_eq, ne_eq, Int.not_lt, Int.not_le] at *; first | omega | exact ⟨by omega, by omega⟩))) d1_ (fun v6 H7 e8 d9 h_10 => ?_)
      have h__law_prime := (Mono.mono e8 h__law_prime)
      have h__law_row := (Mono.mono e8 h__law_row)
      have h__law_number_here := (Mono.mono e8 h__law_number_here)
      have h1__law_found := (Mono.mono e8 h1__law_found)
      have p1__law_entry := (Mono.mono e8 p1__law_entry)
      have c0 := c0.trans e8
      have cH1_ := cH1_.trans e8
      have c21_ := c21_.trans e8
      exact ⟨(((m1__law_found * (a__law_number_here)) + x1_) % (a__law_prime)), v6, _, rfl, c21_, cH1_, c0, d9, h_10, hs1⟩
    · rintro Hs1_ sg1_ Hc1_ ⟨m1__law_found, w1__law_found, o1__law_entry, rfl, c21_, cH1_, c0, d1_, h1__law_found, hs1⟩
      have h__law_prime := (Mono.mono cH1_ h__law_prime)
      have h__law_row := (Mono.mono cH1_ h__law_row)
      have h__law_number_here := (Mono.mono cH1_ h__law_number_here)
      have hs1 := hs1.trans (m__law_worth_for1.eq_1 _ _ _ _)
      subst hs1
      exact s_ret (ev_var rfl h1__law_found) d1_ (fun v11 H12 e13 d14 h15 => q v11 H12 (c0.trans e13) d14 (tgt (F := pI) hq h15))
theorem cv__law_worth {Cc : Cl} {M : List Addr} {E : XK} {vs : List V} {H1 : Hp} {a__law_prime : Int} {a__law_row : List Int} {a__law_number_here : Int} (pre : (3 ≤ a__law_prime ∧ a__law_prime ≤ 31 ∧ 0 ≤ a__law_number_here ∧ a__law_number_here < a__law_prime)) (d : Dcs M H1) (k : All2 [(pI a__law_prime), (pRow K a__law_row), (pI a__law_number_here)] vs H1) (Q : VK) (q : ∀ v H2, Ch M H1 H2 → Dcs M H2 → (pI (m__law_worth a__law_prime a__law_row a__law_number_here)) v H2 → Q v H2) : sp__law_worth K Cc vs H1 Q E := by
  obtain ⟨v__law_prime, v__law_row, v__law_number_here, rfl, h__law_prime, h__law_row, h__law_number_here⟩ := all3 k
  exact ⟨a__law_prime, a__law_row, a__law_number_here, v__law_prime, v__law_row, v__law_number_here, rfl, h__law_prime, h__law_row, h__law_number_here, pre, fun u H' c _ r => q u H' c.any (d.new c.same) r⟩
theorem ev__law_worth {Cc : Cl} {M : List Addr} {σ : St} {H : Hp} {tr : TA} {E : XK} {a__law_prime : Int} {a__law_row : List Int} {a__law_number_here : Int} (h : EvA M tr σ H [(pI a__law_prime), (pRow K a__law_row), (pI a__law_number_here)]) (pre : (3 ≤ a__law_prime ∧ a__law_prime ≤ 31 ∧ 0 ≤ a__law_number_here ∧ a__law_number_here < a__law_prime)) : EvP M (tCall (sp__law_worth K Cc) [] E tr) σ H (pI (m__law_worth a__law_prime a__law_row a__law_number_here)) := ev_call h fun vs H1 d k Q q => cv__law_worth pre d k Q q
end
end R

namespace R
open PySem PySem.Spec L2 Mir TL RZ
def m_terms_of (a_row : List Int) : List Str := (if (!((List.map (fun x6 => (m_term_text (ixd a_row x6) x6)) (List.filter (fun x6 => ((ixd a_row x6) != 0)) (idown (((a_row).length : Int) - (1 : Int)) (-(1 : Int)))))).isEmpty) = true then (List.map (fun x6 => (m_term_text (ixd a_row x6) x6)) (List.filter (fun x6 => ((ixd a_row x6) != 0)) (idown (((a_row).length : Int) - (1 : Int)) (-(1 : Int))))) else [("0" : Str)])
def sp_terms_of (K : PySem.W.Frag) (Cc : Cl) : Sp := fun vs H Q _ => ∃ (a_row : List Int) (v_row : V), vs = [v_row] ∧ (pRow K a_row) v_row H ∧ ((a_row).length ≤ 1000 ∧ ∀ e ∈ a_row, 0 ≤ e ∧ e ≤ 31) ∧ ∀ u H', Ch [] H H' → Dcs [] H' → (pL K [] (List.map pS (m_terms_of a_row))) u H' → Q u H'
abbrev N_terms_of : List Str := ["row", "texts", "power"]
theorem sc_terms_of : FnScope N_terms_of ["row"] (defScope s_terms_of) := ⟨rfl, rfl, rfl, by decide +kernel, rfl, by decide +kernel, by decide +kernel⟩
section
variable {P : Program} {w : World} {K : PySem.W.Frag} {mg : Str → Option Value} {base : Heap}
theorem ok_terms_of (T : Txt K mg) : FnOk P w K mg base CX0 2 T.f_terms_of T.fd_terms_of ["row"] (sp_terms_of K T.C) := by
  refine T.F_terms_of.ok sc_terms_of (fun vs H Q E h => ?_) (fun cdv A outer s H vs Q E hr h => ?_)
  · obtain ⟨a_row, v_row, rfl, h_row, hpre, q⟩ := h
    rfl
  · obtain ⟨a_row, v_row, rfl, h_row, hpre, q⟩ := h
    refine ⟨_, (pss_cons (ps_setLc (i := 1) (own := [("power", 2)]) (g := gName 2) rfl sc_terms_of.nd rfl rfl (sw_true rfl rfl rfl (by decide +kernel)) (pi_range3 rfl T.z_range (pa_cons (pe_op op_sub (pe_callB (call_len_seqK K) (by rfl) T.z_len (by decide +kernel) (pa_cons (pv 0) pa_nil)) pe_int) (pa_cons (pe_un un_neg pe_int) (pa_cons (pe_un un_neg pe_int) pa_nil)))) (blkOk_by (own := [("power", 2)]) (N := N_terms_of) (sc := defScope s_terms_of) (by decide +kernel)) (fun _ _ _ _ _ => pg_name (i := 2) sc_terms_of.nd rfl (Or.inl rfl)) (fun _ _ _ _ _ => (pts_one (pt_truthK K (pe_ix (ix_tupK K) (pv 0) (pv 2) (fun _ _ => rfl)) (by intro _; rfl)))) (fun _ _ _ _ _ => (pe_call (ok_term_text T) (hr.mono (by decide)) (by rfl) T.g_term_text T.F_term_text.kp T.b_term_text .nil pass0 (pa_cons (pe_ix (ix_tupK K) (pv 0) (pv 2) (fun _ _ => rfl)) (pa_cons (pv 2) pa_nil)))))
        (pss_one (ps_ret (pe_ifExp (pt_truthK K (pv 1) (by intro _; rfl)) (pv 1) (pe_lst (pa_cons pe_str pa_nil)))))), ?_⟩
    have c0 : Ch [] H H := .refl H
    have d0 : Dcs [] H := .nil
    have hq := m_terms_of.eq_1 a_row
    refine q_asg (EvP.map (K := K) (G := pS) (g := fun x6 => (m_term_text (ixd a_row x6) x6)) (ev_lc (F := pI) (f := fun x6 => ((ixd a_row x6) != 0)) (G := fun x6 => (pS (m_term_text (ixd a_row x6) x6))) (xs := (idown (((a_row).length : Int) - (1 : Int)) (-(1 : Int)))) (src_rangeD (ea_cons (ev_sub (ev_lenR (ea_cons (ev_var rfl h_row) ea_nil)) ev_int) (ea_cons (ev_neg ev_int) (ea_cons (ev_neg ev_int) ea_nil))) (by first | exact ⟨by omega, by omega⟩ | exact ⟨by omega, by omega, by omega, by omega⟩ | omega | assumption | exact ix_down (by assumption) | exact term_ok hpre (by assumption) | exact down_len hpre.1 | decide | (simp only [decide_eq_true_eq, decide_eq_false_iff_not, Bool.not_eq_true', Bool.not_eq_false', Bool.and_eq_true, Bool.or_eq_false_iff, bne_iff_ne, bne_eq_false_iff_eq, ne_eq, Int.not_lt, Int.not_le] at *; first | omega | exact ⟨by omega, by omega⟩))) (by first | omega | assumption | exact ix_down (by assumption) | exact term_ok hpre (by assumption) | exact down_len hpre.1 | decide | (simp only [decide_eq_true_eq, decide_eq_false_iff_not, Bool.not_eq_true', Bool.not_eq_false', Bool.and_eq_true, Bool.or_eq_false_iff, bne_iff_ne, bne_eq_false_iff_eq, ne_eq, Int.not_lt, Int.not_le] at *; first | omega | exact ⟨by omega, by omega⟩)) (wipe1 (by decide)) (fun x6 hx_x6 v2 H4 e1 d5 p3 => ⟨(eb_tru (ev_ixR (ev_var rfl (Mono.mono e1 h_row)) (ev_var rfl p3) (by first | exact ⟨by omega, by omega⟩ | (refine inb_last ?_; intro hnil; simp [hnil] at *; done) | omega | assumption | exact ix_down (by assumption) | exact term_ok hpre (by assumption) | exact down_len hpre.1 | decide | (simp only [decide_eq_true_eq, decide_eq_false_iff_not, Bool.not_eq_true', Bool.not_eq_false', Bool.and_eq_true, Bool.or_eq_false_iff, bne_iff_ne, bne_eq_false_iff_eq, ne_eq, Int.not_lt, Int.not_le] at *; first | omega | exact ⟨by omega, by omega⟩))) (fun _ _ p => tru_int p)), fun hf => (ev_term_text (ea_cons (ev_ixR (ev_var rfl (Mono.mono e1 h_row)) (ev_var rfl p3) (by first | exact ⟨by omega, by omega⟩ | (refine inb_last ?_; intro hnil; simp [hnil] at *; done) | omega | assumption | exact ix_down (by assumption) | exact term_ok hpre (by assumption) | exact down_len hpre.1 | decide | (simp only [decide_eq_true_eq, decide_eq_false_iff_not, Bool.not_eq_true', Bool.not_eq_false', Bool.and_eq_true, Bool.or_eq_false_iff, bne_iff_ne, bne_eq_false_iff_eq, ne_eq, Int.not_lt, Int.not_le] at *; first | omega | exact ⟨by omega, by omega⟩))) (ea_cons (ev_var rfl p3) ea_nil)) (by first | omega | assumption | exact ix_down (by assumption) | exact term_ok hpre (by assumption) | exact down_len hpre.1 | decide | (simp only [decide_eq_true_eq, decide_eq_false_iff_not, Bool.not_eq_true', Bool.not_eq_false', Bool.and_eq_true, Bool.or_eq_false_iff, bne_iff_ne, bne_eq_false_iff_eq, ne_eq, Int.not_lt, Int.not_le] at *; first | omega | exact ⟨by omega, by omega⟩)))⟩))) d0 (fun v7 H8 e9 d10 h_11 => ?_)
    have h_row := (Mono.mono e9 h_row)
    have c0 := c0.trans e9
    exact s_ret (ev_if (F := (fun x : List Str => (pL K [] (List.map pS x)))) (eb_tru (ev_var rfl h_11) (fun _ _ p => tru_lst p)) (fun hb12 => (ev_var rfl h_11)) (fun hb12 => (EvP.lst (K := K) (F := pS) (xs := [("0" : Str)]) (ev_lst (K := K) (ea_cons ev_str ea_nil) (by show 1 ≤ 100000; decide))))) d10 (fun v13 H14 e15 d16 h17 => q v13 H14 (c0.trans e15) d16 (tgt (F := (fun x => (pL K [] (List.map pS x)))) hq h17))
theorem cv_terms_of {Cc : Cl} {E : XK} {vs : List V} {H1 : Hp} {a_row : List Int} (pre : ((a_row).length ≤ 1000 ∧ ∀ e ∈ a_row, 0 ≤ e ∧ e ≤ 31)) (d : Dcs [] H1) (k : All2 [(pRow K a_row)] vs H1) (Q : VK) (q : ∀ v H2, Ch [] H1 H2 → Dcs [] H2 → (pL K [] (List.map pS (m_terms_of a_row))) v H2 → Q v H2) : sp_terms_of K Cc vs H1 Q E := by
  obtain ⟨v_row, rfl, h_row⟩ := all1 k
  exact ⟨a_row, v_row, rfl, h_row, pre, fun u H' c _ r => q u H' c.any (d.new c.same) r⟩
theorem ev_terms_of {Cc : Cl} {σ : St} {H : Hp} {tr : TA} {E : XK} {a_row : List Int} (h : EvA [] tr σ H [(pRow K a_row)]) (pre : ((a_row).length ≤ 1000 ∧ ∀ e ∈ a_row, 0 ≤ e ∧ e ≤ 31)) : EvP [] (tCall (sp_terms_of K Cc) [] E tr) σ H (pL K [] (List.map pS (m_terms_of a_row))) := ev_call h fun vs H1 d k Q q => cv_terms_of pre d k Q q
end
end R

namespace R
open PySem PySem.Spec L2 Mir TL RZ
theorem split_many2 {z : Str} (h : z.length ≤ 1000) : (Txt.split z ("+" : Str)).length ≤ 1001 := by
  have e := split_spl z ("+" : Str) (by decide +kernel) (kind_ok (by decide +kernel))
  have l : (Txt.split z ("+" : Str)).length = ((Txt.split z ("+" : Str)).map tl).length := by rw [List.length_map]
  rw [l, e]
  have many : ∀ (S : List Nat) (L acc : List Nat) (k : Nat), (spl S k acc L).length ≤ L.length + 1 := by
    intro S L
    induction L with
    | nil => intro acc k; rw [spl_nil]; simp
    | cons c r ih =>
      intro acc k
      cases k with
      | succ k =>
        have := ih acc k
        show (spl S k acc r).length ≤ _
        simp only [List.length_cons]
        omega
      | zero =>
        cases hp : pre S (c :: r) with
        | true =>
          rw [spl_hit hp]
          have := ih [] (S.length - 1)
          simp only [List.length_cons]
          omega
        | false =>
          rw [spl_miss hp]
          have := ih (acc ++ [c]) 0
          simp only [List.length_cons]
          omega
  have := many (tl ("+" : Str)) (tl z) [] 0
  rw [len_tl] at h
  omega
theorem split_many {z : Str} (h : z.length ≤ 1000) : (Txt.split z ("+" : Str)).length ≤ 100000 := Nat.le_trans (split_many2 h) (by decide)
theorem text_len {e p : Int} (h : 0 ≤ e ∧ e ≤ 31) (h2 : 0 ≤ p ∧ p ≤ 1000) : (m_term_text e p).length ≤ 20 := by
  have n1 := numlen h.1 (by omega)
  have n2 := numlen h2.1 (by omega)
  have l0 : ("" : Str).length = 0 := by decide +kernel
  have lx : ("x" : Str).length = 1 := by decide +kernel
  have lp : ("x^" : Str).length = 2 := by decide +kernel
  have ah : (if (decide (e = (1 : Int))) = true then ("" : Str) else (Str.ofString (toString (e : Int)))).length ≤ 5 := by
    split
    · rw [l0]; omega
    · exact n1
  unfold m_term_text
  split
  · omega
  · split
    · show (Str.empty ++ _ ++ _).length ≤ 20
      rw [strlen_app, strlen_app, lx]
      show 0 + _ + 1 ≤ 20
      omega
    · show (Str.empty ++ _ ++ _ ++ _).length ≤ 20
      rw [strlen_app, strlen_app, strlen_app, lp]
      show 0 + _ + 2 + _ ≤ 20
      omega
theorem sum_le {l : List Str} {b : Nat} (h : ∀ z ∈ l, z.length ≤ b) : (l.map (·.length)).sum ≤ l.length * b := by
  induction l with
  | nil => simp
  | cons z l ih =>
    have h1 := h z (by simp)
    have h2 := ih fun y hy => h y (List.mem_cons_of_mem _ hy)
    rw [List.map_cons, List.sum_cons, List.length_cons, Nat.add_mul]
    show z.length + _ ≤ _
    omega
theorem terms_few {r : List Int} (h : r.length ≤ 1000 ∧ ∀ e ∈ r, 0 ≤ e ∧ e ≤ 31) : ((m_terms_of r).map (·.length)).sum + (m_terms_of r).length * ("+" : Str).length ≤ 16777216 := by
  have lp : ("+" : Str).length = 1 := by decide +kernel
  have each : ∀ z ∈ m_terms_of r, z.length ≤ 20 := by
    unfold m_terms_of
    split
    · intro z hz
      obtain ⟨x, hx, rfl⟩ := List.mem_map.mp hz
      have := term_ok h (List.mem_filter.mp hx).1
      exact text_len ⟨this.1, this.2.1⟩ this.2.2
    · intro z hz
      rw [List.mem_singleton.mp hz]
      decide +kernel
  have many : (m_terms_of r).length ≤ 1001 := by
    unfold m_terms_of
    split
    · rw [List.length_map]
      refine Nat.le_trans (List.length_filter_le _ _) ?_
      unfold idown
      rw [List.length_map, List.length_range]
      omega
    · decide
  have := sum_le each
  rw [lp]
  omega
end R

namespace R
open PySem PySem.Spec L2 Mir TL RZ
theorem lw0 {x : Int} (h : 0 ≤ x ∧ x ≤ 1000) : ("x^" : Str).length + (Str.ofString (toString x)).length ≤ sizeLine := by
  have l1 : ("x^" : Str).length = 2 := by decide +kernel
  have := numlen h.1 (by omega)
  rw [l1]
  exact Evl.sz_of (by omega)
def powT (x : Int) : Str := if decide (x = (0 : Int)) = true then ("" : Str) else (if decide (x = (1 : Int)) = true then ("x" : Str) else (("x^" : Str) ++ (Str.ofString (toString (x : Int)))))
theorem powT_len {x : Int} (h : 0 ≤ x ∧ x ≤ 1000) : (powT x).length ≤ 7 := by
  unfold powT
  have l0 : ("" : Str).length = 0 := by decide +kernel
  have l1 : ("x" : Str).length = 1 := by decide +kernel
  have l2 : ("x^" : Str).length = 2 := by decide +kernel
  split
  · omega
  · split
    · omega
    · rw [strlen_app, l2]
      have := numlen h.1 (by omega)
      omega
theorem lw1 {e x : Int} (h : 0 ≤ e ∧ e ≤ 31 ∧ 0 ≤ x ∧ x ≤ 1000) : (Str.ofString (toString e)).length + (powT x).length ≤ sizeLine := by
  have := numlen h.1 (by omega)
  have := powT_len h.2.2
  exact Evl.sz_of (by omega)
def wordT (e x : Int) : Str := if (decide (e = (1 : Int)) && decide ((0 : Int) < x)) = true then powT x else Str.ofString (toString e) ++ powT x
theorem wordT_len {e x : Int} (h : 0 ≤ e ∧ e ≤ 31 ∧ 0 ≤ x ∧ x ≤ 1000) : (wordT e x).length ≤ 20 := by
  have h1 := numlen h.1 (by omega)
  have h2 := powT_len h.2.2
  unfold wordT
  split
  · omega
  · rw [strlen_app]
    omega
theorem lw_start {r : List Int} (h : r.length ≤ 1000) : ([] : List Str).length + (idown ((r.length : Int) - 1) (-1)).length ≤ 1001 ∧ ∀ z ∈ ([] : List Str), z.length ≤ 20 := by
  refine ⟨?_, fun z h => nomatch h⟩
  unfold idown
  rw [List.length_map, List.length_range]
  show 0 + _ ≤ _
  omega
theorem lw_step {r r1 : List Int} {x : Int} {ws : List Str} (h : r.length ≤ 1000 ∧ ∀ e ∈ r, 0 ≤ e ∧ e ≤ 31) (hx : x ∈ idown ((r.length : Int) - 1) (-1)) (i : ws.length + (x :: r1).length ≤ 1001 ∧ ∀ z ∈ ws, z.length ≤ 20) : (ws ++ [wordT (ixd r x) x]).length + r1.length ≤ 1001 ∧ ∀ z ∈ ws ++ [wordT (ixd r x) x], z.length ≤ 20 := by
  refine ⟨?_, fun z hz => ?_⟩
  · have := i.1
    rw [List.length_cons] at this
    rw [List.length_append, List.length_singleton]
    omega
  · rcases List.mem_append.mp hz with hz | hz
    · exact i.2 z hz
    · rw [List.mem_singleton.mp hz]
      exact wordT_len (term_ok h hx)
theorem lw_skip {r1 : List Int} {x : Int} {ws : List Str} (i : ws.length + (x :: r1).length ≤ 1001 ∧ ∀ z ∈ ws, z.length ≤ 20) : ws.length + r1.length ≤ 1001 ∧ ∀ z ∈ ws, z.length ≤ 20 := ⟨by have := i.1; rw [List.length_cons] at this; omega, i.2⟩
theorem lw_room {r1 : List Int} {x : Int} {ws : List Str} (i : ws.length + (x :: r1).length ≤ 1001 ∧ ∀ z ∈ ws, z.length ≤ 20) : ws.length < 100000 := by
  have := i.1
  rw [List.length_cons] at this
  omega
theorem lw_join {ws : List Str} {r : List Int} (i : ws.length + r.length ≤ 1001 ∧ ∀ z ∈ ws, z.length ≤ 20) : (ws.map (·.length)).sum + ws.length * ("+" : Str).length ≤ 16777216 := by
  have lp : ("+" : Str).length = 1 := by decide +kernel
  have := sum_le i.2
  have := i.1
  rw [lp]
  omega
end R

namespace R
open PySem PySem.Spec L2 Mir TL RZ
def m__law_text_for1 (f1__law_row : List Int) : List Int → List Str → (List Str)
  | [], m1__law_words => m1__law_words
  | x1_ :: r1_, m1__law_words => (if (!decide ((ixd f1__law_row x1_) = (0 : Int))) = true then (m__law_text_for1 f1__law_row r1_ (m1__law_words ++ [(if ((decide ((ixd f1__law_row x1_) = (1 : Int))) && (decide ((0 : Int) < x1_))) = true then (if (decide (x1_ = (0 : Int))) = true then ("" : Str) else (if (decide (x1_ = (1 : Int))) = true then ("x" : Str) else (("x^" : Str) ++ (Str.ofString (toString (x1_ : Int)))))) else ((Str.ofString (toString ((ixd f1__law_row x1_) : Int))) ++ (if (decide (x1_ = (0 : Int))) = true then ("" : Str) else (if (decide (x1_ = (1 : Int))) = true then ("x" : Str) else (("x^" : Str) ++ (Str.ofString (toString (x1_ : Int))))))))])) else (m__law_text_for1 f1__law_row r1_ m1__law_words))
def m__law_text (a__law_row : List Int) : Str := (if (!((m__law_text_for1 (a__law_row) ((idown (((a__law_row).length : Int) - (1 : Int)) (-(1 : Int)))) (([] : List Str)))).isEmpty) = true then (Txt.join ("+" : Str) (m__law_text_for1 (a__law_row) ((idown (((a__law_row).length : Int) - (1 : Int)) (-(1 : Int)))) (([] : List Str)))) else ("0" : Str))
def sp__law_text (K : PySem.W.Frag) (Cc : Cl) : Sp := fun vs H Q _ => ∃ (a__law_row : List Int) (v__law_row : V), vs = [v__law_row] ∧ (pRow K a__law_row) v__law_row H ∧ ((a__law_row).length ≤ 1000 ∧ ∀ e ∈ a__law_row, 0 ≤ e ∧ e ≤ 31) ∧ ∀ u H', Ch [] H H' → Dcs [] H' → (pS (m__law_text a__law_row)) u H' → Q u H'
abbrev N__law_text : List Str := ["_law_row", "_law_words", "_law_at", "_law_power"]
theorem sc__law_text : FnScope N__law_text ["_law_row"] (defScope s__law_text) := ⟨rfl, rfl, rfl, by decide +kernel, rfl, by decide +kernel, by decide +kernel⟩
section
variable {P : Program} {w : World} {K : PySem.W.Frag} {mg : Str → Option Value} {base : Heap}
theorem ok__law_text (T : Txt K mg) : FnOk P w K mg base CX0 1 T.f__law_text T.fd__law_text ["_law_row"] (sp__law_text K T.C) := by
  refine T.F__law_text.ok sc__law_text (fun vs H Q E h => ?_) (fun cdv A outer s H vs Q E hr h => ?_)
  · obtain ⟨a__law_row, v__law_row, rfl, h__law_row, hpre, q⟩ := h
    rfl
  · obtain ⟨a__law_row, v__law_row, rfl, h__law_row, hpre, q⟩ := h
    refine ⟨_, (pss_cons (ps_set (i := 1) sc__law_text.nd rfl (Or.inl rfl) (pe_lst pa_nil))
        (pss_cons (ps_for PassesOwn.never rfl (pi_range3 rfl T.z_range (pa_cons (pe_op op_sub (pe_callB (call_len_seqK K) (by rfl) T.z_len (by decide +kernel) (pa_cons (pv 0) pa_nil)) pe_int) (pa_cons (pe_un un_neg pe_int) (pa_cons (pe_un un_neg pe_int) pa_nil)))) (pg_name (i := 2) sc__law_text.nd rfl (Or.inl rfl)) (pss_one (ps_if (pt_cmpR op_ne (pe_ix (ix_tupK K) (pv 0) (pv 2) (fun _ _ => rfl)) pe_int (nomark _)) (pss_cons (ps_set (i := 3) sc__law_text.nd rfl (Or.inl rfl) (pe_ifExp (pt_cmpR op_eq (pv 2) pe_int (nomark _)) pe_str (pe_ifExp (pt_cmpR op_eq (pv 2) pe_int (nomark _)) pe_str (pe_op op_add_str pe_str (pe_callTy call_str_int (by rfl) T.z_str (by decide +kernel) (pa_cons (pv 2) pa_nil)))))) (pss_one (ps_expr (pe_bm PySem.F.plainAttrs_list PySem.F.slot_list_append PySem.F.type_list_append mt_append (pv 1) (pa_cons (pe_ifExp (PW.pt (pw_and (pt_cmpR op_eq (pe_ix (ix_tupK K) (pv 0) (pv 2) (fun _ _ => rfl)) pe_int (nomark _)) (pw_and1 (pt_cmpR op_gt (pv 2) pe_int (nomark _))))) (pv 3) (pe_op op_add_str (pe_callTy call_str_int (by rfl) T.z_str (by decide +kernel) (pa_cons (pe_ix (ix_tupK K) (pv 0) (pv 2) (fun _ _ => rfl)) pa_nil)) (pv 3))) pa_nil))))) pss_nil)))
        (pss_one (ps_ret (pe_ifExp (pt_cmpR (op_neAK K hr.units) (pv 1) (pe_lst pa_nil) (nomark _)) (pe_join pe_str (pv 1)) pe_str))))), ?_⟩
    have c0 : Ch [] H H := .refl H
    have d0 : Dcs [] H := .nil
    have hq := m__law_text.eq_1 a__law_row
    refine q_mut evf_nil d0 (fun l1 vs2 H3 u6_z u6_n e5 d6 u6_h u6_a => ?_)
    have u6_a : All2 (List.map pS ([] : List Str)) vs2 H3 := u6_a
    have u6_f := none_back c0 u6_z kk_nil
    have h__law_row := (Mono.mono e5 h__law_row)
    have c0 := c0.trans e5
    have c0 : Ch (l1 :: _) _ _ := c0.more
    refine q_for (M' := (l1 :: [])) (F := pI) (xs := (idown (((a__law_row).length : Int) - (1 : Int)) (-(1 : Int)))) (src_rangeD (ea_cons (ev_sub (ev_lenR (ea_cons (ev_var rfl h__law_row) ea_nil)) ev_int) (ea_cons (ev_neg ev_int) (ea_cons (ev_neg ev_int) ea_nil))) (by first | exact ⟨by omega, by omega⟩ | exact ⟨by omega, by omega, by omega, by omega⟩ | omega | assumption | exact ix_down (by assumption) | exact down_len hpre.1 | exact log_small (by have := term_ok hpre (by assumption); omega) | exact lw0 (term_ok hpre (by assumption)).2.2 | exact lw1 (term_ok hpre (by assumption)) | exact lw_room hinv1 | exact lw_join hinv1 | decide | (simp only [decide_eq_true_eq, decide_eq_false_iff_not, Bool.not_eq_true', Bool.not_eq_false', Bool.and_eq_true, Bool.or_eq_false_iff, bne_iff_ne, bne_eq_false_iff_eq, ne_eq, Int.not_lt, Int.not_le] at *; first | omega | exact ⟨by omega, by omega⟩))) d6 (fun Hs1_ r1_ sg1_ Hc1_ => ∃ (m1__law_words : List Str) (y1__law_words : List V) (o1__law_power : Option V) (o1__law_at : Option V), sg1_ = [some v__law_row, some (.ref l1), o1__law_at, o1__law_power] ∧ Ch (l1 :: []) Hs1_ Hc1_ ∧ Ch (l1 :: []) H3 Hc1_ ∧ Ch (l1 :: []) H Hc1_ ∧ Dcs [] Hc1_ ∧ Hc1_ l1 = some (.lst y1__law_words) ∧ All2 (List.map pS m1__law_words) y1__law_words Hc1_ ∧ (((m1__law_words)).length + r1_.length ≤ 1001 ∧ ∀ z ∈ (m1__law_words), z.length ≤ 20) ∧ (m__law_text_for1 (a__law_row) ((idown (((a__law_row).length : Int) - (1 : Int)) (-(1 : Int)))) (([] : List Str))) = m__law_text_for1 (a__law_row) r1_ m1__law_words) ?_ (fun _ _ _ _ h => ?_) ?_ ?_
    · intro H2 e2 d2
      exact ⟨([] : List Str), _, _, _, rfl, .refl _, e2.more, c0.trans e2.more, d2, e2.keep _ _ u6_n u6_h, MonoA.mono e2 u6_a, (by exact lw_start hpre.1), rfl⟩
    · obtain ⟨m1__law_words, y1__law_words, o1__law_power, o1__law_at, rfl, c21_, cH1_, c0, d1_, u6_h, u6_a, hinv1, hs1⟩ := h
      exact c21_
    · rintro Hs1_ x1_ r1_ v1__law_at sg1_ Hx Hc1_ hx1 ⟨m1__law_words, y1__law_words, o1__law_power, o1__law_at, rfl, c21_, cH1_, c0, d1_, u6_h, u6_a, hinv1, hs1⟩ sm p1__law_at
      have cs : Ch [] Hx Hc1_ := .of sm
      have d1_ := Dcs.new d1_ sm
      have h__law_row := (Mono.mono (cH1_.trans (.of sm)) h__law_row)
      have u6_h := cs.keep _ _ u6_n u6_h
      have u6_a := MonoA.mono cs u6_a
      have c21_ := c21_.trans (.of sm)
      have cH1_ := cH1_.trans (.of sm)
      have c0 := c0.trans (.of sm)
      have hs1 := hs1.trans (m__law_text_for1.eq_2 _ _ _ _)
      refine s_if (eb_test (ev_neI (ev_ixR (ev_var rfl h__law_row) (ev_var rfl p1__law_at) (by first | exact ⟨by omega, by omega⟩ | (refine inb_last ?_; intro hnil; simp [hnil] at *; done) | omega | assumption | exact ix_down (by assumption) | exact down_len hpre.1 | exact log_small (by have := term_ok hpre (by assumption); omega) | exact lw0 (term_ok hpre (by assumption)).2.2 | exact lw1 (term_ok hpre (by assumption)) | exact lw_room hinv1 | exact lw_join hinv1 | decide | (simp only [decide_eq_true_eq, decide_eq_false_iff_not, Bool.not_eq_true', Bool.not_eq_false', Bool.and_eq_true, Bool.or_eq_false_iff, bne_iff_ne, bne_eq_false_iff_eq, ne_eq, Int.not_lt, Int.not_le] at *; first | omega | exact ⟨by omega, by omega⟩))) ev_int)) d1_ ?_ ?_
      · intro hb10 H7 e8 d9
        have h__law_row := (Mono.mono e8 h__law_row)
        have p1__law_at := (Mono.mono e8 p1__law_at)
        have u6_h := e8.keep _ _ u6_n u6_h
        have u6_a := MonoA.mono e8 u6_a
        have c0 := c0.trans e8.more
        have cH1_ := cH1_.trans e8.more
        have c21_ := c21_.trans e8.more
        have hs1 := hs1.trans (if_pos hb10)
        try simp only [decide_eq_true_eq, decide_eq_false_iff_not, Bool.not_eq_true', Bool.not_eq_false', Bool.and_eq_true, Bool.or_eq_false_iff, bne_iff_ne, bne_eq_false_iff_eq, ne_eq, Int.not_lt, Int.not_le] at hb10
        refine q_asg (ev_if (F := pS) (eb_test (ev_eqI (ev_var rfl p1__law_at) ev_int)) (fun hb11 => ev_str) (fun hb11 => (ev_if (F := pS) (eb_test (ev_eqI (ev_var rfl p1__law_at) ev_int)) (fun hb12 => ev_str) (fun hb12 => (ev_addS ev_str (ev_strI (ea_cons (ev_var rfl p1__law_at) ea_nil) (by first | omega | assumption | exact ix_down (by assumption) | exact down_len hpre.1 | exact log_small (by have := term_ok hpre (by assumption); omega) | exact lw0 (term_ok hpre (by assumption)).2.2 | exact lw1 (term_ok hpre (by assumption)) | exact lw_room hinv1 | exact lw_join hinv1 | decide | (simp only [decide_eq_true_eq, decide_eq_false_iff_not, Bool.not_eq_true', Bool.not_eq_false', Bool.and_eq_true, Bool.or_eq_false_iff, bne_iff_ne, bne_eq_false_iff_eq, ne_eq, Int.not_lt, Int.not_le] at *; first | omega | exact ⟨by omega, by omega⟩))) (by first | omega | assumption | exact ix_down (by assumption) | exact down_len hpre.1 | exact log_small (by have := term_ok hpre (by assumption); omega) | exact lw0 (term_ok hpre (by assumption)).2.2 | exact lw1 (term_ok hpre (by assumption)) | exact lw_room hinv1 | exact lw_join hinv1 | decide | (simp only [decide_eq_true_eq, decide_eq_false_iff_not, Bool.not_eq_true', Bool.not_eq_false', Bool.and_eq_true, Bool.or_eq_false_iff, bne_iff_ne, bne_eq_false_iff_eq, ne_eq, Int.not_lt, Int.not_le] at *; first | omega | exact ⟨by omega, by omega⟩))))))) d9 (fun v13 H14 e15 d16 h_17 => ?_)
        have h__law_row := (Mono.mono e15 h__law_row)
        have p1__law_at := (Mono.mono e15 p1__law_at)
        have u6_h := e15.keep _ _ u6_n u6_h
        have u6_a := MonoA.mono e15 u6_a
        have c0 := c0.trans e15.more
        have cH1_ := cH1_.trans e15.more
        have c21_ := c21_.trans e15.more
        refine s_app' rfl u6_h u6_a u6_n (ev_if (F := pS) (eb_and (eb_test (ev_eqI (ev_ixR (ev_var rfl h__law_row) (ev_var rfl p1__law_at) (by first | exact ⟨by omega, by omega⟩ | (refine inb_last ?_; intro hnil; simp [hnil] at *; done) | omega | assumption | exact ix_down (by assumption) | exact down_len hpre.1 | exact log_small (by have := term_ok hpre (by assumption); omega) | exact lw0 (term_ok hpre (by assumption)).2.2 | exact lw1 (term_ok hpre (by assumption)) | exact lw_room hinv1 | exact lw_join hinv1 | decide | (simp only [decide_eq_true_eq, decide_eq_false_iff_not, Bool.not_eq_true', Bool.not_eq_false', Bool.and_eq_true, Bool.or_eq_false_iff, bne_iff_ne, bne_eq_false_iff_eq, ne_eq, Int.not_lt, Int.not_le] at *; first | omega | exact ⟨by omega, by omega⟩))) ev_int)) (fun hb18 => (eb_test (ev_gt (ev_var rfl p1__law_at) ev_int)))) (fun hb20 => (ev_var rfl h_17)) (fun hb20 => (ev_addS (ev_strI (ea_cons (ev_ixR (ev_var rfl h__law_row) (ev_var rfl p1__law_at) (by first | exact ⟨by omega, by omega⟩ | (refine inb_last ?_; intro hnil; simp [hnil] at *; done) | omega | assumption | exact ix_down (by assumption) | exact down_len hpre.1 | exact log_small (by have := term_ok hpre (by assumption); omega) | exact lw0 (term_ok hpre (by assumption)).2.2 | exact lw1 (term_ok hpre (by assumption)) | exact lw_room hinv1 | exact lw_join hinv1 | decide | (simp only [decide_eq_true_eq, decide_eq_false_iff_not, Bool.not_eq_true', Bool.not_eq_false', Bool.and_eq_true, Bool.or_eq_false_iff, bne_iff_ne, bne_eq_false_iff_eq, ne_eq, Int.not_lt, Int.not_le] at *; first | omega | exact ⟨by omega, by omega⟩))) ea_nil) (by first | omega | assumption | exact ix_down (by assumption) | exact down_len hpre.1 | exact log_small (by have := term_ok hpre (by assumption); omega) | exact lw0 (term_ok hpre (by assumption)).2.2 | exact lw1 (term_ok hpre (by assumption)) | exact lw_room hinv1 | exact lw_join hinv1 | decide | (simp only [decide_eq_true_eq, decide_eq_false_iff_not, Bool.not_eq_true', Bool.not_eq_false', Bool.and_eq_true, Bool.or_eq_false_iff, bne_iff_ne, bne_eq_false_iff_eq, ne_eq, Int.not_lt, Int.not_le] at *; first | omega | exact ⟨by omega, by omega⟩))) (ev_var rfl h_17) (by first | omega | assumption | exact ix_down (by assumption) | exact down_len hpre.1 | exact log_small (by have := term_ok hpre (by assumption); omega) | exact lw0 (term_ok hpre (by assumption)).2.2 | exact lw1 (term_ok hpre (by assumption)) | exact lw_room hinv1 | exact lw_join hinv1 | decide | (simp only [decide_eq_true_eq, decide_eq_false_iff_not, Bool.not_eq_true', Bool.not_eq_false', Bool.and_eq_true, Bool.or_eq_false_iff, bne_iff_ne, bne_eq_false_iff_eq, ne_eq, Int.not_lt, Int.not_le] at *; first | omega | exact ⟨by omega, by omega⟩))))) d16 (by simp only [List.length_map] <;> first | omega | assumption | exact ix_down (by assumption) | exact down_len hpre.1 | exact log_small (by have := term_ok hpre (by assumption); omega) | exact lw0 (term_ok hpre (by assumption)).2.2 | exact lw1 (term_ok hpre (by assumption)) | exact lw_room hinv1 | exact lw_join hinv1 | decide | (simp only [decide_eq_true_eq, decide_eq_false_iff_not, Bool.not_eq_true', Bool.not_eq_false', Bool.and_eq_true, Bool.or_eq_false_iff, bne_iff_ne, bne_eq_false_iff_eq, ne_eq, Int.not_lt, Int.not_le] at *; first | omega | exact ⟨by omega, by omega⟩)) (fun ys21 H22 e23 d24 u6_h u6_a => ?_)
        have u6_a : All2 (List.map pS (m1__law_words ++ [(if ((decide ((ixd (a__law_row) x1_) = (1 : Int))) && (decide ((0 : Int) < x1_))) = true then (if (decide (x1_ = (0 : Int))) = true then ("" : Str) else (if (decide (x1_ = (1 : Int))) = true then ("x" : Str) else (("x^" : Str) ++ (Str.ofString (toString (x1_ : Int)))))) else ((Str.ofString (toString ((ixd (a__law_row) x1_) : Int))) ++ (if (decide (x1_ = (0 : Int))) = true then ("" : Str) else (if (decide (x1_ = (1 : Int))) = true then ("x" : Str) else (("x^" : Str) ++ (Str.ofString (toString (x1_ : Int))))))))])) ys21 H22 := app_map u6_a
        have h__law_row := Mono.mono e23 h__law_row
        have p1__law_at := Mono.mono e23 p1__law_at
        have h_17 := Mono.mono e23 h_17
        have c0 := c0.trans e23
        have cH1_ := cH1_.trans e23
        have c21_ := c21_.trans e23
        exact ⟨(m1__law_words ++ [(if ((decide ((ixd (a__law_row) x1_) = (1 : Int))) && (decide ((0 : Int) < x1_))) = true then (if (decide (x1_ = (0 : Int))) = true then ("" : Str) else (if (decide (x1_ = (1 : Int))) = true then ("x" : Str) else (("x^" : Str) ++ (Str.ofString (toString (x1_ : Int)))))) else ((Str.ofString (toString ((ixd (a__law_row) x1_) : Int))) ++ (if (decide (x1_ = (0 : Int))) = true then ("" : Str) else (if (decide (x1_ = (1 : Int))) = true then ("x" : Str) else (("x^" : Str) ++ (Str.ofString (toString (x1_ : Int))))))))]), _, _, _, rfl, c21_, cH1_, c0, d24, u6_h, u6_a, (by first | exact lw_step hpre (by assumption) hinv1 | exact lw_skip hinv1), hs1⟩
      · intro hb28 H25 e26 d27
        have h__law_row := (Mono.mono e26 h__law_row)
        have p1__law_at := (Mono.mono e26 p1__law_at)
        have u6_h := e26.keep _ _ u6_n u6_h
        have u6_a := MonoA.mono e26 u6_a
        have c0 := c0.trans e26.more
        have cH1_ := cH1_.trans e26.more
        have c21_ := c21_.trans e26.more
        have hs1 := hs1.trans (ne_true hb28)
        try simp only [decide_eq_true_eq, decide_eq_false_iff_not, Bool.not_eq_true', Bool.not_eq_false', Bool.and_eq_true, Bool.or_eq_false_iff, bne_iff_ne, bne_eq_false_iff_eq, ne_eq, Int.not_lt, Int.not_le] at hb28
        exact ⟨m1__law_words, _, _, _, rfl, c21_, cH1_, c0, d27, u6_h, u6_a, (by first | exact lw_step hpre (by assumption) hinv1 | exact lw_skip hinv1), hs1⟩
    · rintro Hs1_ sg1_ Hc1_ ⟨m1__law_words, y1__law_words, o1__law_power, o1__law_at, rfl, c21_, cH1_, c0, d1_, u6_h, u6_a, hinv1, hs1⟩
      have h__law_row := (Mono.mono cH1_ h__law_row)
      have hs1 := hs1.trans (m__law_text_for1.eq_1 _ _)
      subst hs1
      exact s_ret (ev_if (F := pS) (eb_test (ev_neM (K := K) (ev_mut (K := K) rfl u6_h u6_a u6_n) (ev_lst (K := K) ea_nil (by decide)))) (fun hb29 => (ev_join ev_str (ev_mut (K := K) rfl u6_h u6_a u6_n) (by first | omega | assumption | exact ix_down (by assumption) | exact down_len hpre.1 | exact log_small (by have := term_ok hpre (by assumption); omega) | exact lw0 (term_ok hpre (by assumption)).2.2 | exact lw1 (term_ok hpre (by assumption)) | exact lw_room hinv1 | exact lw_join hinv1 | decide | (simp only [decide_eq_true_eq, decide_eq_false_iff_not, Bool.not_eq_true', Bool.not_eq_false', Bool.and_eq_true, Bool.or_eq_false_iff, bne_iff_ne, bne_eq_false_iff_eq, ne_eq, Int.not_lt, Int.not_le] at *; first | omega | exact ⟨by omega, by omega⟩)))) (fun hb29 => ev_str)) d1_ (fun v30 H31 e32 d33 h34 => q v30 H31 ((c0.trans e32.more).drop u6_f) d33 (tgt (F := pS) hq h34))
theorem cv__law_text {Cc : Cl} {M : List Addr} {E : XK} {vs : List V} {H1 : Hp} {a__law_row : List Int} (pre : ((a__law_row).length ≤ 1000 ∧ ∀ e ∈ a__law_row, 0 ≤ e ∧ e ≤ 31)) (d : Dcs M H1) (k : All2 [(pRow K a__law_row)] vs H1) (Q : VK) (q : ∀ v H2, Ch M H1 H2 → Dcs M H2 → (pS (m__law_text a__law_row)) v H2 → Q v H2) : sp__law_text K Cc vs H1 Q E := by
  obtain ⟨v__law_row, rfl, h__law_row⟩ := all1 k
  exact ⟨a__law_row, v__law_row, rfl, h__law_row, pre, fun u H' c _ r => q u H' c.any (d.new c.same) r⟩
theorem ev__law_text {Cc : Cl} {M : List Addr} {σ : St} {H : Hp} {tr : TA} {E : XK} {a__law_row : List Int} (h : EvA M tr σ H [(pRow K a__law_row)]) (pre : ((a__law_row).length ≤ 1000 ∧ ∀ e ∈ a__law_row, 0 ≤ e ∧ e ≤ 31)) : EvP M (tCall (sp__law_text K Cc) [] E tr) σ H (pS (m__law_text a__law_row)) := ev_call h fun vs H1 d k Q q => cv__law_text pre d k Q q
end
end R

namespace R
open PySem PySem.Spec L2 Mir TL RZ
def m__law_number_for1 (f1__law_prime : Int) (f1__law_row : List Int) : List Int → Int → Int
  | [], m1__law_found => m1__law_found
  | x1_ :: r1_, m1__law_found => (m__law_number_for1 f1__law_prime f1__law_row r1_ ((m1__law_found * f1__law_prime) + x1_))
def m__law_number (a__law_prime : Int) (a__law_row : List Int) : Int := (m__law_number_for1 (a__law_prime) (a__law_row) ((a__law_row).reverse) ((0 : Int)))
def sp__law_number (K : PySem.W.Frag) (Cc : Cl) : Sp := fun vs H Q _ => ∃ (a__law_prime : Int) (a__law_row : List Int) (v__law_prime v__law_row : V), vs = [v__law_prime, v__law_row] ∧ (pI a__law_prime) v__law_prime H ∧ (pRow K a__law_row) v__law_row H ∧ (3 ≤ a__law_prime ∧ a__law_prime ≤ 31) ∧ ∀ u H', Ch [] H H' → Dcs [] H' → (pI (m__law_number a__law_prime a__law_row)) u H' → Q u H'
abbrev N__law_number : List Str := ["_law_prime", "_law_row", "_law_found", "_law_entry"]
theorem sc__law_number : FnScope N__law_number ["_law_prime", "_law_row"] (defScope s__law_number) := ⟨rfl, rfl, rfl, by decide +kernel, rfl, by decide +kernel, by decide +kernel⟩
section
variable {P : Program} {w : World} {K : PySem.W.Frag} {mg : Str → Option Value} {base : Heap}
theorem ok__law_number (T : Txt K mg) : FnOk P w K mg base CX0 1 T.f__law_number T.fd__law_number ["_law_prime", "_law_row"] (sp__law_number K T.C) := by
  refine T.F__law_number.ok sc__law_number (fun vs H Q E h => ?_) (fun cdv A outer s H vs Q E hr h => ?_)
  · obtain ⟨a__law_prime, a__law_row, v__law_prime, v__law_row, rfl, h__law_prime, h__law_row, hpre, q⟩ := h
    rfl
  · obtain ⟨a__law_prime, a__law_row, v__law_prime, v__law_row, rfl, h__law_prime, h__law_row, hpre, q⟩ := h
    refine ⟨_, (pss_cons (ps_set (i := 2) sc__law_number.nd rfl (Or.inl rfl) pe_int)
        (pss_cons (ps_for PassesOwn.never rfl (pi_tupK K (pe_revTK K (pv 1))) (pg_name (i := 3) sc__law_number.nd rfl (Or.inl rfl)) (pss_one (ps_set (i := 2) sc__law_number.nd rfl (Or.inl rfl) (pe_op op_add (pe_op op_mul (pv 2) (pv 0)) (pv 3)))))
        (pss_one (ps_ret (pv 2))))), ?_⟩
    have c0 : Ch [] H H := .refl H
    have d0 : Dcs [] H := .nil
    have hq := m__law_number.eq_1 a__law_prime a__law_row
    refine q_asg ev_int d0 (fun v1 H2 e3 d4 h_5 => ?_)
    have h__law_prime := (Mono.mono e3 h__law_prime)
    have h__law_row := (Mono.mono e3 h__law_row)
    have c0 := c0.trans e3
    refine q_for (M' := ([])) (F := pI) (xs := (a__law_row).reverse) (src_row (ev_revR (ev_var rfl h__law_row))) d4 (fun Hs1_ r1_ sg1_ Hc1_ => ∃ (m1__law_found : Int) (w1__law_found : V) (o1__law_entry : Option V), sg1_ = [some v__law_prime, some v__law_row, some w1__law_found, o1__law_entry] ∧ Ch ([]) Hs1_ Hc1_ ∧ Ch ([]) H2 Hc1_ ∧ Ch ([]) H Hc1_ ∧ Dcs [] Hc1_ ∧ (pI m1__law_found) w1__law_found Hc1_ ∧ (m__law_number_for1 (a__law_prime) (a__law_row) ((a__law_row).reverse) ((0 : Int))) = m__law_number_for1 (a__law_prime) (a__law_row) r1_ m1__law_found) ?_ (fun _ _ _ _ h => ?_) ?_ ?_
    · intro H2 e2 d2
      exact ⟨(0 : Int), _, _, rfl, .refl _, e2, c0.trans e2, d2, Mono.mono e2 h_5, rfl⟩
    · obtain ⟨m1__law_found, w1__law_found, o1__law_entry, rfl, c21_, cH1_, c0, d1_, h1__law_found, hs1⟩ := h
      exact c21_
    · rintro Hs1_ x1_ r1_ v1__law_entry sg1_ Hx Hc1_ hx1 ⟨m1__law_found, w1__law_found, o1__law_entry, rfl, c21_, cH1_, c0, d1_, h1__law_found, hs1⟩ sm p1__law_entry
      have cs : Ch [] Hx Hc1_ := .of sm
      have d1_ := Dcs.new d1_ sm
      have h__law_prime := (Mono.mono (cH1_.trans (.of sm)) h__law_prime)
      have h__law_row := (Mono.mono (cH1_.trans (.of sm)) h__law_row)
      have h1__law_found := Mono.mono cs h1__law_found
      have c21_ := c21_.trans (.of sm)
      have cH1_ := cH1_.trans (.of sm)
      have c0 := c0.trans (.of sm)
      have hs1 := hs1.trans (m__law_number_for1.eq_2 _ _ _ _ _)
      refine s_asg (ev_add (ev_mul (ev_var rfl h1__law_found) (ev_var rfl h__law_prime) (by first | exact .inl ⟨by omega, by omega⟩ | exact .inr ⟨by omega, by omega⟩ | omega | assumption | decide | (simp only [decide_eq_true_eq, decide_eq_false_iff_not, Bool.not_eq_true', Bool.not_eq_false', Bool.and_eq_true, Bool.or_eq_false_iff, bne_iff_ne, bne_eq_false_iff_eq, ne_eq, Int.not_lt, Int.not_le] at *; first | omega | exact ⟨by omega, by omega⟩))) (ev_var rfl p1__law_entry)) d1_ (fun v6 H7 e8 d9 h_10 => ?_)
      have h__law_prime := (Mono.mono e8 h__law_prime)
      have h__law_row := (Mono.mono e8 h__law_row)
      have h1__law_found := (Mono.mono e8 h1__law_found)
      have p1__law_entry := (Mono.mono e8 p1__law_entry)
      have c0 := c0.trans e8
      have cH1_ := cH1_.trans e8
      have c21_ := c21_.trans e8
      exact ⟨((m1__law_found * (a__law_prime)) + x1_), v6, _, rfl, c21_, cH1_, c0, d9, h_10, hs1⟩
    · rintro Hs1_ sg1_ Hc1_ ⟨m1__law_found, w1__law_found, o1__law_entry, rfl, c21_, cH1_, c0, d1_, h1__law_found, hs1⟩
      have h__law_prime := (Mono.mono cH1_ h__law_prime)
      have h__law_row := (Mono.mono cH1_ h__law_row)
      have hs1 := hs1.trans (m__law_number_for1.eq_1 _ _ _)
      subst hs1
      exact s_ret (ev_var rfl h1__law_found) d1_ (fun v11 H12 e13 d14 h15 => q v11 H12 (c0.trans e13) d14 (tgt (F := pI) hq h15))
theorem cv__law_number {Cc : Cl} {M : List Addr} {E : XK} {vs : List V} {H1 : Hp} {a__law_prime : Int} {a__law_row : List Int} (pre : (3 ≤ a__law_prime ∧ a__law_prime ≤ 31)) (d : Dcs M H1) (k : All2 [(pI a__law_prime), (pRow K a__law_row)] vs H1) (Q : VK) (q : ∀ v H2, Ch M H1 H2 → Dcs M H2 → (pI (m__law_number a__law_prime a__law_row)) v H2 → Q v H2) : sp__law_number K Cc vs H1 Q E := by
  obtain ⟨v__law_prime, v__law_row, rfl, h__law_prime, h__law_row⟩ := all2 k
  exact ⟨a__law_prime, a__law_row, v__law_prime, v__law_row, rfl, h__law_prime, h__law_row, pre, fun u H' c _ r => q u H' c.any (d.new c.same) r⟩
theorem ev__law_number {Cc : Cl} {M : List Addr} {σ : St} {H : Hp} {tr : TA} {E : XK} {a__law_prime : Int} {a__law_row : List Int} (h : EvA M tr σ H [(pI a__law_prime), (pRow K a__law_row)]) (pre : (3 ≤ a__law_prime ∧ a__law_prime ≤ 31)) : EvP M (tCall (sp__law_number K Cc) [] E tr) σ H (pI (m__law_number a__law_prime a__law_row)) := ev_call h fun vs H1 d k Q q => cv__law_number pre d k Q q
end
end R

namespace R
open PySem PySem.Spec L2 Mir TL RZ
def m_is_within (a_value : Int) (a_low : Int) (a_high : Int) : Bool := ((m_is_integer a_value) && (decide (a_low ≤ a_value) && decide (a_value ≤ a_high)))
def sp_is_within (K : PySem.W.Frag) (Cc : Cl) : Sp := fun vs H Q _ => ∃ (a_value : Int) (a_low : Int) (a_high : Int) (v_value v_low v_high : V), vs = [v_value, v_low, v_high] ∧ (pI a_value) v_value H ∧ (pI a_low) v_low H ∧ (pI a_high) v_high H ∧ (True) ∧ ∀ u H', Ch [] H H' → Dcs [] H' → (pB (m_is_within a_value a_low a_high)) u H' → Q u H'
abbrev N_is_within : List Str := ["value", "low", "high"]
theorem sc_is_within : FnScope N_is_within ["value", "low", "high"] (defScope s_is_within) := ⟨rfl, rfl, rfl, by decide +kernel, rfl, by decide +kernel, by decide +kernel⟩
section
variable {P : Program} {w : World} {K : PySem.W.Frag} {mg : Str → Option Value} {base : Heap}
theorem ok_is_within (T : Txt K mg) : FnOk P w K mg base CX0 2 T.f_is_within T.fd_is_within ["value", "low", "high"] (sp_is_within K T.C) := by
  refine T.F_is_within.ok sc_is_within (fun vs H Q E h => ?_) (fun cdv A outer s H vs Q E hr h => ?_)
  · obtain ⟨a_value, a_low, a_high, v_value, v_low, v_high, rfl, h_value, h_low, h_high, hpre, q⟩ := h
    rfl
  · obtain ⟨a_value, a_low, a_high, v_value, v_low, v_high, rfl, h_value, h_low, h_high, hpre, q⟩ := h
    refine ⟨_, (pss_one (ps_ret (pe_and (pe_call (ok_is_integer T) (hr.mono (by decide)) (by rfl) T.g_is_integer T.F_is_integer.kp T.b_is_integer .nil pass0 (pa_cons (pv 0) pa_nil)) (pe_one (pe_chain op_le op_le (pv 1) (pv 0) (pv 2)))))), ?_⟩
    have c0 : Ch [] H H := .refl H
    have d0 : Dcs [] H := .nil
    have hq := m_is_within.eq_1 a_value a_low a_high
    exact s_ret (ev_and (ev_is_integer (ea_cons (ev_var rfl h_value) ea_nil) (by first | omega | assumption | decide | (simp only [decide_eq_true_eq, decide_eq_false_iff_not, Bool.not_eq_true', Bool.not_eq_false', Bool.and_eq_true, Bool.or_eq_false_iff, bne_iff_ne, bne_eq_false_iff_eq, ne_eq, Int.not_lt, Int.not_le] at *; first | omega | exact ⟨by omega, by omega⟩))) (fun hb1 => (ev_chain (ev_var rfl h_low) (ev_var rfl h_value) (ev_var rfl h_high)))) d0 (fun v3 H4 e5 d6 h7 => q v3 H4 (c0.trans e5) d6 (tgt (F := pB) hq h7))
theorem cv_is_within {Cc : Cl} {M : List Addr} {E : XK} {vs : List V} {H1 : Hp} {a_value : Int} {a_low : Int} {a_high : Int} (pre : (True)) (d : Dcs M H1) (k : All2 [(pI a_value), (pI a_low), (pI a_high)] vs H1) (Q : VK) (q : ∀ v H2, Ch M H1 H2 → Dcs M H2 → (pB (m_is_within a_value a_low a_high)) v H2 → Q v H2) : sp_is_within K Cc vs H1 Q E := by
  obtain ⟨v_value, v_low, v_high, rfl, h_value, h_low, h_high⟩ := all3 k
  exact ⟨a_value, a_low, a_high, v_value, v_low, v_high, rfl, h_value, h_low, h_high, pre, fun u H' c _ r => q u H' c.any (d.new c.same) r⟩
theorem ev_is_within {Cc : Cl} {M : List Addr} {σ : St} {H : Hp} {tr : TA} {E : XK} {a_value : Int} {a_low : Int} {a_high : Int} (h : EvA M tr σ H [(pI a_value), (pI a_low), (pI a_high)]) (pre : (True)) : EvP M (tCall (sp_is_within K Cc) [] E tr) σ H (pB (m_is_within a_value a_low a_high)) := ev_call h fun vs H1 d k Q q => cv_is_within pre d k Q q
end
end R

namespace R
open PySem PySem.Spec L2 Mir TL RZ
def m_is_prime (a_value : Int) : Bool := ((m_is_integer a_value) && (decide (a_value ∈ primes)))
def sp_is_prime (K : PySem.W.Frag) (Cc : Cl) : Sp := fun vs H Q _ => ∃ (a_value : Int) (v_value : V), vs = [v_value] ∧ (pI a_value) v_value H ∧ (True) ∧ ∀ u H', Ch [] H H' → Dcs [] H' → (pB (m_is_prime a_value)) u H' → Q u H'
abbrev N_is_prime : List Str := ["value"]
theorem sc_is_prime : FnScope N_is_prime ["value"] (defScope s_is_prime) := ⟨rfl, rfl, rfl, by decide +kernel, rfl, by decide +kernel, by decide +kernel⟩
section
variable {P : Program} {w : World} {K : PySem.W.Frag} {mg : Str → Option Value} {base : Heap}
theorem ok_is_prime (T : Txt K mg) : FnOk P w K mg base CX0 2 T.f_is_prime T.fd_is_prime ["value"] (sp_is_prime K T.C) := by
  refine T.F_is_prime.ok sc_is_prime (fun vs H Q E h => ?_) (fun cdv A outer s H vs Q E hr h => ?_)
  · obtain ⟨a_value, v_value, rfl, h_value, hpre, q⟩ := h
    rfl
  · obtain ⟨a_value, v_value, rfl, h_value, hpre, q⟩ := h
    refine ⟨_, (pss_one (ps_ret (pe_and (pe_call (ok_is_integer T) (hr.mono (by decide)) (by rfl) T.g_is_integer T.F_is_integer.kp T.b_is_integer .nil pass0 (pa_cons (pv 0) pa_nil)) (pe_one (pe_cmpR (op_in_seqK K) (pv 0) (pe_glob (v := V.ref T.a_PRIMES) (by rfl) T.g_PRIMES rfl) (by rfl)))))), ?_⟩
    have c0 : Ch [] H H := .refl H
    have d0 : Dcs [] H := .nil
    have hq := m_is_prime.eq_1 a_value
    exact s_ret (ev_and (ev_is_integer (ea_cons (ev_var rfl h_value) ea_nil) (by first | omega | assumption | decide | (simp only [decide_eq_true_eq, decide_eq_false_iff_not, Bool.not_eq_true', Bool.not_eq_false', Bool.and_eq_true, Bool.or_eq_false_iff, bne_iff_ne, bne_eq_false_iff_eq, ne_eq, Int.not_lt, Int.not_le] at *; first | omega | exact ⟨by omega, by omega⟩))) (fun hb1 => (ev_inR (ev_var rfl h_value) (ev_c fun H => pRow.mk (T.q_PRIMES H))))) d0 (fun v3 H4 e5 d6 h7 => q v3 H4 (c0.trans e5) d6 (tgt (F := pB) hq h7))
theorem cv_is_prime {Cc : Cl} {M : List Addr} {E : XK} {vs : List V} {H1 : Hp} {a_value : Int} (pre : (True)) (d : Dcs M H1) (k : All2 [(pI a_value)] vs H1) (Q : VK) (q : ∀ v H2, Ch M H1 H2 → Dcs M H2 → (pB (m_is_prime a_value)) v H2 → Q v H2) : sp_is_prime K Cc vs H1 Q E := by
  obtain ⟨v_value, rfl, h_value⟩ := all1 k
  exact ⟨a_value, v_value, rfl, h_value, pre, fun u H' c _ r => q u H' c.any (d.new c.same) r⟩
theorem ev_is_prime {Cc : Cl} {M : List Addr} {σ : St} {H : Hp} {tr : TA} {E : XK} {a_value : Int} (h : EvA M tr σ H [(pI a_value)]) (pre : (True)) : EvP M (tCall (sp_is_prime K Cc) [] E tr) σ H (pB (m_is_prime a_value)) := ev_call h fun vs H1 d k Q q => cv_is_prime pre d k Q q
end
end R

namespace R
open PySem PySem.Spec L2 Mir TL RZ
def m_Poly_number (a_self : Pol) : Int := (m_row_number (a_self).p (a_self).r)
def sp_Poly_number (K : PySem.W.Frag) (Cc : Cl) : Sp := fun vs H Q _ => ∃ (a_self : Pol) (v_self : V), vs = [v_self] ∧ (pPoly K Cc a_self) v_self H ∧ (Okp a_self) ∧ ∀ u H', Ch [] H H' → Dcs [] H' → (pI (m_Poly_number a_self)) u H' → Q u H'
abbrev N_Poly_number : List Str := ["self"]
theorem sc_Poly_number : FnScope N_Poly_number ["self"] (defScope s_Poly_number) := ⟨rfl, rfl, rfl, by decide +kernel, rfl, by decide +kernel, by decide +kernel⟩
section
variable {P : Program} {w : World} {K : PySem.W.Frag} {mg : Str → Option Value} {base : Heap}
theorem ok_Poly_number (T : Txt K mg) : FnOk P w K mg base CX0 2 T.f_Poly_number T.fd_Poly_number ["self"] (sp_Poly_number K T.C) := by
  refine T.F_Poly_number.ok sc_Poly_number (fun vs H Q E h => ?_) (fun cdv A outer s H vs Q E hr h => ?_)
  · obtain ⟨a_self, v_self, rfl, h_self, hpre, q⟩ := h
    rfl
  · obtain ⟨a_self, v_self, rfl, h_self, hpre, q⟩ := h
    refine ⟨_, (pss_one (ps_ret (pe_call (ok_row_number T) (hr.mono (by decide)) (by rfl) T.g_row_number T.F_row_number.kp T.b_row_number .nil pass0 (pa_cons (pe_fldK K (pv 0) rfl) (pa_cons (pe_fldK K (pv 0) rfl) pa_nil))))), ?_⟩
    have c0 : Ch [] H H := .refl H
    have d0 : Dcs [] H := .nil
    have hq := m_Poly_number.eq_1 a_self
    exact s_ret (ev_row_number (ea_cons (ev_fld (P := (pI (a_self).p)) (ev_var rfl h_self) T.cl_Poly T.n_Poly_prime (by rfl)) (ea_cons (ev_fld (P := (pRow K (a_self).r)) (ev_var rfl h_self) T.cl_Poly T.n_Poly_entries (by rfl)) ea_nil)) (by first | omega | assumption | exact hpre.pr | decide | (simp only [decide_eq_true_eq, decide_eq_false_iff_not, Bool.not_eq_true', Bool.not_eq_false', Bool.and_eq_true, Bool.or_eq_false_iff, bne_iff_ne, bne_eq_false_iff_eq, ne_eq, Int.not_lt, Int.not_le] at *; first | omega | exact ⟨by omega, by omega⟩))) d0 (fun v1 H2 e3 d4 h5 => q v1 H2 (c0.trans e3) d4 (tgt (F := pI) hq h5))
theorem cv_Poly_number {Cc : Cl} {M : List Addr} {E : XK} {vs : List V} {H1 : Hp} {a_self : Pol} (pre : (Okp a_self)) (d : Dcs M H1) (k : All2 [(pPoly K Cc a_self)] vs H1) (Q : VK) (q : ∀ v H2, Ch M H1 H2 → Dcs M H2 → (pI (m_Poly_number a_self)) v H2 → Q v H2) : sp_Poly_number K Cc vs H1 Q E := by
  obtain ⟨v_self, rfl, h_self⟩ := all1 k
  exact ⟨a_self, v_self, rfl, h_self, pre, fun u H' c _ r => q u H' c.any (d.new c.same) r⟩
end
end R

namespace R
open PySem PySem.Spec L2 Mir TL RZ
theorem len_nat (z : Str) : z.length = z.cps.toList.length := by
  rw [Array.length_toList]
  rfl
theorem num_dig {z : Str} (h : m_is_number z = true) : NumText.AllDigits z.cps.toList ∧ z.cps.toList ≠ [] := by
  unfold m_is_number at h
  rw [Bool.and_eq_true] at h
  refine ⟨alldig h.2, fun e => ?_⟩
  have h1 := h.1
  rw [decide_eq_true_eq] at h1
  have hz : (cutS z none (some (1 : Int))).length ≤ z.length := cutS_length _ _ _
  have h0 : (cutS z none (some (1 : Int))).cps.toList = [] := by
    apply List.eq_nil_of_length_eq_zero
    rw [← len_nat]
    rw [len_nat z, e] at hz
    exact Nat.le_zero.mp hz
  rw [h0] at h1
  exact absurd h1 (by simp)
theorem dig_int {z : Str} (h : NumText.AllDigits z.cps.toList) (hn : z.cps.toList ≠ []) (l : z.length ≤ 640) : PySem.intText? z = some ((NumText.digitsVal z.cps.toList : Nat) : Int) ∧ z.length ≤ 640 := ⟨intText_digits h hn (by omega), by omega⟩
theorem num_int {z : Str} (h : ((m_is_number z) && (decide (((z).length : Int) ≤ (2 : Int)))) = true) : PySem.intText? z = some ((NumText.digitsVal z.cps.toList : Nat) : Int) ∧ z.length ≤ 640 := by
  rw [Bool.and_eq_true, decide_eq_true_eq] at h
  have d := num_dig h.1
  exact dig_int d.1 d.2 (by omega)
theorem behind0 {z : Str} (h : ((z).length : Int) ≠ 0) : inb z.cps.toList.length 0 := by
  rw [← len_nat]
  exact ⟨by omega, by omega⟩
end R

namespace R
open PySem PySem.Spec L2 Mir TL RZ
def m_entry_told (a_ahead : Str) (a_sign : Str) : Int := (if ((((a_sign).length : Int) != 0) && (decide (a_ahead = ("" : Str)) || decide (a_ahead = ("1" : Str)))) = true then (if (((a_ahead).length : Int) != 0) = true then (0 : Int) else (1 : Int)) else (if ((m_is_number a_ahead) && (decide (((a_ahead).length : Int) ≤ (2 : Int)))) = true then (intOf a_ahead) else (0 : Int)))
def sp_entry_told (K : PySem.W.Frag) (Cc : Cl) : Sp := fun vs H Q _ => ∃ (a_ahead : Str) (a_sign : Str) (v_ahead v_sign : V), vs = [v_ahead, v_sign] ∧ (pS a_ahead) v_ahead H ∧ (pS a_sign) v_sign H ∧ ((a_ahead).length ≤ 1000 ∧ (a_sign).length ≤ 1000) ∧ ∀ u H', Ch [] H H' → Dcs [] H' → (pI (m_entry_told a_ahead a_sign)) u H' → Q u H'
abbrev N_entry_told : List Str := ["ahead", "sign"]
theorem sc_entry_told : FnScope N_entry_told ["ahead", "sign"] (defScope s_entry_told) := ⟨rfl, rfl, rfl, by decide +kernel, rfl, by decide +kernel, by decide +kernel⟩
section
variable {P : Program} {w : World} {K : PySem.W.Frag} {mg : Str → Option Value} {base : Heap}
theorem ok_entry_told (T : Txt K mg) : FnOk P w K mg base CX0 2 T.f_entry_told T.fd_entry_told ["ahead", "sign"] (sp_entry_told K T.C) := by
  refine T.F_entry_told.ok sc_entry_told (fun vs H Q E h => ?_) (fun cdv A outer s H vs Q E hr h => ?_)
  · obtain ⟨a_ahead, a_sign, v_ahead, v_sign, rfl, h_ahead, h_sign, hpre, q⟩ := h
    rfl
  · obtain ⟨a_ahead, a_sign, v_ahead, v_sign, rfl, h_ahead, h_sign, hpre, q⟩ := h
    refine ⟨_, (pss_cons (ps_if (PW.pt (pw_and (pt_truthK K (pv 1) (by intro _; rfl)) (pw_and1 (pt_cmpR (op_in_seqK K) (pv 0) (pe_tup (pa_cons pe_str (pa_cons pe_str pa_nil))) (by rfl))))) (pss_one (ps_ret (pe_ifExp (pt_truthK K (pv 0) (by intro _; rfl)) pe_int pe_int))) pss_nil)
        (pss_one (ps_ret (pe_ifExp (PW.pt (pw_and (pt_val (pe_call (ok_is_number T) (hr.mono (by decide)) (by rfl) T.g_is_number T.F_is_number.kp T.b_is_number .nil pass0 (pa_cons (pv 0) pa_nil))) (pw_and1 (pt_cmpR op_le (pe_callB call_len_str (by rfl) T.z_len (by decide +kernel) (pa_cons (pv 0) pa_nil)) (pe_glob (v := V.int 2) (by rfl) T.g__MAX_DIGITS ⟨_, rfl⟩) (nomark _))))) (pe_callTy call_int_str (by rfl) T.z_int (by decide +kernel) (pa_cons (pv 0) pa_nil)) pe_int)))), ?_⟩
    have c0 : Ch [] H H := .refl H
    have d0 : Dcs [] H := .nil
    have hq := m_entry_told.eq_1 a_ahead a_sign
    refine q_if (eb_and (eb_tru (ev_var rfl h_sign) (fun _ _ p => tru_str (by first | omega | assumption | exact Evl.sz_of (by omega) | exact num_int (by assumption) | decide | (simp only [decide_eq_true_eq, decide_eq_false_iff_not, Bool.not_eq_true', Bool.not_eq_false', Bool.and_eq_true, Bool.or_eq_false_iff, bne_iff_ne, bne_eq_false_iff_eq, ne_eq, Int.not_lt, Int.not_le] at *; first | omega | exact ⟨by omega, by omega⟩)) p)) (fun hb1 => (eb_test (ev_in2S (ev_var rfl h_ahead) (ev_tup (K := K) (ea_cons ev_str (ea_cons ev_str ea_nil)) (by show 2 ≤ 100000; decide)))))) d0 ?_ ?_
    · intro hb6 H3 e4 d5
      have h_ahead := (Mono.mono e4 h_ahead)
      have h_sign := (Mono.mono e4 h_sign)
      have c0 := c0.trans e4
      have hq := hq.trans (if_pos hb6)
      try simp only [decide_eq_true_eq, decide_eq_false_iff_not, Bool.not_eq_true', Bool.not_eq_false', Bool.and_eq_true, Bool.or_eq_false_iff, bne_iff_ne, bne_eq_false_iff_eq, ne_eq, Int.not_lt, Int.not_le] at hb6
      exact s_ret (ev_if (F := pI) (eb_tru (ev_var rfl h_ahead) (fun _ _ p => tru_str (by first | omega | assumption | exact Evl.sz_of (by omega) | exact num_int (by assumption) | decide | (simp only [decide_eq_true_eq, decide_eq_false_iff_not, Bool.not_eq_true', Bool.not_eq_false', Bool.and_eq_true, Bool.or_eq_false_iff, bne_iff_ne, bne_eq_false_iff_eq, ne_eq, Int.not_lt, Int.not_le] at *; first | omega | exact ⟨by omega, by omega⟩)) p)) (fun hb7 => ev_int) (fun hb7 => ev_int)) d5 (fun v8 H9 e10 d11 h12 => q v8 H9 (c0.trans e10) d11 (tgt (F := pI) hq h12))
    · intro hb16 H13 e14 d15
      have h_ahead := (Mono.mono e14 h_ahead)
      have h_sign := (Mono.mono e14 h_sign)
      have c0 := c0.trans e14
      have hq := hq.trans (ne_true hb16)
      try simp only [decide_eq_true_eq, decide_eq_false_iff_not, Bool.not_eq_true', Bool.not_eq_false', Bool.and_eq_true, Bool.or_eq_false_iff, bne_iff_ne, bne_eq_false_iff_eq, ne_eq, Int.not_lt, Int.not_le] at hb16
      exact s_ret (ev_if (F := pI) (eb_and (eb_val (ev_is_number (ea_cons (ev_var rfl h_ahead) ea_nil) (by first | omega | assumption | exact Evl.sz_of (by omega) | exact num_int (by assumption) | decide | (simp only [decide_eq_true_eq, decide_eq_false_iff_not, Bool.not_eq_true', Bool.not_eq_false', Bool.and_eq_true, Bool.or_eq_false_iff, bne_iff_ne, bne_eq_false_iff_eq, ne_eq, Int.not_lt, Int.not_le] at *; first | omega | exact ⟨by omega, by omega⟩)))) (fun hb17 => (eb_test (ev_le (ev_lenS (ea_cons (ev_var rfl h_ahead) ea_nil) (by first | omega | assumption | exact Evl.sz_of (by omega) | exact num_int (by assumption) | decide | (simp only [decide_eq_true_eq, decide_eq_false_iff_not, Bool.not_eq_true', Bool.not_eq_false', Bool.and_eq_true, Bool.or_eq_false_iff, bne_iff_ne, bne_eq_false_iff_eq, ne_eq, Int.not_lt, Int.not_le] at *; first | omega | exact ⟨by omega, by omega⟩))) (ev_int (i := 2)))))) (fun hb19 => (ev_intS (ea_cons (ev_var rfl h_ahead) ea_nil) (by first | omega | assumption | exact Evl.sz_of (by omega) | exact num_int (by assumption) | decide | (simp only [decide_eq_true_eq, decide_eq_false_iff_not, Bool.not_eq_true', Bool.not_eq_false', Bool.and_eq_true, Bool.or_eq_false_iff, bne_iff_ne, bne_eq_false_iff_eq, ne_eq, Int.not_lt, Int.not_le] at *; first | omega | exact ⟨by omega, by omega⟩)))) (fun hb19 => ev_int)) d15 (fun v20 H21 e22 d23 h24 => q v20 H21 (c0.trans e22) d23 (tgt (F := pI) hq h24))
theorem cv_entry_told {Cc : Cl} {M : List Addr} {E : XK} {vs : List V} {H1 : Hp} {a_ahead : Str} {a_sign : Str} (pre : ((a_ahead).length ≤ 1000 ∧ (a_sign).length ≤ 1000)) (d : Dcs M H1) (k : All2 [(pS a_ahead), (pS a_sign)] vs H1) (Q : VK) (q : ∀ v H2, Ch M H1 H2 → Dcs M H2 → (pI (m_entry_told a_ahead a_sign)) v H2 → Q v H2) : sp_entry_told K Cc vs H1 Q E := by
  obtain ⟨v_ahead, v_sign, rfl, h_ahead, h_sign⟩ := all2 k
  exact ⟨a_ahead, a_sign, v_ahead, v_sign, rfl, h_ahead, h_sign, pre, fun u H' c _ r => q u H' c.any (d.new c.same) r⟩
theorem ev_entry_told {Cc : Cl} {M : List Addr} {σ : St} {H : Hp} {tr : TA} {E : XK} {a_ahead : Str} {a_sign : Str} (h : EvA M tr σ H [(pS a_ahead), (pS a_sign)]) (pre : ((a_ahead).length ≤ 1000 ∧ (a_sign).length ≤ 1000)) : EvP M (tCall (sp_entry_told K Cc) [] E tr) σ H (pI (m_entry_told a_ahead a_sign)) := ev_call h fun vs H1 d k Q q => cv_entry_told pre d k Q q
end
end R

namespace R
open PySem PySem.Spec L2 Mir TL RZ
def m_power_told (a_sign : Str) (a_behind : Str) : Option Str := (if (!(((a_behind).length : Int) != 0)) = true then (some (if (((a_sign).length : Int) != 0) = true then ("1" : Str) else ("0" : Str))) else (if ((decide ((ixS a_behind (0 : Int)) = ("^" : Str))) && ((m_is_number (cutS a_behind (some (1 : Int)) none)) && (!decide ((cutS a_behind (some (1 : Int)) none) = ("1" : Str))))) = true then (some (cutS a_behind (some (1 : Int)) none)) else (none : Option Str)))
def sp_power_told (K : PySem.W.Frag) (Cc : Cl) : Sp := fun vs H Q _ => ∃ (a_sign : Str) (a_behind : Str) (v_sign v_behind : V), vs = [v_sign, v_behind] ∧ (pS a_sign) v_sign H ∧ (pS a_behind) v_behind H ∧ ((a_sign).length ≤ 1000 ∧ (a_behind).length ≤ 1000) ∧ ∀ u H', Ch [] H H' → Dcs [] H' → (pO pS (m_power_told a_sign a_behind)) u H' → Q u H'
abbrev N_power_told : List Str := ["sign", "behind", "digits"]
theorem sc_power_told : FnScope N_power_told ["sign", "behind"] (defScope s_power_told) := ⟨rfl, rfl, rfl, by decide +kernel, rfl, by decide +kernel, by decide +kernel⟩
section
variable {P : Program} {w : World} {K : PySem.W.Frag} {mg : Str → Option Value} {base : Heap}
theorem ok_power_told (T : Txt K mg) : FnOk P w K mg base CX0 2 T.f_power_told T.fd_power_told ["sign", "behind"] (sp_power_told K T.C) := by
  refine T.F_power_told.ok sc_power_told (fun vs H Q E h => ?_) (fun cdv A outer s H vs Q E hr h => ?_)
  · obtain ⟨a_sign, a_behind, v_sign, v_behind, rfl, h_sign, h_behind, hpre, q⟩ := h
    rfl
  · obtain ⟨a_sign, a_behind, v_sign, v_behind, rfl, h_sign, h_behind, hpre, q⟩ := h
    refine ⟨_, (pss_cons (ps_if (pt_not (pt_truthK K (pv 1) (by intro _; rfl))) (pss_one (ps_ret (pe_ifExp (pt_truthK K (pv 0) (by intro _; rfl)) pe_str pe_str))) pss_nil)
        (pss_cons (ps_set (i := 2) sc_power_told.nd rfl (Or.inl rfl) (pe_slice sl_str (pv 1) (po_some pe_int) po_none))
        (pss_one (ps_ret (pe_ifExp (PW.pt (pw_and (pt_cmpR op_eq (pe_ix ix_str (pv 1) pe_int (fun _ _ => rfl)) pe_str (nomark _)) (pw_and (pt_val (pe_call (ok_is_number T) (hr.mono (by decide)) (by rfl) T.g_is_number T.F_is_number.kp T.b_is_number .nil pass0 (pa_cons (pv 2) pa_nil))) (pw_and1 (pt_cmpR op_ne (pv 2) pe_str (nomark _)))))) (pv 2) pe_non))))), ?_⟩
    have c0 : Ch [] H H := .refl H
    have d0 : Dcs [] H := .nil
    have hq := m_power_told.eq_1 a_sign a_behind
    refine q_if (eb_not (eb_tru (ev_var rfl h_behind) (fun _ _ p => tru_str (by first | omega | assumption | exact Evl.sz_of (by omega) | exact cutS_len hpre.2 | exact behind0 (by assumption) | decide | (simp only [decide_eq_true_eq, decide_eq_false_iff_not, Bool.not_eq_true', Bool.not_eq_false', Bool.and_eq_true, Bool.or_eq_false_iff, bne_iff_ne, bne_eq_false_iff_eq, ne_eq, Int.not_lt, Int.not_le] at *; first | omega | exact ⟨by omega, by omega⟩)) p))) d0 ?_ ?_
    · intro hb4 H1 e2 d3
      have h_sign := (Mono.mono e2 h_sign)
      have h_behind := (Mono.mono e2 h_behind)
      have c0 := c0.trans e2
      have hq := hq.trans (if_pos hb4)
      try simp only [decide_eq_true_eq, decide_eq_false_iff_not, Bool.not_eq_true', Bool.not_eq_false', Bool.and_eq_true, Bool.or_eq_false_iff, bne_iff_ne, bne_eq_false_iff_eq, ne_eq, Int.not_lt, Int.not_le] at hb4
      exact s_ret (EvP.some (F := pS) (ev_if (F := pS) (eb_tru (ev_var rfl h_sign) (fun _ _ p => tru_str (by first | omega | assumption | exact Evl.sz_of (by omega) | exact cutS_len hpre.2 | exact behind0 (by assumption) | decide | (simp only [decide_eq_true_eq, decide_eq_false_iff_not, Bool.not_eq_true', Bool.not_eq_false', Bool.and_eq_true, Bool.or_eq_false_iff, bne_iff_ne, bne_eq_false_iff_eq, ne_eq, Int.not_lt, Int.not_le] at *; first | omega | exact ⟨by omega, by omega⟩)) p)) (fun hb5 => ev_str) (fun hb5 => ev_str))) d3 (fun v6 H7 e8 d9 h10 => q v6 H7 (c0.trans e8) d9 (tgt (F := (pO pS)) hq h10))
    · intro hb14 H11 e12 d13
      have h_sign := (Mono.mono e12 h_sign)
      have h_behind := (Mono.mono e12 h_behind)
      have c0 := c0.trans e12
      have hq := hq.trans (ne_true hb14)
      try simp only [decide_eq_true_eq, decide_eq_false_iff_not, Bool.not_eq_true', Bool.not_eq_false', Bool.and_eq_true, Bool.or_eq_false_iff, bne_iff_ne, bne_eq_false_iff_eq, ne_eq, Int.not_lt, Int.not_le] at hb14
      refine q_asg (ev_slS (ev_var rfl h_behind) (eo_some ev_int) eo_none (by first | omega | assumption | exact Evl.sz_of (by omega) | exact cutS_len hpre.2 | exact behind0 (by assumption) | decide | (simp only [decide_eq_true_eq, decide_eq_false_iff_not, Bool.not_eq_true', Bool.not_eq_false', Bool.and_eq_true, Bool.or_eq_false_iff, bne_iff_ne, bne_eq_false_iff_eq, ne_eq, Int.not_lt, Int.not_le] at *; first | omega | exact ⟨by omega, by omega⟩))) d13 (fun v15 H16 e17 d18 h_19 => ?_)
      have h_sign := (Mono.mono e17 h_sign)
      have h_behind := (Mono.mono e17 h_behind)
      have c0 := c0.trans e17
      exact s_ret (ev_if (F := (pO pS)) (eb_and (eb_test (ev_eqS (ev_ixS (ev_var rfl h_behind) ev_int (by first | omega | assumption | exact Evl.sz_of (by omega) | exact cutS_len hpre.2 | exact behind0 (by assumption) | decide | (simp only [decide_eq_true_eq, decide_eq_false_iff_not, Bool.not_eq_true', Bool.not_eq_false', Bool.and_eq_true, Bool.or_eq_false_iff, bne_iff_ne, bne_eq_false_iff_eq, ne_eq, Int.not_lt, Int.not_le] at *; first | omega | exact ⟨by omega, by omega⟩)) (by first | omega | assumption | exact Evl.sz_of (by omega) | exact cutS_len hpre.2 | exact behind0 (by assumption) | decide | (simp only [decide_eq_true_eq, decide_eq_false_iff_not, Bool.not_eq_true', Bool.not_eq_false', Bool.and_eq_true, Bool.or_eq_false_iff, bne_iff_ne, bne_eq_false_iff_eq, ne_eq, Int.not_lt, Int.not_le] at *; first | omega | exact ⟨by omega, by omega⟩))) ev_str)) (fun hb20 => (eb_and (eb_val (ev_is_number (ea_cons (ev_var rfl h_19) ea_nil) (by first | omega | assumption | exact Evl.sz_of (by omega) | exact cutS_len hpre.2 | exact behind0 (by assumption) | decide | (simp only [decide_eq_true_eq, decide_eq_false_iff_not, Bool.not_eq_true', Bool.not_eq_false', Bool.and_eq_true, Bool.or_eq_false_iff, bne_iff_ne, bne_eq_false_iff_eq, ne_eq, Int.not_lt, Int.not_le] at *; first | omega | exact ⟨by omega, by omega⟩)))) (fun hb21 => (eb_test (ev_neS (ev_var rfl h_19) ev_str)))))) (fun hb23 => (EvP.some (F := pS) (ev_var rfl h_19))) (fun hb23 => (EvP.non (F := pS) ev_non))) d18 (fun v24 H25 e26 d27 h28 => q v24 H25 (c0.trans e26) d27 (tgt (F := (pO pS)) hq h28))
theorem cv_power_told {Cc : Cl} {M : List Addr} {E : XK} {vs : List V} {H1 : Hp} {a_sign : Str} {a_behind : Str} (pre : ((a_sign).length ≤ 1000 ∧ (a_behind).length ≤ 1000)) (d : Dcs M H1) (k : All2 [(pS a_sign), (pS a_behind)] vs H1) (Q : VK) (q : ∀ v H2, Ch M H1 H2 → Dcs M H2 → (pO pS (m_power_told a_sign a_behind)) v H2 → Q v H2) : sp_power_told K Cc vs H1 Q E := by
  obtain ⟨v_sign, v_behind, rfl, h_sign, h_behind⟩ := all2 k
  exact ⟨a_sign, a_behind, v_sign, v_behind, rfl, h_sign, h_behind, pre, fun u H' c _ r => q u H' c.any (d.new c.same) r⟩
theorem ev_power_told {Cc : Cl} {M : List Addr} {σ : St} {H : Hp} {tr : TA} {E : XK} {a_sign : Str} {a_behind : Str} (h : EvA M tr σ H [(pS a_sign), (pS a_behind)]) (pre : ((a_sign).length ≤ 1000 ∧ (a_behind).length ≤ 1000)) : EvP M (tCall (sp_power_told K Cc) [] E tr) σ H (pO pS (m_power_told a_sign a_behind)) := ev_call h fun vs H1 d k Q q => cv_power_told pre d k Q q
end
end R

namespace R
open PySem PySem.Spec L2 Mir TL RZ
def sp__law_roll : Sp := fun vs H Q _ => ∃ (a : Addr) (t : Int), vs = [.ref a, .int t] ∧ Dc a H ∧ 0 < t ∧ t ≤ 1000000000 ∧ ∀ r H', Ch [a] H H' → Dc a H' → 0 ≤ r → r < t → Q (.int r) H'
abbrev N__law_roll : List Str := ["_law_dice_here", "_law_total", "_law_found", "_law_one", "_law_two"]
theorem sc__law_roll : FnScope N__law_roll ["_law_dice_here", "_law_total"] (defScope s__law_roll) := ⟨rfl, rfl, rfl, by decide +kernel, rfl, by decide +kernel, by decide +kernel⟩
section
variable {P : Program} {w : World} {K : PySem.W.Frag} {mg : Str → Option Value} {base : Heap}
theorem ok__law_roll (T : Txt K mg) : FnOk P w K mg base CX0 1 T.f__law_roll T.fd__law_roll ["_law_dice_here", "_law_total"] (sp__law_roll) := by
  refine T.F__law_roll.ok sc__law_roll (fun vs H Q E h => ?_) (fun cdv A outer s H vs Q E hr h => ?_)
  · obtain ⟨a, t, rfl, ⟨x, y, z, hd⟩, h0, h1, q⟩ := h
    rfl
  · obtain ⟨a, t, rfl, ⟨x, y, z, hd⟩, h0, h1, q⟩ := h
    refine ⟨_, (pss_cons (ps_if (pt_cmpR op_gt (pe_ix ix_list (pv 0) pe_int (fun _ _ => rfl)) pe_int (nomark _)) (pss_cons (ps_set (i := 2) sc__law_roll.nd rfl (Or.inl rfl) (pe_op op_mod (pe_callTy call_int1 (by rfl) T.z_int (by decide +kernel) (pa_cons (pe_ix ix_list (pv 0) pe_int (fun _ _ => rfl)) pa_nil)) (pv 1)))
      (pss_cons (ps_asg (pe_op op_fdivN (pe_ix ix_list (pv 0) pe_int (fun _ _ => rfl)) (pv 1)) (pg_sub (pv 0) pe_int set_list))
      (pss_one (ps_ret (pv 2))))) pss_nil)
      (pss_cons (ps_asg (pe_op op_add (pe_ix ix_list (pv 0) pe_int (fun _ _ => rfl)) pe_int) (pg_sub (pv 0) pe_int set_list))
      (pss_cons (ps_set (i := 3) sc__law_roll.nd rfl (Or.inl rfl) (pe_op op_mod (pe_callTy call_int1 (by rfl) T.z_int (by decide +kernel) (pa_cons (pe_op op_add (pe_ix ix_list (pv 0) pe_int (fun _ _ => rfl)) (pe_op op_mul pe_int (pe_ix ix_list (pv 0) pe_int (fun _ _ => rfl)))) pa_nil)) pe_int))
      (pss_cons (ps_set (i := 4) sc__law_roll.nd rfl (Or.inl rfl) (pe_op op_add (pe_op op_mul (pe_op op_mod (pe_callTy call_int1 (by rfl) T.z_int (by decide +kernel) (pa_cons (pe_op op_add (pe_op op_mul (pv 3) (pv 3)) (pe_op op_mul pe_int (pe_ix ix_list (pv 0) pe_int (fun _ _ => rfl)))) pa_nil)) pe_int) pe_int) (pv 3)))
      (pss_one (ps_ret (pe_op op_mod (pe_callTy call_int1 (by rfl) T.z_int (by decide +kernel) (pa_cons (pe_op op_fdivN (pv 4) pe_int) pa_nil)) (pv 1)))))))), ?_⟩
    refine ⟨_, rfl, _, _, _, _, rfl, rfl, SqL.of hd, rfl, _, _, rfl, rfl, _, rfl, ?_⟩
    refine ite2 (fun c => ?_) (fun c => ?_)
    · refine ⟨_, rfl, _, _, _, _, rfl, rfl, SqL.of hd, rfl, .inl ⟨_, rfl, _, rfl, _, _, rfl, rfl, h0, ?_⟩⟩
      refine ⟨_, rfl, _, _, _, _, rfl, rfl, SqL.of hd, rfl, _, rfl, _, _, rfl, rfl, ⟨by omega, by omega⟩, _, rfl, _, _, _, _, rfl, rfl, hd, rfl, ?_⟩
      exact ⟨_, rfl, q _ _ (roll_ch hd _ _ _).1 (roll_ch hd _ _ _).2 (Int.emod_nonneg _ (by omega)) (Int.emod_lt_of_pos _ h0)⟩
    · refine ⟨_, rfl, _, _, _, _, rfl, rfl, SqL.of hd, rfl, _, _, rfl, rfl, _, rfl, _, _, _, _, rfl, rfl, hd, rfl, ?_⟩
      refine ⟨_, rfl, _, _, _, _, rfl, rfl, SqL.of upd_same, rfl, _, rfl, _, _, _, _, rfl, rfl, SqL.of upd_same, rfl, _, _, rfl, rfl, .inl ⟨by decide, by decide⟩, _, _, rfl, rfl, .inl ⟨_, rfl, _, _, rfl, rfl, (show (0 : Int) < _ by decide), ?_⟩⟩
      refine ⟨_, rfl, _, rfl, _, _, rfl, rfl, .inl ⟨by omega, by omega⟩, _, rfl, _, _, _, _, rfl, rfl, SqL.of upd_same, rfl, _, _, rfl, rfl, .inl ⟨by decide, by decide⟩, _, _, rfl, rfl, .inl ⟨_, rfl, _, _, rfl, rfl, (show (0 : Int) < _ by decide), _, _, rfl, rfl, .inr ⟨by decide, by decide⟩, _, rfl, _, _, rfl, rfl, ?_⟩⟩
      exact ⟨_, rfl, _, _, rfl, rfl, ⟨by decide, by decide⟩, .inl ⟨_, rfl, _, rfl, _, _, rfl, rfl, h0, q _ _ (roll_ch hd _ _ _).1 (roll_ch hd _ _ _).2 (Int.emod_nonneg _ (by omega)) (Int.emod_lt_of_pos _ h0)⟩⟩
theorem cv__law_roll {a : Addr} {E : XK} {vs : List V} {H1 : Hp} {t : Int} (pre : 0 < t ∧ t ≤ 1000000000) (d : Dcs [a] H1) (k : All2 [pD a, pI t] vs H1) (Q : VK) (q : ∀ v H2, Ch [a] H1 H2 → Dcs [a] H2 → pX (fun r : Int => 0 ≤ r ∧ r < t) pI v H2 → Q v H2) : sp__law_roll vs H1 Q E := by
  obtain ⟨v, w, rfl, rfl, rfl⟩ := all2 k
  exact ⟨a, t, rfl, d.one, pre.1, pre.2, fun r H' c d' r0 r1 => q _ H' c (dcs1 d') ⟨r, ⟨r0, r1⟩, rfl⟩⟩
theorem ev__law_roll {a : Addr} {σ : St} {H : Hp} {tr : TA} {E : XK} {t : Int} (h : EvA [a] tr σ H [pD a, pI t]) (pre : 0 < t ∧ t ≤ 1000000000) : EvP [a] (tCall sp__law_roll [] E tr) σ H (pX (fun r : Int => 0 ≤ r ∧ r < t) pI) := ev_call h fun vs H1 d k Q q => cv__law_roll pre d k Q q
end
end R

namespace R
open PySem PySem.Spec L2 Mir TL RZ
theorem drawn_size {d : Int} (h : 0 ≤ d ∧ d ≤ 100) : (irange 0 d).length ≤ 100000 := by
  rw [irange_len]
  omega
theorem drawn_size2 {p d x : Int} {r : List Int} (h : r.length = (irange 0 d).length ∧ ∀ y ∈ r, (fun m => 0 ≤ m ∧ m < p) y) (hd : 0 ≤ d ∧ d ≤ 100) : r.length + ([x] : List Int).length ≤ 100000 := by
  rw [h.1, irange_len, List.length_singleton]
  omega
theorem drawn_row {p d x : Int} {r : List Int} (hp : 3 ≤ p ∧ p ≤ 31 ∧ 0 ≤ d ∧ d ≤ 100) (h : r.length = (irange 0 d).length ∧ ∀ y ∈ r, (fun m => 0 ≤ m ∧ m < p) y) (hx : 0 ≤ x ∧ x < p - 1) : RowOk p (r ++ [1 + x]) ∧ ((r ++ [1 + x]).length : Int) = d + 1 := by
  have hl : (r ++ [1 + x]).length = d.toNat + 1 := by
    rw [List.length_append, h.1, irange_len, List.length_singleton]
    omega
  refine ⟨⟨by omega, fun e he => ?_, ?_⟩, by omega⟩
  · rcases List.mem_append.mp he with he | he
    · exact h.2 e he
    · rw [List.mem_singleton.mp he]
      omega
  · rw [List.getLast?_concat]
    intro c
    have : 1 + x = 0 := Option.some.inj c
    omega
theorem none_row {p : Int} : RowOk p [] ∧ ([] : List Int).length ≤ 13 := ⟨⟨by decide, (fun _ h => nomatch h), by decide⟩, by decide⟩
theorem any_row {p d : Int} {r : List Int} (h : RowOk p r ∧ (r.length : Int) = d + 1) (hd : 0 ≤ d ∧ d < 13) : RowOk p r ∧ r.length ≤ 13 := ⟨h.1, by omega⟩
end R

namespace R
open PySem PySem.Spec L2 Mir TL RZ
def sp__law_row_drawn (K : PySem.W.Frag) (Cc : Cl) : Sp := fun vs H Q _ => ∃ (aD : Addr) (a__law_prime : Int) (a__law_degree : Int) (v__law_dice_here v__law_prime v__law_degree : V), vs = [v__law_dice_here, v__law_prime, v__law_degree] ∧ Dc aD H ∧ (pD aD) v__law_dice_here H ∧ (pI a__law_prime) v__law_prime H ∧ (pI a__law_degree) v__law_degree H ∧ (3 ≤ a__law_prime ∧ a__law_prime ≤ 31 ∧ 0 ≤ a__law_degree ∧ a__law_degree ≤ 100) ∧ ∀ u H', Ch [aD] H H' → Dcs [aD] H' → (pX (fun r => RowOk a__law_prime r ∧ (r.length : Int) = a__law_degree + 1) (pRow K)) u H' → Q u H'
abbrev N__law_row_drawn : List Str := ["_law_dice_here", "_law_prime", "_law_degree", "_law_entries", "_law_turn"]
theorem sc__law_row_drawn : FnScope N__law_row_drawn ["_law_dice_here", "_law_prime", "_law_degree"] (defScope s__law_row_drawn) := ⟨rfl, rfl, rfl, by decide +kernel, rfl, by decide +kernel, by decide +kernel⟩
section
variable {P : Program} {w : World} {K : PySem.W.Frag} {mg : Str → Option Value} {base : Heap}
theorem ok__law_row_drawn (T : Txt K mg) : FnOk P w K mg base CX0 2 T.f__law_row_drawn T.fd__law_row_drawn ["_law_dice_here", "_law_prime", "_law_degree"] (sp__law_row_drawn K T.C) := by
  refine T.F__law_row_drawn.ok sc__law_row_drawn (fun vs H Q E h => ?_) (fun cdv A outer s H vs Q E hr h => ?_)
  · obtain ⟨aD, a__law_prime, a__law_degree, v__law_dice_here, v__law_prime, v__law_degree, rfl, hdc, h__law_dice_here, h__law_prime, h__law_degree, hpre, q⟩ := h
    rfl
  · obtain ⟨aD, a__law_prime, a__law_degree, v__law_dice_here, v__law_prime, v__law_degree, rfl, hdc, h__law_dice_here, h__law_prime, h__law_degree, hpre, q⟩ := h
    refine ⟨_, (pss_cons (ps_setLc (i := 3) (own := [("_law_turn", 4)]) (g := gName 4) (tt := tYes) rfl sc__law_row_drawn.nd rfl rfl (sw_true rfl rfl rfl (by decide +kernel)) (pi_range1 (by rfl) T.z_range (pa_cons (pv 2) pa_nil)) (blkOk_by (own := [("_law_turn", 4)]) (N := N__law_row_drawn) (sc := defScope s__law_row_drawn) (by decide +kernel)) (fun _ _ _ _ _ => pg_name (i := 4) sc__law_row_drawn.nd rfl (Or.inl rfl)) (fun _ _ _ _ _ => pts_nil) (fun _ _ _ _ _ => (pe_call (ok__law_roll T) (hr.mono (by decide)) (by rfl) T.g__law_roll T.F__law_roll.kp T.b__law_roll .nil pass0 (pa_cons (pv 0) (pa_cons (pv 1) pa_nil)))))
        (pss_one (ps_ret (pe_op (op_catAK K) (pe_callTy (call_tuple_ofK K) (by rfl) T.z_tuple (by decide +kernel) (pa_cons (pv 3) pa_nil)) (pe_tup (pa_cons (pe_op op_add pe_int (pe_call (ok__law_roll T) (hr.mono (by decide)) (by rfl) T.g__law_roll T.F__law_roll.kp T.b__law_roll .nil pass0 (pa_cons (pv 0) (pa_cons (pe_op op_sub (pv 1) pe_int) pa_nil)))) pa_nil)))))), ?_⟩
    have c0 : Ch [aD] H H := .refl H
    have d0 : Dcs [aD] H := dcs1 hdc
    refine q_asg (ev_drawn (K := K) (xs := (irange 0 a__law_degree)) (ev_lc1 (F := pI) (G := fun x6 => (pX (fun m7 : Int => 0 ≤ m7 ∧ m7 < a__law_prime) fun m7 : Int => (pI m7))) (xs := (irange 0 a__law_degree)) (src_range1 (ea_cons (ev_var rfl h__law_degree) ea_nil) (by first | exact ⟨by omega, by omega⟩ | exact ⟨by omega, by omega, by omega, by omega⟩ | omega | assumption | exact drawn_size (by omega) | exact drawn_size2 (by assumption) (by omega) | exact drawn_row hpre (by assumption) (by assumption) | decide | (simp only [decide_eq_true_eq, decide_eq_false_iff_not, Bool.not_eq_true', Bool.not_eq_false', Bool.and_eq_true, Bool.or_eq_false_iff, bne_iff_ne, bne_eq_false_iff_eq, ne_eq, Int.not_lt, Int.not_le] at *; first | omega | exact ⟨by omega, by omega⟩))) (by first | omega | assumption | exact drawn_size (by omega) | exact drawn_size2 (by assumption) (by omega) | exact drawn_row hpre (by assumption) (by assumption) | decide | (simp only [decide_eq_true_eq, decide_eq_false_iff_not, Bool.not_eq_true', Bool.not_eq_false', Bool.and_eq_true, Bool.or_eq_false_iff, bne_iff_ne, bne_eq_false_iff_eq, ne_eq, Int.not_lt, Int.not_le] at *; first | omega | exact ⟨by omega, by omega⟩)) (wipe1 (by decide)) (fun x6 hx_x6 v2 H4 e1 d5 p3 => (ev__law_roll (ea_cons (ev_var rfl (Mono.mono e1 h__law_dice_here)) (ea_cons (ev_var rfl (Mono.mono e1 h__law_prime)) ea_nil)) (by first | exact ⟨by omega, by omega⟩ | omega | assumption | exact drawn_size (by omega) | exact drawn_size2 (by assumption) (by omega) | exact drawn_row hpre (by assumption) (by assumption) | decide | (simp only [decide_eq_true_eq, decide_eq_false_iff_not, Bool.not_eq_true', Bool.not_eq_false', Bool.and_eq_true, Bool.or_eq_false_iff, bne_iff_ne, bne_eq_false_iff_eq, ne_eq, Int.not_lt, Int.not_le] at *; first | omega | exact ⟨by omega, by omega⟩)))))) d0 (fun v9 H10 e11 d12 h_13 => ?_)
    obtain ⟨m8, hm8, h_13⟩ := h_13
    have h__law_dice_here := (Mono.mono e11 h__law_dice_here)
    have h__law_prime := (Mono.mono e11 h__law_prime)
    have h__law_degree := (Mono.mono e11 h__law_degree)
    have c0 := c0.trans e11
    exact s_ret (fo_op2 (R := fun m14 => (pRow K (m8 ++ ([((1 : Int) + m14)] : List Int)))) (ev_tupR (ea_cons (ev_var rfl h_13) ea_nil)) (fo_tup1 (K := K) (ev_tup (K := K) (ea_cons (fo_op2 (R := fun m14 => (pI ((1 : Int) + m14))) ev_int (ev__law_roll (ea_cons (ev_var rfl h__law_dice_here) (ea_cons (ev_sub (ev_var rfl h__law_prime) ev_int) ea_nil)) (by first | exact ⟨by omega, by omega⟩ | omega | assumption | exact drawn_size (by omega) | exact drawn_size2 (by assumption) (by omega) | exact drawn_row hpre (by assumption) (by assumption) | decide | (simp only [decide_eq_true_eq, decide_eq_false_iff_not, Bool.not_eq_true', Bool.not_eq_false', Bool.and_eq_true, Bool.or_eq_false_iff, bne_iff_ne, bne_eq_false_iff_eq, ne_eq, Int.not_lt, Int.not_le] at *; first | omega | exact ⟨by omega, by omega⟩))) (fun m14 _ v16 H17 e18 d19 hm14 h15 h20 => (ev_add (ev_cst h15) (ev_cst h20)))) ea_nil) (by show 1 ≤ 100000; decide))) (fun m14 _ v22 H23 e24 d25 hm14 h21 h26 => (ev_catR (ev_cst h21) (EvP.row (r := ([((1 : Int) + m14)] : List Int)) (ev_cst h26)) (by first | omega | assumption | exact drawn_size (by omega) | exact drawn_size2 (by assumption) (by omega) | exact drawn_row hpre (by assumption) (by assumption) | decide | (simp only [decide_eq_true_eq, decide_eq_false_iff_not, Bool.not_eq_true', Bool.not_eq_false', Bool.and_eq_true, Bool.or_eq_false_iff, bne_iff_ne, bne_eq_false_iff_eq, ne_eq, Int.not_lt, Int.not_le] at *; first | omega | exact ⟨by omega, by omega⟩))))) d12 (fun v27 H28 e29 d30 h31 => by
      obtain ⟨m14, hm14, h31⟩ := h31
      exact q _ _ (c0.trans e29) d30 ⟨(m8 ++ ([((1 : Int) + m14)] : List Int)), (by first | omega | assumption | exact drawn_size (by omega) | exact drawn_size2 (by assumption) (by omega) | exact drawn_row hpre (by assumption) (by assumption) | decide | (simp only [decide_eq_true_eq, decide_eq_false_iff_not, Bool.not_eq_true', Bool.not_eq_false', Bool.and_eq_true, Bool.or_eq_false_iff, bne_iff_ne, bne_eq_false_iff_eq, ne_eq, Int.not_lt, Int.not_le] at *; first | omega | exact ⟨by omega, by omega⟩)), h31⟩)
theorem cv__law_row_drawn {Cc : Cl} {aD : Addr} {E : XK} {vs : List V} {H1 : Hp} {a__law_prime : Int} {a__law_degree : Int} (pre : (3 ≤ a__law_prime ∧ a__law_prime ≤ 31 ∧ 0 ≤ a__law_degree ∧ a__law_degree ≤ 100)) (d : Dcs [aD] H1) (k : All2 [(pD aD), (pI a__law_prime), (pI a__law_degree)] vs H1) (Q : VK) (q : ∀ v H2, Ch [aD] H1 H2 → Dcs [aD] H2 → (pX (fun r => RowOk a__law_prime r ∧ (r.length : Int) = a__law_degree + 1) (pRow K)) v H2 → Q v H2) : sp__law_row_drawn K Cc vs H1 Q E := by
  obtain ⟨v__law_dice_here, v__law_prime, v__law_degree, rfl, h__law_dice_here, h__law_prime, h__law_degree⟩ := all3 k
  exact ⟨aD, a__law_prime, a__law_degree, v__law_dice_here, v__law_prime, v__law_degree, rfl, d.one, h__law_dice_here, h__law_prime, h__law_degree, pre, q⟩
end
end R

namespace R
open PySem PySem.Spec L2 Mir TL RZ
def m_check_prime (a_prime : Int) : Unit := (if (!(m_is_prime a_prime)) = true then default else ())
def sp_check_prime (K : PySem.W.Frag) (Cc : Cl) : Sp := fun vs H Q _ => ∃ (a_prime : Int) (v_prime : V), vs = [v_prime] ∧ (pI a_prime) v_prime H ∧ (m_is_prime a_prime = true) ∧ ∀ u H', Ch [] H H' → Dcs [] H' → pN u H' → Q u H'
abbrev N_check_prime : List Str := ["prime"]
theorem sc_check_prime : FnScope N_check_prime ["prime"] (defScope s_check_prime) := ⟨rfl, rfl, rfl, by decide +kernel, rfl, by decide +kernel, by decide +kernel⟩
section
variable {P : Program} {w : World} {K : PySem.W.Frag} {mg : Str → Option Value} {base : Heap}
theorem ok_check_prime (T : Txt K mg) : FnOk P w K mg base CX0 3 T.f_check_prime T.fd_check_prime ["prime"] (sp_check_prime K T.C) := by
  refine T.F_check_prime.ok sc_check_prime (fun vs H Q E h => ?_) (fun cdv A outer s H vs Q E hr h => ?_)
  · obtain ⟨a_prime, v_prime, rfl, h_prime, hpre, q⟩ := h
    rfl
  · obtain ⟨a_prime, v_prime, rfl, h_prime, hpre, q⟩ := h
    refine ⟨_, (pss_one (ps_if (pt_not (pt_val (pe_call (ok_is_prime T) (hr.mono (by decide)) (by rfl) T.g_is_prime T.F_is_prime.kp T.b_is_prime .nil pass0 (pa_cons (pv 0) pa_nil)))) (pss_one ps_never) pss_nil)), ?_⟩
    have c0 : Ch [] H H := .refl H
    have d0 : Dcs [] H := .nil
    have hq := m_check_prime.eq_1 a_prime
    refine s_if (eb_not (eb_val (ev_is_prime (ea_cons (ev_var rfl h_prime) ea_nil) (by first | omega | assumption | decide | (simp only [decide_eq_true_eq, decide_eq_false_iff_not, Bool.not_eq_true', Bool.not_eq_false', Bool.and_eq_true, Bool.or_eq_false_iff, bne_iff_ne, bne_eq_false_iff_eq, ne_eq, Int.not_lt, Int.not_le] at *; first | omega | exact ⟨by omega, by omega⟩))))) d0 ?_ ?_
    · intro hb4 H1 e2 d3
      have h_prime := (Mono.mono e2 h_prime)
      have c0 := c0.trans e2
      have hq := hq.trans (if_pos hb4)
      try simp only [decide_eq_true_eq, decide_eq_false_iff_not, Bool.not_eq_true', Bool.not_eq_false', Bool.and_eq_true, Bool.or_eq_false_iff, bne_iff_ne, bne_eq_false_iff_eq, ne_eq, Int.not_lt, Int.not_le] at hb4
      exact False.elim (by simp_all)
    · intro hb8 H5 e6 d7
      have h_prime := (Mono.mono e6 h_prime)
      have c0 := c0.trans e6
      have hq := hq.trans (ne_true hb8)
      try simp only [decide_eq_true_eq, decide_eq_false_iff_not, Bool.not_eq_true', Bool.not_eq_false', Bool.and_eq_true, Bool.or_eq_false_iff, bne_iff_ne, bne_eq_false_iff_eq, ne_eq, Int.not_lt, Int.not_le] at hb8
      exact q _ _ c0 d7 (tgt (F := fun _ => pN) hq rfl)
theorem cv_check_prime {Cc : Cl} {M : List Addr} {E : XK} {vs : List V} {H1 : Hp} {a_prime : Int} (pre : (m_is_prime a_prime = true)) (d : Dcs M H1) (k : All2 [(pI a_prime)] vs H1) (Q : VK) (q : ∀ v H2, Ch M H1 H2 → Dcs M H2 → pN v H2 → Q v H2) : sp_check_prime K Cc vs H1 Q E := by
  obtain ⟨v_prime, rfl, h_prime⟩ := all1 k
  exact ⟨a_prime, v_prime, rfl, h_prime, pre, fun u H' c _ r => q u H' c.any (d.new c.same) r⟩
theorem ev_check_prime {Cc : Cl} {M : List Addr} {σ : St} {H : Hp} {tr : TA} {E : XK} {a_prime : Int} (h : EvA M tr σ H [(pI a_prime)]) (pre : (m_is_prime a_prime = true)) : EvP M (tCall (sp_check_prime K Cc) [] E tr) σ H pN := ev_call h fun vs H1 d k Q q => cv_check_prime pre d k Q q
end
end R

namespace R
open PySem PySem.Spec L2 Mir TL RZ
def m_check_count (a_value : Int) (a_low : Int) (a_high : Int) : Unit := (if (!(m_is_within a_value a_low a_high)) = true then default else ())
def sp_check_count (K : PySem.W.Frag) (Cc : Cl) : Sp := fun vs H Q _ => ∃ (a_value : Int) (a_low : Int) (a_high : Int) (v_value v_low v_high : V), vs = [v_value, v_low, v_high] ∧ (pI a_value) v_value H ∧ (pI a_low) v_low H ∧ (pI a_high) v_high H ∧ (m_is_within a_value a_low a_high = true) ∧ ∀ u H', Ch [] H H' → Dcs [] H' → pN u H' → Q u H'
abbrev N_check_count : List Str := ["value", "low", "high"]
theorem sc_check_count : FnScope N_check_count ["value", "low", "high"] (defScope s_check_count) := ⟨rfl, rfl, rfl, by decide +kernel, rfl, by decide +kernel, by decide +kernel⟩
section
variable {P : Program} {w : World} {K : PySem.W.Frag} {mg : Str → Option Value} {base : Heap}
theorem ok_check_count (T : Txt K mg) : FnOk P w K mg base CX0 3 T.f_check_count T.fd_check_count ["value", "low", "high"] (sp_check_count K T.C) := by
  refine T.F_check_count.ok sc_check_count (fun vs H Q E h => ?_) (fun cdv A outer s H vs Q E hr h => ?_)
  · obtain ⟨a_value, a_low, a_high, v_value, v_low, v_high, rfl, h_value, h_low, h_high, hpre, q⟩ := h
    rfl
  · obtain ⟨a_value, a_low, a_high, v_value, v_low, v_high, rfl, h_value, h_low, h_high, hpre, q⟩ := h
    refine ⟨_, (pss_one (ps_if (pt_not (pt_val (pe_call (ok_is_within T) (hr.mono (by decide)) (by rfl) T.g_is_within T.F_is_within.kp T.b_is_within .nil pass0 (pa_cons (pv 0) (pa_cons (pv 1) (pa_cons (pv 2) pa_nil)))))) (pss_one ps_never) pss_nil)), ?_⟩
    have c0 : Ch [] H H := .refl H
    have d0 : Dcs [] H := .nil
    have hq := m_check_count.eq_1 a_value a_low a_high
    refine s_if (eb_not (eb_val (ev_is_within (ea_cons (ev_var rfl h_value) (ea_cons (ev_var rfl h_low) (ea_cons (ev_var rfl h_high) ea_nil))) (by first | omega | assumption | decide | (simp only [decide_eq_true_eq, decide_eq_false_iff_not, Bool.not_eq_true', Bool.not_eq_false', Bool.and_eq_true, Bool.or_eq_false_iff, bne_iff_ne, bne_eq_false_iff_eq, ne_eq, Int.not_lt, Int.not_le] at *; first | omega | exact ⟨by omega, by omega⟩))))) d0 ?_ ?_
    · intro hb4 H1 e2 d3
      have h_value := (Mono.mono e2 h_value)
      have h_low := (Mono.mono e2 h_low)
      have h_high := (Mono.mono e2 h_high)
      have c0 := c0.trans e2
      have hq := hq.trans (if_pos hb4)
      try simp only [decide_eq_true_eq, decide_eq_false_iff_not, Bool.not_eq_true', Bool.not_eq_false', Bool.and_eq_true, Bool.or_eq_false_iff, bne_iff_ne, bne_eq_false_iff_eq, ne_eq, Int.not_lt, Int.not_le] at hb4
      exact False.elim (by simp_all)
    · intro hb8 H5 e6 d7
      have h_value := (Mono.mono e6 h_value)
      have h_low := (Mono.mono e6 h_low)
      have h_high := (Mono.mono e6 h_high)
      have c0 := c0.trans e6
      have hq := hq.trans (ne_true hb8)
      try simp only [decide_eq_true_eq, decide_eq_false_iff_not, Bool.not_eq_true', Bool.not_eq_false', Bool.and_eq_true, Bool.or_eq_false_iff, bne_iff_ne, bne_eq_false_iff_eq, ne_eq, Int.not_lt, Int.not_le] at hb8
      exact q _ _ c0 d7 (tgt (F := fun _ => pN) hq rfl)
theorem cv_check_count {Cc : Cl} {M : List Addr} {E : XK} {vs : List V} {H1 : Hp} {a_value : Int} {a_low : Int} {a_high : Int} (pre : (m_is_within a_value a_low a_high = true)) (d : Dcs M H1) (k : All2 [(pI a_value), (pI a_low), (pI a_high)] vs H1) (Q : VK) (q : ∀ v H2, Ch M H1 H2 → Dcs M H2 → pN v H2 → Q v H2) : sp_check_count K Cc vs H1 Q E := by
  obtain ⟨v_value, v_low, v_high, rfl, h_value, h_low, h_high⟩ := all3 k
  exact ⟨a_value, a_low, a_high, v_value, v_low, v_high, rfl, h_value, h_low, h_high, pre, fun u H' c _ r => q u H' c.any (d.new c.same) r⟩
theorem ev_check_count {Cc : Cl} {M : List Addr} {σ : St} {H : Hp} {tr : TA} {E : XK} {a_value : Int} {a_low : Int} {a_high : Int} (h : EvA M tr σ H [(pI a_value), (pI a_low), (pI a_high)]) (pre : (m_is_within a_value a_low a_high = true)) : EvP M (tCall (sp_check_count K Cc) [] E tr) σ H pN := ev_call h fun vs H1 d k Q q => cv_check_count pre d k Q q
end
end R

namespace R
open PySem PySem.Spec L2 Mir TL RZ
def m_Poly___str__ (a_self : Pol) : Str := (Txt.join ("+" : Str) (m_terms_of (a_self).r))
def sp_Poly___str__ (K : PySem.W.Frag) (Cc : Cl) : Sp := fun vs H Q _ => ∃ (a_self : Pol) (v_self : V), vs = [v_self] ∧ (pPoly K Cc a_self) v_self H ∧ (Okp a_self) ∧ ∀ u H', Ch [] H H' → Dcs [] H' → (pS (m_Poly___str__ a_self)) u H' → Q u H'
abbrev N_Poly___str__ : List Str := ["self"]
theorem sc_Poly___str__ : FnScope N_Poly___str__ ["self"] (defScope s_Poly___str__) := ⟨rfl, rfl, rfl, by decide +kernel, rfl, by decide +kernel, by decide +kernel⟩
section
variable {P : Program} {w : World} {K : PySem.W.Frag} {mg : Str → Option Value} {base : Heap}
theorem ok_Poly___str__ (T : Txt K mg) : FnOk P w K mg base CX0 3 T.f_Poly___str__ T.fd_Poly___str__ ["self"] (sp_Poly___str__ K T.C) := by
  refine T.F_Poly___str__.ok sc_Poly___str__ (fun vs H Q E h => ?_) (fun cdv A outer s H vs Q E hr h => ?_)
  · obtain ⟨a_self, v_self, rfl, h_self, hpre, q⟩ := h
    rfl
  · obtain ⟨a_self, v_self, rfl, h_self, hpre, q⟩ := h
    refine ⟨_, (pss_one (ps_ret (pe_join pe_str (pe_call (ok_terms_of T) (hr.mono (by decide)) (by rfl) T.g_terms_of T.F_terms_of.kp T.b_terms_of .nil pass0 (pa_cons (pe_fldK K (pv 0) rfl) pa_nil))))), ?_⟩
    have c0 : Ch [] H H := .refl H
    have d0 : Dcs [] H := .nil
    have hq := m_Poly___str__.eq_1 a_self
    exact s_ret (ev_join ev_str (ev_terms_of (ea_cons (ev_fld (P := (pRow K (a_self).r)) (ev_var rfl h_self) T.cl_Poly T.n_Poly_entries (by rfl)) ea_nil) (by first | omega | assumption | exact hpre.few | exact terms_few hpre.few | decide | (simp only [decide_eq_true_eq, decide_eq_false_iff_not, Bool.not_eq_true', Bool.not_eq_false', Bool.and_eq_true, Bool.or_eq_false_iff, bne_iff_ne, bne_eq_false_iff_eq, ne_eq, Int.not_lt, Int.not_le] at *; first | omega | exact ⟨by omega, by omega⟩))) (by first | omega | assumption | exact hpre.few | exact terms_few hpre.few | decide | (simp only [decide_eq_true_eq, decide_eq_false_iff_not, Bool.not_eq_true', Bool.not_eq_false', Bool.and_eq_true, Bool.or_eq_false_iff, bne_iff_ne, bne_eq_false_iff_eq, ne_eq, Int.not_lt, Int.not_le] at *; first | omega | exact ⟨by omega, by omega⟩))) d0 (fun v1 H2 e3 d4 h5 => q v1 H2 (c0.trans e3) d4 (tgt (F := pS) hq h5))
theorem cv_Poly___str__ {Cc : Cl} {M : List Addr} {E : XK} {vs : List V} {H1 : Hp} {a_self : Pol} (pre : (Okp a_self)) (d : Dcs M H1) (k : All2 [(pPoly K Cc a_self)] vs H1) (Q : VK) (q : ∀ v H2, Ch M H1 H2 → Dcs M H2 → (pS (m_Poly___str__ a_self)) v H2 → Q v H2) : sp_Poly___str__ K Cc vs H1 Q E := by
  obtain ⟨v_self, rfl, h_self⟩ := all1 k
  exact ⟨a_self, v_self, rfl, h_self, pre, fun u H' c _ r => q u H' c.any (d.new c.same) r⟩
end
end R

namespace R
open PySem PySem.Spec L2 Mir TL RZ
def m_are_entries (a_prime : Int) (a_value : List Int) : Bool := (if (false || (!(((List.map (fun x7 => (m_is_within x7 (0 : Int) (a_prime - (1 : Int)))) a_value)).all id))) = true then false else ((!(!(a_value).isEmpty)) || (!decide ((ixd a_value (-(1 : Int))) = (0 : Int)))))
def sp_are_entries (K : PySem.W.Frag) (Cc : Cl) : Sp := fun vs H Q _ => ∃ (a_prime : Int) (a_value : List Int) (v_prime v_value : V), vs = [v_prime, v_value] ∧ (pI a_prime) v_prime H ∧ (pRow K a_value) v_value H ∧ (a_value.length ≤ 1000) ∧ ∀ u H', Ch [] H H' → Dcs [] H' → (pB (m_are_entries a_prime a_value)) u H' → Q u H'
abbrev N_are_entries : List Str := ["prime", "value", "entry"]
theorem sc_are_entries : FnScope N_are_entries ["prime", "value"] (defScope s_are_entries) := ⟨rfl, rfl, rfl, by decide +kernel, rfl, by decide +kernel, by decide +kernel⟩
section
variable {P : Program} {w : World} {K : PySem.W.Frag} {mg : Str → Option Value} {base : Heap}
theorem ok_are_entries (T : Txt K mg) : FnOk P w K mg base CX0 3 T.f_are_entries T.fd_are_entries ["prime", "value"] (sp_are_entries K T.C) := by
  refine T.F_are_entries.ok sc_are_entries (fun vs H Q E h => ?_) (fun cdv A outer s H vs Q E hr h => ?_)
  · obtain ⟨a_prime, a_value, v_prime, v_value, rfl, h_prime, h_value, hpre, q⟩ := h
    rfl
  · obtain ⟨a_prime, a_value, v_prime, v_value, rfl, h_prime, h_value, hpre, q⟩ := h
    refine ⟨_, (pss_cons (ps_if (PW.pt (pw_or (pt_not (pt_val (pe_callB (call_isiK' K) (by rfl) T.z_isinstance (by decide +kernel) (pa_cons (pv 1) (pa_cons (pe_bltn (v := V.ty "tuple") (by rfl) T.z_tuple (by decide +kernel) rfl) pa_nil))))) (pw_or1 (pt_not (pt_val (pe_callB (cr_allK K rfl) (by rfl) T.z_all (by decide +kernel) (pa_cons (pe_lc (own := [("entry", 2)]) (g := gName 2) (tt := tYes) rfl sc_are_entries.nd (pi_tupK K (pv 1)) (blkOk_by (own := [("entry", 2)]) (N := N_are_entries) (sc := defScope s_are_entries) (by decide +kernel)) (fun _ _ _ _ _ => pg_name (i := 2) sc_are_entries.nd rfl (Or.inl rfl)) (fun _ _ _ _ _ => pts_nil) (fun _ _ _ _ _ => (pe_call (ok_is_within T) (hr.mono (by decide)) (by rfl) T.g_is_within T.F_is_within.kp T.b_is_within .nil pass0 (pa_cons (pv 2) (pa_cons pe_int (pa_cons (pe_op op_sub (pv 0) pe_int) pa_nil)))))) pa_nil))))))) (pss_one (ps_ret pe_bl)) pss_nil)
        (pss_one (ps_ret (pe_or (pe_notTK K (pv 1)) (pe_one (pe_cmpR op_ne (pe_ix (ix_tupK K) (pv 1) (pe_un un_neg pe_int) (fun _ _ => rfl)) pe_int (nomark _))))))), ?_⟩
    have c0 : Ch [] H H := .refl H
    have d0 : Dcs [] H := .nil
    have hq := m_are_entries.eq_1 a_prime a_value
    refine q_if (eb_or (eb_not (eb_val (ev_isi (ea_cons (ev_var rfl h_value) (ea_cons (ev_ty (M := []) (c := V.ty "tuple")) ea_nil)) (fun _ _ h => Tyd.ty (K := K) h) (.ty _) (kit_ty (show kitB "tuple" "tuple" = some true by decide +kernel))))) (fun hb1 => (eb_not (eb_val (ev_all (ea_cons (EvP.map (K := K) (G := pB) (g := fun x7 => (m_is_within x7 (0 : Int) (a_prime - (1 : Int)))) (ev_lc1 (F := pI) (G := fun x7 => (pB (m_is_within x7 (0 : Int) (a_prime - (1 : Int))))) (xs := a_value) (src_row (ev_var rfl h_value)) (by first | omega | assumption | decide | (simp only [decide_eq_true_eq, decide_eq_false_iff_not, Bool.not_eq_true', Bool.not_eq_false', Bool.and_eq_true, Bool.or_eq_false_iff, bne_iff_ne, bne_eq_false_iff_eq, ne_eq, Int.not_lt, Int.not_le] at *; first | omega | exact ⟨by omega, by omega⟩)) (wipe1 (by decide)) (fun x7 hx_x7 v3 H5 e2 d6 p4 => (ev_is_within (ea_cons (ev_var rfl p4) (ea_cons ev_int (ea_cons (ev_sub (ev_var rfl (Mono.mono e2 h_prime)) ev_int) ea_nil))) (by first | omega | assumption | decide | (simp only [decide_eq_true_eq, decide_eq_false_iff_not, Bool.not_eq_true', Bool.not_eq_false', Bool.and_eq_true, Bool.or_eq_false_iff, bne_iff_ne, bne_eq_false_iff_eq, ne_eq, Int.not_lt, Int.not_le] at *; first | omega | exact ⟨by omega, by omega⟩)))))) ea_nil)))))) d0 ?_ ?_
    · intro hb12 H9 e10 d11
      have h_prime := (Mono.mono e10 h_prime)
      have h_value := (Mono.mono e10 h_value)
      have c0 := c0.trans e10
      have hq := hq.trans (if_pos hb12)
      try simp only [decide_eq_true_eq, decide_eq_false_iff_not, Bool.not_eq_true', Bool.not_eq_false', Bool.and_eq_true, Bool.or_eq_false_iff, bne_iff_ne, bne_eq_false_iff_eq, ne_eq, Int.not_lt, Int.not_le] at hb12
      exact s_ret ev_bl d11 (fun v13 H14 e15 d16 h17 => q v13 H14 (c0.trans e15) d16 (tgt (F := pB) hq h17))
    · intro hb21 H18 e19 d20
      have h_prime := (Mono.mono e19 h_prime)
      have h_value := (Mono.mono e19 h_value)
      have c0 := c0.trans e19
      have hq := hq.trans (ne_true hb21)
      try simp only [decide_eq_true_eq, decide_eq_false_iff_not, Bool.not_eq_true', Bool.not_eq_false', Bool.and_eq_true, Bool.or_eq_false_iff, bne_iff_ne, bne_eq_false_iff_eq, ne_eq, Int.not_lt, Int.not_le] at hb21
      exact s_ret (ev_or (ev_notT (ev_var rfl h_value) (fun _ _ p => tru_row p)) (fun hb22 => (ev_neI (ev_ixR (ev_var rfl h_value) (ev_neg ev_int) (by first | exact ⟨by omega, by omega⟩ | (refine inb_last ?_; intro hnil; simp [hnil] at *; done) | omega | assumption | decide | (simp only [decide_eq_true_eq, decide_eq_false_iff_not, Bool.not_eq_true', Bool.not_eq_false', Bool.and_eq_true, Bool.or_eq_false_iff, bne_iff_ne, bne_eq_false_iff_eq, ne_eq, Int.not_lt, Int.not_le] at *; first | omega | exact ⟨by omega, by omega⟩))) ev_int))) d20 (fun v24 H25 e26 d27 h28 => q v24 H25 (c0.trans e26) d27 (tgt (F := pB) hq h28))
theorem cv_are_entries {Cc : Cl} {M : List Addr} {E : XK} {vs : List V} {H1 : Hp} {a_prime : Int} {a_value : List Int} (pre : (a_value.length ≤ 1000)) (d : Dcs M H1) (k : All2 [(pI a_prime), (pRow K a_value)] vs H1) (Q : VK) (q : ∀ v H2, Ch M H1 H2 → Dcs M H2 → (pB (m_are_entries a_prime a_value)) v H2 → Q v H2) : sp_are_entries K Cc vs H1 Q E := by
  obtain ⟨v_prime, v_value, rfl, h_prime, h_value⟩ := all2 k
  exact ⟨a_prime, a_value, v_prime, v_value, rfl, h_prime, h_value, pre, fun u H' c _ r => q u H' c.any (d.new c.same) r⟩
theorem ev_are_entries {Cc : Cl} {M : List Addr} {σ : St} {H : Hp} {tr : TA} {E : XK} {a_prime : Int} {a_value : List Int} (h : EvA M tr σ H [(pI a_prime), (pRow K a_value)]) (pre : (a_value.length ≤ 1000)) : EvP M (tCall (sp_are_entries K Cc) [] E tr) σ H (pB (m_are_entries a_prime a_value)) := ev_call h fun vs H1 d k Q q => cv_are_entries pre d k Q q
end
end R

namespace R
open PySem PySem.Spec L2 Mir TL RZ
def m_check_residue (a_prime : Int) (a_value : Int) : Unit := (if (!(m_is_within a_value (0 : Int) (a_prime - (1 : Int)))) = true then default else ())
def sp_check_residue (K : PySem.W.Frag) (Cc : Cl) : Sp := fun vs H Q _ => ∃ (a_prime : Int) (a_value : Int) (v_prime v_value : V), vs = [v_prime, v_value] ∧ (pI a_prime) v_prime H ∧ (pI a_value) v_value H ∧ (m_is_within a_value 0 (a_prime - 1) = true) ∧ ∀ u H', Ch [] H H' → Dcs [] H' → pN u H' → Q u H'
abbrev N_check_residue : List Str := ["prime", "value"]
theorem sc_check_residue : FnScope N_check_residue ["prime", "value"] (defScope s_check_residue) := ⟨rfl, rfl, rfl, by decide +kernel, rfl, by decide +kernel, by decide +kernel⟩
section
variable {P : Program} {w : World} {K : PySem.W.Frag} {mg : Str → Option Value} {base : Heap}
theorem ok_check_residue (T : Txt K mg) : FnOk P w K mg base CX0 3 T.f_check_residue T.fd_check_residue ["prime", "value"] (sp_check_residue K T.C) := by
  refine T.F_check_residue.ok sc_check_residue (fun vs H Q E h => ?_) (fun cdv A outer s H vs Q E hr h => ?_)
  · obtain ⟨a_prime, a_value, v_prime, v_value, rfl, h_prime, h_value, hpre, q⟩ := h
    rfl
  · obtain ⟨a_prime, a_value, v_prime, v_value, rfl, h_prime, h_value, hpre, q⟩ := h
    refine ⟨_, (pss_one (ps_if (pt_not (pt_val (pe_call (ok_is_within T) (hr.mono (by decide)) (by rfl) T.g_is_within T.F_is_within.kp T.b_is_within .nil pass0 (pa_cons (pv 1) (pa_cons pe_int (pa_cons (pe_op op_sub (pv 0) pe_int) pa_nil)))))) (pss_one ps_never) pss_nil)), ?_⟩
    have c0 : Ch [] H H := .refl H
    have d0 : Dcs [] H := .nil
    have hq := m_check_residue.eq_1 a_prime a_value
    refine s_if (eb_not (eb_val (ev_is_within (ea_cons (ev_var rfl h_value) (ea_cons ev_int (ea_cons (ev_sub (ev_var rfl h_prime) ev_int) ea_nil))) (by first | omega | assumption | decide | (simp only [decide_eq_true_eq, decide_eq_false_iff_not, Bool.not_eq_true', Bool.not_eq_false', Bool.and_eq_true, Bool.or_eq_false_iff, bne_iff_ne, bne_eq_false_iff_eq, ne_eq, Int.not_lt, Int.not_le] at *; first | omega | exact ⟨by omega, by omega⟩))))) d0 ?_ ?_
    · intro hb4 H1 e2 d3
      have h_prime := (Mono.mono e2 h_prime)
      have h_value := (Mono.mono e2 h_value)
      have c0 := c0.trans e2
      have hq := hq.trans (if_pos hb4)
      try simp only [decide_eq_true_eq, decide_eq_false_iff_not, Bool.not_eq_true', Bool.not_eq_false', Bool.and_eq_true, Bool.or_eq_false_iff, bne_iff_ne, bne_eq_false_iff_eq, ne_eq, Int.not_lt, Int.not_le] at hb4
      exact False.elim (by simp_all)
    · intro hb8 H5 e6 d7
      have h_prime := (Mono.mono e6 h_prime)
      have h_value := (Mono.mono e6 h_value)
      have c0 := c0.trans e6
      have hq := hq.trans (ne_true hb8)
      try simp only [decide_eq_true_eq, decide_eq_false_iff_not, Bool.not_eq_true', Bool.not_eq_false', Bool.and_eq_true, Bool.or_eq_false_iff, bne_iff_ne, bne_eq_false_iff_eq, ne_eq, Int.not_lt, Int.not_le] at hb8
      exact q _ _ c0 d7 (tgt (F := fun _ => pN) hq rfl)
theorem cv_check_residue {Cc : Cl} {M : List Addr} {E : XK} {vs : List V} {H1 : Hp} {a_prime : Int} {a_value : Int} (pre : (m_is_within a_value 0 (a_prime - 1) = true)) (d : Dcs M H1) (k : All2 [(pI a_prime), (pI a_value)] vs H1) (Q : VK) (q : ∀ v H2, Ch M H1 H2 → Dcs M H2 → pN v H2 → Q v H2) : sp_check_residue K Cc vs H1 Q E := by
  obtain ⟨v_prime, v_value, rfl, h_prime, h_value⟩ := all2 k
  exact ⟨a_prime, a_value, v_prime, v_value, rfl, h_prime, h_value, pre, fun u H' c _ r => q u H' c.any (d.new c.same) r⟩
theorem ev_check_residue {Cc : Cl} {M : List Addr} {σ : St} {H : Hp} {tr : TA} {E : XK} {a_prime : Int} {a_value : Int} (h : EvA M tr σ H [(pI a_prime), (pI a_value)]) (pre : (m_is_within a_value 0 (a_prime - 1) = true)) : EvP M (tCall (sp_check_residue K Cc) [] E tr) σ H pN := ev_call h fun vs H1 d k Q q => cv_check_residue pre d k Q q
end
end R

namespace R
open PySem PySem.Spec L2 Mir TL RZ
/-- the terms found so far: entries, digits; the first one has the most digits -/
def TtI (L : List (Int × Str)) : Prop := ∀ x ∈ L, (0 < x.1 ∧ x.1 ≤ 31) ∧ NumText.AllDigits x.2.cps.toList ∧ x.2.cps.toList ≠ [] ∧ x.2.length ≤ 1000 ∧ x.2.length ≤ (ixd L 0).2.length
theorem tt_start : TtI [] := fun x h => nomatch h
theorem split_1001 {z : Str} (h : z.length ≤ 1000) : ([] : List (Int × Str)).length + (Txt.split z ("+" : Str)).length ≤ 2000 := by
  have := split_many2 h
  rw [List.length_nil]
  omega
theorem pow_some {s b d : Str} (hb : b.length ≤ 1000) (h : (m_power_told s b).isNone = false) (e : d = (m_power_told s b).getD default) : NumText.AllDigits d.cps.toList ∧ d.cps.toList ≠ [] ∧ d.length ≤ 1000 := by
  subst e
  unfold m_power_told at h ⊢
  split
  · dsimp only [Option.getD_some]
    have : ∀ z : Str, (z = ("1" : Str) ∨ z = ("0" : Str)) → NumText.AllDigits z.cps.toList ∧ z.cps.toList ≠ [] ∧ z.length ≤ 1000 := by
      rintro z (rfl | rfl)
      · refine ⟨?_, by decide +kernel, by decide +kernel⟩
        intro c hc
        rw [show ("1" : Str).cps.toList = [49] by decide +kernel] at hc
        rw [List.mem_singleton.mp hc]
        exact ⟨by decide, by decide⟩
      · refine ⟨?_, by decide +kernel, by decide +kernel⟩
        intro c hc
        rw [show ("0" : Str).cps.toList = [48] by decide +kernel] at hc
        rw [List.mem_singleton.mp hc]
        exact ⟨by decide, by decide⟩
    refine this _ ?_
    split
    · exact .inl rfl
    · exact .inr rfl
  · split
    · rename_i c
      rw [Bool.and_eq_true, Bool.and_eq_true] at c
      have d := num_dig c.2.1
      exact ⟨d.1, d.2, cutS_len hb⟩
    · rename_i c1 c2
      rw [if_neg c1, if_neg c2] at h
      cases h
theorem ixd0 {α : Type} [Inhabited α] {L : List α} (y : α) (h : L ≠ []) : ixd (L ++ [y]) 0 = ixd L 0 := by
  cases L with
  | nil => exact absurd rfl h
  | cons a r =>
    unfold ixd atI ixN
    rw [if_pos (by decide), if_pos (by simp only [List.cons_append, List.length_cons]; omega), if_pos (by decide), if_pos (by simp only [List.length_cons]; omega)]
    rfl
theorem ixd_lastm {α : Type} [Inhabited α] {L : List α} (h : L ≠ []) : ixd L (-1) ∈ L := by
  have l : 0 < L.length := List.length_pos_iff.mpr h
  have hx : inb L.length (-1) := ⟨by omega, by omega⟩
  obtain ⟨j, e, lt⟩ := ixN_in hx
  unfold ixd atI
  rw [e]
  show (L[j]?).getD default ∈ L
  rw [List.getElem?_eq_getElem lt]
  exact List.getElem_mem lt
theorem less_len {d o : Str} (h : m_is_lesser d o = true) : d.length ≤ o.length := by
  unfold m_is_lesser at h
  rw [Bool.or_eq_true, decide_eq_true_eq, Bool.and_eq_true, Bool.not_eq_true', decide_eq_false_iff_not] at h
  omega
theorem tt_add {p e : Int} {s b : Str} {L : List (Int × Str)} (i : TtI L) (hp : p ≤ 31) (hb : b.length ≤ 1000) (h1 : ((!(decide ((0 : Int) < e) && decide (e < p))) || ((m_power_told s b)).isNone) = false)
    (h2 : ((!(L).isEmpty) && (!(m_is_lesser (((m_power_told s b)).getD default) (ixd L (-(1 : Int))).2))) = false) : TtI (L ++ [(e, (m_power_told s b).getD default)]) := by
  rw [Bool.or_eq_false_iff, Bool.not_eq_false', Bool.and_eq_true, decide_eq_true_eq, decide_eq_true_eq] at h1
  have q := pow_some hb h1.2 rfl
  by_cases c : L = []
  · subst c
    intro x hx
    rw [List.nil_append] at hx
    rw [List.mem_singleton.mp hx]
    exact ⟨⟨h1.1.1, by have := h1.1.2; show e ≤ 31; omega⟩, q.1, q.2.1, q.2.2, Nat.le_refl _⟩
  · intro x hx
    rw [ixd0 _ c]
    rcases List.mem_append.mp hx with hx | hx
    · exact i x hx
    · rw [List.mem_singleton.mp hx]
      refine ⟨⟨h1.1.1, by have := h1.1.2; show e ≤ 31; omega⟩, q.1, q.2.1, q.2.2, ?_⟩
      have h3 : m_is_lesser (((m_power_told s b)).getD default) (ixd L (-(1 : Int))).2 = true := by
        have : (!(L).isEmpty) = true := by simp [c]
        rw [this, Bool.true_and, Bool.not_eq_false'] at h2
        exact h2
      exact Nat.le_trans (less_len h3) (i _ (ixd_lastm c)).2.2.2.2
theorem term_len {t x : Str} (h : t.length ≤ 1000) (hx : x ∈ Txt.split t ("+" : Str)) : x.length ≤ 1000 := Nat.le_trans (split_len t ("+" : Str) (by decide +kernel) (by decide +kernel) hx) h
theorem part_lens {x : Str} (h : x.length ≤ 1000) : (Txt.partition x ("x" : Str)).1.length ≤ 1000 ∧ (Txt.partition x ("x" : Str)).2.1.length ≤ 1000 ∧ (Txt.partition x ("x" : Str)).2.2.length ≤ 1000 :=
  ⟨Nat.le_trans (part_len _ _ (by decide +kernel)).1 h, Nat.le_trans (sep_len _ _ (by decide +kernel) (by decide +kernel)) (by decide), Nat.le_trans (part_len _ _ (by decide +kernel)).2 h⟩
theorem tt_sep {p : Int} {t x : Str} (hpre : 3 ≤ p ∧ p ≤ 31 ∧ t.length ≤ 1000) (hx : x ∈ Txt.split t ("+" : Str)) : ((("x" : Str).length == 0) = false) ∧ x.length ≤ sizeLine := ⟨by decide +kernel, Evl.sz_of (Nat.le_trans (term_len hpre.2.2 hx) (by decide))⟩
theorem tt_ent {p : Int} {t x : Str} (hpre : 3 ≤ p ∧ p ≤ 31 ∧ t.length ≤ 1000) (hx : x ∈ Txt.split t ("+" : Str)) : (Txt.partition x ("x" : Str)).1.length ≤ 1000 ∧ (Txt.partition x ("x" : Str)).2.1.length ≤ 1000 := ⟨(part_lens (term_len hpre.2.2 hx)).1, (part_lens (term_len hpre.2.2 hx)).2.1⟩
theorem tt_pow {p : Int} {t x : Str} (hpre : 3 ≤ p ∧ p ≤ 31 ∧ t.length ≤ 1000) (hx : x ∈ Txt.split t ("+" : Str)) : (Txt.partition x ("x" : Str)).2.1.length ≤ 1000 ∧ (Txt.partition x ("x" : Str)).2.2.length ≤ 1000 := (part_lens (term_len hpre.2.2 hx)).2
theorem tt_next {p e : Int} {t x : Str} {L : List (Int × Str)} {r1 : List Str} (hpre : 3 ≤ p ∧ p ≤ 31 ∧ t.length ≤ 1000) (i : TtI L ∧ L.length + (x :: r1).length ≤ 2000) (hx : x ∈ Txt.split t ("+" : Str))
    (h1 : ((!(decide ((0 : Int) < e) && decide (e < p))) || ((m_power_told (Txt.partition x ("x" : Str)).2.1 (Txt.partition x ("x" : Str)).2.2)).isNone) = false)
    (h2 : ((!(L).isEmpty) && (!(m_is_lesser (((m_power_told (Txt.partition x ("x" : Str)).2.1 (Txt.partition x ("x" : Str)).2.2)).getD default) (ixd L (-(1 : Int))).2))) = false) :
    TtI (L ++ [(e, (m_power_told (Txt.partition x ("x" : Str)).2.1 (Txt.partition x ("x" : Str)).2.2).getD default)]) ∧ (L ++ [(e, (m_power_told (Txt.partition x ("x" : Str)).2.1 (Txt.partition x ("x" : Str)).2.2).getD default)]).length + r1.length ≤ 2000 := by
  refine ⟨tt_add i.1 hpre.2.1 (part_lens (term_len hpre.2.2 hx)).2.2 h1 h2, ?_⟩
  have := i.2
  rw [List.length_cons] at this
  rw [List.length_append, List.length_singleton]
  omega
theorem tt_room {x : Str} {L : List (Int × Str)} {r1 : List Str} (i : TtI L ∧ L.length + (x :: r1).length ≤ 2000) : L.length < 100000 := by
  have := i.2
  rw [List.length_cons] at this
  omega
theorem tt_less {p e : Int} {t x : Str} {L : List (Int × Str)} {r1 : List Str} (hpre : 3 ≤ p ∧ p ≤ 31 ∧ t.length ≤ 1000) (i : TtI L ∧ L.length + (x :: r1).length ≤ 2000) (hx : x ∈ Txt.split t ("+" : Str))
    (h1 : ((!(decide ((0 : Int) < e) && decide (e < p))) || ((m_power_told (Txt.partition x ("x" : Str)).2.1 (Txt.partition x ("x" : Str)).2.2)).isNone) = false) (c : (!(L).isEmpty) = true) :
    ((m_power_told (Txt.partition x ("x" : Str)).2.1 (Txt.partition x ("x" : Str)).2.2).getD default).length ≤ 1000 ∧ (ixd L (-(1 : Int))).2.length ≤ 1000 := by
  rw [Bool.or_eq_false_iff] at h1
  exact ⟨(pow_some (part_lens (term_len hpre.2.2 hx)).2.2 h1.2 rfl).2.2, (i.1 _ (ixd_lastm (fun e => by rw [e] at c; cases c))).2.2.2.1⟩
end R

namespace R
open PySem PySem.Spec L2 Mir TL RZ
def m_terms_told_for1 (f1_prime : Int) (f1_text : Str) : List Str → List (Int × Str) → (Option (List (Int × Str)))
  | [], m1_found => (some m1_found)
  | x1_ :: r1_, m1_found => (if ((!(decide ((0 : Int) < (m_entry_told (Txt.partition x1_ ("x" : Str)).1 (Txt.partition x1_ ("x" : Str)).2.1)) && decide ((m_entry_told (Txt.partition x1_ ("x" : Str)).1 (Txt.partition x1_ ("x" : Str)).2.1) < f1_prime))) || ((m_power_told (Txt.partition x1_ ("x" : Str)).2.1 (Txt.partition x1_ ("x" : Str)).2.2)).isNone) = true then (none : Option (List (Int × Str))) else (if ((!(m1_found).isEmpty) && (!(m_is_lesser (((m_power_told (Txt.partition x1_ ("x" : Str)).2.1 (Txt.partition x1_ ("x" : Str)).2.2)).getD default) (ixd m1_found (-(1 : Int))).2))) = true then (none : Option (List (Int × Str))) else (m_terms_told_for1 f1_prime f1_text r1_ (m1_found ++ [((m_entry_told (Txt.partition x1_ ("x" : Str)).1 (Txt.partition x1_ ("x" : Str)).2.1), (((m_power_told (Txt.partition x1_ ("x" : Str)).2.1 (Txt.partition x1_ ("x" : Str)).2.2)).getD default))]))))
def m_terms_told (a_prime : Int) (a_text : Str) : Option (List (Int × Str)) := (if (decide (a_text = ("0" : Str))) = true then (some ([] : List (Int × Str))) else (m_terms_told_for1 (a_prime) (a_text) ((Txt.split a_text ("+" : Str))) (([] : List (Int × Str)))))
def sp_terms_told (K : PySem.W.Frag) (Cc : Cl) : Sp := fun vs H Q _ => ∃ (a_prime : Int) (a_text : Str) (v_prime v_text : V), vs = [v_prime, v_text] ∧ (pI a_prime) v_prime H ∧ (pS a_text) v_text H ∧ (3 ≤ a_prime ∧ a_prime ≤ 31 ∧ (a_text).length ≤ 1000) ∧ ∀ u H', Ch [] H H' → Dcs [] H' → (pO (fun x => (pL K [] (List.map (fun x => (pT K [(pI x.1), (pS x.2)])) x))) (m_terms_told a_prime a_text)) u H' → Q u H'
abbrev N_terms_told : List Str := ["prime", "text", "found", "term", "ahead", "sign", "behind", "entry", "digits"]
theorem sc_terms_told : FnScope N_terms_told ["prime", "text"] (defScope s_terms_told) := ⟨rfl, rfl, rfl, by decide +kernel, rfl, by decide +kernel, by decide +kernel⟩
section
variable {P : Program} {w : World} {K : PySem.W.Frag} {mg : Str → Option Value} {base : Heap}
theorem ok_terms_told (T : Txt K mg) : FnOk P w K mg base CX0 3 T.f_terms_told T.fd_terms_told ["prime", "text"] (sp_terms_told K T.C) := by
  refine T.F_terms_told.ok sc_terms_told (fun vs H Q E h => ?_) (fun cdv A outer s H vs Q E hr h => ?_)
  · obtain ⟨a_prime, a_text, v_prime, v_text, rfl, h_prime, h_text, hpre, q⟩ := h
    rfl
  · obtain ⟨a_prime, a_text, v_prime, v_text, rfl, h_prime, h_text, hpre, q⟩ := h
    refine ⟨_, (pss_cons (ps_if (pt_not (pt_val (pe_callB (call_isiK' K) (by rfl) T.z_isinstance (by decide +kernel) (pa_cons (pv 1) (pa_cons (pe_bltn (v := V.ty "str") (by rfl) T.z_str (by decide +kernel) rfl) pa_nil))))) pss_never pss_nil)
        (pss_cons (ps_if (pt_cmpR op_eq (pv 1) pe_str (nomark _)) (pss_one (ps_ret (pe_lst pa_nil))) pss_nil)
        (pss_cons (ps_set (i := 2) sc_terms_told.nd rfl (Or.inl rfl) (pe_lst pa_nil))
        (pss_cons (ps_for PassesOwn.never rfl (pi_listK K (pe_split (pv 1) pe_str)) (pg_name (i := 3) sc_terms_told.nd rfl (Or.inl rfl)) (pss_cons (ps_asg (pe_partition (pv 3) pe_str) (pg_tupK K (by rfl) (pgs_cons (pg_name (i := 4) sc_terms_told.nd rfl (Or.inl rfl)) (pgs_cons (pg_name (i := 5) sc_terms_told.nd rfl (Or.inl rfl)) (pgs_cons (pg_name (i := 6) sc_terms_told.nd rfl (Or.inl rfl)) pgs_nil)))))
        (pss_cons (ps_par (i := 7) (j := 8) (by rfl) sc_terms_told.nd rfl rfl (by decide) rfl rfl (pa_cons (pe_call (ok_entry_told T) (hr.mono (by decide)) (by rfl) T.g_entry_told T.F_entry_told.kp T.b_entry_told .nil pass0 (pa_cons (pv 4) (pa_cons (pv 5) pa_nil))) (pa_cons (pe_call (ok_power_told T) (hr.mono (by decide)) (by rfl) T.g_power_told T.F_power_told.kp T.b_power_told .nil pass0 (pa_cons (pv 5) (pa_cons (pv 6) pa_nil))) pa_nil)) (by rfl))
        (pss_cons (ps_if (PW.pt (pw_or (pt_not (pt_chain op_lt op_lt pe_int (pv 7) (pv 0))) (pw_or1 (pt_cmpR op_isN1 (pv 8) pe_non (nomark _))))) (pss_one (ps_ret pe_non)) pss_nil)
        (pss_cons (ps_if (PW.pt (pw_and (pt_truthK K (pv 2) (by intro _; rfl)) (pw_and1 (pt_not (pt_val (pe_call (ok_is_lesser T) (hr.mono (by decide)) (by rfl) T.g_is_lesser T.F_is_lesser.kp T.b_is_lesser .nil pass0 (pa_cons (pv 8) (pa_cons (pe_ix (ix_tupK K) (pe_ix (ix_listK K) (pv 2) (pe_un un_neg pe_int) (fun _ _ => rfl)) pe_int (fun _ _ => rfl)) pa_nil)))))))) (pss_one (ps_ret pe_non)) pss_nil)
        (pss_one (ps_expr (pe_bm PySem.F.plainAttrs_list PySem.F.slot_list_append PySem.F.type_list_append mt_append (pv 2) (pa_cons (pe_tup (pa_cons (pv 7) (pa_cons (pv 8) pa_nil))) pa_nil)))))))))
        (pss_one (ps_ret (pv 2))))))), ?_⟩
    have c0 : Ch [] H H := .refl H
    have d0 : Dcs [] H := .nil
    have hq := m_terms_told.eq_1 a_prime a_text
    refine q_if (eb_not (eb_val (ev_isi (ea_cons (ev_var rfl h_text) (ea_cons (ev_ty (M := []) (c := V.ty "str")) ea_nil)) (fun _ _ h => Tyd.ty (K := K) h) (.ty _) (kit_ty (show kitB "str" "str" = some true by decide +kernel))))) d0 ?_ ?_
    · intro h; cases h
    · intro _ H1 e2 d3
      have h_prime := (Mono.mono e2 h_prime)
      have h_text := (Mono.mono e2 h_text)
      have c0 := c0.trans e2
      refine q_if (eb_test (ev_eqS (ev_var rfl h_text) ev_str)) d3 ?_ ?_
      · intro hb7 H4 e5 d6
        have h_prime := (Mono.mono e5 h_prime)
        have h_text := (Mono.mono e5 h_text)
        have c0 := c0.trans e5
        have hq := hq.trans (if_pos hb7)
        skip
        exact s_ret (EvP.some (F := (fun x : List (Int × Str) => (pL K [] (List.map (fun x => (pT K [(pI x.1), (pS x.2)])) x)))) (EvP.lst (K := K) (F := (fun x : (Int × Str) => (pT K [(pI x.1), (pS x.2)]))) (xs := []) (ev_lst (K := K) ea_nil (by show 0 ≤ 100000; decide)))) d6 (fun v8 H9 e10 d11 h12 => q v8 H9 (c0.trans e10) d11 (tgt (F := (pO (fun x : List (Int × Str) => (pL K [] (List.map (fun x => (pT K [(pI x.1), (pS x.2)])) x))))) hq h12))
      · intro hb16 H13 e14 d15
        have h_prime := (Mono.mono e14 h_prime)
        have h_text := (Mono.mono e14 h_text)
        have c0 := c0.trans e14
        have hq := hq.trans (ne_true hb16)
        skip
        refine q_mut evf_nil d15 (fun l17 vs18 H19 u22_z u22_n e21 d22 u22_h u22_a => ?_)
        have u22_a : All2 (List.map (fun x => (pT K [(pI x.1), (pS x.2)])) ([] : List (Int × Str))) vs18 H19 := u22_a
        have u22_f := none_back c0 u22_z kk_nil
        have h_prime := (Mono.mono e21 h_prime)
        have h_text := (Mono.mono e21 h_text)
        have c0 := c0.trans e21
        have c0 : Ch (l17 :: _) _ _ := c0.more
        refine q_for (M' := (l17 :: [])) (F := pS) (xs := (Txt.split a_text ("+" : Str))) (src_lstF (evf_split (ev_var rfl h_text) ev_str (by first | omega | assumption | exact ⟨by decide +kernel, Evl.sz_of (by omega)⟩ | exact split_many hpre.2.2 | exact tt_sep hpre (by assumption) | exact tt_ent hpre (by assumption) | exact tt_pow hpre (by assumption) | exact tt_room hinv1 | exact tt_less hpre hinv1 (by assumption) (by assumption) (by assumption) | decide | (simp only [decide_eq_true_eq, decide_eq_false_iff_not, Bool.not_eq_true', Bool.not_eq_false', Bool.and_eq_true, Bool.or_eq_false_iff, bne_iff_ne, bne_eq_false_iff_eq, ne_eq, Int.not_lt, Int.not_le] at *; first | omega | exact ⟨by omega, by omega⟩))) (kn_cons u22_h kn_self)) d22 (fun Hs1_ r1_ sg1_ Hc1_ => ∃ (m1_found : List (Int × Str)) (y1_found : List V) (o1_ahead : Option V) (o1_sign : Option V) (o1_behind : Option V) (o1_entry : Option V) (o1_digits : Option V) (o1_term : Option V), sg1_ = [some v_prime, some v_text, some (.ref l17), o1_term, o1_ahead, o1_sign, o1_behind, o1_entry, o1_digits] ∧ Ch (l17 :: []) Hs1_ Hc1_ ∧ Ch (l17 :: []) H19 Hc1_ ∧ Ch (l17 :: []) H Hc1_ ∧ Dcs [] Hc1_ ∧ Hc1_ l17 = some (.lst y1_found) ∧ All2 (List.map (fun x => (pT K [(pI x.1), (pS x.2)])) m1_found) y1_found Hc1_ ∧ (TtI (m1_found) ∧ ((m1_found)).length + r1_.length ≤ 2000) ∧ m_terms_told a_prime a_text = m_terms_told_for1 (a_prime) (a_text) r1_ m1_found) ?_ (fun _ _ _ _ h => ?_) ?_ ?_
        · intro H2 e2 d2
          exact ⟨([] : List (Int × Str)), _, _, _, _, _, _, _, rfl, .refl _, e2.more, c0.trans e2.more, d2, e2.keep _ _ u22_n u22_h, MonoA.mono e2 u22_a, (by exact ⟨tt_start, split_1001 hpre.2.2⟩), hq⟩
        · obtain ⟨m1_found, y1_found, o1_ahead, o1_sign, o1_behind, o1_entry, o1_digits, o1_term, rfl, c21_, cH1_, c0, d1_, u22_h, u22_a, hinv1, hq⟩ := h
          exact c21_
        · rintro Hs1_ x1_ r1_ v1_term sg1_ Hx Hc1_ hx1 ⟨m1_found, y1_found, o1_ahead, o1_sign, o1_behind, o1_entry, o1_digits, o1_term, rfl, c21_, cH1_, c0, d1_, u22_h, u22_a, hinv1, hq⟩ sm p1_term
          have cs : Ch [] Hx Hc1_ := .of sm
          have d1_ := Dcs.new d1_ sm
          have h_prime := (Mono.mono (cH1_.trans (.of sm)) h_prime)
          have h_text := (Mono.mono (cH1_.trans (.of sm)) h_text)
          have u22_h := cs.keep _ _ u22_n u22_h
          have u22_a := MonoA.mono cs u22_a
          have c21_ := c21_.trans (.of sm)
          have cH1_ := cH1_.trans (.of sm)
          have c0 := c0.trans (.of sm)
          have hq := hq.trans (m_terms_told_for1.eq_2 _ _ _ _ _)
          refine q_asg3 (ev_partition (ev_var rfl p1_term) ev_str (by first | omega | assumption | exact ⟨by decide +kernel, Evl.sz_of (by omega)⟩ | exact split_many hpre.2.2 | exact tt_sep hpre (by assumption) | exact tt_ent hpre (by assumption) | exact tt_pow hpre (by assumption) | exact tt_room hinv1 | exact tt_less hpre hinv1 (by assumption) (by assumption) (by assumption) | decide | (simp only [decide_eq_true_eq, decide_eq_false_iff_not, Bool.not_eq_true', Bool.not_eq_false', Bool.and_eq_true, Bool.or_eq_false_iff, bne_iff_ne, bne_eq_false_iff_eq, ne_eq, Int.not_lt, Int.not_le] at *; first | omega | exact ⟨by omega, by omega⟩))) d1_ (fun v26 v27 v28 H23 e24 d25 h_29 h_30 h_31 => ?_)
          have h_prime := (Mono.mono e24 h_prime)
          have h_text := (Mono.mono e24 h_text)
          have p1_term := (Mono.mono e24 p1_term)
          have u22_h := e24.keep _ _ u22_n u22_h
          have u22_a := MonoA.mono e24 u22_a
          have c0 := c0.trans e24.more
          have cH1_ := cH1_.trans e24.more
          have c21_ := c21_.trans e24.more
          refine q_par (ea_cons (ev_entry_told (ea_cons (ev_var rfl h_29) (ea_cons (ev_var rfl h_30) ea_nil)) (by first | omega | assumption | exact ⟨by decide +kernel, Evl.sz_of (by omega)⟩ | exact split_many hpre.2.2 | exact tt_sep hpre (by assumption) | exact tt_ent hpre (by assumption) | exact tt_pow hpre (by assumption) | exact tt_room hinv1 | exact tt_less hpre hinv1 (by assumption) (by assumption) (by assumption) | decide | (simp only [decide_eq_true_eq, decide_eq_false_iff_not, Bool.not_eq_true', Bool.not_eq_false', Bool.and_eq_true, Bool.or_eq_false_iff, bne_iff_ne, bne_eq_false_iff_eq, ne_eq, Int.not_lt, Int.not_le] at *; first | omega | exact ⟨by omega, by omega⟩))) (ea_cons (ev_power_told (ea_cons (ev_var rfl h_30) (ea_cons (ev_var rfl h_31) ea_nil)) (by first | omega | assumption | exact ⟨by decide +kernel, Evl.sz_of (by omega)⟩ | exact split_many hpre.2.2 | exact tt_sep hpre (by assumption) | exact tt_ent hpre (by assumption) | exact tt_pow hpre (by assumption) | exact tt_room hinv1 | exact tt_less hpre hinv1 (by assumption) (by assumption) (by assumption) | decide | (simp only [decide_eq_true_eq, decide_eq_false_iff_not, Bool.not_eq_true', Bool.not_eq_false', Bool.and_eq_true, Bool.or_eq_false_iff, bne_iff_ne, bne_eq_false_iff_eq, ne_eq, Int.not_lt, Int.not_le] at *; first | omega | exact ⟨by omega, by omega⟩))) ea_nil)) d25 (fun v35 v36 H32 e33 d34 h_37 h_38 => ?_)
          have h_prime := (Mono.mono e33 h_prime)
          have h_text := (Mono.mono e33 h_text)
          have p1_term := (Mono.mono e33 p1_term)
          have h_29 := (Mono.mono e33 h_29)
          have h_30 := (Mono.mono e33 h_30)
          have h_31 := (Mono.mono e33 h_31)
          have u22_h := e33.keep _ _ u22_n u22_h
          have u22_a := MonoA.mono e33 u22_a
          have c0 := c0.trans e33.more
          have cH1_ := cH1_.trans e33.more
          have c21_ := c21_.trans e33.more
          refine q_if (eb_or (eb_not (eb_test (ev_chain ev_int (ev_var rfl h_37) (ev_var rfl h_prime)))) (fun hb39 => (eb_test (ev_isN (F := pS) no_str (ev_var rfl h_38) ev_non)))) d34 ?_ ?_
          · intro hb44 H41 e42 d43
            have h_prime := (Mono.mono e42 h_prime)
            have h_text := (Mono.mono e42 h_text)
            have p1_term := (Mono.mono e42 p1_term)
            have h_29 := (Mono.mono e42 h_29)
            have h_30 := (Mono.mono e42 h_30)
            have h_31 := (Mono.mono e42 h_31)
            have h_37 := (Mono.mono e42 h_37)
            have h_38 := (Mono.mono e42 h_38)
            have u22_h := e42.keep _ _ u22_n u22_h
            have u22_a := MonoA.mono e42 u22_a
            have c0 := c0.trans e42.more
            have cH1_ := cH1_.trans e42.more
            have c21_ := c21_.trans e42.more
            have hq := hq.trans (if_pos hb44)
            skip
            exact s_ret (EvP.non (F := (fun x : List (Int × Str) => (pL K [] (List.map (fun x => (pT K [(pI x.1), (pS x.2)])) x)))) ev_non) d43 (fun v45 H46 e47 d48 h49 => q v45 H46 ((c0.trans e47.more).drop u22_f) d48 (tgt (F := (pO (fun x : List (Int × Str) => (pL K [] (List.map (fun x => (pT K [(pI x.1), (pS x.2)])) x))))) hq h49))
          · intro hb53 H50 e51 d52
            have hb53' := hb53
            have h_prime := (Mono.mono e51 h_prime)
            have h_text := (Mono.mono e51 h_text)
            have p1_term := (Mono.mono e51 p1_term)
            have h_29 := (Mono.mono e51 h_29)
            have h_30 := (Mono.mono e51 h_30)
            have h_31 := (Mono.mono e51 h_31)
            have h_37 := (Mono.mono e51 h_37)
            have h_38 := (Mono.mono e51 h_38)
            have u22_h := e51.keep _ _ u22_n u22_h
            have u22_a := MonoA.mono e51 u22_a
            have c0 := c0.trans e51.more
            have cH1_ := cH1_.trans e51.more
            have c21_ := c21_.trans e51.more
            have hq := hq.trans (ne_true hb53)
            skip
            have h_54 := (pO.get (or_said2 hb53') h_38)
            refine q_if (eb_and (eb_tru (ev_mut (K := K) rfl u22_h u22_a u22_n) (fun _ _ p => tru_lst p)) (fun hb55 => (eb_not (eb_val (ev_is_lesser (ea_cons (ev_var rfl h_54) (ea_cons (ev_ixN (n := 1) (ev_ixL (F := (fun x : (Int × Str) => (pT K [(pI x.1), (pS x.2)]))) (ev_mut (K := K) rfl u22_h u22_a u22_n) (ev_neg ev_int) (by first | exact ⟨by omega, by omega⟩ | (refine inb_last ?_; intro hnil; simp [hnil] at *; done) | omega | assumption | exact ⟨by decide +kernel, Evl.sz_of (by omega)⟩ | exact split_many hpre.2.2 | exact tt_sep hpre (by assumption) | exact tt_ent hpre (by assumption) | exact tt_pow hpre (by assumption) | exact tt_room hinv1 | exact tt_less hpre hinv1 (by assumption) (by assumption) (by assumption) | decide | (simp only [decide_eq_true_eq, decide_eq_false_iff_not, Bool.not_eq_true', Bool.not_eq_false', Bool.and_eq_true, Bool.or_eq_false_iff, bne_iff_ne, bne_eq_false_iff_eq, ne_eq, Int.not_lt, Int.not_le] at *; first | omega | exact ⟨by omega, by omega⟩))) ev_int rfl) ea_nil)) (by first | omega | assumption | exact ⟨by decide +kernel, Evl.sz_of (by omega)⟩ | exact split_many hpre.2.2 | exact tt_sep hpre (by assumption) | exact tt_ent hpre (by assumption) | exact tt_pow hpre (by assumption) | exact tt_room hinv1 | exact tt_less hpre hinv1 (by assumption) (by assumption) (by assumption) | decide | (simp only [decide_eq_true_eq, decide_eq_false_iff_not, Bool.not_eq_true', Bool.not_eq_false', Bool.and_eq_true, Bool.or_eq_false_iff, bne_iff_ne, bne_eq_false_iff_eq, ne_eq, Int.not_lt, Int.not_le] at *; first | omega | exact ⟨by omega, by omega⟩))))))) d52 ?_ ?_
            · intro hb60 H57 e58 d59
              have h_prime := (Mono.mono e58 h_prime)
              have h_text := (Mono.mono e58 h_text)
              have p1_term := (Mono.mono e58 p1_term)
              have h_29 := (Mono.mono e58 h_29)
              have h_30 := (Mono.mono e58 h_30)
              have h_31 := (Mono.mono e58 h_31)
              have h_37 := (Mono.mono e58 h_37)
              have h_54 := (Mono.mono e58 h_54)
              have u22_h := e58.keep _ _ u22_n u22_h
              have u22_a := MonoA.mono e58 u22_a
              have c0 := c0.trans e58.more
              have cH1_ := cH1_.trans e58.more
              have c21_ := c21_.trans e58.more
              have hq := hq.trans (if_pos hb60)
              skip
              exact s_ret (EvP.non (F := (fun x : List (Int × Str) => (pL K [] (List.map (fun x => (pT K [(pI x.1), (pS x.2)])) x)))) ev_non) d59 (fun v61 H62 e63 d64 h65 => q v61 H62 ((c0.trans e63.more).drop u22_f) d64 (tgt (F := (pO (fun x : List (Int × Str) => (pL K [] (List.map (fun x => (pT K [(pI x.1), (pS x.2)])) x))))) hq h65))
            · intro hb69 H66 e67 d68
              have h_prime := (Mono.mono e67 h_prime)
              have h_text := (Mono.mono e67 h_text)
              have p1_term := (Mono.mono e67 p1_term)
              have h_29 := (Mono.mono e67 h_29)
              have h_30 := (Mono.mono e67 h_30)
              have h_31 := (Mono.mono e67 h_31)
              have h_37 := (Mono.mono e67 h_37)
              have h_54 := (Mono.mono e67 h_54)
              have u22_h := e67.keep _ _ u22_n u22_h
              have u22_a := MonoA.mono e67 u22_a
              have c0 := c0.trans e67.more
              have cH1_ := cH1_.trans e67.more
              have c21_ := c21_.trans e67.more
              have hq := hq.trans (ne_true hb69)
              skip
              refine s_app' rfl u22_h u22_a u22_n (ev_tup (K := K) (ea_cons (ev_var rfl h_37) (ea_cons (ev_var rfl h_54) ea_nil)) (by show 2 ≤ 100000; decide)) d68 (by simp only [List.length_map] <;> first | omega | assumption | exact ⟨by decide +kernel, Evl.sz_of (by omega)⟩ | exact split_many hpre.2.2 | exact tt_sep hpre (by assumption) | exact tt_ent hpre (by assumption) | exact tt_pow hpre (by assumption) | exact tt_room hinv1 | exact tt_less hpre hinv1 (by assumption) (by assumption) (by assumption) | decide | (simp only [decide_eq_true_eq, decide_eq_false_iff_not, Bool.not_eq_true', Bool.not_eq_false', Bool.and_eq_true, Bool.or_eq_false_iff, bne_iff_ne, bne_eq_false_iff_eq, ne_eq, Int.not_lt, Int.not_le] at *; first | omega | exact ⟨by omega, by omega⟩)) (fun ys70 H71 e72 d73 u22_h u22_a => ?_)
              have u22_a : All2 (List.map (fun x => (pT K [(pI x.1), (pS x.2)])) (m1_found ++ [((m_entry_told (Txt.partition x1_ ("x" : Str)).1 (Txt.partition x1_ ("x" : Str)).2.1), (((m_power_told (Txt.partition x1_ ("x" : Str)).2.1 (Txt.partition x1_ ("x" : Str)).2.2)).getD default))])) ys70 H71 := app_map u22_a
              have h_prime := Mono.mono e72 h_prime
              have h_text := Mono.mono e72 h_text
              have p1_term := Mono.mono e72 p1_term
              have h_29 := Mono.mono e72 h_29
              have h_30 := Mono.mono e72 h_30
              have h_31 := Mono.mono e72 h_31
              have h_37 := Mono.mono e72 h_37
              have h_54 := Mono.mono e72 h_54
              have c0 := c0.trans e72
              have cH1_ := cH1_.trans e72
              have c21_ := c21_.trans e72
              exact ⟨(m1_found ++ [((m_entry_told (Txt.partition x1_ ("x" : Str)).1 (Txt.partition x1_ ("x" : Str)).2.1), (((m_power_told (Txt.partition x1_ ("x" : Str)).2.1 (Txt.partition x1_ ("x" : Str)).2.2)).getD default))]), _, _, _, _, _, _, _, rfl, c21_, cH1_, c0, d73, u22_h, u22_a, (by exact tt_next hpre hinv1 (by assumption) (by assumption) (by assumption)), hq⟩
        · rintro Hs1_ sg1_ Hc1_ ⟨m1_found, y1_found, o1_ahead, o1_sign, o1_behind, o1_entry, o1_digits, o1_term, rfl, c21_, cH1_, c0, d1_, u22_h, u22_a, hinv1, hq⟩
          have h_prime := (Mono.mono cH1_ h_prime)
          have h_text := (Mono.mono cH1_ h_text)
          have hq := hq.trans (m_terms_told_for1.eq_1 _ _ _)
          exact s_ret (EvP.some (F := (fun x : List (Int × Str) => (pL K [] (List.map (fun x => (pT K [(pI x.1), (pS x.2)])) x)))) (ev_mut (K := K) rfl u22_h u22_a u22_n)) d1_ (fun v74 H75 e76 d77 h78 => q v74 H75 ((c0.trans e76.more).drop u22_f) d77 (tgt (F := (pO (fun x : List (Int × Str) => (pL K [] (List.map (fun x => (pT K [(pI x.1), (pS x.2)])) x))))) hq h78))
theorem cv_terms_told {Cc : Cl} {E : XK} {vs : List V} {H1 : Hp} {a_prime : Int} {a_text : Str} (pre : (3 ≤ a_prime ∧ a_prime ≤ 31 ∧ (a_text).length ≤ 1000)) (d : Dcs [] H1) (k : All2 [(pI a_prime), (pS a_text)] vs H1) (Q : VK) (q : ∀ v H2, Ch [] H1 H2 → Dcs [] H2 → (pO (fun x => (pL K [] (List.map (fun x => (pT K [(pI x.1), (pS x.2)])) x))) (m_terms_told a_prime a_text)) v H2 → Q v H2) : sp_terms_told K Cc vs H1 Q E := by
  obtain ⟨v_prime, v_text, rfl, h_prime, h_text⟩ := all2 k
  exact ⟨a_prime, a_text, v_prime, v_text, rfl, h_prime, h_text, pre, fun u H' c _ r => q u H' c.any (d.new c.same) r⟩
theorem ev_terms_told {Cc : Cl} {σ : St} {H : Hp} {tr : TA} {E : XK} {a_prime : Int} {a_text : Str} (h : EvA [] tr σ H [(pI a_prime), (pS a_text)]) (pre : (3 ≤ a_prime ∧ a_prime ≤ 31 ∧ (a_text).length ≤ 1000)) : EvP [] (tCall (sp_terms_told K Cc) [] E tr) σ H (pO (fun x => (pL K [] (List.map (fun x => (pT K [(pI x.1), (pS x.2)])) x))) (m_terms_told a_prime a_text)) := ev_call h fun vs H1 d k Q q => cv_terms_told pre d k Q q
end
end R

namespace R
open PySem PySem.Spec L2 Mir TL RZ
def sp__law_any_row (K : PySem.W.Frag) (Cc : Cl) : Sp := fun vs H Q _ => ∃ (aD : Addr) (a__law_prime : Int) (v__law_dice_here v__law_prime : V), vs = [v__law_dice_here, v__law_prime] ∧ Dc aD H ∧ (pD aD) v__law_dice_here H ∧ (pI a__law_prime) v__law_prime H ∧ (3 ≤ a__law_prime ∧ a__law_prime ≤ 31) ∧ ∀ u H', Ch [aD] H H' → Dcs [aD] H' → (pX (fun r => RowOk a__law_prime r ∧ r.length ≤ 13) (pRow K)) u H' → Q u H'
abbrev N__law_any_row : List Str := ["_law_dice_here", "_law_prime"]
theorem sc__law_any_row : FnScope N__law_any_row ["_law_dice_here", "_law_prime"] (defScope s__law_any_row) := ⟨rfl, rfl, rfl, by decide +kernel, rfl, by decide +kernel, by decide +kernel⟩
section
variable {P : Program} {w : World} {K : PySem.W.Frag} {mg : Str → Option Value} {base : Heap}
theorem ok__law_any_row (T : Txt K mg) : FnOk P w K mg base CX0 3 T.f__law_any_row T.fd__law_any_row ["_law_dice_here", "_law_prime"] (sp__law_any_row K T.C) := by
  refine T.F__law_any_row.ok sc__law_any_row (fun vs H Q E h => ?_) (fun cdv A outer s H vs Q E hr h => ?_)
  · obtain ⟨aD, a__law_prime, v__law_dice_here, v__law_prime, rfl, hdc, h__law_dice_here, h__law_prime, hpre, q⟩ := h
    rfl
  · obtain ⟨aD, a__law_prime, v__law_dice_here, v__law_prime, rfl, hdc, h__law_dice_here, h__law_prime, hpre, q⟩ := h
    refine ⟨_, (pss_cons (ps_if (pt_cmpR op_eq (pe_call (ok__law_roll T) (hr.mono (by decide)) (by rfl) T.g__law_roll T.F__law_roll.kp T.b__law_roll .nil pass0 (pa_cons (pv 0) (pa_cons pe_int pa_nil))) pe_int (nomark _)) (pss_one (ps_ret (pe_tup pa_nil))) pss_nil)
        (pss_one (ps_ret (pe_call (ok__law_row_drawn T) (hr.mono (by decide)) (by rfl) T.g__law_row_drawn T.F__law_row_drawn.kp T.b__law_row_drawn .nil pass0 (pa_cons (pv 0) (pa_cons (pv 1) (pa_cons (pe_call (ok__law_roll T) (hr.mono (by decide)) (by rfl) T.g__law_roll T.F__law_roll.kp T.b__law_roll .nil pass0 (pa_cons (pv 0) (pa_cons pe_int pa_nil))) pa_nil))))))), ?_⟩
    have c0 : Ch [aD] H H := .refl H
    have d0 : Dcs [aD] H := dcs1 hdc
    refine q_ifX (ebx_test (fo_op (R := fun m1 => pB (decide (m1 = (0 : Int)))) (ev__law_roll (ea_cons (ev_var rfl h__law_dice_here) (ea_cons ev_int ea_nil)) (by first | exact ⟨by omega, by omega⟩ | omega | assumption | exact ⟨hpre.1, hpre.2, by omega, by omega⟩ | exact none_row | exact any_row (by assumption) (by assumption) | decide | (simp only [decide_eq_true_eq, decide_eq_false_iff_not, Bool.not_eq_true', Bool.not_eq_false', Bool.and_eq_true, Bool.or_eq_false_iff, bne_iff_ne, bne_eq_false_iff_eq, ne_eq, Int.not_lt, Int.not_le] at *; first | omega | exact ⟨by omega, by omega⟩))) (fun m1 v2 H3 e4 d5 hm1 h6 => (ev_eqI (ev_cst h6) ev_int)))) d0 ?_ ?_
    · intro hb10 H7 e8 d9
      have h__law_dice_here := (Mono.mono e8 h__law_dice_here)
      have h__law_prime := (Mono.mono e8 h__law_prime)
      have c0 := c0.trans e8
      obtain ⟨m1, hm1, hb10⟩ := hb10
      have hb10 := hb10.symm
      try simp only [decide_eq_true_eq, decide_eq_false_iff_not, Bool.not_eq_true', Bool.not_eq_false', Bool.and_eq_true, Bool.or_eq_false_iff, bne_iff_ne, bne_eq_false_iff_eq, ne_eq, Int.not_lt, Int.not_le] at hb10
      exact s_ret (EvP.row (r := []) (ev_tup (K := K) ea_nil (by decide))) d9 (fun v11 H12 e13 d14 h15 => by
        exact q _ _ (c0.trans e13) d14 ⟨([] : List Int), (by first | omega | assumption | exact ⟨hpre.1, hpre.2, by omega, by omega⟩ | exact none_row | exact any_row (by assumption) (by assumption) | decide | (simp only [decide_eq_true_eq, decide_eq_false_iff_not, Bool.not_eq_true', Bool.not_eq_false', Bool.and_eq_true, Bool.or_eq_false_iff, bne_iff_ne, bne_eq_false_iff_eq, ne_eq, Int.not_lt, Int.not_le] at *; first | omega | exact ⟨by omega, by omega⟩)), h15⟩)
    · intro hb19 H16 e17 d18
      have h__law_dice_here := (Mono.mono e17 h__law_dice_here)
      have h__law_prime := (Mono.mono e17 h__law_prime)
      have c0 := c0.trans e17
      obtain ⟨m1, hm1, hb19⟩ := hb19
      have hb19 := hb19.symm
      try simp only [decide_eq_true_eq, decide_eq_false_iff_not, Bool.not_eq_true', Bool.not_eq_false', Bool.and_eq_true, Bool.or_eq_false_iff, bne_iff_ne, bne_eq_false_iff_eq, ne_eq, Int.not_lt, Int.not_le] at hb19
      exact s_ret (ev_call (R := (pX (fun m20 : Int => 0 ≤ m20 ∧ m20 < (13 : Int)) fun m20 : Int => (pX (fun m21 : List Int => (fun r => RowOk (a__law_prime) r ∧ (r.length : Int) = (m20) + 1) m21) fun m21 : List Int => (pRow K m21)))) (ea_cons (ev_var rfl h__law_dice_here) (ea_cons (ev_var rfl h__law_prime) (ea_cons (ev__law_roll (ea_cons (ev_var rfl h__law_dice_here) (ea_cons ev_int ea_nil)) (by first | exact ⟨by omega, by omega⟩ | omega | assumption | exact ⟨hpre.1, hpre.2, by omega, by omega⟩ | exact none_row | exact any_row (by assumption) (by assumption) | decide | (simp only [decide_eq_true_eq, decide_eq_false_iff_not, Bool.not_eq_true', Bool.not_eq_false', Bool.and_eq_true, Bool.or_eq_false_iff, bne_iff_ne, bne_eq_false_iff_eq, ne_eq, Int.not_lt, Int.not_le] at *; first | omega | exact ⟨by omega, by omega⟩))) ea_nil))) (fun vs H1 d k Q q => by obtain ⟨v25, v26, v27, rfl, h22, h23, ⟨m20, hm20, h24⟩⟩ := all3 k; exact cv__law_row_drawn (by first | omega | assumption | exact ⟨hpre.1, hpre.2, by omega, by omega⟩ | exact none_row | exact any_row (by assumption) (by assumption) | decide | (simp only [decide_eq_true_eq, decide_eq_false_iff_not, Bool.not_eq_true', Bool.not_eq_false', Bool.and_eq_true, Bool.or_eq_false_iff, bne_iff_ne, bne_eq_false_iff_eq, ne_eq, Int.not_lt, Int.not_le] at *; first | omega | exact ⟨by omega, by omega⟩)) d (.cons h22 (.cons h23 (.cons h24 .nil))) Q (fun v H2 e2 d2 r => q v H2 e2 d2 ⟨m20, hm20, r⟩))) d18 (fun v28 H29 e30 d31 h32 => by
        obtain ⟨m20, hm20, m21, hm21, h32⟩ := h32
        exact q _ _ (c0.trans e30) d31 ⟨m21, (by first | omega | assumption | exact ⟨hpre.1, hpre.2, by omega, by omega⟩ | exact none_row | exact any_row (by assumption) (by assumption) | decide | (simp only [decide_eq_true_eq, decide_eq_false_iff_not, Bool.not_eq_true', Bool.not_eq_false', Bool.and_eq_true, Bool.or_eq_false_iff, bne_iff_ne, bne_eq_false_iff_eq, ne_eq, Int.not_lt, Int.not_le] at *; first | omega | exact ⟨by omega, by omega⟩)), h32⟩)
theorem cv__law_any_row {Cc : Cl} {aD : Addr} {E : XK} {vs : List V} {H1 : Hp} {a__law_prime : Int} (pre : (3 ≤ a__law_prime ∧ a__law_prime ≤ 31)) (d : Dcs [aD] H1) (k : All2 [(pD aD), (pI a__law_prime)] vs H1) (Q : VK) (q : ∀ v H2, Ch [aD] H1 H2 → Dcs [aD] H2 → (pX (fun r => RowOk a__law_prime r ∧ r.length ≤ 13) (pRow K)) v H2 → Q v H2) : sp__law_any_row K Cc vs H1 Q E := by
  obtain ⟨v__law_dice_here, v__law_prime, rfl, h__law_dice_here, h__law_prime⟩ := all2 k
  exact ⟨aD, a__law_prime, v__law_dice_here, v__law_prime, rfl, d.one, h__law_dice_here, h__law_prime, pre, q⟩
theorem ev__law_any_row {Cc : Cl} {aD : Addr} {σ : St} {H : Hp} {tr : TA} {E : XK} {a__law_prime : Int} (h : EvA [aD] tr σ H [(pD aD), (pI a__law_prime)]) (pre : (3 ≤ a__law_prime ∧ a__law_prime ≤ 31)) : EvP [aD] (tCall (sp__law_any_row K Cc) [] E tr) σ H (pX (fun r => RowOk a__law_prime r ∧ r.length ≤ 13) (pRow K)) := ev_call h fun vs H1 d k Q q => cv__law_any_row pre d k Q q
end
end R

namespace R
open PySem PySem.Spec L2 Mir TL RZ
def m_Poly___init__ (a_prime : Int) (a_entries : List Int) : Pol := ⟨a_prime, a_entries⟩
def sp_Poly___init__ (K : PySem.W.Frag) (Cc : Cl) : Sp := fun vs H Q _ => ∃ (H1 : Hp) (self dx : Addr) (a_prime : Int) (a_entries : List Int) (v_prime v_entries : V), vs = [.ref self, v_prime, v_entries] ∧ H1 self = none ∧ Same H1 H ∧ H self = some (.ins Cc.Poly dx []) ∧ (pI a_prime) v_prime H1 ∧ (pMade K Cc a_entries) v_entries H1 ∧ (m_is_prime a_prime = true) ∧ ∀ H', Same H1 H' → (pPoly K Cc (m_Poly___init__ a_prime a_entries)) (.ref self) H' → Q .non H'
abbrev N_Poly___init__ : List Str := ["self", "prime", "entries"]
theorem sc_Poly___init__ : FnScope N_Poly___init__ ["self", "prime", "entries"] (defScope s_Poly___init__) := ⟨rfl, rfl, rfl, by decide +kernel, rfl, by decide +kernel, by decide +kernel⟩
section
variable {P : Program} {w : World} {K : PySem.W.Frag} {mg : Str → Option Value} {base : Heap}
theorem ok_Poly___init__ (T : Txt K mg) : FnOk P w K mg base CX0 4 T.f_Poly___init__ T.fd_Poly___init__ ["self", "prime", "entries"] (sp_Poly___init__ K T.C) := by
  refine T.F_Poly___init__.ok sc_Poly___init__ (fun vs H Q E h => ?_) (fun cdv A outer s H vs Q E hr h => ?_)
  · obtain ⟨H1, self, dx, a_prime, a_entries, v_prime, v_entries, rfl, hz, hs, hself, h_prime, h_entries, hpre, q⟩ := h
    rfl
  · obtain ⟨H1, self, dx, a_prime, a_entries, v_prime, v_entries, rfl, hz, hs, hself, h_prime, h_entries, hpre, q⟩ := h
    refine ⟨_, (pss_cons (ps_expr (pe_call (ok_check_prime T) (hr.mono (by decide)) (by rfl) T.g_check_prime T.F_check_prime.kp T.b_check_prime .nil pass0 (pa_cons (pv 1) pa_nil)))
        (pss_cons (ps_if (pt_val (pe_callB (call_isiK' K) (by rfl) T.z_isinstance (by decide +kernel) (pa_cons (pv 2) (pa_cons (pe_glob (v := V.ref T.C.Made) (by rfl) T.g_Made rfl) pa_nil)))) (pss_one (ps_set (i := 2) sc_Poly___init__.nd rfl (Or.inl rfl) (pe_fldK K (pv 2) rfl))) pss_never)
        (pss_cons (ps_fld (pv 0) (pv 1) rfl)
        (pss_cons (ps_fld (pv 0) (pv 2) rfl)
        (pss_cons (ps_fld (pv 0) (pe_op op_sub (pe_callB (call_len_seqK K) (by rfl) T.z_len (by decide +kernel) (pa_cons (pv 2) pa_nil)) pe_int) rfl)
        (pss_cons (ps_fld (pv 0) (pe_ifExp (pt_truthK K (pv 2) (by intro _; rfl)) (pe_ix (ix_tupK K) (pv 2) (pe_un un_neg pe_int) (fun _ _ => rfl)) pe_int) rfl)
        (pss_cons (ps_fld (pv 0) (pe_notTK K (pv 2)) rfl)
        (pss_one (ps_fld (pv 0) (pe_cmpR op_eq (pe_fldK K (pv 0) rfl) pe_int (nomark _)) rfl))))))))), ?_⟩
    have cI : Ch [] H1 H := .of hs
    have I := Mk1.nil hself
    refine q_drop (ev_check_prime (ea_cons (ev_var rfl (Mono.mono cI h_prime)) ea_nil) (by first | omega | assumption | exact hpre | decide | (simp only [decide_eq_true_eq, decide_eq_false_iff_not, Bool.not_eq_true', Bool.not_eq_false', Bool.and_eq_true, Bool.or_eq_false_iff, bne_iff_ne, bne_eq_false_iff_eq, ne_eq, Int.not_lt, Int.not_le] at *; first | omega | exact ⟨by omega, by omega⟩))) .nil (fun v1 H2 e3 d4 h5 => ?_)
    have cI := cI.trans e3
    have I := I.mono e3
    refine q_if (eb_val (ev_isi (ea_cons (ev_var rfl (Mono.mono cI h_entries)) (ea_cons (ev_ty (M := []) (c := V.ref T.C.Made)) ea_nil)) (fun _ _ h => T.is_Made.ty h) (.own _) kit_self)) d4 ?_ ?_
    · intro _ H6 e7 d8
      have cI := cI.trans e7
      have I := I.mono e7
      refine s_asg (ev_fld (P := (pRow K a_entries)) (ev_var rfl (Mono.mono cI h_entries)) T.cl_Made T.n_Made_row (by rfl)) d8 (fun v9 H10 e11 d12 h_13 => ?_)
      have cI := cI.trans e11
      have I := I.mono e11
      refine q_fld (P := (pI a_prime)) rfl I (ev_var rfl (Mono.mono cI h_prime)) T.cl_Poly T.n_Poly_prime (by rfl) (by show 0 < 500; decide) (fun gs14 H15 c16 I' => ?_)
      have h_13 := AwP.aw I.at_ c16 h_13
      have cI : Ch [] H1 H15 := .of (fun b o e => c16 b o (ne_of_none e hz) (cI.same b o e))
      have I := I'
      refine q_fld (P := (pRow K a_entries)) rfl I (ev_var rfl h_13) T.cl_Poly T.n_Poly_entries (by rfl) (by show 1 < 500; decide) (fun gs18 H19 c20 I' => ?_)
      have h_13 := AwP.aw I.at_ c20 h_13
      have cI : Ch [] H1 H19 := .of (fun b o e => c20 b o (ne_of_none e hz) (cI.same b o e))
      have I := I'
      refine q_fld (P := (pI (((a_entries).length : Int) - (1 : Int)))) rfl I (ev_sub (ev_lenR (ea_cons (ev_var rfl h_13) ea_nil)) ev_int) T.cl_Poly T.n_Poly_degree (by rfl) (by show 2 < 500; decide) (fun gs22 H23 c24 I' => ?_)
      have h_13 := AwP.aw I.at_ c24 h_13
      have cI : Ch [] H1 H23 := .of (fun b o e => c24 b o (ne_of_none e hz) (cI.same b o e))
      have I := I'
      refine q_fld (P := (pI (if (!(a_entries).isEmpty) = true then (ixd a_entries (-(1 : Int))) else (0 : Int)))) rfl I (ev_if (F := pI) (eb_tru (ev_var rfl h_13) (fun _ _ p => tru_row p)) (fun hb26 => (ev_ixR (ev_var rfl h_13) (ev_neg ev_int) (by first | exact ⟨by omega, by omega⟩ | (refine inb_last ?_; intro hnil; simp [hnil] at *; done) | omega | assumption | exact hpre | decide | (simp only [decide_eq_true_eq, decide_eq_false_iff_not, Bool.not_eq_true', Bool.not_eq_false', Bool.and_eq_true, Bool.or_eq_false_iff, bne_iff_ne, bne_eq_false_iff_eq, ne_eq, Int.not_lt, Int.not_le] at *; first | omega | exact ⟨by omega, by omega⟩)))) (fun hb26 => ev_int)) T.cl_Poly T.n_Poly_lead (by rfl) (by show 3 < 500; decide) (fun gs27 H28 c29 I' => ?_)
      have h_13 := AwP.aw I.at_ c29 h_13
      have cI : Ch [] H1 H28 := .of (fun b o e => c29 b o (ne_of_none e hz) (cI.same b o e))
      have I := I'
      refine q_fld (P := (pB (!(!(a_entries).isEmpty)))) rfl I (ev_notT (ev_var rfl h_13) (fun _ _ p => tru_row p)) T.cl_Poly T.n_Poly_is_zero (by rfl) (by show 4 < 500; decide) (fun gs31 H32 c33 I' => ?_)
      have h_13 := AwP.aw I.at_ c33 h_13
      have cI : Ch [] H1 H32 := .of (fun b o e => c33 b o (ne_of_none e hz) (cI.same b o e))
      have I := I'
      refine s_fld (P := (pB (decide ((if (!(a_entries).isEmpty) = true then (ixd a_entries (-(1 : Int))) else (0 : Int)) = (1 : Int))))) rfl I (ev_eqI (ev_fld (P := (pI (if (!(a_entries).isEmpty) = true then (ixd a_entries (-(1 : Int))) else (0 : Int)))) (ev_self rfl I) T.cl_Poly T.n_Poly_lead (by rfl)) ev_int) T.cl_Poly T.n_Poly_is_monic (by rfl) (by show 5 < 500; decide) (fun gs35 H36 c37 I' => ?_)
      have h_13 := AwP.aw I.at_ c37 h_13
      have cI : Ch [] H1 H36 := .of (fun b o e => c37 b o (ne_of_none e hz) (cI.same b o e))
      have I := I'
      exact q _ cI.same I.obj
    · intro h; cases h
theorem ev_Poly___init__ {Cc : Cl} {M : List Addr} {σ : St} {H : Hp} {tr : TA} {E : XK} {a_prime : Int} {a_entries : List Int} (h : EvA M tr σ H [(pI a_prime), (pMade K Cc a_entries)]) (pre : (m_is_prime a_prime = true)) : EvP M (tMake Cc.Poly (sp_Poly___init__ K Cc) [] E tr) σ H (pPoly K Cc (m_Poly___init__ a_prime a_entries)) := ev_make h fun vs H1 d k x dx hx hdx ne Q q => by
  obtain ⟨v_prime, v_entries, rfl, h_prime, h_entries⟩ := all2 k
  exact ⟨H1, x, dx, a_prime, a_entries, v_prime, v_entries, rfl, hx, same_made hx hdx, upd_same, h_prime, h_entries, pre, q⟩
end
end R

namespace R
open PySem PySem.Spec L2 Mir TL RZ
theorem isint_ok {i : Int} (h : -top60 ≤ i ∧ i ≤ top60) : m_is_integer i = true := by
  show (decide (-top60 ≤ i) && decide (i ≤ top60)) = true
  rw [decide_eq_true h.1, decide_eq_true h.2]
  rfl
theorem within_is {i lo hi : Int} (h : -top60 ≤ i ∧ i ≤ top60) : m_is_within i lo hi = (decide (lo ≤ i) && decide (i ≤ hi)) := by
  show (m_is_integer i && (decide (lo ≤ i) && decide (i ≤ hi))) = _
  rw [isint_ok h, Bool.true_and]
theorem within_ok {p e : Int} (hp : p ≤ 31) (h : 0 ≤ e ∧ e < p) : m_is_within e 0 (p - 1) = true := by
  rw [within_is ⟨by unfold top60; omega, by unfold top60; omega⟩, decide_eq_true h.1, decide_eq_true (show e ≤ p - 1 by omega)]
  rfl
theorem count_ok {e : Int} (h0 : 0 ≤ e) (h : e ≤ top60) : m_is_within e 0 top60 = true := by
  rw [within_is ⟨by unfold top60 at *; omega, h⟩, decide_eq_true h0, decide_eq_true h]
  rfl
theorem prime_is {p : Int} : m_is_prime p = decide (p ∈ primes) := by
  show (m_is_integer p && decide (p ∈ primes)) = _
  by_cases h : p ∈ primes
  · have b : 3 ≤ p ∧ p ≤ 31 := by
      unfold primes at h
      simp only [List.mem_cons, List.not_mem_nil, or_false] at h
      omega
    rw [isint_ok ⟨by unfold top60; omega, by unfold top60; omega⟩, Bool.true_and]
  · rw [decide_eq_false h, Bool.and_false]
theorem prime_ok {p : Int} (h : p ∈ primes) : m_is_prime p = true := by rw [prime_is, decide_eq_true h]
theorem prime_le {p : Int} (h : p ∈ primes) : 3 ≤ p ∧ p ≤ 31 := by
  unfold primes at h
  simp only [List.mem_cons, List.not_mem_nil, or_false] at h
  omega
end R

namespace R
open PySem PySem.Spec L2 Mir TL RZ
def m_Poly___call__ (a_self : Pol) (a_residue : Int) : Int := (m_row_value (a_self).p (a_self).r a_residue)
def sp_Poly___call__ (K : PySem.W.Frag) (Cc : Cl) : Sp := fun vs H Q _ => ∃ (a_self : Pol) (a_residue : Int) (v_self v_residue : V), vs = [v_self, v_residue] ∧ (pPoly K Cc a_self) v_self H ∧ (pI a_residue) v_residue H ∧ (Okp a_self ∧ 0 ≤ a_residue ∧ a_residue < (a_self).p) ∧ ∀ u H', Ch [] H H' → Dcs [] H' → (pI (m_Poly___call__ a_self a_residue)) u H' → Q u H'
abbrev N_Poly___call__ : List Str := ["self", "residue"]
theorem sc_Poly___call__ : FnScope N_Poly___call__ ["self", "residue"] (defScope s_Poly___call__) := ⟨rfl, rfl, rfl, by decide +kernel, rfl, by decide +kernel, by decide +kernel⟩
section
variable {P : Program} {w : World} {K : PySem.W.Frag} {mg : Str → Option Value} {base : Heap}
theorem ok_Poly___call__ (T : Txt K mg) : FnOk P w K mg base CX0 4 T.f_Poly___call__ T.fd_Poly___call__ ["self", "residue"] (sp_Poly___call__ K T.C) := by
  refine T.F_Poly___call__.ok sc_Poly___call__ (fun vs H Q E h => ?_) (fun cdv A outer s H vs Q E hr h => ?_)
  · obtain ⟨a_self, a_residue, v_self, v_residue, rfl, h_self, h_residue, hpre, q⟩ := h
    rfl
  · obtain ⟨a_self, a_residue, v_self, v_residue, rfl, h_self, h_residue, hpre, q⟩ := h
    refine ⟨_, (pss_cons (ps_expr (pe_call (ok_check_residue T) (hr.mono (by decide)) (by rfl) T.g_check_residue T.F_check_residue.kp T.b_check_residue .nil pass0 (pa_cons (pe_fldK K (pv 0) rfl) (pa_cons (pv 1) pa_nil))))
        (pss_one (ps_ret (pe_call (ok_row_value T) (hr.mono (by decide)) (by rfl) T.g_row_value T.F_row_value.kp T.b_row_value .nil pass0 (pa_cons (pe_fldK K (pv 0) rfl) (pa_cons (pe_fldK K (pv 0) rfl) (pa_cons (pv 1) pa_nil))))))), ?_⟩
    have c0 : Ch [] H H := .refl H
    have d0 : Dcs [] H := .nil
    have hq := m_Poly___call__.eq_1 a_self a_residue
    refine q_drop (ev_check_residue (ea_cons (ev_fld (P := (pI (a_self).p)) (ev_var rfl h_self) T.cl_Poly T.n_Poly_prime (by rfl)) (ea_cons (ev_var rfl h_residue) ea_nil)) (by first | omega | assumption | exact within_ok hpre.1.pr.2 hpre.2 | exact ⟨hpre.1.pr.1, hpre.1.pr.2, hpre.2⟩ | decide | (simp only [decide_eq_true_eq, decide_eq_false_iff_not, Bool.not_eq_true', Bool.not_eq_false', Bool.and_eq_true, Bool.or_eq_false_iff, bne_iff_ne, bne_eq_false_iff_eq, ne_eq, Int.not_lt, Int.not_le] at *; first | omega | exact ⟨by omega, by omega⟩))) d0 (fun v1 H2 e3 d4 h5 => ?_)
    have h_self := (Mono.mono e3 h_self)
    have h_residue := (Mono.mono e3 h_residue)
    have c0 := c0.trans e3
    exact s_ret (ev_row_value (ea_cons (ev_fld (P := (pI (a_self).p)) (ev_var rfl h_self) T.cl_Poly T.n_Poly_prime (by rfl)) (ea_cons (ev_fld (P := (pRow K (a_self).r)) (ev_var rfl h_self) T.cl_Poly T.n_Poly_entries (by rfl)) (ea_cons (ev_var rfl h_residue) ea_nil))) (by first | omega | assumption | exact within_ok hpre.1.pr.2 hpre.2 | exact ⟨hpre.1.pr.1, hpre.1.pr.2, hpre.2⟩ | decide | (simp only [decide_eq_true_eq, decide_eq_false_iff_not, Bool.not_eq_true', Bool.not_eq_false', Bool.and_eq_true, Bool.or_eq_false_iff, bne_iff_ne, bne_eq_false_iff_eq, ne_eq, Int.not_lt, Int.not_le] at *; first | omega | exact ⟨by omega, by omega⟩))) d4 (fun v6 H7 e8 d9 h10 => q v6 H7 (c0.trans e8) d9 (tgt (F := pI) hq h10))
theorem cv_Poly___call__ {Cc : Cl} {M : List Addr} {E : XK} {vs : List V} {H1 : Hp} {a_self : Pol} {a_residue : Int} (pre : (Okp a_self ∧ 0 ≤ a_residue ∧ a_residue < (a_self).p)) (d : Dcs M H1) (k : All2 [(pPoly K Cc a_self), (pI a_residue)] vs H1) (Q : VK) (q : ∀ v H2, Ch M H1 H2 → Dcs M H2 → (pI (m_Poly___call__ a_self a_residue)) v H2 → Q v H2) : sp_Poly___call__ K Cc vs H1 Q E := by
  obtain ⟨v_self, v_residue, rfl, h_self, h_residue⟩ := all2 k
  exact ⟨a_self, a_residue, v_self, v_residue, rfl, h_self, h_residue, pre, fun u H' c _ r => q u H' c.any (d.new c.same) r⟩
end
end R

namespace R
open PySem PySem.Spec L2 Mir TL RZ
def m_Poly___getitem__ (a_self : Pol) (a_power : Int) : Int := (if (decide (a_power < (((a_self).r).length : Int))) = true then (ixd (a_self).r a_power) else (0 : Int))
def sp_Poly___getitem__ (K : PySem.W.Frag) (Cc : Cl) : Sp := fun vs H Q _ => ∃ (a_self : Pol) (a_power : Int) (v_self v_power : V), vs = [v_self, v_power] ∧ (pPoly K Cc a_self) v_self H ∧ (pI a_power) v_power H ∧ (0 ≤ a_power ∧ a_power ≤ 1000000) ∧ ∀ u H', Ch [] H H' → Dcs [] H' → (pI (m_Poly___getitem__ a_self a_power)) u H' → Q u H'
abbrev N_Poly___getitem__ : List Str := ["self", "power"]
theorem sc_Poly___getitem__ : FnScope N_Poly___getitem__ ["self", "power"] (defScope s_Poly___getitem__) := ⟨rfl, rfl, rfl, by decide +kernel, rfl, by decide +kernel, by decide +kernel⟩
section
variable {P : Program} {w : World} {K : PySem.W.Frag} {mg : Str → Option Value} {base : Heap}
theorem ok_Poly___getitem__ (T : Txt K mg) : FnOk P w K mg base CX0 4 T.f_Poly___getitem__ T.fd_Poly___getitem__ ["self", "power"] (sp_Poly___getitem__ K T.C) := by
  refine T.F_Poly___getitem__.ok sc_Poly___getitem__ (fun vs H Q E h => ?_) (fun cdv A outer s H vs Q E hr h => ?_)
  · obtain ⟨a_self, a_power, v_self, v_power, rfl, h_self, h_power, hpre, q⟩ := h
    rfl
  · obtain ⟨a_self, a_power, v_self, v_power, rfl, h_self, h_power, hpre, q⟩ := h
    refine ⟨_, (pss_cons (ps_expr (pe_call (ok_check_count T) (hr.mono (by decide)) (by rfl) T.g_check_count T.F_check_count.kp T.b_check_count .nil pass0 (pa_cons (pv 1) (pa_cons pe_int (pa_cons (pe_glob (v := V.int top60) (by rfl) T.g_MAX_INTEGER ⟨_, rfl⟩) pa_nil)))))
        (pss_one (ps_ret (pe_ifExp (pt_cmpR op_lt (pv 1) (pe_callB (call_len_seqK K) (by rfl) T.z_len (by decide +kernel) (pa_cons (pe_fldK K (pv 0) rfl) pa_nil)) (nomark _)) (pe_ix (ix_tupK K) (pe_fldK K (pv 0) rfl) (pv 1) (fun _ _ => rfl)) pe_int)))), ?_⟩
    have c0 : Ch [] H H := .refl H
    have d0 : Dcs [] H := .nil
    have hq := m_Poly___getitem__.eq_1 a_self a_power
    refine q_drop (ev_check_count (ea_cons (ev_var rfl h_power) (ea_cons ev_int (ea_cons (ev_int (i := top60)) ea_nil))) (by first | omega | assumption | exact count_ok hpre.1 (by unfold top60; omega) | decide | (simp only [decide_eq_true_eq, decide_eq_false_iff_not, Bool.not_eq_true', Bool.not_eq_false', Bool.and_eq_true, Bool.or_eq_false_iff, bne_iff_ne, bne_eq_false_iff_eq, ne_eq, Int.not_lt, Int.not_le] at *; first | omega | exact ⟨by omega, by omega⟩))) d0 (fun v1 H2 e3 d4 h5 => ?_)
    have h_self := (Mono.mono e3 h_self)
    have h_power := (Mono.mono e3 h_power)
    have c0 := c0.trans e3
    exact s_ret (ev_if (F := pI) (eb_test (ev_lt (ev_var rfl h_power) (ev_lenR (ea_cons (ev_fld (P := (pRow K (a_self).r)) (ev_var rfl h_self) T.cl_Poly T.n_Poly_entries (by rfl)) ea_nil)))) (fun hb6 => (ev_ixR (ev_fld (P := (pRow K (a_self).r)) (ev_var rfl h_self) T.cl_Poly T.n_Poly_entries (by rfl)) (ev_var rfl h_power) (by first | exact ⟨by omega, by omega⟩ | (refine inb_last ?_; intro hnil; simp [hnil] at *; done) | omega | assumption | exact count_ok hpre.1 (by unfold top60; omega) | decide | (simp only [decide_eq_true_eq, decide_eq_false_iff_not, Bool.not_eq_true', Bool.not_eq_false', Bool.and_eq_true, Bool.or_eq_false_iff, bne_iff_ne, bne_eq_false_iff_eq, ne_eq, Int.not_lt, Int.not_le] at *; first | omega | exact ⟨by omega, by omega⟩)))) (fun hb6 => ev_int)) d4 (fun v7 H8 e9 d10 h11 => q v7 H8 (c0.trans e9) d10 (tgt (F := pI) hq h11))
theorem cv_Poly___getitem__ {Cc : Cl} {M : List Addr} {E : XK} {vs : List V} {H1 : Hp} {a_self : Pol} {a_power : Int} (pre : (0 ≤ a_power ∧ a_power ≤ 1000000)) (d : Dcs M H1) (k : All2 [(pPoly K Cc a_self), (pI a_power)] vs H1) (Q : VK) (q : ∀ v H2, Ch M H1 H2 → Dcs M H2 → (pI (m_Poly___getitem__ a_self a_power)) v H2 → Q v H2) : sp_Poly___getitem__ K Cc vs H1 Q E := by
  obtain ⟨v_self, v_power, rfl, h_self, h_power⟩ := all2 k
  exact ⟨a_self, a_power, v_self, v_power, rfl, h_self, h_power, pre, fun u H' c _ r => q u H' c.any (d.new c.same) r⟩
end
end R

namespace R
open PySem PySem.Spec L2 Mir TL RZ
def m_is_row (a_prime : Int) (a_value : List Int) : Bool := (true && ((decide (((a_value).length : Int) ≤ (1000 : Int))) && (m_are_entries a_prime a_value)))
def sp_is_row (K : PySem.W.Frag) (Cc : Cl) : Sp := fun vs H Q _ => ∃ (a_prime : Int) (a_value : List Int) (v_prime v_value : V), vs = [v_prime, v_value] ∧ (pI a_prime) v_prime H ∧ (pRow K a_value) v_value H ∧ (True) ∧ ∀ u H', Ch [] H H' → Dcs [] H' → (pB (m_is_row a_prime a_value)) u H' → Q u H'
abbrev N_is_row : List Str := ["prime", "value"]
theorem sc_is_row : FnScope N_is_row ["prime", "value"] (defScope s_is_row) := ⟨rfl, rfl, rfl, by decide +kernel, rfl, by decide +kernel, by decide +kernel⟩
section
variable {P : Program} {w : World} {K : PySem.W.Frag} {mg : Str → Option Value} {base : Heap}
theorem ok_is_row (T : Txt K mg) : FnOk P w K mg base CX0 4 T.f_is_row T.fd_is_row ["prime", "value"] (sp_is_row K T.C) := by
  refine T.F_is_row.ok sc_is_row (fun vs H Q E h => ?_) (fun cdv A outer s H vs Q E hr h => ?_)
  · obtain ⟨a_prime, a_value, v_prime, v_value, rfl, h_prime, h_value, hpre, q⟩ := h
    rfl
  · obtain ⟨a_prime, a_value, v_prime, v_value, rfl, h_prime, h_value, hpre, q⟩ := h
    refine ⟨_, (pss_one (ps_ret (pe_and (pe_callB (call_isiK' K) (by rfl) T.z_isinstance (by decide +kernel) (pa_cons (pv 1) (pa_cons (pe_bltn (v := V.ty "tuple") (by rfl) T.z_tuple (by decide +kernel) rfl) pa_nil))) (pe_and (pe_cmpR op_le (pe_callB (call_len_seqK K) (by rfl) T.z_len (by decide +kernel) (pa_cons (pv 1) pa_nil)) (pe_glob (v := V.int 1000) (by rfl) T.g_MAX_ENTRIES ⟨_, rfl⟩) (nomark _)) (pe_one (pe_call (ok_are_entries T) (hr.mono (by decide)) (by rfl) T.g_are_entries T.F_are_entries.kp T.b_are_entries .nil pass0 (pa_cons (pv 0) (pa_cons (pv 1) pa_nil)))))))), ?_⟩
    have c0 : Ch [] H H := .refl H
    have d0 : Dcs [] H := .nil
    have hq := m_is_row.eq_1 a_prime a_value
    exact s_ret (ev_and (ev_isi (ea_cons (ev_var rfl h_value) (ea_cons (ev_ty (M := []) (c := V.ty "tuple")) ea_nil)) (fun _ _ h => Tyd.ty (K := K) h) (.ty _) (kit_ty (show kitB "tuple" "tuple" = some true by decide +kernel))) (fun hb1 => (ev_and (ev_le (ev_lenR (ea_cons (ev_var rfl h_value) ea_nil)) (ev_int (i := 1000))) (fun hb2 => (ev_are_entries (ea_cons (ev_var rfl h_prime) (ea_cons (ev_var rfl h_value) ea_nil)) (by first | omega | assumption | decide | (simp only [decide_eq_true_eq, decide_eq_false_iff_not, Bool.not_eq_true', Bool.not_eq_false', Bool.and_eq_true, Bool.or_eq_false_iff, bne_iff_ne, bne_eq_false_iff_eq, ne_eq, Int.not_lt, Int.not_le] at *; first | omega | exact ⟨by omega, by omega⟩))))))) d0 (fun v4 H5 e6 d7 h8 => q v4 H5 (c0.trans e6) d7 (tgt (F := pB) hq h8))
theorem cv_is_row {Cc : Cl} {M : List Addr} {E : XK} {vs : List V} {H1 : Hp} {a_prime : Int} {a_value : List Int} (pre : (True)) (d : Dcs M H1) (k : All2 [(pI a_prime), (pRow K a_value)] vs H1) (Q : VK) (q : ∀ v H2, Ch M H1 H2 → Dcs M H2 → (pB (m_is_row a_prime a_value)) v H2 → Q v H2) : sp_is_row K Cc vs H1 Q E := by
  obtain ⟨v_prime, v_value, rfl, h_prime, h_value⟩ := all2 k
  exact ⟨a_prime, a_value, v_prime, v_value, rfl, h_prime, h_value, pre, fun u H' c _ r => q u H' c.any (d.new c.same) r⟩
theorem ev_is_row {Cc : Cl} {M : List Addr} {σ : St} {H : Hp} {tr : TA} {E : XK} {a_prime : Int} {a_value : List Int} (h : EvA M tr σ H [(pI a_prime), (pRow K a_value)]) (pre : (True)) : EvP M (tCall (sp_is_row K Cc) [] E tr) σ H (pB (m_is_row a_prime a_value)) := ev_call h fun vs H1 d k Q q => cv_is_row pre d k Q q
end
end R

namespace R
open PySem PySem.Spec L2 Mir TL RZ
theorem ixd_mem' {α : Type} [Inhabited α] {L : List α} {i : Int} (h : inb L.length i) : ixd L i ∈ L := by
  obtain ⟨j, e, lt⟩ := ixN_in h
  unfold ixd atI
  rw [e]
  show (L[j]?).getD default ∈ L
  rw [List.getElem?_eq_getElem lt]
  exact List.getElem_mem lt
theorem tt_for {p : Int} {t : Str} (hpre : 3 ≤ p ∧ p ≤ 31 ∧ t.length ≤ 1000) : ∀ (l : List Str) (L R : List (Int × Str)), (∀ x ∈ l, x ∈ Txt.split t ("+" : Str)) → TtI L ∧ L.length + l.length ≤ 2000 → m_terms_told_for1 p t l L = some R → TtI R ∧ R.length ≤ 2000
  | [], L, R, _, i, h => by
    rw [m_terms_told_for1] at h
    cases h
    exact ⟨i.1, i.2⟩
  | x :: l, L, R, hl, i, h => by
    rw [m_terms_told_for1] at h
    split at h
    · cases h
    · rename_i h1
      split at h
      · cases h
      · rename_i h2
        exact tt_for hpre l _ R (fun y hy => hl y (List.mem_cons_of_mem _ hy)) (tt_next hpre i (hl x (by simp)) (Bool.eq_false_iff.mpr h1) (Bool.eq_false_iff.mpr h2)) h
theorem tt_of {p : Int} {t : Str} (hpre : 3 ≤ p ∧ p ≤ 31 ∧ t.length ≤ 1000) (h : (m_terms_told p t).isNone = false) : TtI ((m_terms_told p t).getD default) ∧ ((m_terms_told p t).getD default).length ≤ 2000 := by
  unfold m_terms_told at h ⊢
  split
  · exact ⟨tt_start, by decide⟩
  · rename_i c
    rw [if_neg c] at h
    cases e : m_terms_told_for1 p t (Txt.split t ("+" : Str)) [] with
    | none => rw [e] at h; cases h
    | some R => exact tt_for hpre _ _ _ (fun x hx => hx) ⟨tt_start, split_1001 hpre.2.2⟩ e
theorem rd_ix {α : Type} {L : List α} (c : (!(L).isEmpty) = true) : inb L.length 0 := by
  cases L with
  | nil => cases c
  | cons a r => exact ⟨by rw [List.length_cons]; omega, by rw [List.length_cons]; omega⟩
theorem num1000 : Str.ofString (toString ((1000 : Int) : Int)) = ("1000" : Str) := by decide +kernel
theorem rd_less {p : Int} {t : Str} (hpre : 3 ≤ p ∧ p ≤ 31 ∧ t.length ≤ 1000) (h : (m_terms_told p t).isNone = false) (c : (!(((m_terms_told p t)).getD default).isEmpty) = true) : (ixd ((m_terms_told p t).getD default) (0 : Int)).2.length ≤ 1000 ∧ (Str.ofString (toString ((1000 : Int) : Int))).length ≤ 1000 := by
  refine ⟨?_, by decide +kernel⟩
  have i := (tt_of hpre h).1
  have hm : ixd ((m_terms_told p t).getD default) (0 : Int) ∈ (m_terms_told p t).getD default := by
    cases e : (m_terms_told p t).getD default with
    | nil => rw [e] at c; cases c
    | cons a r => exact ixd_mem' (rd_ix rfl)
  exact (i _ hm).2.2.2.1
abbrev RdB (p : Int) (t : Str) : Prop := (((m_terms_told p t)).isNone || ((!((((m_terms_told p t)).getD default)).isEmpty) && (!(m_is_lesser (ixd (((m_terms_told p t)).getD default) (0 : Int)).2 (Str.ofString (toString ((1000 : Int) : Int))))))) = false
theorem rd_int {p : Int} {t : Str} {x : Int × Str} (hpre : 3 ≤ p ∧ p ≤ 31 ∧ t.length ≤ 1000) (h : RdB p t) (hx : x ∈ (m_terms_told p t).getD default) : PySem.intText? x.2 = some ((NumText.digitsVal x.2.cps.toList : Nat) : Int) ∧ x.2.length ≤ 640 := by
  unfold RdB at h
  rw [Bool.or_eq_false_iff] at h
  have i := (tt_of hpre h.1).1 x hx
  have c : (!((((m_terms_told p t)).getD default)).isEmpty) = true := by
    cases e : (m_terms_told p t).getD default with
    | nil => rw [e] at hx; cases hx
    | cons a r => rfl
  have h2 := h.2
  rw [c, Bool.true_and, Bool.not_eq_false'] at h2
  refine dig_int i.2.1 i.2.2.1 ?_
  have l1 := less_len h2
  have l2 := i.2.2.2.2
  rw [num1000] at l1
  have l4 : ("1000" : Str).length = 4 := by decide +kernel
  omega
theorem rd_size {p : Int} {t : Str} (hpre : 3 ≤ p ∧ p ≤ 31 ∧ t.length ≤ 1000) (h : RdB p t) : ((m_terms_told p t).getD default).length < 100000 := by
  unfold RdB at h
  rw [Bool.or_eq_false_iff] at h
  have := (tt_of hpre h.1).2
  omega
theorem rd_trim (f : Int → Int) : (List.map f (irange 0 (1000 : Int))).length ≤ 5000 := by
  rw [List.length_map, irange_len]
  decide
end R

namespace R
open PySem PySem.Spec L2 Mir TL RZ
def m_row_told (a_prime : Int) (a_text : Str) : Option (List Int) := (if (((m_terms_told a_prime a_text)).isNone || ((!((((m_terms_told a_prime a_text)).getD default)).isEmpty) && (!(m_is_lesser (ixd (((m_terms_told a_prime a_text)).getD default) (0 : Int)).2 (Str.ofString (toString ((1000 : Int) : Int))))))) = true then (none : Option (List Int)) else (some (m_trimmed (List.map (fun x42 => (getD (dcD (fun (x29 : (Int × Str)) => (intOf x29.2)) (fun (x29 : (Int × Str)) => x29.1) (((m_terms_told a_prime a_text)).getD default)) x42 (0 : Int))) (irange 0 (1000 : Int))))))
def sp_row_told (K : PySem.W.Frag) (Cc : Cl) : Sp := fun vs H Q _ => ∃ (a_prime : Int) (a_text : Str) (v_prime v_text : V), vs = [v_prime, v_text] ∧ (pI a_prime) v_prime H ∧ (pS a_text) v_text H ∧ (3 ≤ a_prime ∧ a_prime ≤ 31 ∧ (a_text).length ≤ 1000) ∧ ∀ u H', Ch [] H H' → Dcs [] H' → (pO (pRow K) (m_row_told a_prime a_text)) u H' → Q u H'
abbrev N_row_told : List Str := ["prime", "text", "terms", "entries", "entry", "digits", "power"]
theorem sc_row_told : FnScope N_row_told ["prime", "text"] (defScope s_row_told) := ⟨rfl, rfl, rfl, by decide +kernel, rfl, by decide +kernel, by decide +kernel⟩
section
variable {P : Program} {w : World} {K : PySem.W.Frag} {mg : Str → Option Value} {base : Heap}
theorem ok_row_told (T : Txt K mg) : FnOk P w K mg base CX0 4 T.f_row_told T.fd_row_told ["prime", "text"] (sp_row_told K T.C) := by
  refine T.F_row_told.ok sc_row_told (fun vs H Q E h => ?_) (fun cdv A outer s H vs Q E hr h => ?_)
  · obtain ⟨a_prime, a_text, v_prime, v_text, rfl, h_prime, h_text, hpre, q⟩ := h
    rfl
  · obtain ⟨a_prime, a_text, v_prime, v_text, rfl, h_prime, h_text, hpre, q⟩ := h
    refine ⟨_, (pss_cons (ps_set (i := 2) sc_row_told.nd rfl (Or.inl rfl) (pe_call (ok_terms_told T) (hr.mono (by decide)) (by rfl) T.g_terms_told T.F_terms_told.kp T.b_terms_told .nil pass0 (pa_cons (pv 0) (pa_cons (pv 1) pa_nil))))
        (pss_cons (ps_if (PW.pt (pw_or (pt_cmpR op_isN1 (pv 2) pe_non (nomark _)) (pw_or1 (PW.pt (pw_and (pt_truthK K (pv 2) (by intro _; rfl)) (pw_and1 (pt_not (pt_val (pe_call (ok_is_lesser T) (hr.mono (by decide)) (by rfl) T.g_is_lesser T.F_is_lesser.kp T.b_is_lesser .nil pass0 (pa_cons (pe_ix (ix_tupK K) (pe_ix (ix_listK K) (pv 2) pe_int (fun _ _ => rfl)) pe_int (fun _ _ => rfl)) (pa_cons (pe_callTy call_str_int (by rfl) T.z_str (by decide +kernel) (pa_cons (pe_glob (v := V.int 1000) (by rfl) T.g_MAX_ENTRIES ⟨_, rfl⟩) pa_nil)) pa_nil))))))))))) (pss_one (ps_ret pe_non)) pss_nil)
        (pss_cons (ps_set (i := 3) sc_row_told.nd rfl (Or.inr rfl) (pe_dc (own := [("entry", 4), ("digits", 5)]) (tt := tYes) rfl sc_row_told.nd (pi_listK K (pv 2)) (blkOk_by (own := [("entry", 4), ("digits", 5)]) (N := N_row_told) (sc := defScope s_row_told) (by decide +kernel)) (fun _ _ _ _ _ => pg_tupK K (n := 2) (by rfl) (pgs_cons (pg_name (i := 4) sc_row_told.nd rfl (Or.inl rfl)) (pgs_cons (pg_name (i := 5) sc_row_told.nd rfl (Or.inl rfl)) pgs_nil))) (fun _ _ _ _ _ => pts_nil) (fun _ _ _ _ _ => (pe_callTy call_int_str (by rfl) T.z_int (by decide +kernel) (pa_cons (pv 5) pa_nil))) (fun _ _ _ _ _ => (pv 4))))
        (pss_one (ps_ret (pe_call (ok_trimmed T) (hr.mono (by decide)) (by rfl) T.g_trimmed T.F_trimmed.kp T.b_trimmed .nil pass0 (pa_cons (pe_lc (own := [("power", 6)]) (g := gName 6) (tt := tYes) rfl sc_row_told.nd (pi_range1 (by rfl) T.z_range (pa_cons (pe_glob (v := V.int 1000) (by rfl) T.g_MAX_ENTRIES ⟨_, rfl⟩) pa_nil)) (blkOk_by (own := [("power", 6)]) (N := N_row_told) (sc := defScope s_row_told) (by decide +kernel)) (fun _ _ _ _ _ => pg_name (i := 6) sc_row_told.nd rfl (Or.inl rfl)) (fun _ _ _ _ _ => pts_nil) (fun _ _ _ _ _ => (pe_dget2 (units1 hr.units) (pv 3) (pv 6) pe_int ⟨rfl, rfl, rfl, rfl⟩))) pa_nil))))))), ?_⟩
    have c0 : Ch [] H H := .refl H
    have d0 : Dcs [] H := .nil
    have hq := m_row_told.eq_1 a_prime a_text
    refine q_asg (ev_terms_told (ea_cons (ev_var rfl h_prime) (ea_cons (ev_var rfl h_text) ea_nil)) (by first | omega | assumption | exact hpre | exact rd_ix (by assumption) | exact log_small (by omega) | exact rd_less hpre (by assumption) (by assumption) | exact rd_int hpre (by assumption) (by assumption) | exact rd_size hpre (by assumption) | exact rd_trim _ | decide | (simp only [decide_eq_true_eq, decide_eq_false_iff_not, Bool.not_eq_true', Bool.not_eq_false', Bool.and_eq_true, Bool.or_eq_false_iff, bne_iff_ne, bne_eq_false_iff_eq, ne_eq, Int.not_lt, Int.not_le] at *; first | omega | exact ⟨by omega, by omega⟩))) d0 (fun v1 H2 e3 d4 h_5 => ?_)
    have h_prime := (Mono.mono e3 h_prime)
    have h_text := (Mono.mono e3 h_text)
    have c0 := c0.trans e3
    refine q_if (eb_or (eb_test (ev_isN (F := (fun x : List (Int × Str) => (pL K [] (List.map (fun x => (pT K [(pI x.1), (pS x.2)])) x)))) (fun _ _ _ h => pL.ne h) (ev_var rfl h_5) ev_non)) (fun hb6 => (eb_and (eb_tru (ev_var rfl (pO.get hb6 h_5)) (fun _ _ p => tru_lst p)) (fun hb7 => (eb_not (eb_val (ev_is_lesser (ea_cons (ev_ixN (n := 1) (ev_ixL (F := (fun x : (Int × Str) => (pT K [(pI x.1), (pS x.2)]))) (ev_var rfl (pO.get hb6 h_5)) ev_int (by first | exact ⟨by omega, by omega⟩ | (refine inb_last ?_; intro hnil; simp [hnil] at *; done) | omega | assumption | exact hpre | exact rd_ix (by assumption) | exact log_small (by omega) | exact rd_less hpre (by assumption) (by assumption) | exact rd_int hpre (by assumption) (by assumption) | exact rd_size hpre (by assumption) | exact rd_trim _ | decide | (simp only [decide_eq_true_eq, decide_eq_false_iff_not, Bool.not_eq_true', Bool.not_eq_false', Bool.and_eq_true, Bool.or_eq_false_iff, bne_iff_ne, bne_eq_false_iff_eq, ne_eq, Int.not_lt, Int.not_le] at *; first | omega | exact ⟨by omega, by omega⟩))) ev_int rfl) (ea_cons (ev_strI (ea_cons (ev_int (i := 1000)) ea_nil) (by first | omega | assumption | exact hpre | exact rd_ix (by assumption) | exact log_small (by omega) | exact rd_less hpre (by assumption) (by assumption) | exact rd_int hpre (by assumption) (by assumption) | exact rd_size hpre (by assumption) | exact rd_trim _ | decide | (simp only [decide_eq_true_eq, decide_eq_false_iff_not, Bool.not_eq_true', Bool.not_eq_false', Bool.and_eq_true, Bool.or_eq_false_iff, bne_iff_ne, bne_eq_false_iff_eq, ne_eq, Int.not_lt, Int.not_le] at *; first | omega | exact ⟨by omega, by omega⟩))) ea_nil)) (by first | omega | assumption | exact hpre | exact rd_ix (by assumption) | exact log_small (by omega) | exact rd_less hpre (by assumption) (by assumption) | exact rd_int hpre (by assumption) (by assumption) | exact rd_size hpre (by assumption) | exact rd_trim _ | decide | (simp only [decide_eq_true_eq, decide_eq_false_iff_not, Bool.not_eq_true', Bool.not_eq_false', Bool.and_eq_true, Bool.or_eq_false_iff, bne_iff_ne, bne_eq_false_iff_eq, ne_eq, Int.not_lt, Int.not_le] at *; first | omega | exact ⟨by omega, by omega⟩))))))))) d4 ?_ ?_
    · intro hb13 H10 e11 d12
      have h_prime := (Mono.mono e11 h_prime)
      have h_text := (Mono.mono e11 h_text)
      have h_5 := (Mono.mono e11 h_5)
      have c0 := c0.trans e11
      have hq := hq.trans (if_pos hb13)
      skip
      exact s_ret (EvP.non (F := (pRow K)) ev_non) d12 (fun v14 H15 e16 d17 h18 => q v14 H15 (c0.trans e16) d17 (tgt (F := (pO (pRow K))) hq h18))
    · intro hb22 H19 e20 d21
      have hb22' := hb22
      have h_prime := (Mono.mono e20 h_prime)
      have h_text := (Mono.mono e20 h_text)
      have h_5 := (Mono.mono e20 h_5)
      have c0 := c0.trans e20
      have hq := hq.trans (ne_true hb22)
      skip
      have h_23 := (pO.get (or_said1 hb22') h_5)
      refine q_asg (EvD.p (evd_dcP (A := fun x => (pI x.1)) (B := fun x => (pS x.2)) (F := pI) (kx := fun (x29 : (Int × Str)) => (intOf x29.2)) (vx := fun (x29 : (Int × Str)) => x29.1) (xs := (((m_terms_told a_prime a_text)).getD default)) (src_lst (ev_var rfl h_23)) (by first | omega | assumption | exact hpre | exact rd_ix (by assumption) | exact log_small (by omega) | exact rd_less hpre (by assumption) (by assumption) | exact rd_int hpre (by assumption) (by assumption) | exact rd_size hpre (by assumption) | exact rd_trim _ | decide | (simp only [decide_eq_true_eq, decide_eq_false_iff_not, Bool.not_eq_true', Bool.not_eq_false', Bool.and_eq_true, Bool.or_eq_false_iff, bne_iff_ne, bne_eq_false_iff_eq, ne_eq, Int.not_lt, Int.not_le] at *; first | omega | exact ⟨by omega, by omega⟩)) (wipe2 (by decide) (by decide)) (fun x29 hx_x29 v25 v30 H27 e24 d28 p26 p31 => ⟨(ev_intS (ea_cons (ev_var rfl p31) ea_nil) (by first | omega | assumption | exact hpre | exact rd_ix (by assumption) | exact log_small (by omega) | exact rd_less hpre (by assumption) (by assumption) | exact rd_int hpre (by assumption) (by assumption) | exact rd_size hpre (by assumption) | exact rd_trim _ | decide | (simp only [decide_eq_true_eq, decide_eq_false_iff_not, Bool.not_eq_true', Bool.not_eq_false', Bool.and_eq_true, Bool.or_eq_false_iff, bne_iff_ne, bne_eq_false_iff_eq, ne_eq, Int.not_lt, Int.not_le] at *; first | omega | exact ⟨by omega, by omega⟩))), (ev_var rfl p26)⟩))) d21 (fun v32 H33 e34 d35 h_36 => ?_)
      have h_prime := (Mono.mono e34 h_prime)
      have h_text := (Mono.mono e34 h_text)
      have h_23 := (Mono.mono e34 h_23)
      have c0 := c0.trans e34
      exact s_ret (EvP.some (F := (pRow K)) (ev_trimmed (ea_cons (EvP.map (K := K) (G := pI) (g := fun x42 => (getD (dcD (fun (x29 : (Int × Str)) => (intOf x29.2)) (fun (x29 : (Int × Str)) => x29.1) (((m_terms_told a_prime a_text)).getD default)) x42 (0 : Int))) (ev_lc1 (F := pI) (G := fun x42 => (pI (getD (dcD (fun (x29 : (Int × Str)) => (intOf x29.2)) (fun (x29 : (Int × Str)) => x29.1) (((m_terms_told a_prime a_text)).getD default)) x42 (0 : Int)))) (xs := (irange 0 (1000 : Int))) (src_range1 (ea_cons (ev_int (i := 1000)) ea_nil) (by first | exact ⟨by omega, by omega⟩ | exact ⟨by omega, by omega, by omega, by omega⟩ | omega | assumption | exact hpre | exact rd_ix (by assumption) | exact log_small (by omega) | exact rd_less hpre (by assumption) (by assumption) | exact rd_int hpre (by assumption) (by assumption) | exact rd_size hpre (by assumption) | exact rd_trim _ | decide | (simp only [decide_eq_true_eq, decide_eq_false_iff_not, Bool.not_eq_true', Bool.not_eq_false', Bool.and_eq_true, Bool.or_eq_false_iff, bne_iff_ne, bne_eq_false_iff_eq, ne_eq, Int.not_lt, Int.not_le] at *; first | omega | exact ⟨by omega, by omega⟩))) (by first | omega | assumption | exact hpre | exact rd_ix (by assumption) | exact log_small (by omega) | exact rd_less hpre (by assumption) (by assumption) | exact rd_int hpre (by assumption) (by assumption) | exact rd_size hpre (by assumption) | exact rd_trim _ | decide | (simp only [decide_eq_true_eq, decide_eq_false_iff_not, Bool.not_eq_true', Bool.not_eq_false', Bool.and_eq_true, Bool.or_eq_false_iff, bne_iff_ne, bne_eq_false_iff_eq, ne_eq, Int.not_lt, Int.not_le] at *; first | omega | exact ⟨by omega, by omega⟩)) (wipe1 (by decide)) (fun x42 hx_x42 v38 H40 e37 d41 p39 => (ev_dget2 (F := pI) (ev_var rfl (Mono.mono e37 h_36)) (ev_var rfl p39) ev_int)))) ea_nil) (by first | omega | assumption | exact hpre | exact rd_ix (by assumption) | exact log_small (by omega) | exact rd_less hpre (by assumption) (by assumption) | exact rd_int hpre (by assumption) (by assumption) | exact rd_size hpre (by assumption) | exact rd_trim _ | decide | (simp only [decide_eq_true_eq, decide_eq_false_iff_not, Bool.not_eq_true', Bool.not_eq_false', Bool.and_eq_true, Bool.or_eq_false_iff, bne_iff_ne, bne_eq_false_iff_eq, ne_eq, Int.not_lt, Int.not_le] at *; first | omega | exact ⟨by omega, by omega⟩)))) d35 (fun v43 H44 e45 d46 h47 => q v43 H44 (c0.trans e45) d46 (tgt (F := (pO (pRow K))) hq h47))
theorem cv_row_told {Cc : Cl} {M : List Addr} {E : XK} {vs : List V} {H1 : Hp} {a_prime : Int} {a_text : Str} (pre : (3 ≤ a_prime ∧ a_prime ≤ 31 ∧ (a_text).length ≤ 1000)) (d : Dcs M H1) (k : All2 [(pI a_prime), (pS a_text)] vs H1) (Q : VK) (q : ∀ v H2, Ch M H1 H2 → Dcs M H2 → (pO (pRow K) (m_row_told a_prime a_text)) v H2 → Q v H2) : sp_row_told K Cc vs H1 Q E := by
  obtain ⟨v_prime, v_text, rfl, h_prime, h_text⟩ := all2 k
  exact ⟨a_prime, a_text, v_prime, v_text, rfl, h_prime, h_text, pre, fun u H' c _ r => q u H' c.any (d.new c.same) r⟩
theorem ev_row_told {Cc : Cl} {M : List Addr} {σ : St} {H : Hp} {tr : TA} {E : XK} {a_prime : Int} {a_text : Str} (h : EvA M tr σ H [(pI a_prime), (pS a_text)]) (pre : (3 ≤ a_prime ∧ a_prime ≤ 31 ∧ (a_text).length ≤ 1000)) : EvP M (tCall (sp_row_told K Cc) [] E tr) σ H (pO (pRow K) (m_row_told a_prime a_text)) := ev_call h fun vs H1 d k Q q => cv_row_told pre d k Q q
end
end R

namespace R
open PySem PySem.Spec L2 Mir TL RZ
def m_Poly___init___V_row (a_prime : Int) (a_entries : List Int) : Pol := ⟨a_prime, a_entries⟩
def sp_Poly___init___V_row (K : PySem.W.Frag) (Cc : Cl) : Sp := fun vs H Q _ => ∃ (H1 : Hp) (self dx : Addr) (a_prime : Int) (a_entries : List Int) (v_prime v_entries : V), vs = [.ref self, v_prime, v_entries] ∧ H1 self = none ∧ Same H1 H ∧ H self = some (.ins Cc.Poly dx []) ∧ (pI a_prime) v_prime H1 ∧ (pRow K a_entries) v_entries H1 ∧ (m_is_prime a_prime = true ∧ m_is_row a_prime a_entries = true) ∧ ∀ H', Same H1 H' → (pPoly K Cc (m_Poly___init___V_row a_prime a_entries)) (.ref self) H' → Q .non H'
abbrev N_Poly___init___V_row : List Str := ["self", "prime", "entries"]
theorem sc_Poly___init___V_row : FnScope N_Poly___init___V_row ["self", "prime", "entries"] (defScope s_Poly___init__) := ⟨rfl, rfl, rfl, by decide +kernel, rfl, by decide +kernel, by decide +kernel⟩
section
variable {P : Program} {w : World} {K : PySem.W.Frag} {mg : Str → Option Value} {base : Heap}
theorem ok_Poly___init___V_row (T : Txt K mg) : FnOk P w K mg base CX0 5 T.f_Poly___init__ T.fd_Poly___init__ ["self", "prime", "entries"] (sp_Poly___init___V_row K T.C) := by
  refine T.F_Poly___init__.ok sc_Poly___init___V_row (fun vs H Q E h => ?_) (fun cdv A outer s H vs Q E hr h => ?_)
  · obtain ⟨H1, self, dx, a_prime, a_entries, v_prime, v_entries, rfl, hz, hs, hself, h_prime, h_entries, hpre, q⟩ := h
    rfl
  · obtain ⟨H1, self, dx, a_prime, a_entries, v_prime, v_entries, rfl, hz, hs, hself, h_prime, h_entries, hpre, q⟩ := h
    refine ⟨_, (pss_cons (ps_expr (pe_call (ok_check_prime T) (hr.mono (by decide)) (by rfl) T.g_check_prime T.F_check_prime.kp T.b_check_prime .nil pass0 (pa_cons (pv 1) pa_nil)))
        (pss_cons (ps_if (pt_val (pe_callB (call_isiK' K) (by rfl) T.z_isinstance (by decide +kernel) (pa_cons (pv 2) (pa_cons (pe_glob (v := V.ref T.C.Made) (by rfl) T.g_Made rfl) pa_nil)))) pss_never (pss_one (ps_if (pt_not (pt_val (pe_call (ok_is_row T) (hr.mono (by decide)) (by rfl) T.g_is_row T.F_is_row.kp T.b_is_row .nil pass0 (pa_cons (pv 1) (pa_cons (pv 2) pa_nil))))) (pss_one ps_never) pss_nil)))
        (pss_cons (ps_fld (pv 0) (pv 1) rfl)
        (pss_cons (ps_fld (pv 0) (pv 2) rfl)
        (pss_cons (ps_fld (pv 0) (pe_op op_sub (pe_callB (call_len_seqK K) (by rfl) T.z_len (by decide +kernel) (pa_cons (pv 2) pa_nil)) pe_int) rfl)
        (pss_cons (ps_fld (pv 0) (pe_ifExp (pt_truthK K (pv 2) (by intro _; rfl)) (pe_ix (ix_tupK K) (pv 2) (pe_un un_neg pe_int) (fun _ _ => rfl)) pe_int) rfl)
        (pss_cons (ps_fld (pv 0) (pe_notTK K (pv 2)) rfl)
        (pss_one (ps_fld (pv 0) (pe_cmpR op_eq (pe_fldK K (pv 0) rfl) pe_int (nomark _)) rfl))))))))), ?_⟩
    have cI : Ch [] H1 H := .of hs
    have I := Mk1.nil hself
    refine q_drop (ev_check_prime (ea_cons (ev_var rfl (Mono.mono cI h_prime)) ea_nil) (by first | omega | assumption | exact hpre.1 | exact hpre.2 | decide | (simp only [decide_eq_true_eq, decide_eq_false_iff_not, Bool.not_eq_true', Bool.not_eq_false', Bool.and_eq_true, Bool.or_eq_false_iff, bne_iff_ne, bne_eq_false_iff_eq, ne_eq, Int.not_lt, Int.not_le] at *; first | omega | exact ⟨by omega, by omega⟩))) .nil (fun v1 H2 e3 d4 h5 => ?_)
    have cI := cI.trans e3
    have I := I.mono e3
    refine q_if (eb_val (ev_isi (ea_cons (ev_var rfl (Mono.mono cI h_entries)) (ea_cons (ev_ty (M := []) (c := V.ref T.C.Made)) ea_nil)) (fun _ _ h => Tyd.ty (K := K) h) (.own _) T.i__type_tuple__Made)) d4 ?_ ?_
    · intro h; cases h
    · intro _ H6 e7 d8
      have cI := cI.trans e7
      have I := I.mono e7
      refine s_if (eb_not (eb_val (ev_is_row (ea_cons (ev_var rfl (Mono.mono cI h_prime)) (ea_cons (ev_var rfl (Mono.mono cI h_entries)) ea_nil)) (by first | omega | assumption | exact hpre.1 | exact hpre.2 | decide | (simp only [decide_eq_true_eq, decide_eq_false_iff_not, Bool.not_eq_true', Bool.not_eq_false', Bool.and_eq_true, Bool.or_eq_false_iff, bne_iff_ne, bne_eq_false_iff_eq, ne_eq, Int.not_lt, Int.not_le] at *; first | omega | exact ⟨by omega, by omega⟩))))) d8 ?_ ?_
      · intro hb12 H9 e10 d11
        have cI := cI.trans e10
        have I := I.mono e10
        skip
        try simp only [decide_eq_true_eq, decide_eq_false_iff_not, Bool.not_eq_true', Bool.not_eq_false', Bool.and_eq_true, Bool.or_eq_false_iff, bne_iff_ne, bne_eq_false_iff_eq, ne_eq, Int.not_lt, Int.not_le] at hb12
        exact False.elim (by simp_all)
      · intro hb16 H13 e14 d15
        have cI := cI.trans e14
        have I := I.mono e14
        skip
        try simp only [decide_eq_true_eq, decide_eq_false_iff_not, Bool.not_eq_true', Bool.not_eq_false', Bool.and_eq_true, Bool.or_eq_false_iff, bne_iff_ne, bne_eq_false_iff_eq, ne_eq, Int.not_lt, Int.not_le] at hb16
        refine q_fld (P := (pI a_prime)) rfl I (ev_var rfl (Mono.mono cI h_prime)) T.cl_Poly T.n_Poly_prime (by rfl) (by show 0 < 500; decide) (fun gs17 H18 c19 I' => ?_)
        have cI : Ch [] H1 H18 := .of (fun b o e => c19 b o (ne_of_none e hz) (cI.same b o e))
        have I := I'
        refine q_fld (P := (pRow K a_entries)) rfl I (ev_var rfl (Mono.mono cI h_entries)) T.cl_Poly T.n_Poly_entries (by rfl) (by show 1 < 500; decide) (fun gs21 H22 c23 I' => ?_)
        have cI : Ch [] H1 H22 := .of (fun b o e => c23 b o (ne_of_none e hz) (cI.same b o e))
        have I := I'
        refine q_fld (P := (pI (((a_entries).length : Int) - (1 : Int)))) rfl I (ev_sub (ev_lenR (ea_cons (ev_var rfl (Mono.mono cI h_entries)) ea_nil)) ev_int) T.cl_Poly T.n_Poly_degree (by rfl) (by show 2 < 500; decide) (fun gs25 H26 c27 I' => ?_)
        have cI : Ch [] H1 H26 := .of (fun b o e => c27 b o (ne_of_none e hz) (cI.same b o e))
        have I := I'
        refine q_fld (P := (pI (if (!(a_entries).isEmpty) = true then (ixd a_entries (-(1 : Int))) else (0 : Int)))) rfl I (ev_if (F := pI) (eb_tru (ev_var rfl (Mono.mono cI h_entries)) (fun _ _ p => tru_row p)) (fun hb29 => (ev_ixR (ev_var rfl (Mono.mono cI h_entries)) (ev_neg ev_int) (by first | exact ⟨by omega, by omega⟩ | (refine inb_last ?_; intro hnil; simp [hnil] at *; done) | omega | assumption | exact hpre.1 | exact hpre.2 | decide | (simp only [decide_eq_true_eq, decide_eq_false_iff_not, Bool.not_eq_true', Bool.not_eq_false', Bool.and_eq_true, Bool.or_eq_false_iff, bne_iff_ne, bne_eq_false_iff_eq, ne_eq, Int.not_lt, Int.not_le] at *; first | omega | exact ⟨by omega, by omega⟩)))) (fun hb29 => ev_int)) T.cl_Poly T.n_Poly_lead (by rfl) (by show 3 < 500; decide) (fun gs30 H31 c32 I' => ?_)
        have cI : Ch [] H1 H31 := .of (fun b o e => c32 b o (ne_of_none e hz) (cI.same b o e))
        have I := I'
        refine q_fld (P := (pB (!(!(a_entries).isEmpty)))) rfl I (ev_notT (ev_var rfl (Mono.mono cI h_entries)) (fun _ _ p => tru_row p)) T.cl_Poly T.n_Poly_is_zero (by rfl) (by show 4 < 500; decide) (fun gs34 H35 c36 I' => ?_)
        have cI : Ch [] H1 H35 := .of (fun b o e => c36 b o (ne_of_none e hz) (cI.same b o e))
        have I := I'
        refine s_fld (P := (pB (decide ((if (!(a_entries).isEmpty) = true then (ixd a_entries (-(1 : Int))) else (0 : Int)) = (1 : Int))))) rfl I (ev_eqI (ev_fld (P := (pI (if (!(a_entries).isEmpty) = true then (ixd a_entries (-(1 : Int))) else (0 : Int)))) (ev_self rfl I) T.cl_Poly T.n_Poly_lead (by rfl)) ev_int) T.cl_Poly T.n_Poly_is_monic (by rfl) (by show 5 < 500; decide) (fun gs38 H39 c40 I' => ?_)
        have cI : Ch [] H1 H39 := .of (fun b o e => c40 b o (ne_of_none e hz) (cI.same b o e))
        have I := I'
        exact q _ cI.same I.obj
theorem ev_Poly___init___V_row {Cc : Cl} {M : List Addr} {σ : St} {H : Hp} {tr : TA} {E : XK} {a_prime : Int} {a_entries : List Int} (h : EvA M tr σ H [(pI a_prime), (pRow K a_entries)]) (pre : (m_is_prime a_prime = true ∧ m_is_row a_prime a_entries = true)) : EvP M (tMake Cc.Poly (sp_Poly___init___V_row K Cc) [] E tr) σ H (pPoly K Cc (m_Poly___init___V_row a_prime a_entries)) := ev_make h fun vs H1 d k x dx hx hdx ne Q q => by
  obtain ⟨v_prime, v_entries, rfl, h_prime, h_entries⟩ := all2 k
  exact ⟨H1, x, dx, a_prime, a_entries, v_prime, v_entries, rfl, hx, same_made hx hdx, upd_same, h_prime, h_entries, pre, q⟩
end
end R

namespace R
open PySem PySem.Spec L2 Mir TL RZ
def m_poly_of (a_prime : Int) (a_row : List Int) : Pol := (m_Poly___init__ a_prime (m_Made___init__ a_row))
def sp_poly_of (K : PySem.W.Frag) (Cc : Cl) : Sp := fun vs H Q _ => ∃ (a_prime : Int) (a_row : List Int) (v_prime v_row : V), vs = [v_prime, v_row] ∧ (pI a_prime) v_prime H ∧ (pRow K a_row) v_row H ∧ (m_is_prime a_prime = true) ∧ ∀ u H', Ch [] H H' → Dcs [] H' → (pPoly K Cc (m_poly_of a_prime a_row)) u H' → Q u H'
abbrev N_poly_of : List Str := ["prime", "row"]
theorem sc_poly_of : FnScope N_poly_of ["prime", "row"] (defScope s_poly_of) := ⟨rfl, rfl, rfl, by decide +kernel, rfl, by decide +kernel, by decide +kernel⟩
section
variable {P : Program} {w : World} {K : PySem.W.Frag} {mg : Str → Option Value} {base : Heap}
theorem ok_poly_of (T : Txt K mg) : FnOk P w K mg base CX0 6 T.f_poly_of T.fd_poly_of ["prime", "row"] (sp_poly_of K T.C) := by
  refine T.F_poly_of.ok sc_poly_of (fun vs H Q E h => ?_) (fun cdv A outer s H vs Q E hr h => ?_)
  · obtain ⟨a_prime, a_row, v_prime, v_row, rfl, h_prime, h_row, hpre, q⟩ := h
    rfl
  · obtain ⟨a_prime, a_row, v_prime, v_row, rfl, h_prime, h_row, hpre, q⟩ := h
    refine ⟨_, (pss_one (ps_ret (pe_make T.mk_Poly (ok_Poly___init__ T) (hr.mono (by decide)) (by rfl) T.g_Poly T.b_Poly___init__ .nil pass0 (pa_cons (pv 0) (pa_cons (pe_make T.mk_Made (ok_Made___init__ T) (hr.mono (by decide)) (by rfl) T.g_Made T.b_Made___init__ .nil pass0 (pa_cons (pv 1) pa_nil)) pa_nil))))), ?_⟩
    have c0 : Ch [] H H := .refl H
    have d0 : Dcs [] H := .nil
    have hq := m_poly_of.eq_1 a_prime a_row
    exact s_ret (ev_Poly___init__ (ea_cons (ev_var rfl h_prime) (ea_cons (ev_Made___init__ (ea_cons (ev_var rfl h_row) ea_nil) (by first | omega | assumption | decide | (simp only [decide_eq_true_eq, decide_eq_false_iff_not, Bool.not_eq_true', Bool.not_eq_false', Bool.and_eq_true, Bool.or_eq_false_iff, bne_iff_ne, bne_eq_false_iff_eq, ne_eq, Int.not_lt, Int.not_le] at *; first | omega | exact ⟨by omega, by omega⟩))) ea_nil)) (by first | omega | assumption | decide | (simp only [decide_eq_true_eq, decide_eq_false_iff_not, Bool.not_eq_true', Bool.not_eq_false', Bool.and_eq_true, Bool.or_eq_false_iff, bne_iff_ne, bne_eq_false_iff_eq, ne_eq, Int.not_lt, Int.not_le] at *; first | omega | exact ⟨by omega, by omega⟩))) d0 (fun v1 H2 e3 d4 h5 => q v1 H2 (c0.trans e3) d4 (tgt (F := (pPoly K T.C)) hq h5))
theorem cv_poly_of {Cc : Cl} {M : List Addr} {E : XK} {vs : List V} {H1 : Hp} {a_prime : Int} {a_row : List Int} (pre : (m_is_prime a_prime = true)) (d : Dcs M H1) (k : All2 [(pI a_prime), (pRow K a_row)] vs H1) (Q : VK) (q : ∀ v H2, Ch M H1 H2 → Dcs M H2 → (pPoly K Cc (m_poly_of a_prime a_row)) v H2 → Q v H2) : sp_poly_of K Cc vs H1 Q E := by
  obtain ⟨v_prime, v_row, rfl, h_prime, h_row⟩ := all2 k
  exact ⟨a_prime, a_row, v_prime, v_row, rfl, h_prime, h_row, pre, fun u H' c _ r => q u H' c.any (d.new c.same) r⟩
theorem ev_poly_of {Cc : Cl} {M : List Addr} {σ : St} {H : Hp} {tr : TA} {E : XK} {a_prime : Int} {a_row : List Int} (h : EvA M tr σ H [(pI a_prime), (pRow K a_row)]) (pre : (m_is_prime a_prime = true)) : EvP M (tCall (sp_poly_of K Cc) [] E tr) σ H (pPoly K Cc (m_poly_of a_prime a_row)) := ev_call h fun vs H1 d k Q q => cv_poly_of pre d k Q q
end
end R

namespace R
open PySem PySem.Spec L2 Mir TL RZ
def m_Poly_read (a_cls : Unit) (a_prime : Int) (a_text : Str) : Pol := (if ((m_row_told a_prime a_text)).isNone = true then default else (m_Poly___init___V_row a_prime (((m_row_told a_prime a_text)).getD default)))
def sp_Poly_read (K : PySem.W.Frag) (Cc : Cl) : Sp := fun vs H Q _ => ∃ (a_cls : Unit) (a_prime : Int) (a_text : Str) (v_cls v_prime v_text : V), vs = [v_cls, v_prime, v_text] ∧ (pV (.ref Cc.Poly)) v_cls H ∧ (pI a_prime) v_prime H ∧ (pS a_text) v_text H ∧ (a_prime ∈ primes ∧ (a_text).length ≤ 1000 ∧ (m_row_told a_prime a_text).isSome = true ∧ m_is_row a_prime ((m_row_told a_prime a_text).getD default) = true) ∧ ∀ u H', Ch [] H H' → Dcs [] H' → (pPoly K Cc (m_Poly_read a_cls a_prime a_text)) u H' → Q u H'
abbrev N_Poly_read : List Str := ["cls", "prime", "text", "row"]
theorem sc_Poly_read : FnScope N_Poly_read ["cls", "prime", "text"] (defScope s_Poly_read) := ⟨rfl, rfl, rfl, by decide +kernel, rfl, by decide +kernel, by decide +kernel⟩
section
variable {P : Program} {w : World} {K : PySem.W.Frag} {mg : Str → Option Value} {base : Heap}
theorem ok_Poly_read (T : Txt K mg) : FnOk P w K mg base CX0 7 T.f_Poly_read T.fd_Poly_read ["cls", "prime", "text"] (sp_Poly_read K T.C) := by
  refine T.F_Poly_read.ok sc_Poly_read (fun vs H Q E h => ?_) (fun cdv A outer s H vs Q E hr h => ?_)
  · obtain ⟨a_cls, a_prime, a_text, v_cls, v_prime, v_text, rfl, h_cls, h_prime, h_text, hpre, q⟩ := h
    rfl
  · obtain ⟨a_cls, a_prime, a_text, v_cls, v_prime, v_text, rfl, h_cls, h_prime, h_text, hpre, q⟩ := h
    refine ⟨_, (pss_cons (ps_expr (pe_call (ok_check_prime T) (hr.mono (by decide)) (by rfl) T.g_check_prime T.F_check_prime.kp T.b_check_prime .nil pass0 (pa_cons (pv 1) pa_nil)))
        (pss_cons (ps_set (i := 3) sc_Poly_read.nd rfl (Or.inl rfl) (pe_call (ok_row_told T) (hr.mono (by decide)) (by rfl) T.g_row_told T.F_row_told.kp T.b_row_told .nil pass0 (pa_cons (pv 1) (pa_cons (pv 2) pa_nil))))
        (pss_cons (ps_if (pt_cmpR op_isN1 (pv 3) pe_non (nomark _)) (pss_one ps_never) pss_nil)
        (pss_one (ps_ret (pe_makeV (i := 0) T.mk_Poly (ok_Poly___init___V_row T) (hr.mono (by decide)) T.b_Poly___init__ pass0 (pa_cons (pv 1) (pa_cons (pv 3) pa_nil)))))))), ?_⟩
    have c0 : Ch [] H H := .refl H
    have d0 : Dcs [] H := .nil
    have hq := m_Poly_read.eq_1 a_cls a_prime a_text
    refine q_drop (ev_check_prime (ea_cons (ev_var rfl h_prime) ea_nil) (by first | omega | assumption | exact prime_ok hpre.1 | exact ⟨(prime_le hpre.1).1, (prime_le hpre.1).2, hpre.2.1⟩ | exact ⟨prime_ok hpre.1, hpre.2.2.2⟩ | decide | (simp only [decide_eq_true_eq, decide_eq_false_iff_not, Bool.not_eq_true', Bool.not_eq_false', Bool.and_eq_true, Bool.or_eq_false_iff, bne_iff_ne, bne_eq_false_iff_eq, ne_eq, Int.not_lt, Int.not_le] at *; first | omega | exact ⟨by omega, by omega⟩))) d0 (fun v1 H2 e3 d4 h5 => ?_)
    have h_cls := (Mono.mono e3 h_cls)
    have h_prime := (Mono.mono e3 h_prime)
    have h_text := (Mono.mono e3 h_text)
    have c0 := c0.trans e3
    refine q_asg (ev_row_told (ea_cons (ev_var rfl h_prime) (ea_cons (ev_var rfl h_text) ea_nil)) (by first | omega | assumption | exact prime_ok hpre.1 | exact ⟨(prime_le hpre.1).1, (prime_le hpre.1).2, hpre.2.1⟩ | exact ⟨prime_ok hpre.1, hpre.2.2.2⟩ | decide | (simp only [decide_eq_true_eq, decide_eq_false_iff_not, Bool.not_eq_true', Bool.not_eq_false', Bool.and_eq_true, Bool.or_eq_false_iff, bne_iff_ne, bne_eq_false_iff_eq, ne_eq, Int.not_lt, Int.not_le] at *; first | omega | exact ⟨by omega, by omega⟩))) d4 (fun v6 H7 e8 d9 h_10 => ?_)
    have h_cls := (Mono.mono e8 h_cls)
    have h_prime := (Mono.mono e8 h_prime)
    have h_text := (Mono.mono e8 h_text)
    have c0 := c0.trans e8
    refine q_if (eb_test (ev_isN (F := (pRow K)) (fun _ _ _ h => pT.ne h) (ev_var rfl h_10) ev_non)) d9 ?_ ?_
    · intro hb14 H11 e12 d13
      have h_cls := (Mono.mono e12 h_cls)
      have h_prime := (Mono.mono e12 h_prime)
      have h_text := (Mono.mono e12 h_text)
      have h_10 := (Mono.mono e12 h_10)
      have c0 := c0.trans e12
      have hq := hq.trans (if_pos hb14)
      try simp only [decide_eq_true_eq, decide_eq_false_iff_not, Bool.not_eq_true', Bool.not_eq_false', Bool.and_eq_true, Bool.or_eq_false_iff, bne_iff_ne, bne_eq_false_iff_eq, ne_eq, Int.not_lt, Int.not_le] at hb14
      exact False.elim (by simp_all)
    · intro hb18 H15 e16 d17
      have hb18' := hb18
      have h_cls := (Mono.mono e16 h_cls)
      have h_prime := (Mono.mono e16 h_prime)
      have h_text := (Mono.mono e16 h_text)
      have h_10 := (Mono.mono e16 h_10)
      have c0 := c0.trans e16
      have hq := hq.trans (ne_true hb18)
      try simp only [decide_eq_true_eq, decide_eq_false_iff_not, Bool.not_eq_true', Bool.not_eq_false', Bool.and_eq_true, Bool.or_eq_false_iff, bne_iff_ne, bne_eq_false_iff_eq, ne_eq, Int.not_lt, Int.not_le] at hb18
      have h_19 := (pO.get hb18' h_10)
      exact s_ret (ev_makeV rfl h_cls (ev_Poly___init___V_row (ea_cons (ev_var rfl h_prime) (ea_cons (ev_var rfl h_19) ea_nil)) (by first | omega | assumption | exact prime_ok hpre.1 | exact ⟨(prime_le hpre.1).1, (prime_le hpre.1).2, hpre.2.1⟩ | exact ⟨prime_ok hpre.1, hpre.2.2.2⟩ | decide | (simp only [decide_eq_true_eq, decide_eq_false_iff_not, Bool.not_eq_true', Bool.not_eq_false', Bool.and_eq_true, Bool.or_eq_false_iff, bne_iff_ne, bne_eq_false_iff_eq, ne_eq, Int.not_lt, Int.not_le] at *; first | omega | exact ⟨by omega, by omega⟩)))) d17 (fun v20 H21 e22 d23 h24 => q v20 H21 (c0.trans e22) d23 (tgt (F := (pPoly K T.C)) hq h24))
theorem cv_Poly_read {Cc : Cl} {M : List Addr} {E : XK} {vs : List V} {H1 : Hp} {a_cls : Unit} {a_prime : Int} {a_text : Str} (pre : (a_prime ∈ primes ∧ (a_text).length ≤ 1000 ∧ (m_row_told a_prime a_text).isSome = true ∧ m_is_row a_prime ((m_row_told a_prime a_text).getD default) = true)) (d : Dcs M H1) (k : All2 [(pV (.ref Cc.Poly)), (pI a_prime), (pS a_text)] vs H1) (Q : VK) (q : ∀ v H2, Ch M H1 H2 → Dcs M H2 → (pPoly K Cc (m_Poly_read a_cls a_prime a_text)) v H2 → Q v H2) : sp_Poly_read K Cc vs H1 Q E := by
  obtain ⟨v_cls, v_prime, v_text, rfl, h_cls, h_prime, h_text⟩ := all3 k
  exact ⟨a_cls, a_prime, a_text, v_cls, v_prime, v_text, rfl, h_cls, h_prime, h_text, pre, fun u H' c _ r => q u H' c.any (d.new c.same) r⟩
end
end R

namespace R
open PySem PySem.Spec L2 Mir TL RZ
def m_poly_at (a_prime : Int) (a_number : Int) : Pol := (m_poly_of a_prime (m_row_at a_prime a_number))
def sp_poly_at (K : PySem.W.Frag) (Cc : Cl) : Sp := fun vs H Q _ => ∃ (a_prime : Int) (a_number : Int) (v_prime v_number : V), vs = [v_prime, v_number] ∧ (pI a_prime) v_prime H ∧ (pI a_number) v_number H ∧ (m_is_prime a_prime = true ∧ 3 ≤ a_prime ∧ a_prime ≤ 31 ∧ 0 ≤ a_number ∧ a_number ≤ top60) ∧ ∀ u H', Ch [] H H' → Dcs [] H' → (pPoly K Cc (m_poly_at a_prime a_number)) u H' → Q u H'
abbrev N_poly_at : List Str := ["prime", "number"]
theorem sc_poly_at : FnScope N_poly_at ["prime", "number"] (defScope s_poly_at) := ⟨rfl, rfl, rfl, by decide +kernel, rfl, by decide +kernel, by decide +kernel⟩
section
variable {P : Program} {w : World} {K : PySem.W.Frag} {mg : Str → Option Value} {base : Heap}
theorem ok_poly_at (T : Txt K mg) : FnOk P w K mg base CX0 7 T.f_poly_at T.fd_poly_at ["prime", "number"] (sp_poly_at K T.C) := by
  refine T.F_poly_at.ok sc_poly_at (fun vs H Q E h => ?_) (fun cdv A outer s H vs Q E hr h => ?_)
  · obtain ⟨a_prime, a_number, v_prime, v_number, rfl, h_prime, h_number, hpre, q⟩ := h
    rfl
  · obtain ⟨a_prime, a_number, v_prime, v_number, rfl, h_prime, h_number, hpre, q⟩ := h
    refine ⟨_, (pss_cons (ps_expr (pe_call (ok_check_prime T) (hr.mono (by decide)) (by rfl) T.g_check_prime T.F_check_prime.kp T.b_check_prime .nil pass0 (pa_cons (pv 0) pa_nil)))
        (pss_cons (ps_expr (pe_call (ok_check_count T) (hr.mono (by decide)) (by rfl) T.g_check_count T.F_check_count.kp T.b_check_count .nil pass0 (pa_cons (pv 1) (pa_cons pe_int (pa_cons (pe_glob (v := V.int top60) (by rfl) T.g_MAX_INTEGER ⟨_, rfl⟩) pa_nil)))))
        (pss_one (ps_ret (pe_call (ok_poly_of T) (hr.mono (by decide)) (by rfl) T.g_poly_of T.F_poly_of.kp T.b_poly_of .nil pass0 (pa_cons (pv 0) (pa_cons (pe_call (ok_row_at T) (hr.mono (by decide)) (by rfl) T.g_row_at T.F_row_at.kp T.b_row_at .nil pass0 (pa_cons (pv 0) (pa_cons (pv 1) pa_nil))) pa_nil))))))), ?_⟩
    have c0 : Ch [] H H := .refl H
    have d0 : Dcs [] H := .nil
    have hq := m_poly_at.eq_1 a_prime a_number
    refine q_drop (ev_check_prime (ea_cons (ev_var rfl h_prime) ea_nil) (by first | omega | assumption | exact hpre.1 | exact ⟨by omega, by omega, by omega, num400 (by omega)⟩ | exact count_ok (by omega) (by omega) | decide | (simp only [decide_eq_true_eq, decide_eq_false_iff_not, Bool.not_eq_true', Bool.not_eq_false', Bool.and_eq_true, Bool.or_eq_false_iff, bne_iff_ne, bne_eq_false_iff_eq, ne_eq, Int.not_lt, Int.not_le] at *; first | omega | exact ⟨by omega, by omega⟩))) d0 (fun v1 H2 e3 d4 h5 => ?_)
    have h_prime := (Mono.mono e3 h_prime)
    have h_number := (Mono.mono e3 h_number)
    have c0 := c0.trans e3
    refine q_drop (ev_check_count (ea_cons (ev_var rfl h_number) (ea_cons ev_int (ea_cons (ev_int (i := top60)) ea_nil))) (by first | omega | assumption | exact hpre.1 | exact ⟨by omega, by omega, by omega, num400 (by omega)⟩ | exact count_ok (by omega) (by omega) | decide | (simp only [decide_eq_true_eq, decide_eq_false_iff_not, Bool.not_eq_true', Bool.not_eq_false', Bool.and_eq_true, Bool.or_eq_false_iff, bne_iff_ne, bne_eq_false_iff_eq, ne_eq, Int.not_lt, Int.not_le] at *; first | omega | exact ⟨by omega, by omega⟩))) d4 (fun v6 H7 e8 d9 h10 => ?_)
    have h_prime := (Mono.mono e8 h_prime)
    have h_number := (Mono.mono e8 h_number)
    have c0 := c0.trans e8
    exact s_ret (ev_poly_of (ea_cons (ev_var rfl h_prime) (ea_cons (ev_row_at (ea_cons (ev_var rfl h_prime) (ea_cons (ev_var rfl h_number) ea_nil)) (by first | omega | assumption | exact hpre.1 | exact ⟨by omega, by omega, by omega, num400 (by omega)⟩ | exact count_ok (by omega) (by omega) | decide | (simp only [decide_eq_true_eq, decide_eq_false_iff_not, Bool.not_eq_true', Bool.not_eq_false', Bool.and_eq_true, Bool.or_eq_false_iff, bne_iff_ne, bne_eq_false_iff_eq, ne_eq, Int.not_lt, Int.not_le] at *; first | omega | exact ⟨by omega, by omega⟩))) ea_nil)) (by first | omega | assumption | exact hpre.1 | exact ⟨by omega, by omega, by omega, num400 (by omega)⟩ | exact count_ok (by omega) (by omega) | decide | (simp only [decide_eq_true_eq, decide_eq_false_iff_not, Bool.not_eq_true', Bool.not_eq_false', Bool.and_eq_true, Bool.or_eq_false_iff, bne_iff_ne, bne_eq_false_iff_eq, ne_eq, Int.not_lt, Int.not_le] at *; first | omega | exact ⟨by omega, by omega⟩))) d9 (fun v11 H12 e13 d14 h15 => q v11 H12 (c0.trans e13) d14 (tgt (F := (pPoly K T.C)) hq h15))
theorem cv_poly_at {Cc : Cl} {M : List Addr} {E : XK} {vs : List V} {H1 : Hp} {a_prime : Int} {a_number : Int} (pre : (m_is_prime a_prime = true ∧ 3 ≤ a_prime ∧ a_prime ≤ 31 ∧ 0 ≤ a_number ∧ a_number ≤ top60)) (d : Dcs M H1) (k : All2 [(pI a_prime), (pI a_number)] vs H1) (Q : VK) (q : ∀ v H2, Ch M H1 H2 → Dcs M H2 → (pPoly K Cc (m_poly_at a_prime a_number)) v H2 → Q v H2) : sp_poly_at K Cc vs H1 Q E := by
  obtain ⟨v_prime, v_number, rfl, h_prime, h_number⟩ := all2 k
  exact ⟨a_prime, a_number, v_prime, v_number, rfl, h_prime, h_number, pre, fun u H' c _ r => q u H' c.any (d.new c.same) r⟩
theorem ev_poly_at {Cc : Cl} {M : List Addr} {σ : St} {H : Hp} {tr : TA} {E : XK} {a_prime : Int} {a_number : Int} (h : EvA M tr σ H [(pI a_prime), (pI a_number)]) (pre : (m_is_prime a_prime = true ∧ 3 ≤ a_prime ∧ a_prime ≤ 31 ∧ 0 ≤ a_number ∧ a_number ≤ top60)) : EvP M (tCall (sp_poly_at K Cc) [] E tr) σ H (pPoly K Cc (m_poly_at a_prime a_number)) := ev_call h fun vs H1 d k Q q => cv_poly_at pre d k Q q
end
end R

namespace R
open PySem PySem.Spec L2 Mir TL RZ
/-! numbers of rows -/
def val (p : Int) : List Int → Int
  | [] => 0
  | e :: r => e + p * val p r
def Res (p : Int) (r : List Int) : Prop := ∀ e ∈ r, 0 ≤ e ∧ e < p
def Nz (r : List Int) : Prop := r.getLast? ≠ some 0
theorem Res.tail {p e : Int} {r : List Int} (h : Res p (e :: r)) : Res p r := fun x hx => h x (List.mem_cons_of_mem _ hx)
theorem Nz.tail {e : Int} {r : List Int} (h : Nz (e :: r)) : Nz r := by
  cases r with
  | nil => intro c; cases c
  | cons f r => exact fun c => h (by rw [List.getLast?_cons_cons]; exact c)
theorem for1_app (p : Int) (r0 : List Int) (x : Int) : ∀ (l : List Int) (acc : Int), m_row_number_for1 p r0 (l ++ [x]) acc = m_row_number_for1 p r0 l acc * p + x
  | [], acc => rfl
  | y :: l, acc => for1_app p r0 x l (acc * p + y)
theorem for1_val (p : Int) (r0 : List Int) : ∀ r : List Int, m_row_number_for1 p r0 r.reverse 0 = val p r
  | [] => rfl
  | e :: r => by
    rw [List.reverse_cons, for1_app, for1_val p r0 r]
    show val p r * p + e = e + p * val p r
    rw [Int.mul_comm, Int.add_comm]
theorem num_val (p : Int) (r : List Int) : m_row_number p r = val p r := for1_val p r r
theorem lfor_eq (p : Int) (r : List Int) : ∀ (l : List Int) (acc : Int), m__law_number_for1 p r l acc = m_row_number_for1 p r l acc
  | [], _ => rfl
  | x :: l, acc => lfor_eq p r l (acc * p + x)
theorem lnum_val (p : Int) (r : List Int) : m__law_number p r = val p r := (lfor_eq p r r.reverse 0).trans (num_val p r)
theorem wfor_eq (p : Int) (r : List Int) (x : Int) : ∀ (l : List Int) (acc : Int), m__law_worth_for1 p r x l acc = m_row_value_for1 p r x l acc
  | [], _ => rfl
  | e :: l, acc => wfor_eq p r x l _
theorem worth_eq (p : Int) (r : List Int) (x : Int) : m_row_value p r x = m__law_worth p r x := (wfor_eq p r x r.reverse 0).symm
theorem val_lo {p : Int} (hp : 3 ≤ p) : ∀ {r : List Int}, Res p r → 0 ≤ val p r
  | [], _ => Int.le_refl 0
  | e :: r, h => by
    have h1 := val_lo hp h.tail
    have h2 := (h e (by simp)).1
    have h3 := Int.mul_nonneg (show 0 ≤ p by omega) h1
    show 0 ≤ e + p * val p r
    omega
theorem val_hi {p : Int} (hp : 3 ≤ p) : ∀ {r : List Int}, Res p r → val p r + 1 ≤ p ^ r.length
  | [], _ => by show (0 : Int) + 1 ≤ p ^ 0; rw [Int.pow_zero]; decide
  | e :: r, h => by
    have h1 := val_hi hp h.tail
    have h2 := (h e (by simp)).2
    have h3 := Int.mul_le_mul_of_nonneg_left h1 (show 0 ≤ p by omega)
    show e + p * val p r + 1 ≤ p ^ (r.length + 1)
    rw [Int.pow_succ, Int.mul_comm _ p]
    rw [Int.mul_add, Int.mul_one] at h3
    omega
theorem val_top {p : Int} (hp : 3 ≤ p) : ∀ {r : List Int}, Res p r → Nz r → r ≠ [] → p ^ (r.length - 1) ≤ val p r
  | [], _, _, h => absurd rfl h
  | [e], h, z, _ => by
    have h1 := h e (by simp)
    have h2 : e ≠ 0 := fun c => z (by rw [c]; rfl)
    show p ^ 0 ≤ e + p * 0
    rw [Int.pow_zero, Int.mul_zero]
    omega
  | e :: f :: r, h, z, _ => by
    have h1 := val_top hp h.tail z.tail (by simp)
    have h2 := (h e (by simp)).1
    have h3 := Int.mul_le_mul_of_nonneg_left h1 (show 0 ≤ p by omega)
    show p ^ (r.length + 1) ≤ e + p * val p (f :: r)
    rw [Int.pow_succ, Int.mul_comm _ p]
    have : (f :: r).length - 1 = r.length := by simp
    rw [this] at h3
    omega
theorem pow_pos' {p : Int} (hp : 3 ≤ p) : ∀ n : Nat, 1 ≤ p ^ n
  | 0 => by rw [Int.pow_zero]; decide
  | n + 1 => by
    have h := pow_pos' hp n
    have := Int.mul_le_mul_of_nonneg_left (show 1 ≤ p by omega) (show 0 ≤ p ^ n by omega)
    rw [Int.mul_one] at this
    rw [Int.pow_succ]
    omega
theorem val_ne {p : Int} (hp : 3 ≤ p) {r : List Int} (h : Res p r) (z : Nz r) (n : r ≠ []) : 0 < val p r := by
  have := val_top hp h z n
  have := pow_pos' hp (r.length - 1)
  omega
theorem at_val {p : Int} (hp : 3 ≤ p) : ∀ (r : List Int) (k : Nat) (acc : List Int), Res p r → Nz r → (val p r).toNat < k → (m_row_at_for1 p k (val p r) acc).2 = acc ++ r
  | [], k, acc, _, _, hk => by
    obtain ⟨k, rfl⟩ : ∃ j, k = j + 1 := ⟨k - 1, by omega⟩
    show (m_row_at_for1 p (k + 1) 0 acc).2 = _
    rw [m_row_at_for1, List.append_nil]
    rfl
  | e :: r, k, acc, h, z, hk => by
    obtain ⟨k, rfl⟩ : ∃ j, k = j + 1 := ⟨k - 1, by omega⟩
    have hv := val_ne hp h z (by simp)
    have he := h e (by simp)
    have hd : val p (e :: r) / p = val p r := by
      show (e + p * val p r) / p = _
      rw [Int.add_mul_ediv_left _ _ (by omega), Int.ediv_eq_zero_of_lt he.1 he.2, Int.zero_add]
    have hm : val p (e :: r) % p = e := by
      show (e + p * val p r) % p = _
      rw [Int.add_mul_emod_self_left, Int.emod_eq_of_lt he.1 he.2]
    have hl : val p r < val p (e :: r) := by
      rw [← hd]
      exact (div_less hp hv).2
    have h0 := val_lo hp h.tail
    rw [m_row_at_for1, if_pos (by rw [bne_iff_ne]; omega), hd, hm, at_val hp r k (acc ++ [e]) h.tail z.tail (by omega), List.append_assoc]
    rfl
theorem row_at_num {p : Int} (hp : 3 ≤ p) {r : List Int} (h : Res p r) (z : Nz r) : m_row_at p (val p r) = r := by
  unfold m_row_at
  rw [at_val hp r _ [] h z (Nat.lt_succ_self _)]
  rfl
theorem val_app (p : Int) (x : Int) : ∀ l : List Int, val p (l ++ [x]) = val p l + p ^ l.length * x
  | [] => by show x + p * 0 = 0 + p ^ 0 * x; rw [Int.mul_zero, Int.pow_zero]; omega
  | y :: l => by
    show y + p * val p (l ++ [x]) = y + p * val p l + p ^ (l.length + 1) * x
    rw [val_app p x l, Int.mul_add, Int.pow_succ, Int.mul_comm (p ^ l.length) p, Int.mul_assoc, Int.add_assoc]
theorem at_num {p : Int} (hp : 3 ≤ p) : ∀ (k : Nat) (n : Int) (acc : List Int), 0 ≤ n → n.toNat < k → val p (m_row_at_for1 p k n acc).2 = val p acc + p ^ acc.length * n
  | 0, n, acc, _, h => absurd h (Nat.not_lt_zero _)
  | k + 1, n, acc, h0, h => by
    rw [m_row_at_for1]
    by_cases c : n = 0
    · subst c
      rw [if_neg (by decide)]
      show val p acc = _
      rw [Int.mul_zero, Int.add_zero]
    · rw [if_pos (by rw [bne_iff_ne]; exact c)]
      have hd := div_less hp (show 0 < n by omega)
      rw [at_num hp k (n / p) (acc ++ [n % p]) hd.1 (by omega), val_app, List.length_append, List.length_singleton, Int.pow_succ, Int.add_assoc, Int.mul_assoc, ← Int.mul_add]
      rw [Int.add_comm (n % p), Int.mul_ediv_add_emod]
theorem num_at {p n : Int} (hp : 3 ≤ p) (h : 0 ≤ n) : m_row_number p (m_row_at p n) = n := by
  rw [num_val]
  unfold m_row_at
  rw [at_num hp _ n [] h (Nat.lt_succ_self _)]
  show 0 + p ^ 0 * n = n
  rw [Int.pow_zero]
  omega
/-! the order of numbers -/
theorem rowLt_app {p : Int} (hp : 3 ≤ p) : ∀ (a b : List Int) (x y : Int), a.length = b.length → 0 ≤ x → x < p → 0 ≤ y → y < p → rowLt (a ++ [x]) (b ++ [y]) = (rowLt a b || (decide (a = b) && decide (x < y)))
  | [], [], x, y, _, _, _, _, _ => by
    show (decide (x < y) || (!decide (y < x) && false)) = (false || (true && decide (x < y)))
    simp
  | u :: a, v :: b, x, y, hl, h1, h2, h3, h4 => by
    show (decide (u < v) || (!decide (v < u) && rowLt (a ++ [x]) (b ++ [y]))) = ((decide (u < v) || (!decide (v < u) && rowLt a b)) || (decide (u :: a = v :: b) && decide (x < y)))
    rw [rowLt_app hp a b x y (by simpa using hl) h1 h2 h3 h4]
    by_cases c : u < v
    · simp [c]
    · by_cases d : v < u
      · have : ¬ (u = v) := by omega
        simp [c, d, this]
      · have : u = v := by omega
        subst this
        simp [c]
theorem ord_same {p : Int} (hp : 3 ≤ p) : ∀ (r s : List Int), r.length = s.length → Res p r → Res p s → decide (val p r < val p s) = rowLt r.reverse s.reverse ∧ (val p r = val p s → r = s)
  | [], [], _, _, _ => ⟨rfl, fun _ => rfl⟩
  | e :: r, f :: s, hl, h, k => by
    obtain ⟨ih1, ih2⟩ := ord_same hp r s (by simpa using hl) h.tail k.tail
    have he := h e (by simp)
    have hf := k f (by simp)
    have key : ∀ {a b : Int}, a < b → p * a + p ≤ p * b := fun {a b} hab => by
      have := Int.mul_le_mul_of_nonneg_left (show a + 1 ≤ b by omega) (show 0 ≤ p by omega)
      rwa [Int.mul_add, Int.mul_one] at this
    constructor
    · rw [List.reverse_cons, List.reverse_cons, rowLt_app hp _ _ e f (by simpa using hl) he.1 he.2 hf.1 hf.2, ← ih1]
      show decide (e + p * val p r < f + p * val p s) = _
      by_cases c : val p r < val p s
      · have := key c
        rw [decide_eq_true c, decide_eq_true (show e + p * val p r < f + p * val p s by omega)]
        rfl
      · rw [decide_eq_false c, Bool.false_or]
        by_cases d : val p r = val p s
        · have : r = s := ih2 d
          subst this
          simp
        · have := key (show val p s < val p r by omega)
          have hn : ¬ r.reverse = s.reverse := fun q => d (by rw [List.reverse_inj.mp q])
          rw [decide_eq_false hn, Bool.false_and, decide_eq_false (by omega)]
    · intro q
      have q' : e + p * val p r = f + p * val p s := q
      have d : val p r = val p s := by
        by_cases c : val p r < val p s
        · have := key c; omega
        · by_cases c2 : val p s < val p r
          · have := key c2; omega
          · omega
      rw [d] at q'
      rw [ih2 d, show e = f by omega]
theorem ord_num {p : Int} (hp : 3 ≤ p) {r s : List Int} (hr : Res p r) (zr : Nz r) (hs : Res p s) (zs : Nz s) : decide (val p r < val p s) = (decide ((r.length : Int) < s.length) || (!decide ((s.length : Int) < r.length) && rowLt r.reverse s.reverse)) := by
  have less : ∀ {a b : List Int}, Res p a → Res p b → Nz b → a.length < b.length → val p a < val p b := fun {a b} ha hb zb hl => by
    have h1 := val_hi hp ha
    have h2 := val_top hp hb zb (by intro c; rw [c] at hl; exact absurd hl (Nat.not_lt_zero _))
    have h3 : p ^ a.length ≤ p ^ (b.length - 1) := by
      obtain ⟨d, hd⟩ : ∃ d, b.length - 1 = a.length + d := ⟨b.length - 1 - a.length, by omega⟩
      rw [hd, Int.pow_add]
      have := Int.mul_le_mul_of_nonneg_left (pow_pos' hp d) (show 0 ≤ p ^ a.length by have := pow_pos' hp a.length; omega)
      rwa [Int.mul_one] at this
    omega
  by_cases c : r.length < s.length
  · rw [decide_eq_true (less hr hs zs c), decide_eq_true (show (r.length : Int) < s.length by omega), Bool.true_or]
  · rw [decide_eq_false (show ¬ (r.length : Int) < s.length by omega), Bool.false_or]
    by_cases d : s.length < r.length
    · have := less hs hr zr d
      rw [decide_eq_false (show ¬ val p r < val p s by omega), decide_eq_true (show (s.length : Int) < r.length by omega)]
      rfl
    · rw [decide_eq_false (show ¬ (s.length : Int) < r.length by omega)]
      exact (ord_same hp r s (by omega) hr hs).1
theorem tl_plus : tl ("+" : Str) = [43] := by decide +kernel
/-! the law's text is the program's -/
theorem app_empty (s : Str) : s ++ ("" : Str) = s := by
  apply ext_tl
  rw [tl_append, show tl ("" : Str) = [] by decide +kernel, List.append_nil]
theorem empty_app (s : Str) : Str.empty ++ s = s := by
  apply ext_tl
  rw [tl_append, show tl Str.empty = [] by decide +kernel, List.nil_append]
theorem app_assoc (a b c : Str) : a ++ b ++ c = a ++ (b ++ c) := by
  apply ext_tl
  rw [tl_append, tl_append, tl_append, tl_append, List.append_assoc]
theorem nil_app (s : Str) : ("" : Str) ++ s = s := by
  apply ext_tl
  rw [tl_append, show tl ("" : Str) = [] by decide +kernel, List.nil_append]
theorem word_eq {e x : Int} (hx : 0 ≤ x) : wordT e x = m_term_text e x := by
  unfold wordT powT m_term_text joinedS
  by_cases c0 : x = 0
  · subst c0
    simp [app_empty]
  · by_cases c1 : x = 1
    · subst c1
      by_cases ce : e = 1
      · subst ce
        simp [nil_app, empty_app]
      · simp [ce, empty_app]
    · have : 0 < x := by omega
      by_cases ce : e = 1
      · subst ce
        simp [c0, c1, this, nil_app, empty_app, app_assoc]
      · simp [c0, c1, ce, empty_app, app_assoc]
theorem ltext_for (r : List Int) : ∀ (l : List Int) (ws : List Str), (∀ x ∈ l, 0 ≤ x) → m__law_text_for1 r l ws = ws ++ (l.filter fun x => ixd r x != 0).map fun x => m_term_text (ixd r x) x
  | [], ws, _ => by rw [m__law_text_for1]; simp
  | x :: l, ws, h => by
    have hl : ∀ y ∈ l, 0 ≤ y := fun y hy => h y (List.mem_cons_of_mem _ hy)
    rw [m__law_text_for1]
    by_cases c : ixd r x = 0
    · rw [if_neg (by simp [c]), ltext_for r l ws hl, List.filter_cons_of_neg (by simp [c])]
    · rw [if_pos (by simp [c]), ltext_for r l _ hl, List.filter_cons_of_pos (by simp [c]), List.map_cons]
      show (ws ++ [wordT (ixd r x) x]) ++ _ = _
      rw [word_eq (h x (by simp)), List.append_assoc]
      rfl
def downs (r : List Int) : List Int := (idown ((r.length : Int) - 1) (-1)).filter fun x => ixd r x != 0
theorem ltext_eq (r : List Int) : m__law_text r = Txt.join ("+" : Str) (m_terms_of r) := by
  unfold m__law_text m_terms_of
  rw [ltext_for r _ _ fun x hx => by have := mem_down hx; omega]
  rw [List.nil_append]
  split
  · rfl
  · show ("0" : Str) = Txt.join ("+" : Str) [("0" : Str)]
    rfl

/-! the text read back -/
def entT (z : Str) : Int := m_entry_told (Txt.partition z ("x" : Str)).1 (Txt.partition z ("x" : Str)).2.1
def powT2 (z : Str) : Option Str := m_power_told (Txt.partition z ("x" : Str)).2.1 (Txt.partition z ("x" : Str)).2.2
def digS (x : Int) : Str := Str.ofString (toString x)
def tabTold : Bool := (List.range 31).all fun e => (List.range 13).all fun x => e == 0 || (decide (entT (m_term_text (e : Int) (x : Int)) = (e : Int)) && decide (powT2 (m_term_text (e : Int) (x : Int)) = some (digS (x : Int))) && (tl (m_term_text (e : Int) (x : Int))).all (fun c => c != 43))
theorem tabTold_ok : tabTold = true := by decide +kernel
theorem term_back {e x : Int} (he : 0 < e ∧ e < 31) (hx : 0 ≤ x ∧ x < 13) : (entT (m_term_text e x) = e ∧ powT2 (m_term_text e x) = some (digS x)) ∧ 43 ∉ tl (m_term_text e x) := by
  obtain ⟨n, rfl⟩ : ∃ n : Nat, e = (n : Int) := ⟨e.toNat, by omega⟩
  obtain ⟨m, rfl⟩ : ∃ m : Nat, x = (m : Int) := ⟨x.toNat, by omega⟩
  have h := tabTold_ok
  unfold tabTold at h
  rw [List.all_eq_true] at h
  have h1 := h n (List.mem_range.mpr (by omega))
  rw [List.all_eq_true] at h1
  have h2 := h1 m (List.mem_range.mpr (by omega))
  have hn : (n == 0) = false := by rw [beq_eq_false_iff_ne]; omega
  rw [hn, Bool.false_or, Bool.and_eq_true, Bool.and_eq_true, decide_eq_true_eq, decide_eq_true_eq, List.all_eq_true] at h2
  exact ⟨h2.1, fun c => by simpa using h2.2 43 c⟩
def tabLess : Bool := (List.range 13).all fun x => (decide (intOf (digS (x : Int)) = (x : Int)) && m_is_lesser (digS (x : Int)) (Str.ofString (toString (1000 : Int)))) && (List.range 13).all fun y => decide (x < y) == m_is_lesser (digS (x : Int)) (digS (y : Int))
theorem tabLess_ok : tabLess = true := by decide +kernel
theorem dig_back {x : Int} (hx : 0 ≤ x ∧ x < 13) : (intOf (digS x) = x ∧ m_is_lesser (digS x) (Str.ofString (toString (1000 : Int))) = true) ∧ ∀ y : Int, x < y → y < 13 → m_is_lesser (digS x) (digS y) = true := by
  obtain ⟨m, rfl⟩ : ∃ m : Nat, x = (m : Int) := ⟨x.toNat, by omega⟩
  have h := tabLess_ok
  unfold tabLess at h
  rw [List.all_eq_true] at h
  have h1 := h m (List.mem_range.mpr (by omega))
  rw [Bool.and_eq_true, Bool.and_eq_true, decide_eq_true_eq, List.all_eq_true] at h1
  refine ⟨h1.1, fun y hy hy2 => ?_⟩
  obtain ⟨n, rfl⟩ : ∃ n : Nat, y = (n : Int) := ⟨y.toNat, by omega⟩
  have h2 := h1.2 n (List.mem_range.mpr (by omega))
  rw [decide_eq_true (by omega : m < n)] at h2
  exact (eq_of_beq h2).symm
/-- a row's places whose entry isn't 0 -/
structure Small (p : Int) (r : List Int) : Prop where
  pr : 3 ≤ p ∧ p ≤ 31
  res : Res p r
  nz : Nz r
  len : r.length ≤ 13
theorem down_ok {r : List Int} {x : Int} (h : x ∈ downs r) : 0 ≤ x ∧ x < r.length ∧ ixd r x ≠ 0 := by
  obtain ⟨h1, h2⟩ := List.mem_filter.mp h
  have := mem_down h1
  exact ⟨by omega, by omega, by simpa using h2⟩
theorem Small.at {p : Int} {r : List Int} (h : Small p r) {x : Int} (hx : x ∈ downs r) : (0 < ixd r x ∧ ixd r x < p) ∧ (0 ≤ x ∧ x < 13) := by
  have k := down_ok hx
  have := h.res _ (ixd_mem (r := r) (x := x) ⟨by omega, k.2.1⟩)
  have := h.len
  omega
theorem ixd_nat {r : List Int} {i : Nat} (h : i < r.length) : ixd r (i : Int) = r[i] := by
  unfold ixd atI ixN
  rw [if_pos (Int.natCast_nonneg i), if_pos (by omega)]
  show (r[(i : Int).toNat]?).getD default = _
  rw [Int.toNat_natCast, List.getElem?_eq_getElem h]
  rfl
/-- the pairs of entry and digits of these places -/
def prs (r : List Int) (l : List Int) : List (Int × Str) := l.map fun x => (ixd r x, digS x)
theorem downs_desc (r : List Int) : (downs r).Pairwise (fun x y => y < x) := by
  unfold downs idown
  refine List.Pairwise.filter _ ?_
  rw [List.pairwise_map]
  refine List.Pairwise.imp ?_ List.pairwise_lt_range
  intro a b h
  omega
theorem ixd_snoc {α : Type} [Inhabited α] (L : List α) (y : α) : ixd (L ++ [y]) (-1) = y := by
  unfold ixd atI ixN
  rw [if_neg (by decide), if_pos (by rw [List.length_append, List.length_singleton]; omega)]
  show ((L ++ [y])[(((L ++ [y]).length : Int) + -1).toNat]?).getD default = y
  rw [show (((L ++ [y]).length : Int) + -1).toNat = L.length by rw [List.length_append, List.length_singleton]; omega, List.getElem?_append_right (Nat.le_refl _), Nat.sub_self]
  rfl
theorem ixd_hd {α : Type} [Inhabited α] (a : α) (r : List α) : ixd (a :: r) 0 = a := by
  unfold ixd atI ixN
  rw [if_pos (by decide), if_pos (by rw [List.length_cons]; omega)]
  rfl
theorem find_upd {α : Type} (k i : Int) (x : α) : ∀ m : List (Int × α), (m.map fun p => if p.1 = k then (p.1, x) else p).find? (fun p => decide (p.1 = i)) = (m.find? (fun p => decide (p.1 = i))).map fun p => if p.1 = k then (p.1, x) else p
  | [] => rfl
  | p :: m => by
    have e : (if p.1 = k then (p.1, x) else p).1 = p.1 := by split <;> rfl
    rw [List.map_cons, List.find?_cons, List.find?_cons, e]
    cases decide (p.1 = i) with
    | true => rfl
    | false => exact find_upd k i x m
theorem getD_put {α : Type} (m : List (Int × α)) (k i : Int) (x d : α) : Mir.getD (putD m k x) i d = if k = i then x else Mir.getD m i d := by
  unfold Mir.getD putD
  by_cases a : (m.any fun p => decide (p.1 = k)) = true
  · rw [if_pos a, find_upd]
    cases f : m.find? (fun p => decide (p.1 = i)) with
    | none =>
      rw [if_neg]
      rfl
      intro q
      subst q
      rw [List.find?_eq_none] at f
      obtain ⟨p, hp, hk⟩ := List.any_eq_true.mp a
      exact f p hp hk
    | some p =>
      have hp := List.find?_some f
      rw [decide_eq_true_eq] at hp
      show (if p.1 = k then (p.1, x) else p).2 = if k = i then x else p.2
      by_cases c : k = i
      · rw [if_pos c, if_pos (hp.trans c.symm)]
      · rw [if_neg c, if_neg (fun q => c (q.symm.trans hp))]
  · rw [if_neg a, List.find?_append]
    have hk : m.find? (fun p => decide (p.1 = k)) = none := by
      rw [List.find?_eq_none]
      intro q hq c
      exact a (List.any_eq_true.mpr ⟨q, hq, c⟩)
    by_cases e : k = i
    · subst e
      rw [hk, if_pos rfl, Option.none_or, List.find?_cons, decide_eq_true (show (k, x).1 = k from rfl)]
      rfl
    · rw [if_neg e, List.find?_cons, decide_eq_false (show ¬ (k, x).1 = i from e)]
      show (Option.map _ ((List.find? _ m).or none)).getD d = _
      rw [Option.or_none]
theorem mem_downs {r : List Int} {i : Nat} : (i : Int) ∈ downs r ↔ i < r.length ∧ ixd r i ≠ 0 := by
  constructor
  · intro h
    have := down_ok h
    exact ⟨by omega, this.2.2⟩
  · rintro ⟨h1, h2⟩
    refine List.mem_filter.mpr ⟨?_, by simpa using h2⟩
    unfold idown
    exact List.mem_map.mpr ⟨r.length - 1 - i, List.mem_range.mpr (by omega), by omega⟩
/-- the dict of the places' entries -/
theorem dct_get {r : List Int} : ∀ (l : List Int) (i : Nat), (∀ x ∈ l, 0 ≤ x ∧ x < 13) → Mir.getD (dcD (fun x : Int × Str => intOf x.2) (fun x : Int × Str => x.1) (prs r l.reverse)) (i : Int) 0 = if (i : Int) ∈ l then ixd r i else 0
  | [], i, _ => by rw [if_neg (by simp)]; rfl
  | x :: l, i, h => by
    rw [List.reverse_cons, show prs r (l.reverse ++ [x]) = prs r l.reverse ++ [(ixd r x, digS x)] from List.map_append, dcD_snoc, getD_put, dct_get l i fun y hy => h y (List.mem_cons_of_mem _ hy)]
    have e := (dig_back (h x (by simp))).1.1
    show (if intOf (digS x) = (i : Int) then ixd r x else _) = _
    rw [e]
    by_cases c : x = (i : Int)
    · rw [if_pos c, if_pos (by simp [c]), c]
    · rw [if_neg c]
      by_cases d : (i : Int) ∈ l
      · rw [if_pos d, if_pos (List.mem_cons_of_mem _ d)]
      · rw [if_neg d, if_neg (by
          intro q
          rcases List.mem_cons.mp q with q | q
          · exact c q.symm
          · exact d q)]
theorem puts_row {r : List Int} (h : r.length ≤ 13) : List.map (fun x => Mir.getD (dcD (fun x : Int × Str => intOf x.2) (fun x : Int × Str => x.1) (prs r (downs r))) x (0 : Int)) (irange 0 (1000 : Int)) = r ++ List.replicate (1000 - r.length) 0 := by
  apply List.ext_getElem?
  intro i
  rw [List.getElem?_map]
  by_cases l : i < 1000
  · rw [irange_at (lo := 0) (hi := 1000) (i := i) (by omega)]
    have g := dct_get (r := r) (downs r).reverse i (fun x hx => by have := down_ok (List.mem_reverse.mp hx); omega)
    rw [List.reverse_reverse] at g
    show some (Mir.getD _ ((0 : Int) + (i : Int)) 0) = _
    rw [Int.zero_add, g]
    by_cases c : i < r.length
    · rw [List.getElem?_append_left c]
      by_cases d : ixd r (i : Int) = 0
      · rw [if_neg fun m => (mem_downs.mp (List.mem_reverse.mp m)).2 d, List.getElem?_eq_getElem c, ← ixd_nat c, d]
      · rw [if_pos (List.mem_reverse.mpr (mem_downs.mpr ⟨c, d⟩)), List.getElem?_eq_getElem c, ← ixd_nat c]
    · rw [if_neg fun m => c (mem_downs.mp (List.mem_reverse.mp m)).1, List.getElem?_append_right (by omega), List.getElem?_replicate, if_pos (by omega)]
  · rw [List.getElem?_eq_none (by rw [irange_len]; omega), List.getElem?_append_right (by omega), List.getElem?_replicate, if_neg (by omega)]
    rfl
theorem trim_for {r : List Int} {n : Nat} (z : Nz r) : ∀ (k s : Nat), r.length + s < k + r.length → s ≤ n → m_trimmed_for1 (r ++ List.replicate n 0) k ((r.length + s : Nat) : Int) = (r.length : Int)
  | 0, s, h, _ => by omega
  | k + 1, 0, h, hn => by
    rw [m_trimmed_for1]
    by_cases c : r = []
    · subst c
      rfl
    · rw [if_neg]
      · rfl
      · intro q
        rw [Bool.and_eq_true, decide_eq_true_eq] at q
        have hl : 0 < r.length := List.length_pos_iff.mpr c
        have e : ((r.length + 0 : Nat) : Int) - 1 = ((r.length - 1 : Nat) : Int) := by omega
        rw [e, ixd_nat (by rw [List.length_append]; omega), List.getElem_append_left (by omega)] at q
        apply z
        rw [List.getLast?_eq_getElem?, List.getElem?_eq_getElem (by omega), q.2]
  | k + 1, s + 1, h, hn => by
    rw [m_trimmed_for1, if_pos]
    · have e : ((r.length + (s + 1) : Nat) : Int) - 1 = ((r.length + s : Nat) : Int) := by omega
      rw [e]
      exact trim_for z k s (by omega) (by omega)
    · have e : ((r.length + (s + 1) : Nat) : Int) - 1 = ((r.length + s : Nat) : Int) := by omega
      have hb : r.length + s < (r ++ List.replicate n (0 : Int)).length := by rw [List.length_append, List.length_replicate]; omega
      rw [e, ixd_nat hb, List.getElem_append_right (by omega), List.getElem_replicate]
      rw [Bool.and_eq_true]
      exact ⟨by rw [bne_iff_ne]; omega, rfl⟩
theorem trim_row {r : List Int} {n : Nat} (z : Nz r) : m_trimmed (r ++ List.replicate n 0) = r := by
  unfold m_trimmed
  have hl : (r ++ List.replicate n (0 : Int)).length = r.length + n := by rw [List.length_append, List.length_replicate]
  rw [hl, trim_for z _ n (by omega) (Nat.le_refl _)]
  unfold cutA
  rw [show HT.sIx (r ++ List.replicate n (0 : Int)).length 0 none = 0 from rfl, List.drop_zero]
  have e : HT.sIx (r ++ List.replicate n (0 : Int)).length (r ++ List.replicate n (0 : Int)).length (some (r.length : Int)) = r.length := by
    unfold HT.sIx
    first | (simp; omega) | omega | (split <;> omega) | simp
  rw [e, Nat.sub_zero, List.take_left]
theorem told_for {p : Int} {r : List Int} (h : Small p r) (z : Str) : ∀ (l a : List Int), (∀ x ∈ l, x ∈ downs r) → (a ++ l).Pairwise (fun x y => y < x) → (∀ x ∈ a, x ∈ downs r) → m_terms_told_for1 p z (l.map fun x => m_term_text (ixd r x) x) (prs r a) = some (prs r (a ++ l))
  | [], a, _, _, _ => by rw [List.append_nil]; rfl
  | x :: l, a, hl, hp, ha => by
    have k := h.at (hl x (by simp))
    have pr := h.pr
    have b := (term_back (e := ixd r x) (x := x) ⟨k.1.1, by omega⟩ k.2).1
    have b1 : m_entry_told (Txt.partition (m_term_text (ixd r x) x) ("x" : Str)).1 (Txt.partition (m_term_text (ixd r x) x) ("x" : Str)).2.1 = ixd r x := b.1
    have b2 : m_power_told (Txt.partition (m_term_text (ixd r x) x) ("x" : Str)).2.1 (Txt.partition (m_term_text (ixd r x) x) ("x" : Str)).2.2 = some (digS x) := b.2
    rw [List.map_cons, m_terms_told_for1, b1, b2]
    rw [if_neg (by rw [decide_eq_true k.1.1, decide_eq_true k.1.2]; simp)]
    rw [if_neg]
    · have e : prs r a ++ [(ixd r x, (some (digS x)).getD default)] = prs r (a ++ [x]) := by
        unfold prs
        rw [List.map_append]
        rfl
      rw [e, told_for h z l (a ++ [x]) (fun y hy => hl y (List.mem_cons_of_mem _ hy)) (by rw [List.append_assoc]; exact hp) (fun y hy => by
        rcases List.mem_append.mp hy with hy | hy
        · exact ha y hy
        · rw [List.mem_singleton.mp hy]
          exact hl x (by simp)), List.append_assoc]
      rfl
    · by_cases c : a = []
      · subst c
        simp [prs]
      · have ea : a = a.dropLast ++ [a.getLast c] := (List.dropLast_concat_getLast c).symm
        have hm : a.getLast c ∈ a := List.getLast_mem c
        have lt : x < a.getLast c := (List.pairwise_append.mp hp).2.2 _ hm x (by simp)
        have e : (ixd (prs r a) (-1)).2 = digS (a.getLast c) := by
          conv => lhs; rw [ea]
          unfold prs
          rw [List.map_append, List.map_singleton, ixd_snoc]
        have q := (dig_back k.2).2 _ lt (h.at (ha _ hm)).2.2
        show ¬ ((!(prs r a).isEmpty) && !m_is_lesser (digS x) (ixd (prs r a) (-1)).2) = true
        rw [e, q]
        simp
theorem told_row {p : Int} {r : List Int} (h : Small p r) : m_row_told p (Txt.join ("+" : Str) (m_terms_of r)) = some r := by
  have hd : m_terms_of r = if (downs r).isEmpty = true then [("0" : Str)] else (downs r).map fun x => m_term_text (ixd r x) x := by
    unfold m_terms_of downs
    split
    · rename_i c
      rw [if_neg]
      intro q
      rw [List.isEmpty_iff.mp q] at c
      cases c
    · rename_i c
      rw [if_pos]
      simpa using c
  have tt : m_terms_told p (Txt.join ("+" : Str) (m_terms_of r)) = some (prs r (downs r)) := by
    unfold m_terms_told
    by_cases c : (downs r).isEmpty = true
    · have e : m_terms_of r = [("0" : Str)] := by rw [hd, if_pos c]
      rw [e, if_pos (by decide +kernel), List.isEmpty_iff.mp c]
      rfl
    · have e : m_terms_of r = (downs r).map fun x => m_term_text (ixd r x) x := by rw [hd, if_neg c]
      have ne : m_terms_of r ≠ [] := by
        rw [e]
        intro q
        exact c (by rw [List.map_eq_nil_iff.mp q]; rfl)
      have sp : Txt.split (Txt.join ("+" : Str) (m_terms_of r)) ("+" : Str) = (downs r).map fun x => m_term_text (ixd r x) x := by
        rw [split_join tl_plus (by decide +kernel) ne, e]
        rw [e]
        intro t ht
        obtain ⟨x, hx, rfl⟩ := List.mem_map.mp ht
        have k := h.at hx
        have pr := h.pr
        exact (term_back (e := ixd r x) (x := x) ⟨k.1.1, by omega⟩ k.2).2
      rw [if_neg, sp]
      · exact told_for h _ (downs r) [] (fun x hx => hx) (downs_desc r) (fun x hx => nomatch hx)
      · intro q
        rw [decide_eq_true_eq] at q
        rw [q, show Txt.split ("0" : Str) ("+" : Str) = [("0" : Str)] by decide +kernel] at sp
        cases hl : downs r with
        | nil => rw [hl] at c; exact c rfl
        | cons x l =>
          rw [hl, List.map_cons] at sp
          have k := h.at (x := x) (by rw [hl]; simp)
          have pr := h.pr
          have b := (term_back (e := ixd r x) (x := x) ⟨k.1.1, by omega⟩ k.2).1.1
          rw [← (List.cons.inj sp).1, show entT ("0" : Str) = 0 by decide +kernel] at b
          omega
  unfold m_row_told
  rw [tt, if_neg]
  · show some (m_trimmed (List.map (fun x => Mir.getD (dcD (fun x : Int × Str => intOf x.2) (fun x : Int × Str => x.1) (prs r (downs r))) x (0 : Int)) (irange 0 (1000 : Int)))) = some r
    rw [puts_row h.len, trim_row h.nz]
  · rw [Option.isNone_some, Bool.false_or]
    cases hl : downs r with
    | nil => simp [prs]
    | cons x l =>
      have k := h.at (x := x) (by rw [hl]; simp)
      have q := (dig_back k.2).1.2
      show ¬ ((!(prs r (x :: l)).isEmpty) && !m_is_lesser (ixd (prs r (x :: l)) 0).2 (Str.ofString (toString (1000 : Int)))) = true
      rw [show ixd (prs r (x :: l)) 0 = (ixd r x, digS x) from ixd_hd _ _, q]
      simp
theorem joinL_len (S : List Nat) : ∀ ps : List (List Nat), (joinL S ps).length ≤ (ps.map List.length).sum + ps.length * S.length
  | [] => Nat.zero_le _
  | [p] => by
    show p.length ≤ p.length + 0 + 1 * S.length
    omega
  | p :: q :: r => by
    have := joinL_len S (q :: r)
    show (p ++ (S ++ joinL S (q :: r))).length ≤ p.length + ((q :: r).map List.length).sum + ((q :: r).length + 1) * S.length
    rw [List.length_append, List.length_append, Nat.add_mul, Nat.one_mul]
    omega
theorem join_len (ts : List Str) : (Txt.join ("+" : Str) ts).length ≤ (ts.map (·.length)).sum + ts.length := by
  have h := joinL_len (tl ("+" : Str)) (ts.map tl)
  rw [len_tl, join_eq, tl_join]
  rw [List.map_map, List.length_map, tl_plus] at h
  have e : (List.map (List.length ∘ tl) ts) = ts.map (·.length) := by
    apply List.map_congr_left
    intro z _
    exact (len_tl z).symm
  rw [e] at h
  rw [tl_plus]
  simpa using h
def Told (p : Int) (r : List Int) : Prop := p ∈ primes ∧ RowOk p r ∧ r.length ≤ 13
theorem Told.small {p : Int} {r : List Int} (h : Told p r) : Small p r := ⟨prime_le h.1, h.2.1.res, h.2.1.last, h.2.2⟩
theorem ixd_last {r : List Int} (h : r ≠ []) : ixd r (-1) = r.getLast h := by
  have hl := List.length_pos_iff.mpr h
  have e : ixN r.length (-1) = some (r.length - 1) := by
    unfold ixN
    rw [if_neg (by decide), if_pos (by omega)]
    congr 1
    omega
  unfold ixd atI
  rw [e]
  show (r[r.length - 1]?).getD default = _
  rw [List.getElem?_eq_getElem (by omega), List.getLast_eq_getElem]
  rfl
theorem row_is {p : Int} {r : List Int} (hp : p ∈ primes) (h : RowOk p r) : m_is_row p r = true := by
  have hb := prime_le hp
  unfold m_is_row m_are_entries
  have hl := h.len
  rw [Bool.true_and, decide_eq_true (by omega), Bool.true_and, if_neg]
  · cases hr : r with
    | nil => rfl
    | cons e t =>
      rw [← hr]
      have hn : r ≠ [] := by rw [hr]; simp
      have : ¬ ixd r (-1) = 0 := by
        rw [ixd_last hn]
        intro c
        apply h.last
        rw [List.getLast?_eq_some_getLast hn, c]
      rw [decide_eq_false this]
      simp
  · have : (List.map (fun x => m_is_within x 0 (p - 1)) r).all id = true := by
      rw [List.all_map, List.all_eq_true]
      intro e he
      exact within_ok hb.2 (h.res e he)
    simp [this]
theorem new_pre {p : Int} {r : List Int} (h : Told p r) : m_is_prime p = true ∧ m_is_row p r = true := ⟨prime_ok h.1, row_is h.1 h.2.1⟩
theorem okp {p : Int} {r : List Int} (h : Told p r) : Okp ⟨p, r⟩ := ⟨prime_le h.1, h.1, h.2.1⟩
theorem le_pre {p : Int} {r : List Int} (h : Told p r) : 3 ≤ p ∧ p ≤ 31 := prime_le h.1
theorem few_pre {p : Int} {r : List Int} (h : Told p r) : r.length ≤ 1000 ∧ ∀ e ∈ r, 0 ≤ e ∧ e ≤ 31 := (okp h).few
theorem pow_le {p : Int} (hp : 0 ≤ p ∧ p ≤ 31) : ∀ n : Nat, p ^ n ≤ 31 ^ n ∧ 0 ≤ p ^ n
  | 0 => by rw [Int.pow_zero, Int.pow_zero]; decide
  | n + 1 => by
    obtain ⟨h1, h2⟩ := pow_le hp n
    rw [Int.pow_succ, Int.pow_succ]
    exact ⟨Int.mul_le_mul h1 hp.2 hp.1 (by have := (show (0 : Int) ≤ p ^ n from h2); omega), Int.mul_nonneg h2 hp.1⟩
theorem num_top {p : Int} {r : List Int} (h : Small p r) : 0 ≤ val p r ∧ val p r ≤ top60 := by
  have h1 := val_lo h.pr.1 h.res
  have h2 := val_hi h.pr.1 h.res
  have h3 := (pow_le ⟨by have := h.pr; omega, h.pr.2⟩ r.length).1
  have h4 : (31 : Int) ^ r.length ≤ 31 ^ 13 := by
    obtain ⟨d, hd⟩ : ∃ d, 13 = r.length + d := ⟨13 - r.length, by have := h.len; omega⟩
    rw [hd, Int.pow_add]
    have := Int.mul_le_mul_of_nonneg_left (pow_pos' (p := 31) (by decide) d) (show (0 : Int) ≤ 31 ^ r.length by have := pow_pos' (p := 31) (by decide) r.length; omega)
    rwa [Int.mul_one] at this
  have h5 : (31 : Int) ^ 13 ≤ top60 := by decide +kernel
  omega
theorem at_pre {p : Int} {r : List Int} (h : Told p r) : m_is_prime p = true ∧ 3 ≤ p ∧ p ≤ 31 ∧ 0 ≤ m_row_number p r ∧ m_row_number p r ≤ top60 := by
  have := num_top h.small
  rw [num_val]
  exact ⟨prime_ok h.1, (prime_le h.1).1, (prime_le h.1).2, this.1, this.2⟩
theorem ltext_len {p : Int} {r : List Int} (h : Told p r) : (m__law_text r).length ≤ 1000 := by
  rw [ltext_eq]
  have h1 := join_len (m_terms_of r)
  have each : ∀ z ∈ m_terms_of r, z.length ≤ 20 := by
    unfold m_terms_of
    split
    · intro z hz
      obtain ⟨x, hx, rfl⟩ := List.mem_map.mp hz
      have := term_ok (few_pre h) (List.mem_filter.mp hx).1
      exact text_len ⟨this.1, this.2.1⟩ this.2.2
    · intro z hz
      rw [List.mem_singleton.mp hz]
      decide +kernel
  have many : (m_terms_of r).length ≤ 14 := by
    unfold m_terms_of
    split
    · rw [List.length_map]
      refine Nat.le_trans (List.length_filter_le _ _) ?_
      unfold idown
      rw [List.length_map, List.length_range]
      have := h.2.2
      omega
    · decide
  have := sum_le each
  omega
theorem read_pre {p : Int} {r : List Int} (h : Told p r) : p ∈ primes ∧ (m__law_text r).length ≤ 1000 ∧ (m_row_told p (m__law_text r)).isSome = true ∧ m_is_row p ((m_row_told p (m__law_text r)).getD default) = true := by
  have e : m_row_told p (m__law_text r) = some r := by rw [ltext_eq, told_row h.small]
  refine ⟨h.1, ltext_len h, ?_, ?_⟩
  · rw [e]; rfl
  · rw [e]; exact row_is h.1 h.2.1
theorem pow_pre {x : Int} (h : x ∈ irange 0 15) : 0 ≤ x ∧ x ≤ 1000000 := by
  have := mem_irange h
  omega
theorem rng_pre {p : Int} {r : List Int} (h : Told p r) : -4611686018427387904 ≤ p ∧ p < 4611686018427387904 := by
  have := prime_le h.1
  omega
theorem rng_len {p : Int} {r : List Int} (h : Told p r) : (irange 0 p).length ≤ 100000 := by
  have := prime_le h.1
  rw [irange_len]
  omega
theorem rep_len {n : Int} : (repeated [(0 : Int)] n).length = n.toNat := by
  unfold repeated
  simp
theorem rep_pre {p : Int} {r : List Int} (h : Told p r) : -1000000 ≤ 15 - (r.length : Int) ∧ 15 - (r.length : Int) ≤ 1000000 ∧ ([(0 : Int)] : List Int).length * (15 - (r.length : Int)).toNat ≤ 100000 := by
  have := h.2.2
  refine ⟨by omega, by omega, ?_⟩
  rw [List.length_singleton]
  omega
theorem cat_pre {p : Int} {r : List Int} (h : Told p r) : r.length + (repeated [(0 : Int)] (15 - (r.length : Int))).length ≤ 100000 := by
  have := h.2.2
  rw [rep_len]
  omega
end R

namespace R
open PySem PySem.Spec L2 Mir TL RZ
def m__law_is_told (a__law_prime : Int) (a__law_row : List Int) : Bool := (if (!((decide ((((m_Poly___init___V_row a__law_prime a__law_row), (if (!decide (a__law_row = ([] : List Int))) = true then (ixd a__law_row (-(1 : Int))) else (0 : Int))).1).p = a__law_prime)) && ((decide ((((m_Poly___init___V_row a__law_prime a__law_row), (if (!decide (a__law_row = ([] : List Int))) = true then (ixd a__law_row (-(1 : Int))) else (0 : Int))).1).r = a__law_row)) && ((decide ((deg ((m_Poly___init___V_row a__law_prime a__law_row), (if (!decide (a__law_row = ([] : List Int))) = true then (ixd a__law_row (-(1 : Int))) else (0 : Int))).1) = (((a__law_row).length : Int) - (1 : Int)))) && ((decide ((lead ((m_Poly___init___V_row a__law_prime a__law_row), (if (!decide (a__law_row = ([] : List Int))) = true then (ixd a__law_row (-(1 : Int))) else (0 : Int))).1) = ((m_Poly___init___V_row a__law_prime a__law_row), (if (!decide (a__law_row = ([] : List Int))) = true then (ixd a__law_row (-(1 : Int))) else (0 : Int))).2)) && true))))) = true then false else (if ((!decide ((m_Poly_number ((m_Poly___init___V_row a__law_prime a__law_row), (if (!decide (a__law_row = ([] : List Int))) = true then (ixd a__law_row (-(1 : Int))) else (0 : Int))).1) = (m__law_number a__law_prime a__law_row))) || ((!(m_Poly___eq__ (m_poly_at a__law_prime (m_Poly_number ((m_Poly___init___V_row a__law_prime a__law_row), (if (!decide (a__law_row = ([] : List Int))) = true then (ixd a__law_row (-(1 : Int))) else (0 : Int))).1)) ((m_Poly___init___V_row a__law_prime a__law_row), (if (!decide (a__law_row = ([] : List Int))) = true then (ixd a__law_row (-(1 : Int))) else (0 : Int))).1)) || (!decide ((m_Poly___str__ ((m_Poly___init___V_row a__law_prime a__law_row), (if (!decide (a__law_row = ([] : List Int))) = true then (ixd a__law_row (-(1 : Int))) else (0 : Int))).1) = (m__law_text a__law_row))))) = true then false else (if ((!(m_Poly___eq__ (m_Poly_read () a__law_prime (m__law_text a__law_row)) ((m_Poly___init___V_row a__law_prime a__law_row), (if (!decide (a__law_row = ([] : List Int))) = true then (ixd a__law_row (-(1 : Int))) else (0 : Int))).1)) || ((!decide ((isZero ((m_Poly___init___V_row a__law_prime a__law_row), (if (!decide (a__law_row = ([] : List Int))) = true then (ixd a__law_row (-(1 : Int))) else (0 : Int))).1) = (decide (a__law_row = ([] : List Int))))) || (!decide ((isMonic ((m_Poly___init___V_row a__law_prime a__law_row), (if (!decide (a__law_row = ([] : List Int))) = true then (ixd a__law_row (-(1 : Int))) else (0 : Int))).1) = (decide (((m_Poly___init___V_row a__law_prime a__law_row), (if (!decide (a__law_row = ([] : List Int))) = true then (ixd a__law_row (-(1 : Int))) else (0 : Int))).2 = (1 : Int))))))) = true then false else (if (!(((List.map (fun x59 => (decide ((m_Poly___call__ ((m_Poly___init___V_row a__law_prime a__law_row), (if (!decide (a__law_row = ([] : List Int))) = true then (ixd a__law_row (-(1 : Int))) else (0 : Int))).1 x59) = (m__law_worth a__law_prime a__law_row x59)))) (irange 0 a__law_prime))).all id)) = true then false else ((decide ((List.map (fun x84 => (m_Poly___getitem__ ((m_Poly___init___V_row a__law_prime a__law_row), (if (!decide (a__law_row = ([] : List Int))) = true then (ixd a__law_row (-(1 : Int))) else (0 : Int))).1 x84)) (irange 0 (15 : Int))) = (a__law_row ++ (repeated [(0 : Int)] ((15 : Int) - ((a__law_row).length : Int)))))) && (decide ((m_Poly___getitem__ ((m_Poly___init___V_row a__law_prime a__law_row), (if (!decide (a__law_row = ([] : List Int))) = true then (ixd a__law_row (-(1 : Int))) else (0 : Int))).1 (999 : Int)) = (0 : Int))))))))
def sp__law_is_told (K : PySem.W.Frag) (Cc : Cl) : Sp := fun vs H Q _ => ∃ (a__law_prime : Int) (a__law_row : List Int) (v__law_prime v__law_row : V), vs = [v__law_prime, v__law_row] ∧ (pI a__law_prime) v__law_prime H ∧ (pRow K a__law_row) v__law_row H ∧ (a__law_prime ∈ primes ∧ RowOk a__law_prime a__law_row ∧ a__law_row.length ≤ 13) ∧ ∀ u H', Ch [] H H' → Dcs [] H' → (pB (m__law_is_told a__law_prime a__law_row)) u H' → Q u H'
abbrev N__law_is_told : List Str := ["_law_prime", "_law_row", "_law_poly", "_law_lead", "_law_residue", "_law_power"]
theorem sc__law_is_told : FnScope N__law_is_told ["_law_prime", "_law_row"] (defScope s__law_is_told) := ⟨rfl, rfl, rfl, by decide +kernel, rfl, by decide +kernel, by decide +kernel⟩
section
variable {P : Program} {w : World} {K : PySem.W.Frag} {mg : Str → Option Value} {base : Heap}
theorem ok__law_is_told (T : Txt K mg) : FnOk P w K mg base CX0 8 T.f__law_is_told T.fd__law_is_told ["_law_prime", "_law_row"] (sp__law_is_told K T.C) := by
  refine T.F__law_is_told.ok sc__law_is_told (fun vs H Q E h => ?_) (fun cdv A outer s H vs Q E hr h => ?_)
  · obtain ⟨a__law_prime, a__law_row, v__law_prime, v__law_row, rfl, h__law_prime, h__law_row, hpre, q⟩ := h
    rfl
  · obtain ⟨a__law_prime, a__law_row, v__law_prime, v__law_row, rfl, h__law_prime, h__law_row, hpre, q⟩ := h
    refine ⟨_, (pss_cons (ps_asg (pe_tup (pa_cons (pe_make T.mk_Poly (ok_Poly___init___V_row T) (hr.mono (by decide)) (by rfl) T.g_Poly T.b_Poly___init__ .nil pass0 (pa_cons (pv 0) (pa_cons (pv 1) pa_nil))) (pa_cons (pe_ifExp (pt_cmpR (op_neDK K hr.units) (pv 1) (pe_tup pa_nil) (nomark _)) (pe_ix (ix_tupK K) (pv 1) (pe_un un_neg pe_int) (fun _ _ => rfl)) pe_int) pa_nil))) (pg_tupK K (by rfl) (pgs_cons (pg_name (i := 2) sc__law_is_told.nd rfl (Or.inr rfl)) (pgs_cons (pg_name (i := 3) sc__law_is_told.nd rfl (Or.inl rfl)) pgs_nil))))
        (pss_cons (ps_if (pt_cmpR (op_neAK K hr.units) (pe_lst (pa_cons (pe_fldK K (pv 2) rfl) (pa_cons (pe_fldK K (pv 2) rfl) (pa_cons (pe_fldK K (pv 2) rfl) (pa_cons (pe_fldK K (pv 2) rfl) pa_nil))))) (pe_lst (pa_cons (pv 0) (pa_cons (pv 1) (pa_cons (pe_op op_sub (pe_callB (call_len_seqK K) (by rfl) T.z_len (by decide +kernel) (pa_cons (pv 1) pa_nil)) pe_int) (pa_cons (pv 3) pa_nil))))) (nomark _)) (pss_one (ps_ret pe_bl)) pss_nil)
        (pss_cons (ps_if (PW.pt (pw_or (pt_cmpR op_ne (pe_prop (pv 2) T.cl_Poly T.pr_Poly_number (ok_Poly_number T) (hr.mono (by decide)) T.b_Poly_number .nil pass0 rfl) (pe_call (ok__law_number T) (hr.mono (by decide)) (by rfl) T.g__law_number T.F__law_number.kp T.b__law_number .nil pass0 (pa_cons (pv 0) (pa_cons (pv 1) pa_nil))) (nomark _)) (pw_or (pt_cmpR (op_neOwnK K rfl T.s1_Poly___eq__ T.ne_Poly T.ob_Poly (ok_Poly___eq__ T) (hr.mono (by decide)) T.b_Poly___eq__ pass0) (pe_call (ok_poly_at T) (hr.mono (by decide)) (by rfl) T.g_poly_at T.F_poly_at.kp T.b_poly_at .nil pass0 (pa_cons (pv 0) (pa_cons (pe_prop (pv 2) T.cl_Poly T.pr_Poly_number (ok_Poly_number T) (hr.mono (by decide)) T.b_Poly_number .nil pass0 rfl) pa_nil))) (pv 2) (nomark _)) (pw_or1 (pt_cmpR op_ne (pe_callTy (call_strOwn T.s1_Poly___str__ (ok_Poly___str__ T) (hr.mono (by decide)) T.b_Poly___str__ pass0) (by rfl) T.z_str (by decide +kernel) (pa_cons (pv 2) pa_nil)) (pe_call (ok__law_text T) (hr.mono (by decide)) (by rfl) T.g__law_text T.F__law_text.kp T.b__law_text .nil pass0 (pa_cons (pv 1) pa_nil)) (nomark _)))))) (pss_one (ps_ret pe_bl)) pss_nil)
        (pss_cons (ps_if (PW.pt (pw_or (pt_cmpR (op_neOwnK K rfl T.s1_Poly___eq__ T.ne_Poly T.ob_Poly (ok_Poly___eq__ T) (hr.mono (by decide)) T.b_Poly___eq__ pass0) (ClX.pe_cmeth (pe_glob (v := V.ref T.C.Poly) (by rfl) T.g_Poly rfl) T.cr_Poly T.cm_Poly_read ((ok_Poly_read T).raw0 T.b_Poly_read) (hr.mono (by decide)) pass0 (pa_cons (pv 0) (pa_cons (pe_call (ok__law_text T) (hr.mono (by decide)) (by rfl) T.g__law_text T.F__law_text.kp T.b__law_text .nil pass0 (pa_cons (pv 1) pa_nil)) pa_nil))) (pv 2) (nomark _)) (pw_or (pt_cmpR op_ne (pe_fldK K (pv 2) rfl) (pe_cmpR (op_eqDK K hr.units) (pv 1) (pe_tup pa_nil) (nomark _)) (nomark _)) (pw_or1 (pt_cmpR op_ne (pe_fldK K (pv 2) rfl) (pe_cmpR op_eq (pv 3) pe_int (nomark _)) (nomark _)))))) (pss_one (ps_ret pe_bl)) pss_nil)
        (pss_cons (ps_if (pt_not (pt_val (pe_callB (cr_allK K rfl) (by rfl) T.z_all (by decide +kernel) (pa_cons (pe_lc (own := [("_law_residue", 4)]) (g := gName 4) (tt := tYes) rfl sc__law_is_told.nd (pi_range1 (by rfl) T.z_range (pa_cons (pv 0) pa_nil)) (blkOk_by (own := [("_law_residue", 4)]) (N := N__law_is_told) (sc := defScope s__law_is_told) (by decide +kernel)) (fun _ _ _ _ _ => pg_name (i := 4) sc__law_is_told.nd rfl (Or.inl rfl)) (fun _ _ _ _ _ => pts_nil) (fun _ _ _ _ _ => (pe_cmpR op_eq (pe_callOwn (i := 2) T.s1_Poly___call__ T.fi_Poly___call__ (ok_Poly___call__ T) (hr.mono (by decide)) T.b_Poly___call__ pass0 (pa_cons (pv 4) pa_nil)) (pe_call (ok__law_worth T) (hr.mono (by decide)) (by rfl) T.g__law_worth T.F__law_worth.kp T.b__law_worth .nil pass0 (pa_cons (pv 0) (pa_cons (pv 1) (pa_cons (pv 4) pa_nil)))) (nomark _)))) pa_nil)))) (pss_one (ps_ret pe_bl)) pss_nil)
        (pss_one (ps_ret (pe_and (pe_cmpR (op_eqDK K hr.units) (pe_lc (own := [("_law_power", 5)]) (g := gName 5) (tt := tYes) rfl sc__law_is_told.nd (pi_range1 (by rfl) T.z_range (pa_cons pe_int pa_nil)) (blkOk_by (own := [("_law_power", 5)]) (N := N__law_is_told) (sc := defScope s__law_is_told) (by decide +kernel)) (fun _ _ _ _ _ => pg_name (i := 5) sc__law_is_told.nd rfl (Or.inl rfl)) (fun _ _ _ _ _ => pts_nil) (fun _ _ _ _ _ => (pe_ixOwn T.s1_Poly___getitem__ T.fi_Poly___getitem__ (ok_Poly___getitem__ T) (hr.mono (by decide)) T.b_Poly___getitem__ pass0 (pv 2) (pv 5) (fun _ _ => rfl)))) (pe_op op_cat (pe_callTy (call_list_ofK K) (by rfl) T.z_list (by decide +kernel) (pa_cons (pv 1) pa_nil)) (pe_op op_rep (pe_lst (pa_cons pe_int pa_nil)) (pe_op op_sub pe_int (pe_callB (call_len_seqK K) (by rfl) T.z_len (by decide +kernel) (pa_cons (pv 1) pa_nil))))) (nomark _)) (pe_one (pe_cmpR op_eq (pe_ixOwn T.s1_Poly___getitem__ T.fi_Poly___getitem__ (ok_Poly___getitem__ T) (hr.mono (by decide)) T.b_Poly___getitem__ pass0 (pv 2) pe_int (fun _ _ => rfl)) pe_int (nomark _))))))))))), ?_⟩
    have c0 : Ch [] H H := .refl H
    have d0 : Dcs [] H := .nil
    have hq := m__law_is_told.eq_1 a__law_prime a__law_row
    refine q_asg2 (ev_tup (K := K) (ea_cons (ev_Poly___init___V_row (ea_cons (ev_var rfl h__law_prime) (ea_cons (ev_var rfl h__law_row) ea_nil)) (by first | omega | assumption | exact new_pre hpre | exact okp hpre | exact le_pre hpre | exact at_pre hpre | exact few_pre hpre | exact read_pre hpre | exact ⟨okp hpre, mem_irange (by assumption)⟩ | exact ⟨(le_pre hpre).1, (le_pre hpre).2, mem_irange (by assumption)⟩ | exact pow_pre (by assumption) | exact rng_pre hpre | exact rng_len hpre | exact rep_pre hpre | exact cat_pre hpre | decide | (simp only [decide_eq_true_eq, decide_eq_false_iff_not, Bool.not_eq_true', Bool.not_eq_false', Bool.and_eq_true, Bool.or_eq_false_iff, bne_iff_ne, bne_eq_false_iff_eq, ne_eq, Int.not_lt, Int.not_le] at *; first | omega | exact ⟨by omega, by omega⟩))) (ea_cons (ev_if (F := pI) (eb_test (ev_neR (ev_var rfl h__law_row) (EvP.row (r := []) (ev_tup (K := K) ea_nil (by decide))))) (fun hb8 => (ev_ixR (ev_var rfl h__law_row) (ev_neg ev_int) (by first | exact ⟨by omega, by omega⟩ | (refine inb_last ?_; intro hnil; simp [hnil] at *; done) | omega | assumption | exact new_pre hpre | exact okp hpre | exact le_pre hpre | exact at_pre hpre | exact few_pre hpre | exact read_pre hpre | exact ⟨okp hpre, mem_irange (by assumption)⟩ | exact ⟨(le_pre hpre).1, (le_pre hpre).2, mem_irange (by assumption)⟩ | exact pow_pre (by assumption) | exact rng_pre hpre | exact rng_len hpre | exact rep_pre hpre | exact cat_pre hpre | decide | (simp only [decide_eq_true_eq, decide_eq_false_iff_not, Bool.not_eq_true', Bool.not_eq_false', Bool.and_eq_true, Bool.or_eq_false_iff, bne_iff_ne, bne_eq_false_iff_eq, ne_eq, Int.not_lt, Int.not_le] at *; first | omega | exact ⟨by omega, by omega⟩)))) (fun hb8 => ev_int)) ea_nil)) (by show 2 ≤ 100000; decide)) d0 (fun v4 v5 H1 e2 d3 h_6 h_7 => ?_)
    have h__law_prime := (Mono.mono e2 h__law_prime)
    have h__law_row := (Mono.mono e2 h__law_row)
    have c0 := c0.trans e2
    refine q_if (eb_test (ev_neM (K := K) (ev_lst (K := K) (ea_cons (ev_fld (P := (pI (((m_Poly___init___V_row a__law_prime a__law_row), (if (!decide (a__law_row = ([] : List Int))) = true then (ixd a__law_row (-(1 : Int))) else (0 : Int))).1).p)) (ev_var rfl h_6) T.cl_Poly T.n_Poly_prime (by rfl)) (ea_cons (ev_fld (P := (pRow K (((m_Poly___init___V_row a__law_prime a__law_row), (if (!decide (a__law_row = ([] : List Int))) = true then (ixd a__law_row (-(1 : Int))) else (0 : Int))).1).r)) (ev_var rfl h_6) T.cl_Poly T.n_Poly_entries (by rfl)) (ea_cons (ev_fld (P := (pI (deg ((m_Poly___init___V_row a__law_prime a__law_row), (if (!decide (a__law_row = ([] : List Int))) = true then (ixd a__law_row (-(1 : Int))) else (0 : Int))).1))) (ev_var rfl h_6) T.cl_Poly T.n_Poly_degree (by rfl)) (ea_cons (ev_fld (P := (pI (lead ((m_Poly___init___V_row a__law_prime a__law_row), (if (!decide (a__law_row = ([] : List Int))) = true then (ixd a__law_row (-(1 : Int))) else (0 : Int))).1))) (ev_var rfl h_6) T.cl_Poly T.n_Poly_lead (by rfl)) ea_nil)))) (by show 4 ≤ 100000; decide)) (ev_lst (K := K) (ea_cons (ev_var rfl h__law_prime) (ea_cons (ev_var rfl h__law_row) (ea_cons (ev_sub (ev_lenR (ea_cons (ev_var rfl h__law_row) ea_nil)) ev_int) (ea_cons (ev_var rfl h_7) ea_nil)))) (by show 4 ≤ 100000; decide)))) d3 ?_ ?_
    · intro hb12 H9 e10 d11
      have h__law_prime := (Mono.mono e10 h__law_prime)
      have h__law_row := (Mono.mono e10 h__law_row)
      have h_6 := (Mono.mono e10 h_6)
      have h_7 := (Mono.mono e10 h_7)
      have c0 := c0.trans e10
      have hq := hq.trans (if_pos hb12)
      try simp only [decide_eq_true_eq, decide_eq_false_iff_not, Bool.not_eq_true', Bool.not_eq_false', Bool.and_eq_true, Bool.or_eq_false_iff, bne_iff_ne, bne_eq_false_iff_eq, ne_eq, Int.not_lt, Int.not_le] at hb12
      exact s_ret ev_bl d11 (fun v13 H14 e15 d16 h17 => q v13 H14 (c0.trans e15) d16 (tgt (F := pB) hq h17))
    · intro hb21 H18 e19 d20
      have h__law_prime := (Mono.mono e19 h__law_prime)
      have h__law_row := (Mono.mono e19 h__law_row)
      have h_6 := (Mono.mono e19 h_6)
      have h_7 := (Mono.mono e19 h_7)
      have c0 := c0.trans e19
      have hq := hq.trans (ne_true hb21)
      try simp only [decide_eq_true_eq, decide_eq_false_iff_not, Bool.not_eq_true', Bool.not_eq_false', Bool.and_eq_true, Bool.or_eq_false_iff, bne_iff_ne, bne_eq_false_iff_eq, ne_eq, Int.not_lt, Int.not_le] at hb21
      refine q_if (eb_or (eb_test (ev_neI (ev_prop (ev_var rfl h_6) (fun vs H1 d k Q q => cv_Poly_number (by first | omega | assumption | exact new_pre hpre | exact okp hpre | exact le_pre hpre | exact at_pre hpre | exact few_pre hpre | exact read_pre hpre | exact ⟨okp hpre, mem_irange (by assumption)⟩ | exact ⟨(le_pre hpre).1, (le_pre hpre).2, mem_irange (by assumption)⟩ | exact pow_pre (by assumption) | exact rng_pre hpre | exact rng_len hpre | exact rep_pre hpre | exact cat_pre hpre | decide | (simp only [decide_eq_true_eq, decide_eq_false_iff_not, Bool.not_eq_true', Bool.not_eq_false', Bool.and_eq_true, Bool.or_eq_false_iff, bne_iff_ne, bne_eq_false_iff_eq, ne_eq, Int.not_lt, Int.not_le] at *; first | omega | exact ⟨by omega, by omega⟩)) d k Q q)) (ev__law_number (ea_cons (ev_var rfl h__law_prime) (ea_cons (ev_var rfl h__law_row) ea_nil)) (by first | omega | assumption | exact new_pre hpre | exact okp hpre | exact le_pre hpre | exact at_pre hpre | exact few_pre hpre | exact read_pre hpre | exact ⟨okp hpre, mem_irange (by assumption)⟩ | exact ⟨(le_pre hpre).1, (le_pre hpre).2, mem_irange (by assumption)⟩ | exact pow_pre (by assumption) | exact rng_pre hpre | exact rng_len hpre | exact rep_pre hpre | exact cat_pre hpre | decide | (simp only [decide_eq_true_eq, decide_eq_false_iff_not, Bool.not_eq_true', Bool.not_eq_false', Bool.and_eq_true, Bool.or_eq_false_iff, bne_iff_ne, bne_eq_false_iff_eq, ne_eq, Int.not_lt, Int.not_le] at *; first | omega | exact ⟨by omega, by omega⟩))))) (fun hb22 => (eb_or (eb_test (ev_neOwn (ev_poly_at (ea_cons (ev_var rfl h__law_prime) (ea_cons (ev_prop (ev_var rfl h_6) (fun vs H1 d k Q q => cv_Poly_number (by first | omega | assumption | exact new_pre hpre | exact okp hpre | exact le_pre hpre | exact at_pre hpre | exact few_pre hpre | exact read_pre hpre | exact ⟨okp hpre, mem_irange (by assumption)⟩ | exact ⟨(le_pre hpre).1, (le_pre hpre).2, mem_irange (by assumption)⟩ | exact pow_pre (by assumption) | exact rng_pre hpre | exact rng_len hpre | exact rep_pre hpre | exact cat_pre hpre | decide | (simp only [decide_eq_true_eq, decide_eq_false_iff_not, Bool.not_eq_true', Bool.not_eq_false', Bool.and_eq_true, Bool.or_eq_false_iff, bne_iff_ne, bne_eq_false_iff_eq, ne_eq, Int.not_lt, Int.not_le] at *; first | omega | exact ⟨by omega, by omega⟩)) d k Q q)) ea_nil)) (by first | omega | assumption | exact new_pre hpre | exact okp hpre | exact le_pre hpre | exact at_pre hpre | exact few_pre hpre | exact read_pre hpre | exact ⟨okp hpre, mem_irange (by assumption)⟩ | exact ⟨(le_pre hpre).1, (le_pre hpre).2, mem_irange (by assumption)⟩ | exact pow_pre (by assumption) | exact rng_pre hpre | exact rng_len hpre | exact rep_pre hpre | exact cat_pre hpre | decide | (simp only [decide_eq_true_eq, decide_eq_false_iff_not, Bool.not_eq_true', Bool.not_eq_false', Bool.and_eq_true, Bool.or_eq_false_iff, bne_iff_ne, bne_eq_false_iff_eq, ne_eq, Int.not_lt, Int.not_le] at *; first | omega | exact ⟨by omega, by omega⟩))) (ev_var rfl h_6) (fun _ _ h => T.is_Poly.ty h) T.nf_Poly__ref_C_Poly (fun vs H1 d k Q q => cv_Poly___eq__ (by first | omega | assumption | exact new_pre hpre | exact okp hpre | exact le_pre hpre | exact at_pre hpre | exact few_pre hpre | exact read_pre hpre | exact ⟨okp hpre, mem_irange (by assumption)⟩ | exact ⟨(le_pre hpre).1, (le_pre hpre).2, mem_irange (by assumption)⟩ | exact pow_pre (by assumption) | exact rng_pre hpre | exact rng_len hpre | exact rep_pre hpre | exact cat_pre hpre | decide | (simp only [decide_eq_true_eq, decide_eq_false_iff_not, Bool.not_eq_true', Bool.not_eq_false', Bool.and_eq_true, Bool.or_eq_false_iff, bne_iff_ne, bne_eq_false_iff_eq, ne_eq, Int.not_lt, Int.not_le] at *; first | omega | exact ⟨by omega, by omega⟩)) d k Q q))) (fun hb23 => (eb_test (ev_neS (ev_strOwn (ea_cons (ev_var rfl h_6) ea_nil) (fun vs H1 d k Q q => cv_Poly___str__ (by first | omega | assumption | exact new_pre hpre | exact okp hpre | exact le_pre hpre | exact at_pre hpre | exact few_pre hpre | exact read_pre hpre | exact ⟨okp hpre, mem_irange (by assumption)⟩ | exact ⟨(le_pre hpre).1, (le_pre hpre).2, mem_irange (by assumption)⟩ | exact pow_pre (by assumption) | exact rng_pre hpre | exact rng_len hpre | exact rep_pre hpre | exact cat_pre hpre | decide | (simp only [decide_eq_true_eq, decide_eq_false_iff_not, Bool.not_eq_true', Bool.not_eq_false', Bool.and_eq_true, Bool.or_eq_false_iff, bne_iff_ne, bne_eq_false_iff_eq, ne_eq, Int.not_lt, Int.not_le] at *; first | omega | exact ⟨by omega, by omega⟩)) d k Q q)) (ev__law_text (ea_cons (ev_var rfl h__law_row) ea_nil) (by first | omega | assumption | exact new_pre hpre | exact okp hpre | exact le_pre hpre | exact at_pre hpre | exact few_pre hpre | exact read_pre hpre | exact ⟨okp hpre, mem_irange (by assumption)⟩ | exact ⟨(le_pre hpre).1, (le_pre hpre).2, mem_irange (by assumption)⟩ | exact pow_pre (by assumption) | exact rng_pre hpre | exact rng_len hpre | exact rep_pre hpre | exact cat_pre hpre | decide | (simp only [decide_eq_true_eq, decide_eq_false_iff_not, Bool.not_eq_true', Bool.not_eq_false', Bool.and_eq_true, Bool.or_eq_false_iff, bne_iff_ne, bne_eq_false_iff_eq, ne_eq, Int.not_lt, Int.not_le] at *; first | omega | exact ⟨by omega, by omega⟩))))))))) d20 ?_ ?_
      · intro hb28 H25 e26 d27
        have h__law_prime := (Mono.mono e26 h__law_prime)
        have h__law_row := (Mono.mono e26 h__law_row)
        have h_6 := (Mono.mono e26 h_6)
        have h_7 := (Mono.mono e26 h_7)
        have c0 := c0.trans e26
        have hq := hq.trans (if_pos hb28)
        try simp only [decide_eq_true_eq, decide_eq_false_iff_not, Bool.not_eq_true', Bool.not_eq_false', Bool.and_eq_true, Bool.or_eq_false_iff, bne_iff_ne, bne_eq_false_iff_eq, ne_eq, Int.not_lt, Int.not_le] at hb28
        exact s_ret ev_bl d27 (fun v29 H30 e31 d32 h33 => q v29 H30 (c0.trans e31) d32 (tgt (F := pB) hq h33))
      · intro hb37 H34 e35 d36
        have h__law_prime := (Mono.mono e35 h__law_prime)
        have h__law_row := (Mono.mono e35 h__law_row)
        have h_6 := (Mono.mono e35 h_6)
        have h_7 := (Mono.mono e35 h_7)
        have c0 := c0.trans e35
        have hq := hq.trans (ne_true hb37)
        try simp only [decide_eq_true_eq, decide_eq_false_iff_not, Bool.not_eq_true', Bool.not_eq_false', Bool.and_eq_true, Bool.or_eq_false_iff, bne_iff_ne, bne_eq_false_iff_eq, ne_eq, Int.not_lt, Int.not_le] at hb37
        refine q_if (eb_or (eb_test (ev_neOwn (ev_cmeth (ev_ty (c := V.ref T.C.Poly)) (ea_cons (ev_var rfl h__law_prime) (ea_cons (ev__law_text (ea_cons (ev_var rfl h__law_row) ea_nil) (by first | omega | assumption | exact new_pre hpre | exact okp hpre | exact le_pre hpre | exact at_pre hpre | exact few_pre hpre | exact read_pre hpre | exact ⟨okp hpre, mem_irange (by assumption)⟩ | exact ⟨(le_pre hpre).1, (le_pre hpre).2, mem_irange (by assumption)⟩ | exact pow_pre (by assumption) | exact rng_pre hpre | exact rng_len hpre | exact rep_pre hpre | exact cat_pre hpre | decide | (simp only [decide_eq_true_eq, decide_eq_false_iff_not, Bool.not_eq_true', Bool.not_eq_false', Bool.and_eq_true, Bool.or_eq_false_iff, bne_iff_ne, bne_eq_false_iff_eq, ne_eq, Int.not_lt, Int.not_le] at *; first | omega | exact ⟨by omega, by omega⟩))) ea_nil)) (fun vs H1 d k Q q => cv_Poly_read (a_cls := ()) (by first | omega | assumption | exact new_pre hpre | exact okp hpre | exact le_pre hpre | exact at_pre hpre | exact few_pre hpre | exact read_pre hpre | exact ⟨okp hpre, mem_irange (by assumption)⟩ | exact ⟨(le_pre hpre).1, (le_pre hpre).2, mem_irange (by assumption)⟩ | exact pow_pre (by assumption) | exact rng_pre hpre | exact rng_len hpre | exact rep_pre hpre | exact cat_pre hpre | decide | (simp only [decide_eq_true_eq, decide_eq_false_iff_not, Bool.not_eq_true', Bool.not_eq_false', Bool.and_eq_true, Bool.or_eq_false_iff, bne_iff_ne, bne_eq_false_iff_eq, ne_eq, Int.not_lt, Int.not_le] at *; first | omega | exact ⟨by omega, by omega⟩)) d k Q q)) (ev_var rfl h_6) (fun _ _ h => T.is_Poly.ty h) T.nf_Poly__ref_C_Poly (fun vs H1 d k Q q => cv_Poly___eq__ (by first | omega | assumption | exact new_pre hpre | exact okp hpre | exact le_pre hpre | exact at_pre hpre | exact few_pre hpre | exact read_pre hpre | exact ⟨okp hpre, mem_irange (by assumption)⟩ | exact ⟨(le_pre hpre).1, (le_pre hpre).2, mem_irange (by assumption)⟩ | exact pow_pre (by assumption) | exact rng_pre hpre | exact rng_len hpre | exact rep_pre hpre | exact cat_pre hpre | decide | (simp only [decide_eq_true_eq, decide_eq_false_iff_not, Bool.not_eq_true', Bool.not_eq_false', Bool.and_eq_true, Bool.or_eq_false_iff, bne_iff_ne, bne_eq_false_iff_eq, ne_eq, Int.not_lt, Int.not_le] at *; first | omega | exact ⟨by omega, by omega⟩)) d k Q q))) (fun hb38 => (eb_or (eb_test (ev_neB (ev_fld (P := (pB (isZero ((m_Poly___init___V_row a__law_prime a__law_row), (if (!decide (a__law_row = ([] : List Int))) = true then (ixd a__law_row (-(1 : Int))) else (0 : Int))).1))) (ev_var rfl h_6) T.cl_Poly T.n_Poly_is_zero (by rfl)) (ev_eqR (ev_var rfl h__law_row) (EvP.row (r := []) (ev_tup (K := K) ea_nil (by decide)))))) (fun hb39 => (eb_test (ev_neB (ev_fld (P := (pB (isMonic ((m_Poly___init___V_row a__law_prime a__law_row), (if (!decide (a__law_row = ([] : List Int))) = true then (ixd a__law_row (-(1 : Int))) else (0 : Int))).1))) (ev_var rfl h_6) T.cl_Poly T.n_Poly_is_monic (by rfl)) (ev_eqI (ev_var rfl h_7) ev_int))))))) d36 ?_ ?_
        · intro hb44 H41 e42 d43
          have h__law_prime := (Mono.mono e42 h__law_prime)
          have h__law_row := (Mono.mono e42 h__law_row)
          have h_6 := (Mono.mono e42 h_6)
          have h_7 := (Mono.mono e42 h_7)
          have c0 := c0.trans e42
          have hq := hq.trans (if_pos hb44)
          try simp only [decide_eq_true_eq, decide_eq_false_iff_not, Bool.not_eq_true', Bool.not_eq_false', Bool.and_eq_true, Bool.or_eq_false_iff, bne_iff_ne, bne_eq_false_iff_eq, ne_eq, Int.not_lt, Int.not_le] at hb44
          exact s_ret ev_bl d43 (fun v45 H46 e47 d48 h49 => q v45 H46 (c0.trans e47) d48 (tgt (F := pB) hq h49))
        · intro hb53 H50 e51 d52
          have h__law_prime := (Mono.mono e51 h__law_prime)
          have h__law_row := (Mono.mono e51 h__law_row)
          have h_6 := (Mono.mono e51 h_6)
          have h_7 := (Mono.mono e51 h_7)
          have c0 := c0.trans e51
          have hq := hq.trans (ne_true hb53)
          try simp only [decide_eq_true_eq, decide_eq_false_iff_not, Bool.not_eq_true', Bool.not_eq_false', Bool.and_eq_true, Bool.or_eq_false_iff, bne_iff_ne, bne_eq_false_iff_eq, ne_eq, Int.not_lt, Int.not_le] at hb53
          refine q_if (eb_not (eb_val (ev_all (ea_cons (EvP.map (K := K) (G := pB) (g := fun x59 => (decide ((m_Poly___call__ ((m_Poly___init___V_row a__law_prime a__law_row), (if (!decide (a__law_row = ([] : List Int))) = true then (ixd a__law_row (-(1 : Int))) else (0 : Int))).1 x59) = (m__law_worth a__law_prime a__law_row x59)))) (ev_lc1 (F := pI) (G := fun x59 => (pB (decide ((m_Poly___call__ ((m_Poly___init___V_row a__law_prime a__law_row), (if (!decide (a__law_row = ([] : List Int))) = true then (ixd a__law_row (-(1 : Int))) else (0 : Int))).1 x59) = (m__law_worth a__law_prime a__law_row x59))))) (xs := (irange 0 a__law_prime)) (src_range1 (ea_cons (ev_var rfl h__law_prime) ea_nil) (by first | exact ⟨by omega, by omega⟩ | exact ⟨by omega, by omega, by omega, by omega⟩ | omega | assumption | exact new_pre hpre | exact okp hpre | exact le_pre hpre | exact at_pre hpre | exact few_pre hpre | exact read_pre hpre | exact ⟨okp hpre, mem_irange (by assumption)⟩ | exact ⟨(le_pre hpre).1, (le_pre hpre).2, mem_irange (by assumption)⟩ | exact pow_pre (by assumption) | exact rng_pre hpre | exact rng_len hpre | exact rep_pre hpre | exact cat_pre hpre | decide | (simp only [decide_eq_true_eq, decide_eq_false_iff_not, Bool.not_eq_true', Bool.not_eq_false', Bool.and_eq_true, Bool.or_eq_false_iff, bne_iff_ne, bne_eq_false_iff_eq, ne_eq, Int.not_lt, Int.not_le] at *; first | omega | exact ⟨by omega, by omega⟩))) (by first | omega | assumption | exact new_pre hpre | exact okp hpre | exact le_pre hpre | exact at_pre hpre | exact few_pre hpre | exact read_pre hpre | exact ⟨okp hpre, mem_irange (by assumption)⟩ | exact ⟨(le_pre hpre).1, (le_pre hpre).2, mem_irange (by assumption)⟩ | exact pow_pre (by assumption) | exact rng_pre hpre | exact rng_len hpre | exact rep_pre hpre | exact cat_pre hpre | decide | (simp only [decide_eq_true_eq, decide_eq_false_iff_not, Bool.not_eq_true', Bool.not_eq_false', Bool.and_eq_true, Bool.or_eq_false_iff, bne_iff_ne, bne_eq_false_iff_eq, ne_eq, Int.not_lt, Int.not_le] at *; first | omega | exact ⟨by omega, by omega⟩)) (wipe1 (by decide)) (fun x59 hx_x59 v55 H57 e54 d58 p56 => (ev_eqI (ev_callOwn rfl (Mono.mono e54 h_6) (ea_cons (ev_var rfl p56) ea_nil) (fun vs H1 d k Q q => cv_Poly___call__ (by first | omega | assumption | exact new_pre hpre | exact okp hpre | exact le_pre hpre | exact at_pre hpre | exact few_pre hpre | exact read_pre hpre | exact ⟨okp hpre, mem_irange (by assumption)⟩ | exact ⟨(le_pre hpre).1, (le_pre hpre).2, mem_irange (by assumption)⟩ | exact pow_pre (by assumption) | exact rng_pre hpre | exact rng_len hpre | exact rep_pre hpre | exact cat_pre hpre | decide | (simp only [decide_eq_true_eq, decide_eq_false_iff_not, Bool.not_eq_true', Bool.not_eq_false', Bool.and_eq_true, Bool.or_eq_false_iff, bne_iff_ne, bne_eq_false_iff_eq, ne_eq, Int.not_lt, Int.not_le] at *; first | omega | exact ⟨by omega, by omega⟩)) d k Q q)) (ev__law_worth (ea_cons (ev_var rfl (Mono.mono e54 h__law_prime)) (ea_cons (ev_var rfl (Mono.mono e54 h__law_row)) (ea_cons (ev_var rfl p56) ea_nil))) (by first | omega | assumption | exact new_pre hpre | exact okp hpre | exact le_pre hpre | exact at_pre hpre | exact few_pre hpre | exact read_pre hpre | exact ⟨okp hpre, mem_irange (by assumption)⟩ | exact ⟨(le_pre hpre).1, (le_pre hpre).2, mem_irange (by assumption)⟩ | exact pow_pre (by assumption) | exact rng_pre hpre | exact rng_len hpre | exact rep_pre hpre | exact cat_pre hpre | decide | (simp only [decide_eq_true_eq, decide_eq_false_iff_not, Bool.not_eq_true', Bool.not_eq_false', Bool.and_eq_true, Bool.or_eq_false_iff, bne_iff_ne, bne_eq_false_iff_eq, ne_eq, Int.not_lt, Int.not_le] at *; first | omega | exact ⟨by omega, by omega⟩))))))) ea_nil)))) d52 ?_ ?_
          · intro hb63 H60 e61 d62
            have h__law_prime := (Mono.mono e61 h__law_prime)
            have h__law_row := (Mono.mono e61 h__law_row)
            have h_6 := (Mono.mono e61 h_6)
            have h_7 := (Mono.mono e61 h_7)
            have c0 := c0.trans e61
            have hq := hq.trans (if_pos hb63)
            try simp only [decide_eq_true_eq, decide_eq_false_iff_not, Bool.not_eq_true', Bool.not_eq_false', Bool.and_eq_true, Bool.or_eq_false_iff, bne_iff_ne, bne_eq_false_iff_eq, ne_eq, Int.not_lt, Int.not_le] at hb63
            exact s_ret ev_bl d62 (fun v64 H65 e66 d67 h68 => q v64 H65 (c0.trans e66) d67 (tgt (F := pB) hq h68))
          · intro hb72 H69 e70 d71
            have h__law_prime := (Mono.mono e70 h__law_prime)
            have h__law_row := (Mono.mono e70 h__law_row)
            have h_6 := (Mono.mono e70 h_6)
            have h_7 := (Mono.mono e70 h_7)
            have c0 := c0.trans e70
            have hq := hq.trans (ne_true hb72)
            try simp only [decide_eq_true_eq, decide_eq_false_iff_not, Bool.not_eq_true', Bool.not_eq_false', Bool.and_eq_true, Bool.or_eq_false_iff, bne_iff_ne, bne_eq_false_iff_eq, ne_eq, Int.not_lt, Int.not_le] at hb72
            exact s_ret (ev_and (ev_eqLI (EvP.map (K := K) (G := pI) (g := fun x84 => (m_Poly___getitem__ ((m_Poly___init___V_row a__law_prime a__law_row), (if (!decide (a__law_row = ([] : List Int))) = true then (ixd a__law_row (-(1 : Int))) else (0 : Int))).1 x84)) (ev_lc1 (F := pI) (G := fun x84 => (pI (m_Poly___getitem__ ((m_Poly___init___V_row a__law_prime a__law_row), (if (!decide (a__law_row = ([] : List Int))) = true then (ixd a__law_row (-(1 : Int))) else (0 : Int))).1 x84))) (xs := (irange 0 (15 : Int))) (src_range1 (ea_cons ev_int ea_nil) (by first | exact ⟨by omega, by omega⟩ | exact ⟨by omega, by omega, by omega, by omega⟩ | omega | assumption | exact new_pre hpre | exact okp hpre | exact le_pre hpre | exact at_pre hpre | exact few_pre hpre | exact read_pre hpre | exact ⟨okp hpre, mem_irange (by assumption)⟩ | exact ⟨(le_pre hpre).1, (le_pre hpre).2, mem_irange (by assumption)⟩ | exact pow_pre (by assumption) | exact rng_pre hpre | exact rng_len hpre | exact rep_pre hpre | exact cat_pre hpre | decide | (simp only [decide_eq_true_eq, decide_eq_false_iff_not, Bool.not_eq_true', Bool.not_eq_false', Bool.and_eq_true, Bool.or_eq_false_iff, bne_iff_ne, bne_eq_false_iff_eq, ne_eq, Int.not_lt, Int.not_le] at *; first | omega | exact ⟨by omega, by omega⟩))) (by first | omega | assumption | exact new_pre hpre | exact okp hpre | exact le_pre hpre | exact at_pre hpre | exact few_pre hpre | exact read_pre hpre | exact ⟨okp hpre, mem_irange (by assumption)⟩ | exact ⟨(le_pre hpre).1, (le_pre hpre).2, mem_irange (by assumption)⟩ | exact pow_pre (by assumption) | exact rng_pre hpre | exact rng_len hpre | exact rep_pre hpre | exact cat_pre hpre | decide | (simp only [decide_eq_true_eq, decide_eq_false_iff_not, Bool.not_eq_true', Bool.not_eq_false', Bool.and_eq_true, Bool.or_eq_false_iff, bne_iff_ne, bne_eq_false_iff_eq, ne_eq, Int.not_lt, Int.not_le] at *; first | omega | exact ⟨by omega, by omega⟩)) (wipe1 (by decide)) (fun x84 hx_x84 v80 H82 e79 d83 p81 => (ev_ixOwn (ev_var rfl (Mono.mono e79 h_6)) (ev_var rfl p81) (fun vs H1 d k Q q => cv_Poly___getitem__ (by first | omega | assumption | exact new_pre hpre | exact okp hpre | exact le_pre hpre | exact at_pre hpre | exact few_pre hpre | exact read_pre hpre | exact ⟨okp hpre, mem_irange (by assumption)⟩ | exact ⟨(le_pre hpre).1, (le_pre hpre).2, mem_irange (by assumption)⟩ | exact pow_pre (by assumption) | exact rng_pre hpre | exact rng_len hpre | exact rep_pre hpre | exact cat_pre hpre | decide | (simp only [decide_eq_true_eq, decide_eq_false_iff_not, Bool.not_eq_true', Bool.not_eq_false', Bool.and_eq_true, Bool.or_eq_false_iff, bne_iff_ne, bne_eq_false_iff_eq, ne_eq, Int.not_lt, Int.not_le] at *; first | omega | exact ⟨by omega, by omega⟩)) d k Q q))))) (ev_catL (ev_listR (ea_cons (ev_var rfl h__law_row) ea_nil)) (ev_rep (EvP.lst (K := K) (F := pI) (xs := [(0 : Int)]) (ev_lst (K := K) (ea_cons ev_int ea_nil) (by show 1 ≤ 100000; decide))) (ev_sub ev_int (ev_lenR (ea_cons (ev_var rfl h__law_row) ea_nil))) (by first | omega | assumption | exact new_pre hpre | exact okp hpre | exact le_pre hpre | exact at_pre hpre | exact few_pre hpre | exact read_pre hpre | exact ⟨okp hpre, mem_irange (by assumption)⟩ | exact ⟨(le_pre hpre).1, (le_pre hpre).2, mem_irange (by assumption)⟩ | exact pow_pre (by assumption) | exact rng_pre hpre | exact rng_len hpre | exact rep_pre hpre | exact cat_pre hpre | decide | (simp only [decide_eq_true_eq, decide_eq_false_iff_not, Bool.not_eq_true', Bool.not_eq_false', Bool.and_eq_true, Bool.or_eq_false_iff, bne_iff_ne, bne_eq_false_iff_eq, ne_eq, Int.not_lt, Int.not_le] at *; first | omega | exact ⟨by omega, by omega⟩))) (by first | omega | assumption | exact new_pre hpre | exact okp hpre | exact le_pre hpre | exact at_pre hpre | exact few_pre hpre | exact read_pre hpre | exact ⟨okp hpre, mem_irange (by assumption)⟩ | exact ⟨(le_pre hpre).1, (le_pre hpre).2, mem_irange (by assumption)⟩ | exact pow_pre (by assumption) | exact rng_pre hpre | exact rng_len hpre | exact rep_pre hpre | exact cat_pre hpre | decide | (simp only [decide_eq_true_eq, decide_eq_false_iff_not, Bool.not_eq_true', Bool.not_eq_false', Bool.and_eq_true, Bool.or_eq_false_iff, bne_iff_ne, bne_eq_false_iff_eq, ne_eq, Int.not_lt, Int.not_le] at *; first | omega | exact ⟨by omega, by omega⟩)))) (fun hb85 => (ev_eqI (ev_ixOwn (ev_var rfl h_6) ev_int (fun vs H1 d k Q q => cv_Poly___getitem__ (by first | omega | assumption | exact new_pre hpre | exact okp hpre | exact le_pre hpre | exact at_pre hpre | exact few_pre hpre | exact read_pre hpre | exact ⟨okp hpre, mem_irange (by assumption)⟩ | exact ⟨(le_pre hpre).1, (le_pre hpre).2, mem_irange (by assumption)⟩ | exact pow_pre (by assumption) | exact rng_pre hpre | exact rng_len hpre | exact rep_pre hpre | exact cat_pre hpre | decide | (simp only [decide_eq_true_eq, decide_eq_false_iff_not, Bool.not_eq_true', Bool.not_eq_false', Bool.and_eq_true, Bool.or_eq_false_iff, bne_iff_ne, bne_eq_false_iff_eq, ne_eq, Int.not_lt, Int.not_le] at *; first | omega | exact ⟨by omega, by omega⟩)) d k Q q)) ev_int))) d71 (fun v87 H88 e89 d90 h91 => q v87 H88 (c0.trans e89) d90 (tgt (F := pB) hq h91))
theorem cv__law_is_told {Cc : Cl} {M : List Addr} {E : XK} {vs : List V} {H1 : Hp} {a__law_prime : Int} {a__law_row : List Int} (pre : (a__law_prime ∈ primes ∧ RowOk a__law_prime a__law_row ∧ a__law_row.length ≤ 13)) (d : Dcs M H1) (k : All2 [(pI a__law_prime), (pRow K a__law_row)] vs H1) (Q : VK) (q : ∀ v H2, Ch M H1 H2 → Dcs M H2 → (pB (m__law_is_told a__law_prime a__law_row)) v H2 → Q v H2) : sp__law_is_told K Cc vs H1 Q E := by
  obtain ⟨v__law_prime, v__law_row, rfl, h__law_prime, h__law_row⟩ := all2 k
  exact ⟨a__law_prime, a__law_row, v__law_prime, v__law_row, rfl, h__law_prime, h__law_row, pre, fun u H' c _ r => q u H' c.any (d.new c.same) r⟩
theorem ev__law_is_told {Cc : Cl} {M : List Addr} {σ : St} {H : Hp} {tr : TA} {E : XK} {a__law_prime : Int} {a__law_row : List Int} (h : EvA M tr σ H [(pI a__law_prime), (pRow K a__law_row)]) (pre : (a__law_prime ∈ primes ∧ RowOk a__law_prime a__law_row ∧ a__law_row.length ≤ 13)) : EvP M (tCall (sp__law_is_told K Cc) [] E tr) σ H (pB (m__law_is_told a__law_prime a__law_row)) := ev_call h fun vs H1 d k Q q => cv__law_is_told pre d k Q q
end
end R

namespace R
open PySem PySem.Spec L2 Mir TL RZ
def sp__law_pick (K : PySem.W.Frag) (Cc : Cl) : Sp := fun vs H Q _ => ∃ (a b : Addr) (xs : List V), vs = [.ref a, .ref b] ∧ Dc a H ∧ b ≠ a ∧ SqL K H b xs ∧ 0 < xs.length ∧ xs.length < 1000000000 ∧ ∀ v H', Ch [a] H H' → Dc a H' → v ∈ xs → Q v H'
abbrev N__law_pick : List Str := ["_law_dice_here", "_law_items"]
theorem sc__law_pick : FnScope N__law_pick ["_law_dice_here", "_law_items"] (defScope s__law_pick) := ⟨rfl, rfl, rfl, by decide +kernel, rfl, by decide +kernel, by decide +kernel⟩
section
variable {P : Program} {w : World} {K : PySem.W.Frag} {mg : Str → Option Value} {base : Heap}
theorem ok__law_pick (T : Txt K mg) : FnOk P w K mg base CX0 2 T.f__law_pick T.fd__law_pick ["_law_dice_here", "_law_items"] (sp__law_pick K T.C) := by
  refine T.F__law_pick.ok sc__law_pick (fun vs H Q E h => ?_) (fun cdv A outer s H vs Q E hr h => ?_)
  · obtain ⟨a, b, xs, rfl, hd, ne, hS, h0, h1, q⟩ := h
    rfl
  · obtain ⟨a, b, xs, rfl, hd, ne, hS, h0, h1, q⟩ := h
    refine ⟨_, (pss_one (ps_ret (pe_ix (ix_listK K) (pv 1) (pe_call (ok__law_roll T) (hr.mono (by decide)) (by rfl) T.g__law_roll T.F__law_roll.kp T.b__law_roll .nil pass0 (pa_cons (pv 0) (pa_cons (pe_callB call_len (by rfl) T.z_len (by decide +kernel) (pa_cons (pv 1) pa_nil)) pa_nil))) (fun _ _ => rfl)))), ?_⟩
    refine ⟨_, rfl, _, rfl, _, rfl, _, _, rfl, .inl ⟨_, hS, rfl⟩, a, _, rfl, hd, by omega, by omega, fun r H' m dd r0 r1 => ?_⟩
    have hi : r.toNat < xs.length := by omega
    have hr' : atI xs r = some xs[r.toNat] := by
      have e : (r.toNat : Int) = r := by omega
      have g := atI_nat (List.getElem?_eq_getElem hi)
      rw [e] at g
      exact g
    exact ⟨b, xs, r, _, rfl, rfl, sqL_mono m (by simpa using ne) hS, hr', q _ _ m dd (List.getElem_mem hi)⟩
theorem ev__law_pick {Cc : Cl} {a : Addr} {α : Type} {F : α → PV} [fz : ∀ x, FzP (F x)] {σ : St} {H : Hp} {tr : TA} {E : XK} {xs : List α} (h : EvA [a] tr σ H [pD a, pL K [a] (xs.map F)]) (pre : 0 < xs.length ∧ xs.length < 1000000) : EvP [a] (tCall (sp__law_pick K Cc) [] E tr) σ H (pX (fun x => x ∈ xs) F) := ev_call h fun vs H1 d k Q q => by
  obtain ⟨v, w, rfl, rfl, b, ws, rfl, n, s, kk⟩ := all2 k
  have ln : ws.length = xs.length := by rw [kk.len, List.length_map]
  refine ⟨a, b, ws, rfl, d.one, by simpa using n, SqL.of s, by omega, by omega, fun u H' c d' hu => ?_⟩
  obtain ⟨i, hi, rfl⟩ := List.getElem_of_mem hu
  obtain ⟨P, hP, p⟩ := kk.getV (i := i) (v := ws[i]) (List.getElem?_eq_getElem hi)
  rw [List.getElem?_map] at hP
  obtain ⟨x, hx, rfl⟩ := Option.map_eq_some_iff.mp hP
  exact q _ H' c (dcs1 d') ⟨x, List.mem_of_getElem? hx, (fz x).mono c.fz p⟩
end
end R

namespace R
open PySem PySem.Spec L2 Mir TL RZ
theorem lead_eq (p : Int) (r : List Int) : lead ⟨p, r⟩ = (if (!decide (r = ([] : List Int))) = true then (ixd r (-(1 : Int))) else (0 : Int)) := by
  unfold lead
  cases r <;> rfl
theorem zero_eq (p : Int) (r : List Int) : isZero ⟨p, r⟩ = decide (r = []) := by
  unfold isZero
  cases r <;> rfl
theorem back_eq {p : Int} {r : List Int} (h : Told p r) : m_Poly___eq__ (m_poly_at p (m_Poly_number ⟨p, r⟩)) ⟨p, r⟩ = true := by
  show (true && (decide (p = p) && decide (m_row_at p (m_row_number p r) = r))) = true
  rw [num_val, row_at_num h.small.pr.1 h.small.res h.small.nz]
  simp
theorem read_eq {p : Int} {r : List Int} (h : Told p r) : m_Poly_read () p (m__law_text r) = ⟨p, r⟩ := by
  have e : m_row_told p (m__law_text r) = some r := by rw [ltext_eq, told_row h.small]
  unfold m_Poly_read
  rw [e]
  rfl
theorem self_eq (x : Pol) : m_Poly___eq__ x x = true := by
  unfold m_Poly___eq__
  simp
theorem get_eq (p : Int) (r : List Int) {i : Nat} : m_Poly___getitem__ ⟨p, r⟩ (i : Int) = (r[i]?).getD 0 := by
  show (if decide ((i : Int) < (r.length : Int)) = true then ixd r i else 0) = _
  by_cases c : i < r.length
  · rw [if_pos (decide_eq_true (by omega)), ixd_nat c, List.getElem?_eq_getElem c]
    rfl
  · rw [if_neg (by rw [decide_eq_true_eq]; omega), List.getElem?_eq_none (by omega)]
    rfl
theorem irange_get {n : Nat} {i : Nat} : (irange 0 (n : Int))[i]? = if i < n then some (i : Int) else none := by
  unfold irange
  rw [List.getElem?_map]
  by_cases c : i < n
  · rw [List.getElem?_range (by omega), if_pos c]
    show some ((0 : Int) + i) = _
    rw [Int.zero_add]
  · rw [List.getElem?_eq_none (by rw [List.length_range]; omega), if_neg c]
    rfl
theorem gets_eq {p : Int} {r : List Int} (h : r.length ≤ 13) : List.map (fun x => m_Poly___getitem__ ⟨p, r⟩ x) (irange 0 (15 : Int)) = r ++ repeated [(0 : Int)] ((15 : Int) - (r.length : Int)) := by
  have er : repeated [(0 : Int)] ((15 : Int) - (r.length : Int)) = List.replicate (15 - r.length) 0 := by
    unfold repeated
    rw [show ((15 : Int) - (r.length : Int)).toNat = 15 - r.length by omega]
    generalize 15 - r.length = n
    induction n with
    | zero => rfl
    | succ n ih => rw [List.replicate_succ, List.flatten_cons, ih, List.replicate_succ]; rfl
  rw [er]
  apply List.ext_getElem?
  intro i
  rw [List.getElem?_map, show (15 : Int) = ((15 : Nat) : Int) from rfl, irange_get]
  by_cases c : i < 15
  · rw [if_pos c]
    show some (m_Poly___getitem__ ⟨p, r⟩ (i : Int)) = _
    rw [get_eq]
    by_cases d : i < r.length
    · rw [List.getElem?_append_left d, List.getElem?_eq_getElem d]
      rfl
    · rw [List.getElem?_append_right (by omega), List.getElem?_eq_none (by omega), List.getElem?_replicate, if_pos (by omega)]
      rfl
  · rw [if_neg c, List.getElem?_append_right (by omega), List.getElem?_replicate, if_neg (by omega)]
    rfl
theorem told_true {p : Int} {r : List Int} (h : Told p r) : m__law_is_told p r = true := by
  have a1 : m_Poly___init___V_row p r = ⟨p, r⟩ := rfl
  have a2 : m_Poly_number ⟨p, r⟩ = m__law_number p r := by
    show m_row_number p r = _
    rw [num_val, lnum_val]
  have a3 : m_Poly___str__ ⟨p, r⟩ = m__law_text r := (ltext_eq r).symm
  have a4 := back_eq h
  have a5 := read_eq h
  have a6 : m_Poly___getitem__ ⟨p, r⟩ (999 : Int) = 0 := by
    show (if decide ((999 : Int) < (r.length : Int)) = true then ixd r 999 else 0) = _
    have := h.2.2
    rw [if_neg (by rw [decide_eq_true_eq]; omega)]
  unfold m__law_is_told
  rw [a1, ← lead_eq p r]
  show (if (!(decide (p = p) && (decide (r = r) && (decide (deg ⟨p, r⟩ = deg ⟨p, r⟩) && (decide (lead ⟨p, r⟩ = lead ⟨p, r⟩) && true))))) = true then false else _) = true
  rw [if_neg (by simp)]
  show (if ((!decide (m_Poly_number ⟨p, r⟩ = m__law_number p r)) || ((!(m_Poly___eq__ (m_poly_at p (m_Poly_number ⟨p, r⟩)) ⟨p, r⟩)) || (!decide (m_Poly___str__ ⟨p, r⟩ = m__law_text r)))) = true then false else _) = true
  rw [if_neg (by rw [a4, a2, a3]; simp)]
  show (if ((!(m_Poly___eq__ (m_Poly_read () p (m__law_text r)) ⟨p, r⟩)) || ((!decide (isZero ⟨p, r⟩ = decide (r = []))) || (!decide (isMonic ⟨p, r⟩ = decide (lead ⟨p, r⟩ = (1 : Int)))))) = true then false else _) = true
  rw [if_neg (by rw [a5, self_eq, zero_eq]; unfold isMonic; simp)]
  show (if (!((List.map (fun x59 => decide (m_row_value p r x59 = m__law_worth p r x59)) (irange 0 p)).all id)) = true then false else _) = true
  rw [if_neg (by simp [worth_eq])]
  show (decide (List.map (fun x => m_Poly___getitem__ ⟨p, r⟩ x) (irange 0 (15 : Int)) = r ++ repeated [(0 : Int)] ((15 : Int) - (r.length : Int))) && decide (m_Poly___getitem__ ⟨p, r⟩ (999 : Int) = 0)) = true
  rw [gets_eq h.2.2, a6]
  simp
abbrev DrawnRow (p : Int) : List Int → Prop := fun r => RowOk p r ∧ r.length ≤ 13
theorem to_told {p : Int} {r : List Int} (hp : p ∈ primes) (h : DrawnRow p r) : Told p r := ⟨hp, h.1, h.2⟩
theorem no1 {p : Int} {r s : List Int} (hb : ((!(m__law_is_told p r)) || (!(m__law_is_told p s))) = true) (hp : p ∈ primes) (hr : DrawnRow p r) (hs : DrawnRow p s) : False := by
  rw [told_true (to_told hp hr), told_true (to_told hp hs)] at hb
  cases hb
theorem eq_rows (p : Int) (r s : List Int) : m_Poly___eq__ ⟨p, r⟩ ⟨p, s⟩ = decide (r = s) := by
  unfold m_Poly___eq__
  simp
theorem str_inj {p : Int} {r s : List Int} (hr : Told p r) (hs : Told p s) : decide (m_Poly___str__ ⟨p, r⟩ = m_Poly___str__ ⟨p, s⟩) = decide (r = s) := by
  by_cases c : r = s
  · subst c
    simp
  · rw [decide_eq_false c]
    apply decide_eq_false
    intro e
    apply c
    have e1 := told_row hr.small
    have e2 := told_row hs.small
    rw [show Txt.join ("+" : Str) (m_terms_of r) = Txt.join ("+" : Str) (m_terms_of s) from e] at e1
    exact Option.some.inj (e1.symm.trans e2)
theorem no2 {p : Int} {r s : List Int} (hb : ((!decide ((m_Poly___eq__ (m_Poly___init___V_row p r) (m_Poly___init___V_row p s)) = (decide (r = s)))) || (!decide ((decide ((m_Poly___str__ (m_Poly___init___V_row p r)) = (m_Poly___str__ (m_Poly___init___V_row p s)))) = (decide (r = s))))) = true) (hp : p ∈ primes) (hr : DrawnRow p r) (hs : DrawnRow p s) : False := by
  have e1 : m_Poly___eq__ (m_Poly___init___V_row p r) (m_Poly___init___V_row p s) = decide (r = s) := eq_rows p r s
  have e2 : decide ((m_Poly___str__ (m_Poly___init___V_row p r)) = (m_Poly___str__ (m_Poly___init___V_row p s))) = decide (r = s) := str_inj (to_told hp hr) (to_told hp hs)
  rw [e1, e2] at hb
  simp at hb
theorem no3 {p : Int} {r s : List Int} (hb : (!decide ((decide ((m_Poly_number (m_Poly___init___V_row p r)) < (m_Poly_number (m_Poly___init___V_row p s)))) = (decide (((r).length : Int) < ((s).length : Int)) || (!decide (((s).length : Int) < ((r).length : Int)) && rowLt (r).reverse (s).reverse)))) = true) (hp : p ∈ primes) (hr : DrawnRow p r) (hs : DrawnRow p s) : False := by
  have e : decide ((m_Poly_number (m_Poly___init___V_row p r)) < (m_Poly_number (m_Poly___init___V_row p s))) = (decide (((r).length : Int) < ((s).length : Int)) || (!decide (((s).length : Int) < ((r).length : Int)) && rowLt (r).reverse (s).reverse)) := by
    show decide (m_row_number p r < m_row_number p s) = _
    rw [num_val, num_val]
    have a := (to_told hp hr).small
    have b := (to_told hp hs).small
    exact ord_num a.pr.1 a.res a.nz b.res b.nz
  rw [e] at hb
  simp at hb
theorem no4 {p : Int} {r : List Int} (hb : (m_Poly___eq___V_row (m_Poly___init___V_row p r) r || (m_Poly___eq___V_str (m_Poly___init___V_row p r) (m_Poly___str__ (m_Poly___init___V_row p r)) || (m_Poly___eq___V_int (m_Poly___init___V_row p r) (m_Poly_number (m_Poly___init___V_row p r)) || m_Poly___eq__ (m_Poly___init___V_row p r) (m_Poly___init___V_row (if (decide ((3 : Int) < p)) = true then (3 : Int) else (5 : Int)) [1, 1, 1, 2])))) = true) : False := by
  have e : m_Poly___eq__ (m_Poly___init___V_row p r) (m_Poly___init___V_row (if (decide ((3 : Int) < p)) = true then (3 : Int) else (5 : Int)) [1, 1, 1, 2]) = false := by
    show (true && (decide (p = (if (decide ((3 : Int) < p)) = true then (3 : Int) else (5 : Int))) && _)) = false
    have : ¬ p = (if (decide ((3 : Int) < p)) = true then (3 : Int) else (5 : Int)) := by
      split
      · rename_i c
        have := of_decide_eq_true c
        omega
      · rename_i c
        rw [decide_eq_true_eq] at c
        omega
    rw [decide_eq_false this]
    rfl
  rw [e] at hb
  cases hb
theorem right_new {p : Int} {r : List Int} (hp : p ∈ primes) (h : DrawnRow p r) : m_is_prime p = true ∧ m_is_row p r = true := new_pre (to_told hp h)
theorem other_pre {p : Int} : m_is_prime (if (decide ((3 : Int) < p)) = true then (3 : Int) else (5 : Int)) = true ∧ m_is_row (if (decide ((3 : Int) < p)) = true then (3 : Int) else (5 : Int)) [1, 1, 1, 2] = true := by
  split
  · exact ⟨prime_ok (by decide), by decide +kernel⟩
  · exact ⟨prime_ok (by decide), by decide +kernel⟩
theorem right_okp {p : Int} {r : List Int} (hp : p ∈ primes) (h : DrawnRow p r) : Okp ⟨p, r⟩ := okp (to_told hp h)
theorem num_pre {p n : Int} (hp : p ∈ primes) (h : 0 ≤ n ∧ n < (10 : Int) ^ ((9 : Int)).toNat) : m_is_prime p = true ∧ 3 ≤ p ∧ p ≤ 31 ∧ 0 ≤ n ∧ n ≤ top60 := by
  have e : (10 : Int) ^ ((9 : Int)).toNat ≤ top60 := by decide +kernel
  exact ⟨prime_ok hp, (prime_le hp).1, (prime_le hp).2, h.1, by omega⟩
theorem at_res {p : Int} (hp : 3 ≤ p) : ∀ (k : Nat) (n : Int) (acc : List Int), 0 ≤ n → n.toNat < k → Res p acc → Res p (m_row_at_for1 p k n acc).2
  | 0, n, acc, _, h, _ => absurd h (Nat.not_lt_zero _)
  | k + 1, n, acc, h0, h, ha => by
    rw [m_row_at_for1]
    by_cases c : n = 0
    · subst c
      rw [if_neg (by decide)]
      exact ha
    · rw [if_pos (by rw [bne_iff_ne]; exact c)]
      have hd := div_less hp (show 0 < n by omega)
      refine at_res hp k (n / p) (acc ++ [n % p]) hd.1 (by omega) fun e he => ?_
      rcases List.mem_append.mp he with he | he
      · exact ha e he
      · rw [List.mem_singleton.mp he]
        exact ⟨Int.emod_nonneg _ (by omega), Int.emod_lt_of_pos _ (by omega)⟩
theorem at_nz {p : Int} (hp : 3 ≤ p) : ∀ (k : Nat) (n : Int) (acc : List Int), 0 ≤ n → n.toNat < k → (n = 0 → Nz acc) → Nz (m_row_at_for1 p k n acc).2
  | 0, n, acc, _, h, _ => absurd h (Nat.not_lt_zero _)
  | k + 1, n, acc, h0, h, ha => by
    rw [m_row_at_for1]
    by_cases c : n = 0
    · rw [if_neg (by rw [c]; decide)]
      exact ha c
    · rw [if_pos (by rw [bne_iff_ne]; exact c)]
      have hd := div_less hp (show 0 < n by omega)
      refine at_nz hp k (n / p) (acc ++ [n % p]) hd.1 (by omega) fun z => ?_
      intro q
      rw [List.getLast?_concat] at q
      have q' : n % p = 0 := Option.some.inj q
      have := Int.mul_ediv_add_emod n p
      rw [z, q', Int.mul_zero] at this
      omega
theorem row_at_ok {p n : Int} (hp : p ∈ primes) (h : 0 ≤ n ∧ n < (10 : Int) ^ ((9 : Int)).toNat) : RowOk p (m_row_at p n) := by
  have p3 := (prime_le hp).1
  have hres : Res p (m_row_at p n) := at_res p3 _ n [] h.1 (Nat.lt_succ_self _) (fun _ h => nomatch h)
  have hnz : Nz (m_row_at p n) := at_nz p3 _ n [] h.1 (Nat.lt_succ_self _) (fun _ c => nomatch c)
  refine ⟨?_, hres, hnz⟩
  by_cases c : m_row_at p n = []
  · rw [c]; decide
  · have h1 := val_top p3 hres hnz c
    rw [← num_val, num_at p3 h.1] at h1
    by_cases d : (m_row_at p n).length ≤ 1000
    · exact d
    · exfalso
      obtain ⟨m, hm⟩ : ∃ m, (m_row_at p n).length - 1 = 40 + m := ⟨(m_row_at p n).length - 41, by omega⟩
      rw [hm, Int.pow_add] at h1
      have h2 : (3 : Int) ^ 40 ≤ p ^ 40 := by
        have : ∀ k : Nat, (3 : Int) ^ k ≤ p ^ k := fun k => by
          induction k with
          | zero => rw [Int.pow_zero, Int.pow_zero]; decide
          | succ k ih =>
            rw [Int.pow_succ, Int.pow_succ]
            exact Int.mul_le_mul ih p3 (by decide) (by have := pow_pos' p3 k; omega)
        exact this 40
      have h3 := Int.mul_le_mul_of_nonneg_left (pow_pos' p3 m) (show 0 ≤ p ^ 40 by have := pow_pos' p3 40; omega)
      rw [Int.mul_one] at h3
      have h4 : (10 : Int) ^ ((9 : Int)).toNat ≤ 3 ^ 40 := by decide +kernel
      omega
theorem at_okp {p n : Int} (hp : p ∈ primes) (h : 0 ≤ n ∧ n < (10 : Int) ^ ((9 : Int)).toNat) : Okp (m_poly_at p n) := ⟨prime_le hp, hp, row_at_ok hp h⟩
theorem right_yes {p n : Int} (hp : p ∈ primes) (h : 0 ≤ n ∧ n < (10 : Int) ^ ((9 : Int)).toNat) : ((decide ((m_Poly_number (m_poly_at p n)) = n)) && (true && true)) = true := by
  have : m_Poly_number (m_poly_at p n) = n := num_at (prime_le hp).1 h.1
  rw [this]
  simp
end R

namespace R
open PySem PySem.Spec L2 Mir TL RZ
def sp__law_right (K : PySem.W.Frag) (Cc : Cl) : Sp := fun vs H Q _ => ∃ (aD : Addr)  (v__law_dice_here : V), vs = [v__law_dice_here] ∧ Dc aD H ∧ (pD aD) v__law_dice_here H ∧ (True) ∧ ∀ u H', Ch [aD] H H' → Dcs [aD] H' → (pX (fun b => b = true) pB) u H' → Q u H'
abbrev N__law_right : List Str := ["_law_dice_here", "_law_prime", "_law_row", "_law_other", "_law_one", "_law_two", "_law_number_here"]
theorem sc__law_right : FnScope N__law_right ["_law_dice_here"] (defScope s__law_right) := ⟨rfl, rfl, rfl, by decide +kernel, rfl, by decide +kernel, by decide +kernel⟩
section
variable {P : Program} {w : World} {K : PySem.W.Frag} {mg : Str → Option Value} {base : Heap}
theorem ok__law_right (T : Txt K mg) : FnOk P w K mg base CX0 9 T.f__law_right T.fd__law_right ["_law_dice_here"] (sp__law_right K T.C) := by
  refine T.F__law_right.ok sc__law_right (fun vs H Q E h => ?_) (fun cdv A outer s H vs Q E hr h => ?_)
  · obtain ⟨aD, v__law_dice_here, rfl, hdc, h__law_dice_here, hpre, q⟩ := h
    rfl
  · obtain ⟨aD, v__law_dice_here, rfl, hdc, h__law_dice_here, hpre, q⟩ := h
    refine ⟨_, (pss_cons (ps_set (i := 1) sc__law_right.nd rfl (Or.inl rfl) (pe_call (ok__law_pick T) (hr.mono (by decide)) (by rfl) T.g__law_pick T.F__law_pick.kp T.b__law_pick .nil pass0 (pa_cons (pv 0) (pa_cons (pe_lst (pa_cons pe_int (pa_cons pe_int (pa_cons pe_int (pa_cons pe_int (pa_cons pe_int (pa_cons pe_int (pa_cons pe_int (pa_cons pe_int (pa_cons pe_int (pa_cons pe_int pa_nil))))))))))) pa_nil))))
        (pss_cons (ps_par (i := 2) (j := 3) (by rfl) sc__law_right.nd rfl rfl (by decide) rfl rfl (pa_cons (pe_call (ok__law_any_row T) (hr.mono (by decide)) (by rfl) T.g__law_any_row T.F__law_any_row.kp T.b__law_any_row .nil pass0 (pa_cons (pv 0) (pa_cons (pv 1) pa_nil))) (pa_cons (pe_call (ok__law_any_row T) (hr.mono (by decide)) (by rfl) T.g__law_any_row T.F__law_any_row.kp T.b__law_any_row .nil pass0 (pa_cons (pv 0) (pa_cons (pv 1) pa_nil))) pa_nil)) (by rfl))
        (pss_cons (ps_if (PW.pt (pw_or (pt_not (pt_val (pe_call (ok__law_is_told T) (hr.mono (by decide)) (by rfl) T.g__law_is_told T.F__law_is_told.kp T.b__law_is_told .nil pass0 (pa_cons (pv 1) (pa_cons (pv 2) pa_nil))))) (pw_or1 (pt_not (pt_val (pe_call (ok__law_is_told T) (hr.mono (by decide)) (by rfl) T.g__law_is_told T.F__law_is_told.kp T.b__law_is_told .nil pass0 (pa_cons (pv 1) (pa_cons (pv 3) pa_nil)))))))) (pss_one (ps_ret pe_bl)) pss_nil)
        (pss_cons (ps_par (i := 4) (j := 5) (by rfl) sc__law_right.nd rfl rfl (by decide) rfl rfl (pa_cons (pe_make T.mk_Poly (ok_Poly___init___V_row T) (hr.mono (by decide)) (by rfl) T.g_Poly T.b_Poly___init__ .nil pass0 (pa_cons (pv 1) (pa_cons (pv 2) pa_nil))) (pa_cons (pe_make T.mk_Poly (ok_Poly___init___V_row T) (hr.mono (by decide)) (by rfl) T.g_Poly T.b_Poly___init__ .nil pass0 (pa_cons (pv 1) (pa_cons (pv 3) pa_nil))) pa_nil)) (by rfl))
        (pss_cons (ps_if (PW.pt (pw_or (pt_cmpR op_ne (pe_cmpR (op_eqOwnK K rfl T.s1_Poly___eq__ (ok_Poly___eq__ T) (hr.mono (by decide)) T.b_Poly___eq__ pass0) (pv 4) (pv 5) (nomark _)) (pe_cmpR (op_eqDK K hr.units) (pv 2) (pv 3) (nomark _)) (nomark _)) (pw_or1 (pt_cmpR op_ne (pe_cmpR op_eq (pe_callTy (call_strOwn T.s1_Poly___str__ (ok_Poly___str__ T) (hr.mono (by decide)) T.b_Poly___str__ pass0) (by rfl) T.z_str (by decide +kernel) (pa_cons (pv 4) pa_nil)) (pe_callTy (call_strOwn T.s1_Poly___str__ (ok_Poly___str__ T) (hr.mono (by decide)) T.b_Poly___str__ pass0) (by rfl) T.z_str (by decide +kernel) (pa_cons (pv 5) pa_nil)) (nomark _)) (pe_cmpR (op_eqDK K hr.units) (pv 2) (pv 3) (nomark _)) (nomark _))))) (pss_one (ps_ret pe_bl)) pss_nil)
        (pss_cons (ps_if (pt_cmpR op_ne (pe_cmpR op_lt (pe_prop (pv 4) T.cl_Poly T.pr_Poly_number (ok_Poly_number T) (hr.mono (by decide)) T.b_Poly_number .nil pass0 rfl) (pe_prop (pv 5) T.cl_Poly T.pr_Poly_number (ok_Poly_number T) (hr.mono (by decide)) T.b_Poly_number .nil pass0 rfl) (nomark _)) (pe_cmpR (op_ltDK K hr.units) (pe_tup (pa_cons (pe_callB (call_len_seqK K) (by rfl) T.z_len (by decide +kernel) (pa_cons (pv 2) pa_nil)) (pa_cons (pe_revTK K (pv 2)) pa_nil))) (pe_tup (pa_cons (pe_callB (call_len_seqK K) (by rfl) T.z_len (by decide +kernel) (pa_cons (pv 3) pa_nil)) (pa_cons (pe_revTK K (pv 3)) pa_nil))) (nomark _)) (nomark _)) (pss_one (ps_ret pe_bl)) pss_nil)
        (pss_cons (ps_if (PW.pt (pw_or (pt_cmpR (op_eqOwnK K rfl T.s1_Poly___eq__ (ok_Poly___eq___V_row T) (hr.mono (by decide)) T.b_Poly___eq__ pass0) (pv 4) (pv 2) (nomark _)) (pw_or (pt_cmpR (op_eqOwnK K rfl T.s1_Poly___eq__ (ok_Poly___eq___V_str T) (hr.mono (by decide)) T.b_Poly___eq__ pass0) (pv 4) (pe_callTy (call_strOwn T.s1_Poly___str__ (ok_Poly___str__ T) (hr.mono (by decide)) T.b_Poly___str__ pass0) (by rfl) T.z_str (by decide +kernel) (pa_cons (pv 4) pa_nil)) (nomark _)) (pw_or (pt_cmpR (op_eqOwnK K rfl T.s1_Poly___eq__ (ok_Poly___eq___V_int T) (hr.mono (by decide)) T.b_Poly___eq__ pass0) (pv 4) (pe_prop (pv 4) T.cl_Poly T.pr_Poly_number (ok_Poly_number T) (hr.mono (by decide)) T.b_Poly_number .nil pass0 rfl) (nomark _)) (pw_or1 (pt_cmpR (op_eqOwnK K rfl T.s1_Poly___eq__ (ok_Poly___eq__ T) (hr.mono (by decide)) T.b_Poly___eq__ pass0) (pv 4) (pe_make T.mk_Poly (ok_Poly___init___V_row T) (hr.mono (by decide)) (by rfl) T.g_Poly T.b_Poly___init__ .nil pass0 (pa_cons (pe_ifExp (pt_cmpR op_gt (pv 1) pe_int (nomark _)) pe_int pe_int) (pa_cons (pe_tup (pa_cons pe_int (pa_cons pe_int (pa_cons pe_int (pa_cons pe_int pa_nil))))) pa_nil))) (nomark _))))))) (pss_one (ps_ret pe_bl)) pss_nil)
        (pss_cons (ps_set (i := 6) sc__law_right.nd rfl (Or.inl rfl) (pe_call (ok__law_roll T) (hr.mono (by decide)) (by rfl) T.g__law_roll T.F__law_roll.kp T.b__law_roll .nil pass0 (pa_cons (pv 0) (pa_cons (pe_op op_pow pe_int pe_int) pa_nil))))
        (pss_one (ps_ret (pe_and (pe_cmpR op_eq (pe_prop (pe_call (ok_poly_at T) (hr.mono (by decide)) (by rfl) T.g_poly_at T.F_poly_at.kp T.b_poly_at .nil pass0 (pa_cons (pv 1) (pa_cons (pv 6) pa_nil))) T.cl_Poly T.pr_Poly_number (ok_Poly_number T) (hr.mono (by decide)) T.b_Poly_number .nil pass0 rfl) (pv 6) (nomark _)) (pe_and (pe_callB (call_isiK' K) (by rfl) T.z_isinstance (by decide +kernel) (pa_cons (pe_fldK K (pv 4) rfl) (pa_cons (pe_bltn (v := V.ty "bool") (by rfl) T.z_bool (by decide +kernel) rfl) pa_nil))) (pe_one (pe_callB (call_isiK' K) (by rfl) T.z_isinstance (by decide +kernel) (pa_cons (pe_fldK K (pv 4) rfl) (pa_cons (pe_bltn (v := V.ty "bool") (by rfl) T.z_bool (by decide +kernel) rfl) pa_nil)))))))))))))))), ?_⟩
    have c0 : Ch [aD] H H := .refl H
    have d0 : Dcs [aD] H := dcs1 hdc
    refine q_asg (ev__law_pick (F := pI) (ea_cons (ev_var rfl h__law_dice_here) (ea_cons (EvP.lst (K := K) (F := pI) (xs := [(3 : Int), (5 : Int), (7 : Int), (11 : Int), (13 : Int), (17 : Int), (19 : Int), (23 : Int), (29 : Int), (31 : Int)]) (ev_lst (K := K) (ea_cons ev_int (ea_cons ev_int (ea_cons ev_int (ea_cons ev_int (ea_cons ev_int (ea_cons ev_int (ea_cons ev_int (ea_cons ev_int (ea_cons ev_int (ea_cons ev_int ea_nil)))))))))) (by show 10 ≤ 100000; decide))) ea_nil)) (by decide)) d0 (fun v2 H3 e4 d5 h_6 => ?_)
    obtain ⟨m1, hm1, h_6⟩ := h_6
    have h__law_dice_here := (Mono.mono e4 h__law_dice_here)
    have c0 := c0.trans e4
    refine q_par (ea_cons (ev__law_any_row (ea_cons (ev_var rfl h__law_dice_here) (ea_cons (ev_var rfl h_6) ea_nil)) (by first | omega | assumption | exact prime_le (by assumption) | exact right_new (by assumption) (by assumption) | exact to_told (by assumption) (by assumption) | exact other_pre | exact right_okp (by assumption) (by assumption) | exact num_pre (by assumption) (by assumption) | exact at_okp (by assumption) (by assumption) | exact right_yes (by assumption) (by assumption) | exact False.elim (no1 (by assumption) (by assumption) (by assumption) (by assumption)) | exact False.elim (no2 (by assumption) (by assumption) (by assumption) (by assumption)) | exact False.elim (no3 (by assumption) (by assumption) (by assumption) (by assumption)) | exact False.elim (no4 (by assumption)) | decide | (simp only [decide_eq_true_eq, decide_eq_false_iff_not, Bool.not_eq_true', Bool.not_eq_false', Bool.and_eq_true, Bool.or_eq_false_iff, bne_iff_ne, bne_eq_false_iff_eq, ne_eq, Int.not_lt, Int.not_le] at *; first | omega | exact ⟨by omega, by omega⟩))) (ea_cons (ev__law_any_row (ea_cons (ev_var rfl h__law_dice_here) (ea_cons (ev_var rfl h_6) ea_nil)) (by first | omega | assumption | exact prime_le (by assumption) | exact right_new (by assumption) (by assumption) | exact to_told (by assumption) (by assumption) | exact other_pre | exact right_okp (by assumption) (by assumption) | exact num_pre (by assumption) (by assumption) | exact at_okp (by assumption) (by assumption) | exact right_yes (by assumption) (by assumption) | exact False.elim (no1 (by assumption) (by assumption) (by assumption) (by assumption)) | exact False.elim (no2 (by assumption) (by assumption) (by assumption) (by assumption)) | exact False.elim (no3 (by assumption) (by assumption) (by assumption) (by assumption)) | exact False.elim (no4 (by assumption)) | decide | (simp only [decide_eq_true_eq, decide_eq_false_iff_not, Bool.not_eq_true', Bool.not_eq_false', Bool.and_eq_true, Bool.or_eq_false_iff, bne_iff_ne, bne_eq_false_iff_eq, ne_eq, Int.not_lt, Int.not_le] at *; first | omega | exact ⟨by omega, by omega⟩))) ea_nil)) d5 (fun v10 v11 H7 e8 d9 h_12 h_13 => ?_)
    obtain ⟨m14, hm14, h_12⟩ := h_12
    obtain ⟨m15, hm15, h_13⟩ := h_13
    have h__law_dice_here := (Mono.mono e8 h__law_dice_here)
    have h_6 := (Mono.mono e8 h_6)
    have c0 := c0.trans e8
    refine q_if (eb_or (eb_not (eb_val (ev__law_is_told (ea_cons (ev_var rfl h_6) (ea_cons (ev_var rfl h_12) ea_nil)) (by first | omega | assumption | exact prime_le (by assumption) | exact right_new (by assumption) (by assumption) | exact to_told (by assumption) (by assumption) | exact other_pre | exact right_okp (by assumption) (by assumption) | exact num_pre (by assumption) (by assumption) | exact at_okp (by assumption) (by assumption) | exact right_yes (by assumption) (by assumption) | exact False.elim (no1 (by assumption) (by assumption) (by assumption) (by assumption)) | exact False.elim (no2 (by assumption) (by assumption) (by assumption) (by assumption)) | exact False.elim (no3 (by assumption) (by assumption) (by assumption) (by assumption)) | exact False.elim (no4 (by assumption)) | decide | (simp only [decide_eq_true_eq, decide_eq_false_iff_not, Bool.not_eq_true', Bool.not_eq_false', Bool.and_eq_true, Bool.or_eq_false_iff, bne_iff_ne, bne_eq_false_iff_eq, ne_eq, Int.not_lt, Int.not_le] at *; first | omega | exact ⟨by omega, by omega⟩))))) (fun hb16 => (eb_not (eb_val (ev__law_is_told (ea_cons (ev_var rfl h_6) (ea_cons (ev_var rfl h_13) ea_nil)) (by first | omega | assumption | exact prime_le (by assumption) | exact right_new (by assumption) (by assumption) | exact to_told (by assumption) (by assumption) | exact other_pre | exact right_okp (by assumption) (by assumption) | exact num_pre (by assumption) (by assumption) | exact at_okp (by assumption) (by assumption) | exact right_yes (by assumption) (by assumption) | exact False.elim (no1 (by assumption) (by assumption) (by assumption) (by assumption)) | exact False.elim (no2 (by assumption) (by assumption) (by assumption) (by assumption)) | exact False.elim (no3 (by assumption) (by assumption) (by assumption) (by assumption)) | exact False.elim (no4 (by assumption)) | decide | (simp only [decide_eq_true_eq, decide_eq_false_iff_not, Bool.not_eq_true', Bool.not_eq_false', Bool.and_eq_true, Bool.or_eq_false_iff, bne_iff_ne, bne_eq_false_iff_eq, ne_eq, Int.not_lt, Int.not_le] at *; first | omega | exact ⟨by omega, by omega⟩))))))) d9 ?_ ?_
    · intro hb21 H18 e19 d20
      have h__law_dice_here := (Mono.mono e19 h__law_dice_here)
      have h_6 := (Mono.mono e19 h_6)
      have h_12 := (Mono.mono e19 h_12)
      have h_13 := (Mono.mono e19 h_13)
      have c0 := c0.trans e19
      skip
      exact s_ret ev_bl d20 (fun v22 H23 e24 d25 h26 => by
        exact q _ _ (c0.trans e24) d25 ⟨false, (by first | omega | assumption | exact prime_le (by assumption) | exact right_new (by assumption) (by assumption) | exact to_told (by assumption) (by assumption) | exact other_pre | exact right_okp (by assumption) (by assumption) | exact num_pre (by assumption) (by assumption) | exact at_okp (by assumption) (by assumption) | exact right_yes (by assumption) (by assumption) | exact False.elim (no1 (by assumption) (by assumption) (by assumption) (by assumption)) | exact False.elim (no2 (by assumption) (by assumption) (by assumption) (by assumption)) | exact False.elim (no3 (by assumption) (by assumption) (by assumption) (by assumption)) | exact False.elim (no4 (by assumption)) | decide | (simp only [decide_eq_true_eq, decide_eq_false_iff_not, Bool.not_eq_true', Bool.not_eq_false', Bool.and_eq_true, Bool.or_eq_false_iff, bne_iff_ne, bne_eq_false_iff_eq, ne_eq, Int.not_lt, Int.not_le] at *; first | omega | exact ⟨by omega, by omega⟩)), h26⟩)
    · intro hb30 H27 e28 d29
      have h__law_dice_here := (Mono.mono e28 h__law_dice_here)
      have h_6 := (Mono.mono e28 h_6)
      have h_12 := (Mono.mono e28 h_12)
      have h_13 := (Mono.mono e28 h_13)
      have c0 := c0.trans e28
      skip
      refine q_par (ea_cons (ev_Poly___init___V_row (ea_cons (ev_var rfl h_6) (ea_cons (ev_var rfl h_12) ea_nil)) (by first | omega | assumption | exact prime_le (by assumption) | exact right_new (by assumption) (by assumption) | exact to_told (by assumption) (by assumption) | exact other_pre | exact right_okp (by assumption) (by assumption) | exact num_pre (by assumption) (by assumption) | exact at_okp (by assumption) (by assumption) | exact right_yes (by assumption) (by assumption) | exact False.elim (no1 (by assumption) (by assumption) (by assumption) (by assumption)) | exact False.elim (no2 (by assumption) (by assumption) (by assumption) (by assumption)) | exact False.elim (no3 (by assumption) (by assumption) (by assumption) (by assumption)) | exact False.elim (no4 (by assumption)) | decide | (simp only [decide_eq_true_eq, decide_eq_false_iff_not, Bool.not_eq_true', Bool.not_eq_false', Bool.and_eq_true, Bool.or_eq_false_iff, bne_iff_ne, bne_eq_false_iff_eq, ne_eq, Int.not_lt, Int.not_le] at *; first | omega | exact ⟨by omega, by omega⟩))) (ea_cons (ev_Poly___init___V_row (ea_cons (ev_var rfl h_6) (ea_cons (ev_var rfl h_13) ea_nil)) (by first | omega | assumption | exact prime_le (by assumption) | exact right_new (by assumption) (by assumption) | exact to_told (by assumption) (by assumption) | exact other_pre | exact right_okp (by assumption) (by assumption) | exact num_pre (by assumption) (by assumption) | exact at_okp (by assumption) (by assumption) | exact right_yes (by assumption) (by assumption) | exact False.elim (no1 (by assumption) (by assumption) (by assumption) (by assumption)) | exact False.elim (no2 (by assumption) (by assumption) (by assumption) (by assumption)) | exact False.elim (no3 (by assumption) (by assumption) (by assumption) (by assumption)) | exact False.elim (no4 (by assumption)) | decide | (simp only [decide_eq_true_eq, decide_eq_false_iff_not, Bool.not_eq_true', Bool.not_eq_false', Bool.and_eq_true, Bool.or_eq_false_iff, bne_iff_ne, bne_eq_false_iff_eq, ne_eq, Int.not_lt, Int.not_le] at *; first | omega | exact ⟨by omega, by omega⟩))) ea_nil)) d29 (fun v34 v35 H31 e32 d33 h_36 h_37 => ?_)
      have h__law_dice_here := (Mono.mono e32 h__law_dice_here)
      have h_6 := (Mono.mono e32 h_6)
      have h_12 := (Mono.mono e32 h_12)
      have h_13 := (Mono.mono e32 h_13)
      have c0 := c0.trans e32
      refine q_if (eb_or (eb_test (ev_neB (ev_eqOwn (ev_var rfl h_36) (ev_var rfl h_37) (fun _ _ h => T.is_Poly.ty h) T.nf_Poly__ref_C_Poly (fun vs H1 d k Q q => cv_Poly___eq__ (by first | omega | assumption | exact prime_le (by assumption) | exact right_new (by assumption) (by assumption) | exact to_told (by assumption) (by assumption) | exact other_pre | exact right_okp (by assumption) (by assumption) | exact num_pre (by assumption) (by assumption) | exact at_okp (by assumption) (by assumption) | exact right_yes (by assumption) (by assumption) | exact False.elim (no1 (by assumption) (by assumption) (by assumption) (by assumption)) | exact False.elim (no2 (by assumption) (by assumption) (by assumption) (by assumption)) | exact False.elim (no3 (by assumption) (by assumption) (by assumption) (by assumption)) | exact False.elim (no4 (by assumption)) | decide | (simp only [decide_eq_true_eq, decide_eq_false_iff_not, Bool.not_eq_true', Bool.not_eq_false', Bool.and_eq_true, Bool.or_eq_false_iff, bne_iff_ne, bne_eq_false_iff_eq, ne_eq, Int.not_lt, Int.not_le] at *; first | omega | exact ⟨by omega, by omega⟩)) d k Q q)) (ev_eqR (ev_var rfl h_12) (ev_var rfl h_13)))) (fun hb38 => (eb_test (ev_neB (ev_eqS (ev_strOwn (ea_cons (ev_var rfl h_36) ea_nil) (fun vs H1 d k Q q => cv_Poly___str__ (by first | omega | assumption | exact prime_le (by assumption) | exact right_new (by assumption) (by assumption) | exact to_told (by assumption) (by assumption) | exact other_pre | exact right_okp (by assumption) (by assumption) | exact num_pre (by assumption) (by assumption) | exact at_okp (by assumption) (by assumption) | exact right_yes (by assumption) (by assumption) | exact False.elim (no1 (by assumption) (by assumption) (by assumption) (by assumption)) | exact False.elim (no2 (by assumption) (by assumption) (by assumption) (by assumption)) | exact False.elim (no3 (by assumption) (by assumption) (by assumption) (by assumption)) | exact False.elim (no4 (by assumption)) | decide | (simp only [decide_eq_true_eq, decide_eq_false_iff_not, Bool.not_eq_true', Bool.not_eq_false', Bool.and_eq_true, Bool.or_eq_false_iff, bne_iff_ne, bne_eq_false_iff_eq, ne_eq, Int.not_lt, Int.not_le] at *; first | omega | exact ⟨by omega, by omega⟩)) d k Q q)) (ev_strOwn (ea_cons (ev_var rfl h_37) ea_nil) (fun vs H1 d k Q q => cv_Poly___str__ (by first | omega | assumption | exact prime_le (by assumption) | exact right_new (by assumption) (by assumption) | exact to_told (by assumption) (by assumption) | exact other_pre | exact right_okp (by assumption) (by assumption) | exact num_pre (by assumption) (by assumption) | exact at_okp (by assumption) (by assumption) | exact right_yes (by assumption) (by assumption) | exact False.elim (no1 (by assumption) (by assumption) (by assumption) (by assumption)) | exact False.elim (no2 (by assumption) (by assumption) (by assumption) (by assumption)) | exact False.elim (no3 (by assumption) (by assumption) (by assumption) (by assumption)) | exact False.elim (no4 (by assumption)) | decide | (simp only [decide_eq_true_eq, decide_eq_false_iff_not, Bool.not_eq_true', Bool.not_eq_false', Bool.and_eq_true, Bool.or_eq_false_iff, bne_iff_ne, bne_eq_false_iff_eq, ne_eq, Int.not_lt, Int.not_le] at *; first | omega | exact ⟨by omega, by omega⟩)) d k Q q))) (ev_eqR (ev_var rfl h_12) (ev_var rfl h_13)))))) d33 ?_ ?_
      · intro hb43 H40 e41 d42
        have h__law_dice_here := (Mono.mono e41 h__law_dice_here)
        have h_6 := (Mono.mono e41 h_6)
        have h_12 := (Mono.mono e41 h_12)
        have h_13 := (Mono.mono e41 h_13)
        have h_36 := (Mono.mono e41 h_36)
        have h_37 := (Mono.mono e41 h_37)
        have c0 := c0.trans e41
        skip
        exact s_ret ev_bl d42 (fun v44 H45 e46 d47 h48 => by
          exact q _ _ (c0.trans e46) d47 ⟨false, (by first | omega | assumption | exact prime_le (by assumption) | exact right_new (by assumption) (by assumption) | exact to_told (by assumption) (by assumption) | exact other_pre | exact right_okp (by assumption) (by assumption) | exact num_pre (by assumption) (by assumption) | exact at_okp (by assumption) (by assumption) | exact right_yes (by assumption) (by assumption) | exact False.elim (no1 (by assumption) (by assumption) (by assumption) (by assumption)) | exact False.elim (no2 (by assumption) (by assumption) (by assumption) (by assumption)) | exact False.elim (no3 (by assumption) (by assumption) (by assumption) (by assumption)) | exact False.elim (no4 (by assumption)) | decide | (simp only [decide_eq_true_eq, decide_eq_false_iff_not, Bool.not_eq_true', Bool.not_eq_false', Bool.and_eq_true, Bool.or_eq_false_iff, bne_iff_ne, bne_eq_false_iff_eq, ne_eq, Int.not_lt, Int.not_le] at *; first | omega | exact ⟨by omega, by omega⟩)), h48⟩)
      · intro hb52 H49 e50 d51
        have h__law_dice_here := (Mono.mono e50 h__law_dice_here)
        have h_6 := (Mono.mono e50 h_6)
        have h_12 := (Mono.mono e50 h_12)
        have h_13 := (Mono.mono e50 h_13)
        have h_36 := (Mono.mono e50 h_36)
        have h_37 := (Mono.mono e50 h_37)
        have c0 := c0.trans e50
        skip
        refine q_if (eb_test (ev_neB (ev_lt (ev_prop (ev_var rfl h_36) (fun vs H1 d k Q q => cv_Poly_number (by first | omega | assumption | exact prime_le (by assumption) | exact right_new (by assumption) (by assumption) | exact to_told (by assumption) (by assumption) | exact other_pre | exact right_okp (by assumption) (by assumption) | exact num_pre (by assumption) (by assumption) | exact at_okp (by assumption) (by assumption) | exact right_yes (by assumption) (by assumption) | exact False.elim (no1 (by assumption) (by assumption) (by assumption) (by assumption)) | exact False.elim (no2 (by assumption) (by assumption) (by assumption) (by assumption)) | exact False.elim (no3 (by assumption) (by assumption) (by assumption) (by assumption)) | exact False.elim (no4 (by assumption)) | decide | (simp only [decide_eq_true_eq, decide_eq_false_iff_not, Bool.not_eq_true', Bool.not_eq_false', Bool.and_eq_true, Bool.or_eq_false_iff, bne_iff_ne, bne_eq_false_iff_eq, ne_eq, Int.not_lt, Int.not_le] at *; first | omega | exact ⟨by omega, by omega⟩)) d k Q q)) (ev_prop (ev_var rfl h_37) (fun vs H1 d k Q q => cv_Poly_number (by first | omega | assumption | exact prime_le (by assumption) | exact right_new (by assumption) (by assumption) | exact to_told (by assumption) (by assumption) | exact other_pre | exact right_okp (by assumption) (by assumption) | exact num_pre (by assumption) (by assumption) | exact at_okp (by assumption) (by assumption) | exact right_yes (by assumption) (by assumption) | exact False.elim (no1 (by assumption) (by assumption) (by assumption) (by assumption)) | exact False.elim (no2 (by assumption) (by assumption) (by assumption) (by assumption)) | exact False.elim (no3 (by assumption) (by assumption) (by assumption) (by assumption)) | exact False.elim (no4 (by assumption)) | decide | (simp only [decide_eq_true_eq, decide_eq_false_iff_not, Bool.not_eq_true', Bool.not_eq_false', Bool.and_eq_true, Bool.or_eq_false_iff, bne_iff_ne, bne_eq_false_iff_eq, ne_eq, Int.not_lt, Int.not_le] at *; first | omega | exact ⟨by omega, by omega⟩)) d k Q q))) (ev_ltIR (K := K) (ev_tup (K := K) (ea_cons (ev_lenR (ea_cons (ev_var rfl h_12) ea_nil)) (ea_cons (ev_revR (ev_var rfl h_12)) ea_nil)) (by show 2 ≤ 100000; decide)) (ev_tup (K := K) (ea_cons (ev_lenR (ea_cons (ev_var rfl h_13) ea_nil)) (ea_cons (ev_revR (ev_var rfl h_13)) ea_nil)) (by show 2 ≤ 100000; decide))))) d51 ?_ ?_
        · intro hb56 H53 e54 d55
          have h__law_dice_here := (Mono.mono e54 h__law_dice_here)
          have h_6 := (Mono.mono e54 h_6)
          have h_12 := (Mono.mono e54 h_12)
          have h_13 := (Mono.mono e54 h_13)
          have h_36 := (Mono.mono e54 h_36)
          have h_37 := (Mono.mono e54 h_37)
          have c0 := c0.trans e54
          skip
          exact s_ret ev_bl d55 (fun v57 H58 e59 d60 h61 => by
            exact q _ _ (c0.trans e59) d60 ⟨false, (by first | omega | assumption | exact prime_le (by assumption) | exact right_new (by assumption) (by assumption) | exact to_told (by assumption) (by assumption) | exact other_pre | exact right_okp (by assumption) (by assumption) | exact num_pre (by assumption) (by assumption) | exact at_okp (by assumption) (by assumption) | exact right_yes (by assumption) (by assumption) | exact False.elim (no1 (by assumption) (by assumption) (by assumption) (by assumption)) | exact False.elim (no2 (by assumption) (by assumption) (by assumption) (by assumption)) | exact False.elim (no3 (by assumption) (by assumption) (by assumption) (by assumption)) | exact False.elim (no4 (by assumption)) | decide | (simp only [decide_eq_true_eq, decide_eq_false_iff_not, Bool.not_eq_true', Bool.not_eq_false', Bool.and_eq_true, Bool.or_eq_false_iff, bne_iff_ne, bne_eq_false_iff_eq, ne_eq, Int.not_lt, Int.not_le] at *; first | omega | exact ⟨by omega, by omega⟩)), h61⟩)
        · intro hb65 H62 e63 d64
          have h__law_dice_here := (Mono.mono e63 h__law_dice_here)
          have h_6 := (Mono.mono e63 h_6)
          have h_12 := (Mono.mono e63 h_12)
          have h_13 := (Mono.mono e63 h_13)
          have h_36 := (Mono.mono e63 h_36)
          have h_37 := (Mono.mono e63 h_37)
          have c0 := c0.trans e63
          skip
          refine q_if (eb_or (eb_test (ev_eqOwn (ev_var rfl h_36) (ev_var rfl h_12) (fun _ _ h => Tyd.ty (K := K) h) T.nf_Poly__type_tuple_ (fun vs H1 d k Q q => cv_Poly___eq___V_row (by first | omega | assumption | exact prime_le (by assumption) | exact right_new (by assumption) (by assumption) | exact to_told (by assumption) (by assumption) | exact other_pre | exact right_okp (by assumption) (by assumption) | exact num_pre (by assumption) (by assumption) | exact at_okp (by assumption) (by assumption) | exact right_yes (by assumption) (by assumption) | exact False.elim (no1 (by assumption) (by assumption) (by assumption) (by assumption)) | exact False.elim (no2 (by assumption) (by assumption) (by assumption) (by assumption)) | exact False.elim (no3 (by assumption) (by assumption) (by assumption) (by assumption)) | exact False.elim (no4 (by assumption)) | decide | (simp only [decide_eq_true_eq, decide_eq_false_iff_not, Bool.not_eq_true', Bool.not_eq_false', Bool.and_eq_true, Bool.or_eq_false_iff, bne_iff_ne, bne_eq_false_iff_eq, ne_eq, Int.not_lt, Int.not_le] at *; first | omega | exact ⟨by omega, by omega⟩)) d k Q q))) (fun hb66 => (eb_or (eb_test (ev_eqOwn (ev_var rfl h_36) (ev_strOwn (ea_cons (ev_var rfl h_36) ea_nil) (fun vs H1 d k Q q => cv_Poly___str__ (by first | omega | assumption | exact prime_le (by assumption) | exact right_new (by assumption) (by assumption) | exact to_told (by assumption) (by assumption) | exact other_pre | exact right_okp (by assumption) (by assumption) | exact num_pre (by assumption) (by assumption) | exact at_okp (by assumption) (by assumption) | exact right_yes (by assumption) (by assumption) | exact False.elim (no1 (by assumption) (by assumption) (by assumption) (by assumption)) | exact False.elim (no2 (by assumption) (by assumption) (by assumption) (by assumption)) | exact False.elim (no3 (by assumption) (by assumption) (by assumption) (by assumption)) | exact False.elim (no4 (by assumption)) | decide | (simp only [decide_eq_true_eq, decide_eq_false_iff_not, Bool.not_eq_true', Bool.not_eq_false', Bool.and_eq_true, Bool.or_eq_false_iff, bne_iff_ne, bne_eq_false_iff_eq, ne_eq, Int.not_lt, Int.not_le] at *; first | omega | exact ⟨by omega, by omega⟩)) d k Q q)) (fun _ _ h => Tyd.ty (K := K) h) T.nf_Poly__type_str_ (fun vs H1 d k Q q => cv_Poly___eq___V_str (by first | omega | assumption | exact prime_le (by assumption) | exact right_new (by assumption) (by assumption) | exact to_told (by assumption) (by assumption) | exact other_pre | exact right_okp (by assumption) (by assumption) | exact num_pre (by assumption) (by assumption) | exact at_okp (by assumption) (by assumption) | exact right_yes (by assumption) (by assumption) | exact False.elim (no1 (by assumption) (by assumption) (by assumption) (by assumption)) | exact False.elim (no2 (by assumption) (by assumption) (by assumption) (by assumption)) | exact False.elim (no3 (by assumption) (by assumption) (by assumption) (by assumption)) | exact False.elim (no4 (by assumption)) | decide | (simp only [decide_eq_true_eq, decide_eq_false_iff_not, Bool.not_eq_true', Bool.not_eq_false', Bool.and_eq_true, Bool.or_eq_false_iff, bne_iff_ne, bne_eq_false_iff_eq, ne_eq, Int.not_lt, Int.not_le] at *; first | omega | exact ⟨by omega, by omega⟩)) d k Q q))) (fun hb67 => (eb_or (eb_test (ev_eqOwn (ev_var rfl h_36) (ev_prop (ev_var rfl h_36) (fun vs H1 d k Q q => cv_Poly_number (by first | omega | assumption | exact prime_le (by assumption) | exact right_new (by assumption) (by assumption) | exact to_told (by assumption) (by assumption) | exact other_pre | exact right_okp (by assumption) (by assumption) | exact num_pre (by assumption) (by assumption) | exact at_okp (by assumption) (by assumption) | exact right_yes (by assumption) (by assumption) | exact False.elim (no1 (by assumption) (by assumption) (by assumption) (by assumption)) | exact False.elim (no2 (by assumption) (by assumption) (by assumption) (by assumption)) | exact False.elim (no3 (by assumption) (by assumption) (by assumption) (by assumption)) | exact False.elim (no4 (by assumption)) | decide | (simp only [decide_eq_true_eq, decide_eq_false_iff_not, Bool.not_eq_true', Bool.not_eq_false', Bool.and_eq_true, Bool.or_eq_false_iff, bne_iff_ne, bne_eq_false_iff_eq, ne_eq, Int.not_lt, Int.not_le] at *; first | omega | exact ⟨by omega, by omega⟩)) d k Q q)) (fun _ _ h => Tyd.ty (K := K) h) T.nf_Poly__type_int_ (fun vs H1 d k Q q => cv_Poly___eq___V_int (by first | omega | assumption | exact prime_le (by assumption) | exact right_new (by assumption) (by assumption) | exact to_told (by assumption) (by assumption) | exact other_pre | exact right_okp (by assumption) (by assumption) | exact num_pre (by assumption) (by assumption) | exact at_okp (by assumption) (by assumption) | exact right_yes (by assumption) (by assumption) | exact False.elim (no1 (by assumption) (by assumption) (by assumption) (by assumption)) | exact False.elim (no2 (by assumption) (by assumption) (by assumption) (by assumption)) | exact False.elim (no3 (by assumption) (by assumption) (by assumption) (by assumption)) | exact False.elim (no4 (by assumption)) | decide | (simp only [decide_eq_true_eq, decide_eq_false_iff_not, Bool.not_eq_true', Bool.not_eq_false', Bool.and_eq_true, Bool.or_eq_false_iff, bne_iff_ne, bne_eq_false_iff_eq, ne_eq, Int.not_lt, Int.not_le] at *; first | omega | exact ⟨by omega, by omega⟩)) d k Q q))) (fun hb68 => (eb_test (ev_eqOwn (ev_var rfl h_36) (ev_Poly___init___V_row (ea_cons (ev_if (F := pI) (eb_test (ev_gt (ev_var rfl h_6) ev_int)) (fun hb70 => ev_int) (fun hb70 => ev_int)) (ea_cons (EvP.row (r := ([(1 : Int), (1 : Int), (1 : Int), (2 : Int)] : List Int)) (ev_tup (K := K) (ea_cons ev_int (ea_cons ev_int (ea_cons ev_int (ea_cons ev_int ea_nil)))) (by show 4 ≤ 100000; decide))) ea_nil)) (by first | omega | assumption | exact prime_le (by assumption) | exact right_new (by assumption) (by assumption) | exact to_told (by assumption) (by assumption) | exact other_pre | exact right_okp (by assumption) (by assumption) | exact num_pre (by assumption) (by assumption) | exact at_okp (by assumption) (by assumption) | exact right_yes (by assumption) (by assumption) | exact False.elim (no1 (by assumption) (by assumption) (by assumption) (by assumption)) | exact False.elim (no2 (by assumption) (by assumption) (by assumption) (by assumption)) | exact False.elim (no3 (by assumption) (by assumption) (by assumption) (by assumption)) | exact False.elim (no4 (by assumption)) | decide | (simp only [decide_eq_true_eq, decide_eq_false_iff_not, Bool.not_eq_true', Bool.not_eq_false', Bool.and_eq_true, Bool.or_eq_false_iff, bne_iff_ne, bne_eq_false_iff_eq, ne_eq, Int.not_lt, Int.not_le] at *; first | omega | exact ⟨by omega, by omega⟩))) (fun _ _ h => T.is_Poly.ty h) T.nf_Poly__ref_C_Poly (fun vs H1 d k Q q => cv_Poly___eq__ (by first | omega | assumption | exact prime_le (by assumption) | exact right_new (by assumption) (by assumption) | exact to_told (by assumption) (by assumption) | exact other_pre | exact right_okp (by assumption) (by assumption) | exact num_pre (by assumption) (by assumption) | exact at_okp (by assumption) (by assumption) | exact right_yes (by assumption) (by assumption) | exact False.elim (no1 (by assumption) (by assumption) (by assumption) (by assumption)) | exact False.elim (no2 (by assumption) (by assumption) (by assumption) (by assumption)) | exact False.elim (no3 (by assumption) (by assumption) (by assumption) (by assumption)) | exact False.elim (no4 (by assumption)) | decide | (simp only [decide_eq_true_eq, decide_eq_false_iff_not, Bool.not_eq_true', Bool.not_eq_false', Bool.and_eq_true, Bool.or_eq_false_iff, bne_iff_ne, bne_eq_false_iff_eq, ne_eq, Int.not_lt, Int.not_le] at *; first | omega | exact ⟨by omega, by omega⟩)) d k Q q))))))))) d64 ?_ ?_
          · intro hb75 H72 e73 d74
            have h__law_dice_here := (Mono.mono e73 h__law_dice_here)
            have h_6 := (Mono.mono e73 h_6)
            have h_12 := (Mono.mono e73 h_12)
            have h_13 := (Mono.mono e73 h_13)
            have h_36 := (Mono.mono e73 h_36)
            have h_37 := (Mono.mono e73 h_37)
            have c0 := c0.trans e73
            skip
            exact s_ret ev_bl d74 (fun v76 H77 e78 d79 h80 => by
              exact q _ _ (c0.trans e78) d79 ⟨false, (by first | omega | assumption | exact prime_le (by assumption) | exact right_new (by assumption) (by assumption) | exact to_told (by assumption) (by assumption) | exact other_pre | exact right_okp (by assumption) (by assumption) | exact num_pre (by assumption) (by assumption) | exact at_okp (by assumption) (by assumption) | exact right_yes (by assumption) (by assumption) | exact False.elim (no1 (by assumption) (by assumption) (by assumption) (by assumption)) | exact False.elim (no2 (by assumption) (by assumption) (by assumption) (by assumption)) | exact False.elim (no3 (by assumption) (by assumption) (by assumption) (by assumption)) | exact False.elim (no4 (by assumption)) | decide | (simp only [decide_eq_true_eq, decide_eq_false_iff_not, Bool.not_eq_true', Bool.not_eq_false', Bool.and_eq_true, Bool.or_eq_false_iff, bne_iff_ne, bne_eq_false_iff_eq, ne_eq, Int.not_lt, Int.not_le] at *; first | omega | exact ⟨by omega, by omega⟩)), h80⟩)
          · intro hb84 H81 e82 d83
            have h__law_dice_here := (Mono.mono e82 h__law_dice_here)
            have h_6 := (Mono.mono e82 h_6)
            have h_12 := (Mono.mono e82 h_12)
            have h_13 := (Mono.mono e82 h_13)
            have h_36 := (Mono.mono e82 h_36)
            have h_37 := (Mono.mono e82 h_37)
            have c0 := c0.trans e82
            skip
            refine q_asg (ev__law_roll (ea_cons (ev_var rfl h__law_dice_here) (ea_cons (ev_pow ev_int ev_int (by first | exact ⟨by omega, by omega, by omega⟩ | omega | assumption | exact prime_le (by assumption) | exact right_new (by assumption) (by assumption) | exact to_told (by assumption) (by assumption) | exact other_pre | exact right_okp (by assumption) (by assumption) | exact num_pre (by assumption) (by assumption) | exact at_okp (by assumption) (by assumption) | exact right_yes (by assumption) (by assumption) | exact False.elim (no1 (by assumption) (by assumption) (by assumption) (by assumption)) | exact False.elim (no2 (by assumption) (by assumption) (by assumption) (by assumption)) | exact False.elim (no3 (by assumption) (by assumption) (by assumption) (by assumption)) | exact False.elim (no4 (by assumption)) | decide | (simp only [decide_eq_true_eq, decide_eq_false_iff_not, Bool.not_eq_true', Bool.not_eq_false', Bool.and_eq_true, Bool.or_eq_false_iff, bne_iff_ne, bne_eq_false_iff_eq, ne_eq, Int.not_lt, Int.not_le] at *; first | omega | exact ⟨by omega, by omega⟩))) ea_nil)) (by first | exact ⟨by omega, by omega⟩ | omega | assumption | exact prime_le (by assumption) | exact right_new (by assumption) (by assumption) | exact to_told (by assumption) (by assumption) | exact other_pre | exact right_okp (by assumption) (by assumption) | exact num_pre (by assumption) (by assumption) | exact at_okp (by assumption) (by assumption) | exact right_yes (by assumption) (by assumption) | exact False.elim (no1 (by assumption) (by assumption) (by assumption) (by assumption)) | exact False.elim (no2 (by assumption) (by assumption) (by assumption) (by assumption)) | exact False.elim (no3 (by assumption) (by assumption) (by assumption) (by assumption)) | exact False.elim (no4 (by assumption)) | decide | (simp only [decide_eq_true_eq, decide_eq_false_iff_not, Bool.not_eq_true', Bool.not_eq_false', Bool.and_eq_true, Bool.or_eq_false_iff, bne_iff_ne, bne_eq_false_iff_eq, ne_eq, Int.not_lt, Int.not_le] at *; first | omega | exact ⟨by omega, by omega⟩))) d83 (fun v86 H87 e88 d89 h_90 => ?_)
            obtain ⟨m85, hm85, h_90⟩ := h_90
            have h__law_dice_here := (Mono.mono e88 h__law_dice_here)
            have h_6 := (Mono.mono e88 h_6)
            have h_12 := (Mono.mono e88 h_12)
            have h_13 := (Mono.mono e88 h_13)
            have h_36 := (Mono.mono e88 h_36)
            have h_37 := (Mono.mono e88 h_37)
            have c0 := c0.trans e88
            exact s_ret (ev_and (ev_eqI (ev_prop (ev_poly_at (ea_cons (ev_var rfl h_6) (ea_cons (ev_var rfl h_90) ea_nil)) (by first | omega | assumption | exact prime_le (by assumption) | exact right_new (by assumption) (by assumption) | exact to_told (by assumption) (by assumption) | exact other_pre | exact right_okp (by assumption) (by assumption) | exact num_pre (by assumption) (by assumption) | exact at_okp (by assumption) (by assumption) | exact right_yes (by assumption) (by assumption) | exact False.elim (no1 (by assumption) (by assumption) (by assumption) (by assumption)) | exact False.elim (no2 (by assumption) (by assumption) (by assumption) (by assumption)) | exact False.elim (no3 (by assumption) (by assumption) (by assumption) (by assumption)) | exact False.elim (no4 (by assumption)) | decide | (simp only [decide_eq_true_eq, decide_eq_false_iff_not, Bool.not_eq_true', Bool.not_eq_false', Bool.and_eq_true, Bool.or_eq_false_iff, bne_iff_ne, bne_eq_false_iff_eq, ne_eq, Int.not_lt, Int.not_le] at *; first | omega | exact ⟨by omega, by omega⟩))) (fun vs H1 d k Q q => cv_Poly_number (by first | omega | assumption | exact prime_le (by assumption) | exact right_new (by assumption) (by assumption) | exact to_told (by assumption) (by assumption) | exact other_pre | exact right_okp (by assumption) (by assumption) | exact num_pre (by assumption) (by assumption) | exact at_okp (by assumption) (by assumption) | exact right_yes (by assumption) (by assumption) | exact False.elim (no1 (by assumption) (by assumption) (by assumption) (by assumption)) | exact False.elim (no2 (by assumption) (by assumption) (by assumption) (by assumption)) | exact False.elim (no3 (by assumption) (by assumption) (by assumption) (by assumption)) | exact False.elim (no4 (by assumption)) | decide | (simp only [decide_eq_true_eq, decide_eq_false_iff_not, Bool.not_eq_true', Bool.not_eq_false', Bool.and_eq_true, Bool.or_eq_false_iff, bne_iff_ne, bne_eq_false_iff_eq, ne_eq, Int.not_lt, Int.not_le] at *; first | omega | exact ⟨by omega, by omega⟩)) d k Q q)) (ev_var rfl h_90)) (fun hb91 => (ev_and (ev_isi (ea_cons (ev_fld (P := (pB (isZero (m_Poly___init___V_row m1 m14)))) (ev_var rfl h_36) T.cl_Poly T.n_Poly_is_zero (by rfl)) (ea_cons (ev_ty (M := [aD]) (c := V.ty "bool")) ea_nil)) (fun _ _ h => Tyd.ty (K := K) h) (.ty _) (kit_ty (show kitB "bool" "bool" = some true by decide +kernel))) (fun hb92 => (ev_isi (ea_cons (ev_fld (P := (pB (isMonic (m_Poly___init___V_row m1 m14)))) (ev_var rfl h_36) T.cl_Poly T.n_Poly_is_monic (by rfl)) (ea_cons (ev_ty (M := [aD]) (c := V.ty "bool")) ea_nil)) (fun _ _ h => Tyd.ty (K := K) h) (.ty _) (kit_ty (show kitB "bool" "bool" = some true by decide +kernel))))))) d89 (fun v94 H95 e96 d97 h98 => by
              exact q _ _ (c0.trans e96) d97 ⟨((decide ((m_Poly_number (m_poly_at m1 m85)) = m85)) && (true && true)), (by first | omega | assumption | exact prime_le (by assumption) | exact right_new (by assumption) (by assumption) | exact to_told (by assumption) (by assumption) | exact other_pre | exact right_okp (by assumption) (by assumption) | exact num_pre (by assumption) (by assumption) | exact at_okp (by assumption) (by assumption) | exact right_yes (by assumption) (by assumption) | exact False.elim (no1 (by assumption) (by assumption) (by assumption) (by assumption)) | exact False.elim (no2 (by assumption) (by assumption) (by assumption) (by assumption)) | exact False.elim (no3 (by assumption) (by assumption) (by assumption) (by assumption)) | exact False.elim (no4 (by assumption)) | decide | (simp only [decide_eq_true_eq, decide_eq_false_iff_not, Bool.not_eq_true', Bool.not_eq_false', Bool.and_eq_true, Bool.or_eq_false_iff, bne_iff_ne, bne_eq_false_iff_eq, ne_eq, Int.not_lt, Int.not_le] at *; first | omega | exact ⟨by omega, by omega⟩)), h98⟩)
theorem cv__law_right {Cc : Cl} {aD : Addr} {E : XK} {vs : List V} {H1 : Hp}  (pre : (True)) (d : Dcs [aD] H1) (k : All2 [(pD aD)] vs H1) (Q : VK) (q : ∀ v H2, Ch [aD] H1 H2 → Dcs [aD] H2 → (pX (fun b => b = true) pB) v H2 → Q v H2) : sp__law_right K Cc vs H1 Q E := by
  obtain ⟨v__law_dice_here, rfl, h__law_dice_here⟩ := all1 k
  exact ⟨aD, v__law_dice_here, rfl, d.one, h__law_dice_here, pre, q⟩
theorem ev__law_right {Cc : Cl} {aD : Addr} {σ : St} {H : Hp} {tr : TA} {E : XK}  (h : EvA [aD] tr σ H [(pD aD)]) (pre : (True)) : EvP [aD] (tCall (sp__law_right K Cc) [] E tr) σ H (pX (fun b => b = true) pB) := ev_call h fun vs H1 d k Q q => cv__law_right pre d k Q q
end
end R

namespace R
open PySem PySem.Spec L2 Mir TL RZ
def sp__law_dice (K : PySem.W.Frag) (Cc : Cl) : Sp := fun vs H Q _ => ∃ (a : Addr) (ns : List Int) (k : Nat), vs = [.ref a, .int k] ∧ SqL K H a (ns.map V.int) ∧ ∀ p x y z, H p = none → Q (.ref p) (upd H p (.lst [.int x, .int y, .int z]))
abbrev N__law_dice : List Str := ["_law_script", "_law_spot", "_law_cell", "_law_left"]
theorem sc__law_dice : FnScope N__law_dice ["_law_script", "_law_spot"] (defScope s__law_dice) := ⟨rfl, rfl, rfl, by decide +kernel, rfl, by decide +kernel, by decide +kernel⟩
section
variable {P : Program} {w : World} {K : PySem.W.Frag} {mg : Str → Option Value} {base : Heap}
theorem ok__law_dice (T : Txt K mg) : FnOk P w K mg base CX0 1 T.f__law_dice T.fd__law_dice ["_law_script", "_law_spot"] (sp__law_dice K T.C) := by
  refine T.F__law_dice.ok sc__law_dice (fun vs H Q E h => ?_) (fun cdv A outer s H vs Q E hr h => ?_)
  · obtain ⟨a, ns, k, rfl, hS, q⟩ := h
    rfl
  · obtain ⟨a, ns, k, rfl, hS, q⟩ := h
    refine ⟨_, (pss_cons (ps_set (i := 2) sc__law_dice.nd rfl (Or.inl rfl) (pe_ifExp (pt_cmpR op_lt (pv 1) (pe_callB call_len (by rfl) T.z_len (by decide +kernel) (pa_cons (pv 0) pa_nil)) (nomark _)) (pe_callTy call_int1 (by rfl) T.z_int (by decide +kernel) (pa_cons (pe_ix (ix_listK K) (pv 0) (pv 1) (fun _ _ => rfl)) pa_nil)) (pe_op op_add (pe_op op_mul pe_int (pv 1)) pe_int)))
      (pss_cons (ps_set (i := 3) sc__law_dice.nd rfl (Or.inl rfl) (pe_op op_mod (pe_callB (call_max2 rfl) (by rfl) T.z_max (by decide +kernel) (pa_cons pe_int (pa_cons (pe_op op_sub (pe_callB call_abs (by rfl) T.z_abs (by decide +kernel) (pa_cons (pv 2) pa_nil)) (pe_op op_pow pe_int pe_int)) pa_nil))) (pe_op op_mulW (pe_op op_pow pe_int pe_int) (pe_op op_pow pe_int pe_int))))
      (pss_one (ps_ret (pe_lst (pa_cons (pv 3) (pa_cons (pe_op op_add (pe_op op_add (pe_op op_add (pe_op op_mul (pe_op op_mod (pe_callB call_abs (by rfl) T.z_abs (by decide +kernel) (pa_cons (pv 2) pa_nil)) pe_int) pe_int) (pe_op op_mul pe_int (pv 1))) (pe_op op_mul pe_int (pe_callTy call_int1 (by rfl) T.z_int (by decide +kernel) (pa_cons (pe_cmpR op_lt (pv 2) pe_int (nomark _)) pa_nil)))) pe_int) (pa_cons pe_int pa_nil)))))))), ?_⟩
    refine ⟨_, rfl, _, rfl, _, _, rfl, .inl ⟨_, hS, rfl⟩, _, _, rfl, rfl, _, rfl, ?_⟩
    rw [List.length_map]
    refine ite2 (fun c => ?_) (fun c => ?_)
    · have hk : k < ns.length := by have := of_decide_eq_true c; omega
      refine ⟨_, rfl, _, rfl, a, _, _, .int ns[k], rfl, rfl, hS, atI_nat (by rw [List.getElem?_map, List.getElem?_eq_getElem hk]; rfl), .inl ⟨_, rfl, ?_⟩⟩
      refine ⟨_, rfl, _, rfl, _, _, rfl, rfl, ⟨by decide, by decide, by decide⟩, _, _, rfl, rfl, _, _, rfl, _, _, rfl, rfl, ⟨by decide, by decide, by decide⟩, _, _, rfl, rfl, ⟨by decide, by decide, by decide⟩, _, _, rfl, rfl, (show (Int.natAbs _).log2 + (Int.natAbs _).log2 < 1000000 by decide +kernel), _, _, rfl, rfl, (show (0 : Int) < _ by decide +kernel), ?_⟩
      refine ⟨_, rfl, _, rfl, _, rfl, _, _, rfl, rfl, (show (0 : Int) < _ by decide), _, _, rfl, rfl, .inr ⟨by decide, by decide⟩, _, rfl, _, _, rfl, rfl, .inl ⟨by decide, by decide⟩, _, _, rfl, rfl, _, rfl, _, _, rfl, rfl, .inr ⟨_, rfl, _, _, rfl, rfl, .inl ⟨by decide, by decide⟩, _, _, rfl, rfl, _, _, rfl, rfl, (by show 3 ≤ sizeLine; decide), fun p hp => q p _ _ _ hp⟩⟩
    · refine ⟨_, rfl, _, _, rfl, rfl, .inl ⟨by decide, by decide⟩, _, _, rfl, rfl, ?_⟩
      refine ⟨_, rfl, _, rfl, _, _, rfl, rfl, ⟨by decide, by decide, by decide⟩, _, _, rfl, rfl, _, _, rfl, _, _, rfl, rfl, ⟨by decide, by decide, by decide⟩, _, _, rfl, rfl, ⟨by decide, by decide, by decide⟩, _, _, rfl, rfl, (show (Int.natAbs _).log2 + (Int.natAbs _).log2 < 1000000 by decide +kernel), _, _, rfl, rfl, (show (0 : Int) < _ by decide +kernel), ?_⟩
      refine ⟨_, rfl, _, rfl, _, rfl, _, _, rfl, rfl, (show (0 : Int) < _ by decide), _, _, rfl, rfl, .inr ⟨by decide, by decide⟩, _, rfl, _, _, rfl, rfl, .inl ⟨by decide, by decide⟩, _, _, rfl, rfl, _, rfl, _, _, rfl, rfl, .inr ⟨_, rfl, _, _, rfl, rfl, .inl ⟨by decide, by decide⟩, _, _, rfl, rfl, _, _, rfl, rfl, (by show 3 ≤ sizeLine; decide), fun p hp => q p _ _ _ hp⟩⟩
theorem ev__law_dice {Cc : Cl} {σ : St} {H : Hp} {tr : TA} {E : XK} {ns : List Int} {k : Int} (h : EvA [] tr σ H [pSc K ns, pI k]) (hk : 0 ≤ k) : EvF [] (tCall (sp__law_dice K Cc) [] E tr) σ H [pZ, pZ, pZ] := fun H1 e d Q q => h H1 e d _ fun vs H2 e2 d2 kk => by
  rw [List.append_nil]
  obtain ⟨v, w, rfl, ⟨a, rfl, s⟩, rfl⟩ := all2 kk
  exact ⟨a, ns, k.toNat, by rw [Int.toNat_of_nonneg hk], s, fun p x y z hp => q p _ _ (none_back e2 hp (fun a h => nomatch h)) (e2.trans (.new hp)) .nil upd_same (.cons ⟨x, rfl⟩ (.cons ⟨y, rfl⟩ (.cons ⟨z, rfl⟩ .nil)))⟩
end
end R

namespace R
open PySem PySem.Spec L2 Mir TL RZ
theorem read0 : (3 : Int) ∈ primes ∧ (("x^5+2x+1" : Str)).length ≤ 1000 ∧ (m_row_told (3 : Int) ("x^5+2x+1" : Str)).isSome = true ∧ m_is_row (3 : Int) ((m_row_told (3 : Int) ("x^5+2x+1" : Str)).getD default) = true := ⟨by decide, by decide +kernel, by decide +kernel, by decide +kernel⟩
theorem law_f : m_Poly_read () (3 : Int) ("x^5+2x+1" : Str) = ⟨3, [1, 2, 0, 0, 0, 1]⟩ := by
  have e : m_row_told (3 : Int) ("x^5+2x+1" : Str) = some [1, 2, 0, 0, 0, 1] := by decide +kernel
  unfold m_Poly_read
  rw [e]
  rfl
theorem okp0 : Okp (m_Poly_read () (3 : Int) ("x^5+2x+1" : Str)) := by
  rw [law_f]
  exact ⟨by decide, by decide, by decide, by decide, by decide⟩
theorem okp7 : Okp (m_Poly___init___V_row (7 : Int) ([6, 0, 1] : List Int)) := ⟨by decide, by decide, by decide, by decide, by decide⟩
theorem call0 : Okp (m_Poly_read () (3 : Int) ("x^5+2x+1" : Str)) ∧ 0 ≤ (2 : Int) ∧ (2 : Int) < (m_Poly_read () (3 : Int) ("x^5+2x+1" : Str)).p := ⟨okp0, by decide, by rw [law_f]; decide⟩
end R

namespace R
open PySem PySem.Spec L2 Mir TL RZ
abbrev N_law : List Str := ["_law_script", "_law_spot", "_law_dice_here", "_law_f", "_law_told"]
theorem sc_law : FnScope N_law ["_law_script"] (defScope s_law) := ⟨rfl, rfl, rfl, by decide +kernel, rfl, by decide +kernel, by decide +kernel⟩
section
variable {P : Program} {w : World} {K : PySem.W.Frag} {mg : Str → Option Value} {base : Heap}
theorem ok_law (T : Txt K mg) : FnOk P w K mg base CX0 10 T.f_law T.fd_law ["_law_script"] (sp_law K) := by
  refine T.F_law.ok sc_law (fun vs H Q E h => ?_) (fun cdv A outer s H vs Q E hr h => ?_)
  · obtain ⟨aS, ns, rfl, hS, hl, q⟩ := h
    rfl
  · obtain ⟨aS, ns, rfl, hS, hl, q⟩ := h
    refine ⟨_, (pss_cons (ps_for PassesOwn.never rfl (pi_range1 (by rfl) T.z_range (pa_cons (pe_callB (call_max2 rfl) (by rfl) T.z_max (by decide +kernel) (pa_cons pe_int (pa_cons (pe_callB (call_min2 rfl) (by rfl) T.z_min (by decide +kernel) (pa_cons pe_int (pa_cons (pe_callB (call_len_seqK K) (by rfl) T.z_len (by decide +kernel) (pa_cons (pv 0) pa_nil)) pa_nil))) pa_nil))) pa_nil)) (pg_name (i := 1) sc_law.nd rfl (Or.inl rfl)) (pss_cons (ps_set (i := 2) sc_law.nd rfl (Or.inl rfl) (pe_call (ok__law_dice T) (hr.mono (by decide)) (by rfl) T.g__law_dice T.F__law_dice.kp T.b__law_dice .nil pass0 (pa_cons (pv 0) (pa_cons (pv 1) pa_nil))))
        (pss_one (ps_if (PW.pt (pw_or (pt_not (pt_val (pe_call (ok__law_right T) (hr.mono (by decide)) (by rfl) T.g__law_right T.F__law_right.kp T.b__law_right .nil pass0 (pa_cons (pv 2) pa_nil)))) (pw_or1 (pt_not (pt_val (pe_call (ok__law_right T) (hr.mono (by decide)) (by rfl) T.g__law_right T.F__law_right.kp T.b__law_right .nil pass0 (pa_cons (pv 2) pa_nil))))))) (pss_one (ps_ret pe_bl)) pss_nil))))
        (pss_cons (ps_set (i := 3) sc_law.nd rfl (Or.inl rfl) (ClX.pe_cmeth (pe_glob (v := V.ref T.C.Poly) (by rfl) T.g_Poly rfl) T.cr_Poly T.cm_Poly_read ((ok_Poly_read T).raw0 T.b_Poly_read) (hr.mono (by decide)) pass0 (pa_cons pe_int (pa_cons pe_str pa_nil))))
        (pss_cons (ps_set (i := 4) sc_law.nd rfl (Or.inl rfl) (pe_lst (pa_cons (pe_fldK K (pv 3) rfl) (pa_cons (pe_fldK K (pv 3) rfl) (pa_cons (pe_prop (pv 3) T.cl_Poly T.pr_Poly_number (ok_Poly_number T) (hr.mono (by decide)) T.b_Poly_number .nil pass0 rfl) (pa_cons (pe_callOwn (i := 3) T.s1_Poly___call__ T.fi_Poly___call__ (ok_Poly___call__ T) (hr.mono (by decide)) T.b_Poly___call__ pass0 (pa_cons pe_int pa_nil)) (pa_cons (pe_ixOwn T.s1_Poly___getitem__ T.fi_Poly___getitem__ (ok_Poly___getitem__ T) (hr.mono (by decide)) T.b_Poly___getitem__ pass0 (pv 3) pe_int (fun _ _ => rfl)) (pa_cons (pe_callTy (call_strOwn T.s1_Poly___str__ (ok_Poly___str__ T) (hr.mono (by decide)) T.b_Poly___str__ pass0) (by rfl) T.z_str (by decide +kernel) (pa_cons (pe_call (ok_poly_at T) (hr.mono (by decide)) (by rfl) T.g_poly_at T.F_poly_at.kp T.b_poly_at .nil pass0 (pa_cons pe_int (pa_cons pe_int pa_nil))) pa_nil)) (pa_cons (pe_callTy (call_strOwn T.s1_Poly___str__ (ok_Poly___str__ T) (hr.mono (by decide)) T.b_Poly___str__ pass0) (by rfl) T.z_str (by decide +kernel) (pa_cons (pe_call (ok_poly_at T) (hr.mono (by decide)) (by rfl) T.g_poly_at T.F_poly_at.kp T.b_poly_at .nil pass0 (pa_cons pe_int (pa_cons pe_int pa_nil))) pa_nil)) (pa_cons (pe_callTy (call_strOwn T.s1_Poly___str__ (ok_Poly___str__ T) (hr.mono (by decide)) T.b_Poly___str__ pass0) (by rfl) T.z_str (by decide +kernel) (pa_cons (pe_make T.mk_Poly (ok_Poly___init___V_row T) (hr.mono (by decide)) (by rfl) T.g_Poly T.b_Poly___init__ .nil pass0 (pa_cons pe_int (pa_cons (pe_tup (pa_cons pe_int (pa_cons pe_int (pa_cons pe_int pa_nil)))) pa_nil))) pa_nil)) pa_nil))))))))))
        (pss_one (ps_ret (pe_cmpR (op_eqAK K hr.units) (pv 4) (pe_lst (pa_cons (pe_tup (pa_cons pe_int (pa_cons pe_int (pa_cons pe_int (pa_cons pe_int (pa_cons pe_int (pa_cons pe_int pa_nil))))))) (pa_cons pe_int (pa_cons pe_int (pa_cons pe_int (pa_cons pe_int (pa_cons pe_str (pa_cons pe_str (pa_cons pe_str pa_nil))))))))) (nomark _))))))), ?_⟩
    have hS : pSc K ns (.ref aS) H := ⟨aS, rfl, hS⟩
    refine q_for (M' := []) (F := pI) (xs := (irange 0 (if (if ((ns).length : Int) < (3 : Int) then ((ns).length : Int) else (3 : Int)) > (1 : Int) then (if ((ns).length : Int) < (3 : Int) then ((ns).length : Int) else (3 : Int)) else (1 : Int)))) (src_range1 (ea_cons (ev_max (ea_cons ev_int (ea_cons (ev_min (ea_cons ev_int (ea_cons (ev_lenSc (ea_cons (ev_var rfl hS) ea_nil)) ea_nil))) ea_nil))) ea_nil) (by first | exact spots_in | exact ⟨by omega, by omega⟩ | exact ⟨by omega, by omega, by omega, by omega⟩ | omega | assumption | exact absurd (by assumption : (false || false) = true) (by decide) | exact read0 | exact okp0 | exact call0 | exact at_okp (by decide) (by decide) | exact okp7 | (rw [law_f]; decide +kernel) | decide +kernel | decide | (simp only [decide_eq_true_eq, decide_eq_false_iff_not, Bool.not_eq_true', Bool.not_eq_false', Bool.and_eq_true, Bool.or_eq_false_iff, bne_iff_ne, bne_eq_false_iff_eq, ne_eq, Int.not_lt, Int.not_le] at *; first | omega | exact ⟨by omega, by omega⟩))) .nil (fun Hs (r : List Int) sg Hc => ∃ (o1 : Option V) (o2 : Option V) (o3 : Option V) (o4 : Option V), sg = [some (.ref aS), o1, o2, o3, o4] ∧ Ch [] Hs Hc ∧ Ch [] H Hc ∧ pSc K ns (.ref aS) Hc) ?_ (fun _ _ _ _ h => ?_) ?_ ?_
    · intro H2 e2 d2
      exact ⟨_, _, _, _, rfl, .refl _, e2, Mono.mono e2 hS⟩
    · obtain ⟨_, _, _, _, rfl, c2, c0, hS⟩ := h
      exact c2
    · rintro Hs x r vx sg Hc Hx hxm ⟨oz1, oz2, oz3, oz4, rfl, c2, c0, hS⟩ sm hx
      have c2 := c2.trans (.of sm)
      have c0 := c0.trans (.of sm)
      have cs : Ch [] Hc Hx := .of sm
      have hS := Mono.mono cs hS
      refine q_mut (ev__law_dice (ea_cons (ev_var rfl hS) (ea_cons (ev_var rfl hx) ea_nil)) (by have := mem_irange hxm; omega)) .nil (fun aD vsD HD aD_z aD_n eD dD0 aD_h aD_k => ?_)
      have hdc : Dc aD HD := dc_of aD_h aD_k
      have dD : Dcs [aD] HD := dcs1 hdc
      have hDc : pD aD (.ref aD) HD := rfl
      have cB : Ch [aD] HD HD := .refl _
      refine s_if (eb_or (eb_not (eb_val (ev_yes (ev__law_right (ea_cons (ev_var rfl hDc) ea_nil) (by first | omega | assumption | exact absurd (by assumption : (false || false) = true) (by decide) | exact read0 | exact okp0 | exact call0 | exact at_okp (by decide) (by decide) | exact okp7 | (rw [law_f]; decide +kernel) | decide +kernel | decide | (simp only [decide_eq_true_eq, decide_eq_false_iff_not, Bool.not_eq_true', Bool.not_eq_false', Bool.and_eq_true, Bool.or_eq_false_iff, bne_iff_ne, bne_eq_false_iff_eq, ne_eq, Int.not_lt, Int.not_le] at *; first | omega | exact ⟨by omega, by omega⟩)))))) (fun hb2 => (eb_not (eb_val (ev_yes (ev__law_right (ea_cons (ev_var rfl hDc) ea_nil) (by first | omega | assumption | exact absurd (by assumption : (false || false) = true) (by decide) | exact read0 | exact okp0 | exact call0 | exact at_okp (by decide) (by decide) | exact okp7 | (rw [law_f]; decide +kernel) | decide +kernel | decide | (simp only [decide_eq_true_eq, decide_eq_false_iff_not, Bool.not_eq_true', Bool.not_eq_false', Bool.and_eq_true, Bool.or_eq_false_iff, bne_iff_ne, bne_eq_false_iff_eq, ne_eq, Int.not_lt, Int.not_le] at *; first | omega | exact ⟨by omega, by omega⟩)))))))) dD ?_ ?_
      · intro hb8 H5 e6 d7
        have hDc := (Mono.mono e6 hDc)
        have cB := cB.trans e6
        skip
        exact s_ret ev_bl d7 (fun v9 H10 e11 d12 h13 => law_ret q (by first | omega | assumption | exact absurd (by assumption : (false || false) = true) (by decide) | exact read0 | exact okp0 | exact call0 | exact at_okp (by decide) (by decide) | exact okp7 | (rw [law_f]; decide +kernel) | decide +kernel | decide | (simp only [decide_eq_true_eq, decide_eq_false_iff_not, Bool.not_eq_true', Bool.not_eq_false', Bool.and_eq_true, Bool.or_eq_false_iff, bne_iff_ne, bne_eq_false_iff_eq, ne_eq, Int.not_lt, Int.not_le] at *; first | omega | exact ⟨by omega, by omega⟩)) h13)
      · intro hb17 H14 e15 d16
        have hDc := (Mono.mono e15 hDc)
        have cB := cB.trans e15
        skip
        have eT := (eD.more.trans cB).drop aD_z
        exact ⟨_, _, _, _, rfl, c2.trans eT, c0.trans eT, Mono.mono eT hS⟩
    · rintro Hs sg Hc ⟨_, _, _, _, rfl, c2, c0, hS⟩
      refine q_asg (ev_cmeth (ev_ty (c := V.ref T.C.Poly)) (ea_cons ev_int (ea_cons ev_str ea_nil)) (fun vs H1 d k Q q => cv_Poly_read (a_cls := ()) (by first | omega | assumption | exact absurd (by assumption : (false || false) = true) (by decide) | exact read0 | exact okp0 | exact call0 | exact at_okp (by decide) (by decide) | exact okp7 | (rw [law_f]; decide +kernel) | decide +kernel | decide | (simp only [decide_eq_true_eq, decide_eq_false_iff_not, Bool.not_eq_true', Bool.not_eq_false', Bool.and_eq_true, Bool.or_eq_false_iff, bne_iff_ne, bne_eq_false_iff_eq, ne_eq, Int.not_lt, Int.not_le] at *; first | omega | exact ⟨by omega, by omega⟩)) d k Q q)) .nil (fun v18 H19 e20 d21 h_22 => ?_)
      have hS := (Mono.mono e20 hS)
      have c0 := c0.trans e20
      refine q_asg (ev_lst (K := K) (ea_cons (ev_fld (P := (pRow K ((m_Poly_read () (3 : Int) ("x^5+2x+1" : Str))).r)) (ev_var rfl h_22) T.cl_Poly T.n_Poly_entries (by rfl)) (ea_cons (ev_fld (P := (pI (deg (m_Poly_read () (3 : Int) ("x^5+2x+1" : Str))))) (ev_var rfl h_22) T.cl_Poly T.n_Poly_degree (by rfl)) (ea_cons (ev_prop (ev_var rfl h_22) (fun vs H1 d k Q q => cv_Poly_number (by first | omega | assumption | exact absurd (by assumption : (false || false) = true) (by decide) | exact read0 | exact okp0 | exact call0 | exact at_okp (by decide) (by decide) | exact okp7 | (rw [law_f]; decide +kernel) | decide +kernel | decide | (simp only [decide_eq_true_eq, decide_eq_false_iff_not, Bool.not_eq_true', Bool.not_eq_false', Bool.and_eq_true, Bool.or_eq_false_iff, bne_iff_ne, bne_eq_false_iff_eq, ne_eq, Int.not_lt, Int.not_le] at *; first | omega | exact ⟨by omega, by omega⟩)) d k Q q)) (ea_cons (ev_callOwn rfl h_22 (ea_cons ev_int ea_nil) (fun vs H1 d k Q q => cv_Poly___call__ (by first | omega | assumption | exact absurd (by assumption : (false || false) = true) (by decide) | exact read0 | exact okp0 | exact call0 | exact at_okp (by decide) (by decide) | exact okp7 | (rw [law_f]; decide +kernel) | decide +kernel | decide | (simp only [decide_eq_true_eq, decide_eq_false_iff_not, Bool.not_eq_true', Bool.not_eq_false', Bool.and_eq_true, Bool.or_eq_false_iff, bne_iff_ne, bne_eq_false_iff_eq, ne_eq, Int.not_lt, Int.not_le] at *; first | omega | exact ⟨by omega, by omega⟩)) d k Q q)) (ea_cons (ev_ixOwn (ev_var rfl h_22) ev_int (fun vs H1 d k Q q => cv_Poly___getitem__ (by first | omega | assumption | exact absurd (by assumption : (false || false) = true) (by decide) | exact read0 | exact okp0 | exact call0 | exact at_okp (by decide) (by decide) | exact okp7 | (rw [law_f]; decide +kernel) | decide +kernel | decide | (simp only [decide_eq_true_eq, decide_eq_false_iff_not, Bool.not_eq_true', Bool.not_eq_false', Bool.and_eq_true, Bool.or_eq_false_iff, bne_iff_ne, bne_eq_false_iff_eq, ne_eq, Int.not_lt, Int.not_le] at *; first | omega | exact ⟨by omega, by omega⟩)) d k Q q)) (ea_cons (ev_strOwn (ea_cons (ev_poly_at (ea_cons ev_int (ea_cons ev_int ea_nil)) (by first | omega | assumption | exact absurd (by assumption : (false || false) = true) (by decide) | exact read0 | exact okp0 | exact call0 | exact at_okp (by decide) (by decide) | exact okp7 | (rw [law_f]; decide +kernel) | decide +kernel | decide | (simp only [decide_eq_true_eq, decide_eq_false_iff_not, Bool.not_eq_true', Bool.not_eq_false', Bool.and_eq_true, Bool.or_eq_false_iff, bne_iff_ne, bne_eq_false_iff_eq, ne_eq, Int.not_lt, Int.not_le] at *; first | omega | exact ⟨by omega, by omega⟩))) ea_nil) (fun vs H1 d k Q q => cv_Poly___str__ (by first | omega | assumption | exact absurd (by assumption : (false || false) = true) (by decide) | exact read0 | exact okp0 | exact call0 | exact at_okp (by decide) (by decide) | exact okp7 | (rw [law_f]; decide +kernel) | decide +kernel | decide | (simp only [decide_eq_true_eq, decide_eq_false_iff_not, Bool.not_eq_true', Bool.not_eq_false', Bool.and_eq_true, Bool.or_eq_false_iff, bne_iff_ne, bne_eq_false_iff_eq, ne_eq, Int.not_lt, Int.not_le] at *; first | omega | exact ⟨by omega, by omega⟩)) d k Q q)) (ea_cons (ev_strOwn (ea_cons (ev_poly_at (ea_cons ev_int (ea_cons ev_int ea_nil)) (by first | omega | assumption | exact absurd (by assumption : (false || false) = true) (by decide) | exact read0 | exact okp0 | exact call0 | exact at_okp (by decide) (by decide) | exact okp7 | (rw [law_f]; decide +kernel) | decide +kernel | decide | (simp only [decide_eq_true_eq, decide_eq_false_iff_not, Bool.not_eq_true', Bool.not_eq_false', Bool.and_eq_true, Bool.or_eq_false_iff, bne_iff_ne, bne_eq_false_iff_eq, ne_eq, Int.not_lt, Int.not_le] at *; first | omega | exact ⟨by omega, by omega⟩))) ea_nil) (fun vs H1 d k Q q => cv_Poly___str__ (by first | omega | assumption | exact absurd (by assumption : (false || false) = true) (by decide) | exact read0 | exact okp0 | exact call0 | exact at_okp (by decide) (by decide) | exact okp7 | (rw [law_f]; decide +kernel) | decide +kernel | decide | (simp only [decide_eq_true_eq, decide_eq_false_iff_not, Bool.not_eq_true', Bool.not_eq_false', Bool.and_eq_true, Bool.or_eq_false_iff, bne_iff_ne, bne_eq_false_iff_eq, ne_eq, Int.not_lt, Int.not_le] at *; first | omega | exact ⟨by omega, by omega⟩)) d k Q q)) (ea_cons (ev_strOwn (ea_cons (ev_Poly___init___V_row (ea_cons ev_int (ea_cons (EvP.row (r := ([(6 : Int), (0 : Int), (1 : Int)] : List Int)) (ev_tup (K := K) (ea_cons ev_int (ea_cons ev_int (ea_cons ev_int ea_nil))) (by show 3 ≤ 100000; decide))) ea_nil)) (by first | omega | assumption | exact absurd (by assumption : (false || false) = true) (by decide) | exact read0 | exact okp0 | exact call0 | exact at_okp (by decide) (by decide) | exact okp7 | (rw [law_f]; decide +kernel) | decide +kernel | decide | (simp only [decide_eq_true_eq, decide_eq_false_iff_not, Bool.not_eq_true', Bool.not_eq_false', Bool.and_eq_true, Bool.or_eq_false_iff, bne_iff_ne, bne_eq_false_iff_eq, ne_eq, Int.not_lt, Int.not_le] at *; first | omega | exact ⟨by omega, by omega⟩))) ea_nil) (fun vs H1 d k Q q => cv_Poly___str__ (by first | omega | assumption | exact absurd (by assumption : (false || false) = true) (by decide) | exact read0 | exact okp0 | exact call0 | exact at_okp (by decide) (by decide) | exact okp7 | (rw [law_f]; decide +kernel) | decide +kernel | decide | (simp only [decide_eq_true_eq, decide_eq_false_iff_not, Bool.not_eq_true', Bool.not_eq_false', Bool.and_eq_true, Bool.or_eq_false_iff, bne_iff_ne, bne_eq_false_iff_eq, ne_eq, Int.not_lt, Int.not_le] at *; first | omega | exact ⟨by omega, by omega⟩)) d k Q q)) ea_nil)))))))) (by show 8 ≤ 100000; decide)) d21 (fun v23 H24 e25 d26 h_27 => ?_)
      have hS := (Mono.mono e25 hS)
      have h_22 := (Mono.mono e25 h_22)
      have c0 := c0.trans e25
      exact s_ret (ev_eqM (K := K) (ev_var rfl h_27) (ev_lst (K := K) (ea_cons (EvP.row (r := ([(1 : Int), (2 : Int), (0 : Int), (0 : Int), (0 : Int), (1 : Int)] : List Int)) (ev_tup (K := K) (ea_cons ev_int (ea_cons ev_int (ea_cons ev_int (ea_cons ev_int (ea_cons ev_int (ea_cons ev_int ea_nil)))))) (by show 6 ≤ 100000; decide))) (ea_cons ev_int (ea_cons ev_int (ea_cons ev_int (ea_cons ev_int (ea_cons ev_str (ea_cons ev_str (ea_cons ev_str ea_nil)))))))) (by show 8 ≤ 100000; decide))) d26 (fun v28 H29 e30 d31 h32 => law_ret q (by first | omega | assumption | exact absurd (by assumption : (false || false) = true) (by decide) | exact read0 | exact okp0 | exact call0 | exact at_okp (by decide) (by decide) | exact okp7 | (rw [law_f]; decide +kernel) | decide +kernel | decide | (simp only [decide_eq_true_eq, decide_eq_false_iff_not, Bool.not_eq_true', Bool.not_eq_false', Bool.and_eq_true, Bool.or_eq_false_iff, bne_iff_ne, bne_eq_false_iff_eq, ne_eq, Int.not_lt, Int.not_le] at *; first | omega | exact ⟨by omega, by omega⟩)) h32)
end
end R

namespace R
open PySem PySem.Spec L2 Mir TL RZ
section
variable {P : Program} {w : World} {K : PySem.W.Frag} {mg : Str → Option Value} {base : Heap}
theorem all_mk {l : PySem.W.OpenLaw} {fa : Addr} {h : Heap} (X : K.In h) (G : h.Ns mainGlobals mg) (hfa : mg "law" = some (.ref fa))
    {c_Poly : Addr}
    {c_Made : Addr}
    {f_is_integer : Addr} {fd_is_integer : FuncData}
    (a_is_integer : PySem.W.nsIn K mainGlobals "is_integer" = some (some (.ref f_is_integer))) (F_is_integer : Fun K "is_integer" "is_integer" s_is_integer f_is_integer fd_is_integer)
    {f_is_within : Addr} {fd_is_within : FuncData}
    (a_is_within : PySem.W.nsIn K mainGlobals "is_within" = some (some (.ref f_is_within))) (F_is_within : Fun K "is_within" "is_within" s_is_within f_is_within fd_is_within)
    {f_is_prime : Addr} {fd_is_prime : FuncData}
    (a_is_prime : PySem.W.nsIn K mainGlobals "is_prime" = some (some (.ref f_is_prime))) (F_is_prime : Fun K "is_prime" "is_prime" s_is_prime f_is_prime fd_is_prime)
    {f_check_prime : Addr} {fd_check_prime : FuncData}
    (a_check_prime : PySem.W.nsIn K mainGlobals "check_prime" = some (some (.ref f_check_prime))) (F_check_prime : Fun K "check_prime" "check_prime" s_check_prime f_check_prime fd_check_prime)
    {f_check_count : Addr} {fd_check_count : FuncData}
    (a_check_count : PySem.W.nsIn K mainGlobals "check_count" = some (some (.ref f_check_count))) (F_check_count : Fun K "check_count" "check_count" s_check_count f_check_count fd_check_count)
    {f_trimmed : Addr} {fd_trimmed : FuncData}
    (a_trimmed : PySem.W.nsIn K mainGlobals "trimmed" = some (some (.ref f_trimmed))) (F_trimmed : Fun K "trimmed" "trimmed" s_trimmed f_trimmed fd_trimmed)
    {f_row_number : Addr} {fd_row_number : FuncData}
    (a_row_number : PySem.W.nsIn K mainGlobals "row_number" = some (some (.ref f_row_number))) (F_row_number : Fun K "row_number" "row_number" s_row_number f_row_number fd_row_number)
    {f_row_at : Addr} {fd_row_at : FuncData}
    (a_row_at : PySem.W.nsIn K mainGlobals "row_at" = some (some (.ref f_row_at))) (F_row_at : Fun K "row_at" "row_at" s_row_at f_row_at fd_row_at)
    {f_row_value : Addr} {fd_row_value : FuncData}
    (a_row_value : PySem.W.nsIn K mainGlobals "row_value" = some (some (.ref f_row_value))) (F_row_value : Fun K "row_value" "row_value" s_row_value f_row_value fd_row_value)
    {f_Made___init__ : Addr} {fd_Made___init__ : FuncData}
    (F_Made___init__ : Fun K "__init__" "Made.__init__" s_Made___init__ f_Made___init__ fd_Made___init__)
    {f_Poly___init__ : Addr} {fd_Poly___init__ : FuncData}
    (F_Poly___init__ : Fun K "__init__" "Poly.__init__" s_Poly___init__ f_Poly___init__ fd_Poly___init__)
    {f_Poly_read : Addr} {fd_Poly_read : FuncData}
    (F_Poly_read : Fun K "read" "Poly.read" s_Poly_read f_Poly_read fd_Poly_read)
    {f_Poly_number : Addr} {fd_Poly_number : FuncData}
    (F_Poly_number : Fun K "number" "Poly.number" s_Poly_number f_Poly_number fd_Poly_number)
    {f_Poly___call__ : Addr} {fd_Poly___call__ : FuncData}
    (F_Poly___call__ : Fun K "__call__" "Poly.__call__" s_Poly___call__ f_Poly___call__ fd_Poly___call__)
    {f_Poly___getitem__ : Addr} {fd_Poly___getitem__ : FuncData}
    (F_Poly___getitem__ : Fun K "__getitem__" "Poly.__getitem__" s_Poly___getitem__ f_Poly___getitem__ fd_Poly___getitem__)
    {f_Poly___eq__ : Addr} {fd_Poly___eq__ : FuncData}
    (F_Poly___eq__ : Fun K "__eq__" "Poly.__eq__" s_Poly___eq__ f_Poly___eq__ fd_Poly___eq__)
    {f_Poly___str__ : Addr} {fd_Poly___str__ : FuncData}
    (F_Poly___str__ : Fun K "__str__" "Poly.__str__" s_Poly___str__ f_Poly___str__ fd_Poly___str__)
    {f_poly_at : Addr} {fd_poly_at : FuncData}
    (a_poly_at : PySem.W.nsIn K mainGlobals "poly_at" = some (some (.ref f_poly_at))) (F_poly_at : Fun K "poly_at" "poly_at" s_poly_at f_poly_at fd_poly_at)
    {f_poly_of : Addr} {fd_poly_of : FuncData}
    (a_poly_of : PySem.W.nsIn K mainGlobals "poly_of" = some (some (.ref f_poly_of))) (F_poly_of : Fun K "poly_of" "poly_of" s_poly_of f_poly_of fd_poly_of)
    {f_is_row : Addr} {fd_is_row : FuncData}
    (a_is_row : PySem.W.nsIn K mainGlobals "is_row" = some (some (.ref f_is_row))) (F_is_row : Fun K "is_row" "is_row" s_is_row f_is_row fd_is_row)
    {f_are_entries : Addr} {fd_are_entries : FuncData}
    (a_are_entries : PySem.W.nsIn K mainGlobals "are_entries" = some (some (.ref f_are_entries))) (F_are_entries : Fun K "are_entries" "are_entries" s_are_entries f_are_entries fd_are_entries)
    {f_check_residue : Addr} {fd_check_residue : FuncData}
    (a_check_residue : PySem.W.nsIn K mainGlobals "check_residue" = some (some (.ref f_check_residue))) (F_check_residue : Fun K "check_residue" "check_residue" s_check_residue f_check_residue fd_check_residue)
    {f_terms_of : Addr} {fd_terms_of : FuncData}
    (a_terms_of : PySem.W.nsIn K mainGlobals "terms_of" = some (some (.ref f_terms_of))) (F_terms_of : Fun K "terms_of" "terms_of" s_terms_of f_terms_of fd_terms_of)
    {f_term_text : Addr} {fd_term_text : FuncData}
    (a_term_text : PySem.W.nsIn K mainGlobals "term_text" = some (some (.ref f_term_text))) (F_term_text : Fun K "term_text" "term_text" s_term_text f_term_text fd_term_text)
    {f_row_told : Addr} {fd_row_told : FuncData}
    (a_row_told : PySem.W.nsIn K mainGlobals "row_told" = some (some (.ref f_row_told))) (F_row_told : Fun K "row_told" "row_told" s_row_told f_row_told fd_row_told)
    {f_terms_told : Addr} {fd_terms_told : FuncData}
    (a_terms_told : PySem.W.nsIn K mainGlobals "terms_told" = some (some (.ref f_terms_told))) (F_terms_told : Fun K "terms_told" "terms_told" s_terms_told f_terms_told fd_terms_told)
    {f_entry_told : Addr} {fd_entry_told : FuncData}
    (a_entry_told : PySem.W.nsIn K mainGlobals "entry_told" = some (some (.ref f_entry_told))) (F_entry_told : Fun K "entry_told" "entry_told" s_entry_told f_entry_told fd_entry_told)
    {f_power_told : Addr} {fd_power_told : FuncData}
    (a_power_told : PySem.W.nsIn K mainGlobals "power_told" = some (some (.ref f_power_told))) (F_power_told : Fun K "power_told" "power_told" s_power_told f_power_told fd_power_told)
    {f_is_number : Addr} {fd_is_number : FuncData}
    (a_is_number : PySem.W.nsIn K mainGlobals "is_number" = some (some (.ref f_is_number))) (F_is_number : Fun K "is_number" "is_number" s_is_number f_is_number fd_is_number)
    {f_is_lesser : Addr} {fd_is_lesser : FuncData}
    (a_is_lesser : PySem.W.nsIn K mainGlobals "is_lesser" = some (some (.ref f_is_lesser))) (F_is_lesser : Fun K "is_lesser" "is_lesser" s_is_lesser f_is_lesser fd_is_lesser)
    {f__law_dice : Addr} {fd__law_dice : FuncData}
    (a__law_dice : PySem.W.nsIn K mainGlobals "_law_dice" = some (some (.ref f__law_dice))) (F__law_dice : Fun K "_law_dice" "_law_dice" s__law_dice f__law_dice fd__law_dice)
    {f__law_roll : Addr} {fd__law_roll : FuncData}
    (a__law_roll : PySem.W.nsIn K mainGlobals "_law_roll" = some (some (.ref f__law_roll))) (F__law_roll : Fun K "_law_roll" "_law_roll" s__law_roll f__law_roll fd__law_roll)
    {f__law_pick : Addr} {fd__law_pick : FuncData}
    (a__law_pick : PySem.W.nsIn K mainGlobals "_law_pick" = some (some (.ref f__law_pick))) (F__law_pick : Fun K "_law_pick" "_law_pick" s__law_pick f__law_pick fd__law_pick)
    {f__law_worth : Addr} {fd__law_worth : FuncData}
    (a__law_worth : PySem.W.nsIn K mainGlobals "_law_worth" = some (some (.ref f__law_worth))) (F__law_worth : Fun K "_law_worth" "_law_worth" s__law_worth f__law_worth fd__law_worth)
    {f__law_row_drawn : Addr} {fd__law_row_drawn : FuncData}
    (a__law_row_drawn : PySem.W.nsIn K mainGlobals "_law_row_drawn" = some (some (.ref f__law_row_drawn))) (F__law_row_drawn : Fun K "_law_row_drawn" "_law_row_drawn" s__law_row_drawn f__law_row_drawn fd__law_row_drawn)
    {f__law_text : Addr} {fd__law_text : FuncData}
    (a__law_text : PySem.W.nsIn K mainGlobals "_law_text" = some (some (.ref f__law_text))) (F__law_text : Fun K "_law_text" "_law_text" s__law_text f__law_text fd__law_text)
    {f__law_number : Addr} {fd__law_number : FuncData}
    (a__law_number : PySem.W.nsIn K mainGlobals "_law_number" = some (some (.ref f__law_number))) (F__law_number : Fun K "_law_number" "_law_number" s__law_number f__law_number fd__law_number)
    {f__law_any_row : Addr} {fd__law_any_row : FuncData}
    (a__law_any_row : PySem.W.nsIn K mainGlobals "_law_any_row" = some (some (.ref f__law_any_row))) (F__law_any_row : Fun K "_law_any_row" "_law_any_row" s__law_any_row f__law_any_row fd__law_any_row)
    {f__law_is_told : Addr} {fd__law_is_told : FuncData}
    (a__law_is_told : PySem.W.nsIn K mainGlobals "_law_is_told" = some (some (.ref f__law_is_told))) (F__law_is_told : Fun K "_law_is_told" "_law_is_told" s__law_is_told f__law_is_told fd__law_is_told)
    {f__law_right : Addr} {fd__law_right : FuncData}
    (a__law_right : PySem.W.nsIn K mainGlobals "_law_right" = some (some (.ref f__law_right))) (F__law_right : Fun K "_law_right" "_law_right" s__law_right f__law_right fd__law_right)
    {f_law : Addr} {fd_law : FuncData}
    (a_law : PySem.W.nsIn K mainGlobals "law" = some (some (.ref f_law))) (F_law : Fun K "law" "law" s_law f_law fd_law)
    (z_int : PySem.W.nsIn K mainGlobals "int" = some none)
    (z_len : PySem.W.nsIn K mainGlobals "len" = some none)
    (z_range : PySem.W.nsIn K mainGlobals "range" = some none)
    (z_str : PySem.W.nsIn K mainGlobals "str" = some none)
    (z_all : PySem.W.nsIn K mainGlobals "all" = some none)
    (z_list : PySem.W.nsIn K mainGlobals "list" = some none)
    (z_min : PySem.W.nsIn K mainGlobals "min" = some none)
    (z_max : PySem.W.nsIn K mainGlobals "max" = some none)
    (z_bool : PySem.W.nsIn K mainGlobals "bool" = some none)
    (z_isinstance : PySem.W.nsIn K mainGlobals "isinstance" = some none)
    (z_tuple : PySem.W.nsIn K mainGlobals "tuple" = some none)
    (z_abs : PySem.W.nsIn K mainGlobals "abs" = some none)
    (mmPoly : PySem.W.makesIn K c_Poly = true) (miPoly : PySem.W.findIn K (.ref c_Poly) "__init__" = some (some (.ref f_Poly___init__))) (mfPoly : PySem.W.isFn K (.ref f_Poly___init__) = true) (mkPoly : PySem.W.keepIn K (.ref c_Poly) = true)
    (gPoly : PySem.W.nsIn K mainGlobals "Poly" = some (some (.ref c_Poly)))
    (pgPoly : PySem.W.plainGet K c_Poly Str.empty = true) (hdPoly : PySem.W.hasDictIn K c_Poly = true) (poPoly : PySem.W.plainOver K c_Poly = true) (saPoly : PySem.W.findIn K (.ref c_Poly) "__setattr__" = some (some (.builtin "object.__setattr__")))
    (nPoly_prime : PySem.W.findIn K (.ref c_Poly) "prime" = some none)
    (nPoly_entries : PySem.W.findIn K (.ref c_Poly) "entries" = some none)
    (nPoly_degree : PySem.W.findIn K (.ref c_Poly) "degree" = some none)
    (nPoly_lead : PySem.W.findIn K (.ref c_Poly) "lead" = some none)
    {pa_Poly_number : Addr}
    {pv_Poly_number : List Value} (p1Poly_number : PySem.W.findIn K (.ref c_Poly) "number" = some (some (.ref pa_Poly_number))) (p2Poly_number : PySem.W.specialIn K (.ref pa_Poly_number) "__get__" = some (some (.builtin "property.__get__"))) (p3Poly_number : PySem.W.takesIn K (.ref pa_Poly_number) = some true) (p4Poly_number : PySem.W.recIn K pa_Poly_number "property" = some (.ref f_Poly_number :: pv_Poly_number))
    (iaPoly : PySem.W.findIn K (.ref c_Poly) "__class__" = some (some (.builtin "object.__class__"))) (inPoly : PySem.W.specialIn K (.builtin "object.__class__") "__get__" = some (some (.builtin "getset_descriptor.__get__"))) (itPoly : PySem.W.takesIn K (.builtin "object.__class__") = some true) (imPoly : PySem.W.mroIn K c_Poly (.type "object") = some true)
    (nfPoly__ref_C_Poly : PySem.W.notFirst K c_Poly (.ref c_Poly) = true)
    (nePoly : PySem.W.findIn K (.ref c_Poly) "__ne__" = some (some (.builtin "object.__ne__")))
    (obPoly : PySem.W.subIn K (.ref c_Poly) (.type "object") = some true)
    (saPoly___eq__ : PySem.W.findIn K (.ref c_Poly) "__eq__" = some (some (.ref f_Poly___eq__))) (sbPoly___eq__ : PySem.W.isFn K (.ref f_Poly___eq__) = true)
    (saPoly___str__ : PySem.W.findIn K (.ref c_Poly) "__str__" = some (some (.ref f_Poly___str__))) (sbPoly___str__ : PySem.W.isFn K (.ref f_Poly___str__) = true)
    (crPoly : PySem.W.readsIn K c_Poly (.type "type") = true) (cgPoly : PySem.W.specialIn K (.ref c_Poly) "__getattribute__" = some (some (.builtin "type.__getattribute__")))
    {pc_Poly_read : Addr}
    {pw_Poly_read : List Value} (c1Poly_read : PySem.W.findCls K (.ref c_Poly) (.type "type") "read" = some (.get (.builtin "classmethod.__get__") (.ref pc_Poly_read) .none (.ref c_Poly))) (c2Poly_read : PySem.W.recIn K pc_Poly_read "classmethod" = some (.ref f_Poly_read :: pw_Poly_read)) (c3Poly_read : PySem.W.fnIn K f_Poly_read = true)
    (nPoly_is_zero : PySem.W.findIn K (.ref c_Poly) "is_zero" = some none)
    (nPoly_is_monic : PySem.W.findIn K (.ref c_Poly) "is_monic" = some none)
    (saPoly___call__ : PySem.W.findIn K (.ref c_Poly) "__call__" = some (some (.ref f_Poly___call__))) (sbPoly___call__ : PySem.W.isFn K (.ref f_Poly___call__) = true)
    (fiPoly___call__ : PySem.W.fnIn K f_Poly___call__ = true)
    (saPoly___getitem__ : PySem.W.findIn K (.ref c_Poly) "__getitem__" = some (some (.ref f_Poly___getitem__))) (sbPoly___getitem__ : PySem.W.isFn K (.ref f_Poly___getitem__) = true)
    (fiPoly___getitem__ : PySem.W.fnIn K f_Poly___getitem__ = true)
    (nfPoly__type_tuple_ : PySem.W.notFirst K c_Poly (.type "tuple") = true)
    (nfPoly__type_str_ : PySem.W.notFirst K c_Poly (.type "str") = true)
    (nfPoly__type_int_ : PySem.W.notFirst K c_Poly (.type "int") = true)
    (mmMade : PySem.W.makesIn K c_Made = true) (miMade : PySem.W.findIn K (.ref c_Made) "__init__" = some (some (.ref f_Made___init__))) (mfMade : PySem.W.isFn K (.ref f_Made___init__) = true) (mkMade : PySem.W.keepIn K (.ref c_Made) = true)
    (pgMade : PySem.W.plainGet K c_Made Str.empty = true) (hdMade : PySem.W.hasDictIn K c_Made = true) (poMade : PySem.W.plainOver K c_Made = true) (saMade : PySem.W.findIn K (.ref c_Made) "__setattr__" = some (some (.builtin "object.__setattr__")))
    (nMade_row : PySem.W.findIn K (.ref c_Made) "row" = some none)
    (iaMade : PySem.W.findIn K (.ref c_Made) "__class__" = some (some (.builtin "object.__class__"))) (inMade : PySem.W.specialIn K (.builtin "object.__class__") "__get__" = some (some (.builtin "getset_descriptor.__get__"))) (itMade : PySem.W.takesIn K (.builtin "object.__class__") = some true) (imMade : PySem.W.mroIn K c_Made (.type "object") = some true)
    (gMade : PySem.W.nsIn K mainGlobals "Made" = some (some (.ref c_Made)))
    (i_type_tuple__Made : PySem.W.kitOne K (.type "tuple") (.ref c_Made) = some false)
    (i_type_tuple__Poly : PySem.W.kitOne K (.type "tuple") (.ref c_Poly) = some false)
    (i_type_str__Poly : PySem.W.kitOne K (.type "str") (.ref c_Poly) = some false)
    (i_type_int__Poly : PySem.W.kitOne K (.type "int") (.ref c_Poly) = some false)
    {a_PRIMES : Addr}
    (gPRIMES : PySem.W.nsIn K mainGlobals "PRIMES" = some (some (.ref a_PRIMES)))
    (lPRIMES : RH.rowB K a_PRIMES primes = true)
    {t_MAX_INTEGER : Tok}
    (gMAX_INTEGER : PySem.W.nsIn K mainGlobals "MAX_INTEGER" = some (some (.int 999999999999999999999999999999999999999999999999999999999999 t_MAX_INTEGER)))
    {t_MAX_ENTRIES : Tok}
    (gMAX_ENTRIES : PySem.W.nsIn K mainGlobals "MAX_ENTRIES" = some (some (.int 1000 t_MAX_ENTRIES)))
    {t__MAX_POWER : Tok}
    (g_MAX_POWER : PySem.W.nsIn K mainGlobals "_MAX_POWER" = some (some (.int 1000 t__MAX_POWER)))
    {t__MAX_DIGITS : Tok}
    (g_MAX_DIGITS : PySem.W.nsIn K mainGlobals "_MAX_DIGITS" = some (some (.int 2 t__MAX_DIGITS)))
    {t_LONG : Tok}
    (gLONG : PySem.W.nsIn K mainGlobals "LONG" = some (some (.int 24 t_LONG)))
    {t_LONG_DIVIDED : Tok}
    (gLONG_DIVIDED : PySem.W.nsIn K mainGlobals "LONG_DIVIDED" = some (some (.int 80 t_LONG_DIVIDED))) :
    ∃ fd : FuncData, (∀ (s : Shared) (v : Value), BindsTo s fd ⟨[v], []⟩ [("_law_script", v)]) ∧ ∀ base : Heap, K.In base → base.Ns mainGlobals mg → FnOk l.prog w K mg base CX0 10 fa fd ["_law_script"] (sp_law K) := by
  have e := hfa.symm.trans (PySem.W.mg_of X G a_law)
  cases e
  exact ⟨fd_law, RH.bindsTo_of F_law (fun _ _ _ _ _ _ _ => rfl), fun base _ _ => ok_law
    {
      C := { Poly := c_Poly, Made := c_Made },
      f_is_integer := _,
      fd_is_integer := _,
      F_is_integer := F_is_integer,
      b_is_integer := F_is_integer.binds (ps := ["value"]) (fun _ _ _ _ _ _ us hl => match us, hl with | [_], _ => rfl),
      g_is_integer := PySem.W.mg_of X G a_is_integer,
      f_is_within := _,
      fd_is_within := _,
      F_is_within := F_is_within,
      b_is_within := F_is_within.binds (ps := ["value", "low", "high"]) (fun _ _ _ _ _ _ us hl => match us, hl with | [_, _, _], _ => rfl),
      g_is_within := PySem.W.mg_of X G a_is_within,
      f_is_prime := _,
      fd_is_prime := _,
      F_is_prime := F_is_prime,
      b_is_prime := F_is_prime.binds (ps := ["value"]) (fun _ _ _ _ _ _ us hl => match us, hl with | [_], _ => rfl),
      g_is_prime := PySem.W.mg_of X G a_is_prime,
      f_check_prime := _,
      fd_check_prime := _,
      F_check_prime := F_check_prime,
      b_check_prime := F_check_prime.binds (ps := ["prime"]) (fun _ _ _ _ _ _ us hl => match us, hl with | [_], _ => rfl),
      g_check_prime := PySem.W.mg_of X G a_check_prime,
      f_check_count := _,
      fd_check_count := _,
      F_check_count := F_check_count,
      b_check_count := F_check_count.binds (ps := ["value", "low", "high"]) (fun _ _ _ _ _ _ us hl => match us, hl with | [_, _, _], _ => rfl),
      g_check_count := PySem.W.mg_of X G a_check_count,
      f_trimmed := _,
      fd_trimmed := _,
      F_trimmed := F_trimmed,
      b_trimmed := F_trimmed.binds (ps := ["entries"]) (fun _ _ _ _ _ _ us hl => match us, hl with | [_], _ => rfl),
      g_trimmed := PySem.W.mg_of X G a_trimmed,
      f_row_number := _,
      fd_row_number := _,
      F_row_number := F_row_number,
      b_row_number := F_row_number.binds (ps := ["prime", "row"]) (fun _ _ _ _ _ _ us hl => match us, hl with | [_, _], _ => rfl),
      g_row_number := PySem.W.mg_of X G a_row_number,
      f_row_at := _,
      fd_row_at := _,
      F_row_at := F_row_at,
      b_row_at := F_row_at.binds (ps := ["prime", "number"]) (fun _ _ _ _ _ _ us hl => match us, hl with | [_, _], _ => rfl),
      g_row_at := PySem.W.mg_of X G a_row_at,
      f_row_value := _,
      fd_row_value := _,
      F_row_value := F_row_value,
      b_row_value := F_row_value.binds (ps := ["prime", "row", "residue"]) (fun _ _ _ _ _ _ us hl => match us, hl with | [_, _, _], _ => rfl),
      g_row_value := PySem.W.mg_of X G a_row_value,
      f_Made___init__ := _,
      fd_Made___init__ := _,
      F_Made___init__ := F_Made___init__,
      b_Made___init__ := F_Made___init__.binds (ps := ["self", "row"]) (fun _ _ _ _ _ _ us hl => match us, hl with | [_, _], _ => rfl),
      f_Poly___init__ := _,
      fd_Poly___init__ := _,
      F_Poly___init__ := F_Poly___init__,
      b_Poly___init__ := F_Poly___init__.binds (ps := ["self", "prime", "entries"]) (fun _ _ _ _ _ _ us hl => match us, hl with | [_, _, _], _ => rfl),
      f_Poly_read := _,
      fd_Poly_read := _,
      F_Poly_read := F_Poly_read,
      b_Poly_read := F_Poly_read.binds (ps := ["cls", "prime", "text"]) (fun _ _ _ _ _ _ us hl => match us, hl with | [_, _, _], _ => rfl),
      f_Poly_number := _,
      fd_Poly_number := _,
      F_Poly_number := F_Poly_number,
      b_Poly_number := F_Poly_number.binds (ps := ["self"]) (fun _ _ _ _ _ _ us hl => match us, hl with | [_], _ => rfl),
      f_Poly___call__ := _,
      fd_Poly___call__ := _,
      F_Poly___call__ := F_Poly___call__,
      b_Poly___call__ := F_Poly___call__.binds (ps := ["self", "residue"]) (fun _ _ _ _ _ _ us hl => match us, hl with | [_, _], _ => rfl),
      f_Poly___getitem__ := _,
      fd_Poly___getitem__ := _,
      F_Poly___getitem__ := F_Poly___getitem__,
      b_Poly___getitem__ := F_Poly___getitem__.binds (ps := ["self", "power"]) (fun _ _ _ _ _ _ us hl => match us, hl with | [_, _], _ => rfl),
      f_Poly___eq__ := _,
      fd_Poly___eq__ := _,
      F_Poly___eq__ := F_Poly___eq__,
      b_Poly___eq__ := F_Poly___eq__.binds (ps := ["self", "other"]) (fun _ _ _ _ _ _ us hl => match us, hl with | [_, _], _ => rfl),
      f_Poly___str__ := _,
      fd_Poly___str__ := _,
      F_Poly___str__ := F_Poly___str__,
      b_Poly___str__ := F_Poly___str__.binds (ps := ["self"]) (fun _ _ _ _ _ _ us hl => match us, hl with | [_], _ => rfl),
      f_poly_at := _,
      fd_poly_at := _,
      F_poly_at := F_poly_at,
      b_poly_at := F_poly_at.binds (ps := ["prime", "number"]) (fun _ _ _ _ _ _ us hl => match us, hl with | [_, _], _ => rfl),
      g_poly_at := PySem.W.mg_of X G a_poly_at,
      f_poly_of := _,
      fd_poly_of := _,
      F_poly_of := F_poly_of,
      b_poly_of := F_poly_of.binds (ps := ["prime", "row"]) (fun _ _ _ _ _ _ us hl => match us, hl with | [_, _], _ => rfl),
      g_poly_of := PySem.W.mg_of X G a_poly_of,
      f_is_row := _,
      fd_is_row := _,
      F_is_row := F_is_row,
      b_is_row := F_is_row.binds (ps := ["prime", "value"]) (fun _ _ _ _ _ _ us hl => match us, hl with | [_, _], _ => rfl),
      g_is_row := PySem.W.mg_of X G a_is_row,
      f_are_entries := _,
      fd_are_entries := _,
      F_are_entries := F_are_entries,
      b_are_entries := F_are_entries.binds (ps := ["prime", "value"]) (fun _ _ _ _ _ _ us hl => match us, hl with | [_, _], _ => rfl),
      g_are_entries := PySem.W.mg_of X G a_are_entries,
      f_check_residue := _,
      fd_check_residue := _,
      F_check_residue := F_check_residue,
      b_check_residue := F_check_residue.binds (ps := ["prime", "value"]) (fun _ _ _ _ _ _ us hl => match us, hl with | [_, _], _ => rfl),
      g_check_residue := PySem.W.mg_of X G a_check_residue,
      f_terms_of := _,
      fd_terms_of := _,
      F_terms_of := F_terms_of,
      b_terms_of := F_terms_of.binds (ps := ["row"]) (fun _ _ _ _ _ _ us hl => match us, hl with | [_], _ => rfl),
      g_terms_of := PySem.W.mg_of X G a_terms_of,
      f_term_text := _,
      fd_term_text := _,
      F_term_text := F_term_text,
      b_term_text := F_term_text.binds (ps := ["entry", "power"]) (fun _ _ _ _ _ _ us hl => match us, hl with | [_, _], _ => rfl),
      g_term_text := PySem.W.mg_of X G a_term_text,
      f_row_told := _,
      fd_row_told := _,
      F_row_told := F_row_told,
      b_row_told := F_row_told.binds (ps := ["prime", "text"]) (fun _ _ _ _ _ _ us hl => match us, hl with | [_, _], _ => rfl),
      g_row_told := PySem.W.mg_of X G a_row_told,
      f_terms_told := _,
      fd_terms_told := _,
      F_terms_told := F_terms_told,
      b_terms_told := F_terms_told.binds (ps := ["prime", "text"]) (fun _ _ _ _ _ _ us hl => match us, hl with | [_, _], _ => rfl),
      g_terms_told := PySem.W.mg_of X G a_terms_told,
      f_entry_told := _,
      fd_entry_told := _,
      F_entry_told := F_entry_told,
      b_entry_told := F_entry_told.binds (ps := ["ahead", "sign"]) (fun _ _ _ _ _ _ us hl => match us, hl with | [_, _], _ => rfl),
      g_entry_told := PySem.W.mg_of X G a_entry_told,
      f_power_told := _,
      fd_power_told := _,
      F_power_told := F_power_told,
      b_power_told := F_power_told.binds (ps := ["sign", "behind"]) (fun _ _ _ _ _ _ us hl => match us, hl with | [_, _], _ => rfl),
      g_power_told := PySem.W.mg_of X G a_power_told,
      f_is_number := _,
      fd_is_number := _,
      F_is_number := F_is_number,
      b_is_number := F_is_number.binds (ps := ["text"]) (fun _ _ _ _ _ _ us hl => match us, hl with | [_], _ => rfl),
      g_is_number := PySem.W.mg_of X G a_is_number,
      f_is_lesser := _,
      fd_is_lesser := _,
      F_is_lesser := F_is_lesser,
      b_is_lesser := F_is_lesser.binds (ps := ["digits", "other"]) (fun _ _ _ _ _ _ us hl => match us, hl with | [_, _], _ => rfl),
      g_is_lesser := PySem.W.mg_of X G a_is_lesser,
      f__law_dice := _,
      fd__law_dice := _,
      F__law_dice := F__law_dice,
      b__law_dice := F__law_dice.binds (ps := ["_law_script", "_law_spot"]) (fun _ _ _ _ _ _ us hl => match us, hl with | [_, _], _ => rfl),
      g__law_dice := PySem.W.mg_of X G a__law_dice,
      f__law_roll := _,
      fd__law_roll := _,
      F__law_roll := F__law_roll,
      b__law_roll := F__law_roll.binds (ps := ["_law_dice_here", "_law_total"]) (fun _ _ _ _ _ _ us hl => match us, hl with | [_, _], _ => rfl),
      g__law_roll := PySem.W.mg_of X G a__law_roll,
      f__law_pick := _,
      fd__law_pick := _,
      F__law_pick := F__law_pick,
      b__law_pick := F__law_pick.binds (ps := ["_law_dice_here", "_law_items"]) (fun _ _ _ _ _ _ us hl => match us, hl with | [_, _], _ => rfl),
      g__law_pick := PySem.W.mg_of X G a__law_pick,
      f__law_worth := _,
      fd__law_worth := _,
      F__law_worth := F__law_worth,
      b__law_worth := F__law_worth.binds (ps := ["_law_prime", "_law_row", "_law_number_here"]) (fun _ _ _ _ _ _ us hl => match us, hl with | [_, _, _], _ => rfl),
      g__law_worth := PySem.W.mg_of X G a__law_worth,
      f__law_row_drawn := _,
      fd__law_row_drawn := _,
      F__law_row_drawn := F__law_row_drawn,
      b__law_row_drawn := F__law_row_drawn.binds (ps := ["_law_dice_here", "_law_prime", "_law_degree"]) (fun _ _ _ _ _ _ us hl => match us, hl with | [_, _, _], _ => rfl),
      g__law_row_drawn := PySem.W.mg_of X G a__law_row_drawn,
      f__law_text := _,
      fd__law_text := _,
      F__law_text := F__law_text,
      b__law_text := F__law_text.binds (ps := ["_law_row"]) (fun _ _ _ _ _ _ us hl => match us, hl with | [_], _ => rfl),
      g__law_text := PySem.W.mg_of X G a__law_text,
      f__law_number := _,
      fd__law_number := _,
      F__law_number := F__law_number,
      b__law_number := F__law_number.binds (ps := ["_law_prime", "_law_row"]) (fun _ _ _ _ _ _ us hl => match us, hl with | [_, _], _ => rfl),
      g__law_number := PySem.W.mg_of X G a__law_number,
      f__law_any_row := _,
      fd__law_any_row := _,
      F__law_any_row := F__law_any_row,
      b__law_any_row := F__law_any_row.binds (ps := ["_law_dice_here", "_law_prime"]) (fun _ _ _ _ _ _ us hl => match us, hl with | [_, _], _ => rfl),
      g__law_any_row := PySem.W.mg_of X G a__law_any_row,
      f__law_is_told := _,
      fd__law_is_told := _,
      F__law_is_told := F__law_is_told,
      b__law_is_told := F__law_is_told.binds (ps := ["_law_prime", "_law_row"]) (fun _ _ _ _ _ _ us hl => match us, hl with | [_, _], _ => rfl),
      g__law_is_told := PySem.W.mg_of X G a__law_is_told,
      f__law_right := _,
      fd__law_right := _,
      F__law_right := F__law_right,
      b__law_right := F__law_right.binds (ps := ["_law_dice_here"]) (fun _ _ _ _ _ _ us hl => match us, hl with | [_], _ => rfl),
      g__law_right := PySem.W.mg_of X G a__law_right,
      f_law := _,
      fd_law := _,
      F_law := F_law,
      b_law := F_law.binds (ps := ["_law_script"]) (fun _ _ _ _ _ _ us hl => match us, hl with | [_], _ => rfl),
      g_law := PySem.W.mg_of X G a_law,
      z_int := PySem.W.mg_none_of X G z_int,
      z_len := PySem.W.mg_none_of X G z_len,
      z_range := PySem.W.mg_none_of X G z_range,
      z_str := PySem.W.mg_none_of X G z_str,
      z_all := PySem.W.mg_none_of X G z_all,
      z_list := PySem.W.mg_none_of X G z_list,
      z_min := PySem.W.mg_none_of X G z_min,
      z_max := PySem.W.mg_none_of X G z_max,
      z_bool := PySem.W.mg_none_of X G z_bool,
      z_isinstance := PySem.W.mg_none_of X G z_isinstance,
      z_tuple := PySem.W.mg_none_of X G z_tuple,
      z_abs := PySem.W.mg_none_of X G z_abs,
      mk_Poly := ⟨mmPoly, miPoly, mfPoly, mkPoly⟩,
      g_Poly := PySem.W.mg_of X G gPoly,
      cl_Poly := ⟨pgPoly, hdPoly, poPoly, saPoly⟩,
      n_Poly_prime := nPoly_prime,
      n_Poly_entries := nPoly_entries,
      n_Poly_degree := nPoly_degree,
      n_Poly_lead := nPoly_lead,
      pa_Poly_number := pa_Poly_number,
      pr_Poly_number := ⟨p1Poly_number, p2Poly_number, p3Poly_number, _, p4Poly_number⟩,
      is_Poly := ⟨⟨pgPoly, hdPoly, poPoly, saPoly⟩, iaPoly, inPoly, itPoly, imPoly⟩,
      nf_Poly__ref_C_Poly := nfPoly__ref_C_Poly,
      ne_Poly := nePoly,
      ob_Poly := obPoly,
      s1_Poly___eq__ := ⟨saPoly___eq__, sbPoly___eq__⟩,
      s1_Poly___str__ := ⟨saPoly___str__, sbPoly___str__⟩,
      cr_Poly := ⟨crPoly, cgPoly⟩,
      pc_Poly_read := pc_Poly_read,
      cm_Poly_read := ⟨c1Poly_read, ⟨_, c2Poly_read⟩, c3Poly_read⟩,
      n_Poly_is_zero := nPoly_is_zero,
      n_Poly_is_monic := nPoly_is_monic,
      s1_Poly___call__ := ⟨saPoly___call__, sbPoly___call__⟩,
      fi_Poly___call__ := fiPoly___call__,
      s1_Poly___getitem__ := ⟨saPoly___getitem__, sbPoly___getitem__⟩,
      fi_Poly___getitem__ := fiPoly___getitem__,
      nf_Poly__type_tuple_ := nfPoly__type_tuple_,
      nf_Poly__type_str_ := nfPoly__type_str_,
      nf_Poly__type_int_ := nfPoly__type_int_,
      mk_Made := ⟨mmMade, miMade, mfMade, mkMade⟩,
      cl_Made := ⟨pgMade, hdMade, poMade, saMade⟩,
      n_Made_row := nMade_row,
      is_Made := ⟨⟨pgMade, hdMade, poMade, saMade⟩, iaMade, inMade, itMade, imMade⟩,
      g_Made := PySem.W.mg_of X G gMade,
      i__type_tuple__Made := i_type_tuple__Made,
      i__type_tuple__Poly := i_type_tuple__Poly,
      i__type_str__Poly := i_type_str__Poly,
      i__type_int__Poly := i_type_int__Poly,
      a_PRIMES := a_PRIMES,
      g_PRIMES := PySem.W.mg_of X G gPRIMES,
      q_PRIMES := RH.row_ok lPRIMES (by decide +kernel),
      t_MAX_INTEGER := t_MAX_INTEGER,
      g_MAX_INTEGER := PySem.W.mg_of X G gMAX_INTEGER,
      t_MAX_ENTRIES := t_MAX_ENTRIES,
      g_MAX_ENTRIES := PySem.W.mg_of X G gMAX_ENTRIES,
      t__MAX_POWER := t__MAX_POWER,
      g__MAX_POWER := PySem.W.mg_of X G g_MAX_POWER,
      t__MAX_DIGITS := t__MAX_DIGITS,
      g__MAX_DIGITS := PySem.W.mg_of X G g_MAX_DIGITS,
      t_LONG := t_LONG,
      g_LONG := PySem.W.mg_of X G gLONG,
      t_LONG_DIVIDED := t_LONG_DIVIDED,
      g_LONG_DIVIDED := PySem.W.mg_of X G gLONG_DIVIDED }⟩
end
def hcs0 : List RH.Ck := [
  (fun K => decide (PySem.W.nsIn K mainGlobals "is_integer" = some (some (.ref (RH.ga K "is_integer"))))),
  (fun K => decide (PySem.W.nsIn K mainGlobals "is_within" = some (some (.ref (RH.ga K "is_within"))))),
  (fun K => decide (PySem.W.nsIn K mainGlobals "is_prime" = some (some (.ref (RH.ga K "is_prime"))))),
  (fun K => decide (PySem.W.nsIn K mainGlobals "check_prime" = some (some (.ref (RH.ga K "check_prime"))))),
  (fun K => decide (PySem.W.nsIn K mainGlobals "check_count" = some (some (.ref (RH.ga K "check_count"))))),
  (fun K => decide (PySem.W.nsIn K mainGlobals "trimmed" = some (some (.ref (RH.ga K "trimmed"))))),
  (fun K => decide (PySem.W.nsIn K mainGlobals "row_number" = some (some (.ref (RH.ga K "row_number"))))),
  (fun K => decide (PySem.W.nsIn K mainGlobals "row_at" = some (some (.ref (RH.ga K "row_at"))))),
  (fun K => decide (PySem.W.nsIn K mainGlobals "row_value" = some (some (.ref (RH.ga K "row_value"))))),
  (fun K => decide (PySem.W.nsIn K mainGlobals "poly_at" = some (some (.ref (RH.ga K "poly_at"))))),
  (fun K => decide (PySem.W.nsIn K mainGlobals "poly_of" = some (some (.ref (RH.ga K "poly_of"))))),
  (fun K => decide (PySem.W.nsIn K mainGlobals "is_row" = some (some (.ref (RH.ga K "is_row"))))),
  (fun K => decide (PySem.W.nsIn K mainGlobals "are_entries" = some (some (.ref (RH.ga K "are_entries"))))),
  (fun K => decide (PySem.W.nsIn K mainGlobals "check_residue" = some (some (.ref (RH.ga K "check_residue"))))),
  (fun K => decide (PySem.W.nsIn K mainGlobals "terms_of" = some (some (.ref (RH.ga K "terms_of"))))),
  (fun K => decide (PySem.W.nsIn K mainGlobals "term_text" = some (some (.ref (RH.ga K "term_text"))))),
  (fun K => decide (PySem.W.nsIn K mainGlobals "row_told" = some (some (.ref (RH.ga K "row_told"))))),
  (fun K => decide (PySem.W.nsIn K mainGlobals "terms_told" = some (some (.ref (RH.ga K "terms_told"))))),
  (fun K => decide (PySem.W.nsIn K mainGlobals "entry_told" = some (some (.ref (RH.ga K "entry_told"))))),
  (fun K => decide (PySem.W.nsIn K mainGlobals "power_told" = some (some (.ref (RH.ga K "power_told")))))]
def hcs1 : List RH.Ck := [
  (fun K => decide (PySem.W.nsIn K mainGlobals "is_number" = some (some (.ref (RH.ga K "is_number"))))),
  (fun K => decide (PySem.W.nsIn K mainGlobals "is_lesser" = some (some (.ref (RH.ga K "is_lesser"))))),
  (fun K => decide (PySem.W.nsIn K mainGlobals "_law_dice" = some (some (.ref (RH.ga K "_law_dice"))))),
  (fun K => decide (PySem.W.nsIn K mainGlobals "_law_roll" = some (some (.ref (RH.ga K "_law_roll"))))),
  (fun K => decide (PySem.W.nsIn K mainGlobals "_law_pick" = some (some (.ref (RH.ga K "_law_pick"))))),
  (fun K => decide (PySem.W.nsIn K mainGlobals "_law_worth" = some (some (.ref (RH.ga K "_law_worth"))))),
  (fun K => decide (PySem.W.nsIn K mainGlobals "_law_row_drawn" = some (some (.ref (RH.ga K "_law_row_drawn"))))),
  (fun K => decide (PySem.W.nsIn K mainGlobals "_law_text" = some (some (.ref (RH.ga K "_law_text"))))),
  (fun K => decide (PySem.W.nsIn K mainGlobals "_law_number" = some (some (.ref (RH.ga K "_law_number"))))),
  (fun K => decide (PySem.W.nsIn K mainGlobals "_law_any_row" = some (some (.ref (RH.ga K "_law_any_row"))))),
  (fun K => decide (PySem.W.nsIn K mainGlobals "_law_is_told" = some (some (.ref (RH.ga K "_law_is_told"))))),
  (fun K => decide (PySem.W.nsIn K mainGlobals "_law_right" = some (some (.ref (RH.ga K "_law_right"))))),
  (fun K => decide (PySem.W.nsIn K mainGlobals "law" = some (some (.ref (RH.ga K "law"))))),
  (fun K => decide (PySem.W.nsIn K mainGlobals "int" = some none)),
  (fun K => decide (PySem.W.nsIn K mainGlobals "len" = some none)),
  (fun K => decide (PySem.W.nsIn K mainGlobals "range" = some none)),
  (fun K => decide (PySem.W.nsIn K mainGlobals "str" = some none)),
  (fun K => decide (PySem.W.nsIn K mainGlobals "all" = some none)),
  (fun K => decide (PySem.W.nsIn K mainGlobals "list" = some none)),
  (fun K => decide (PySem.W.nsIn K mainGlobals "min" = some none))]
def hcs2 : List RH.Ck := [
  (fun K => decide (PySem.W.nsIn K mainGlobals "max" = some none)),
  (fun K => decide (PySem.W.nsIn K mainGlobals "bool" = some none)),
  (fun K => decide (PySem.W.nsIn K mainGlobals "isinstance" = some none)),
  (fun K => decide (PySem.W.nsIn K mainGlobals "tuple" = some none)),
  (fun K => decide (PySem.W.nsIn K mainGlobals "abs" = some none)),
  (fun K => PySem.W.makesIn K (RH.ga K "Poly")),
  (fun K => decide (PySem.W.findIn K (.ref (RH.ga K "Poly")) "__init__" = some (some (.ref (RH.ma K (RH.ga K "Poly") "__init__"))))),
  (fun K => PySem.W.isFn K (.ref (RH.ma K (RH.ga K "Poly") "__init__"))),
  (fun K => PySem.W.keepIn K (.ref (RH.ga K "Poly"))),
  (fun K => decide (PySem.W.nsIn K mainGlobals "Poly" = some (some (.ref (RH.ga K "Poly"))))),
  (fun K => PySem.W.plainGet K (RH.ga K "Poly") Str.empty),
  (fun K => PySem.W.hasDictIn K (RH.ga K "Poly")),
  (fun K => PySem.W.plainOver K (RH.ga K "Poly")),
  (fun K => decide (PySem.W.findIn K (.ref (RH.ga K "Poly")) "__setattr__" = some (some (.builtin "object.__setattr__")))),
  (fun K => decide (PySem.W.findIn K (.ref (RH.ga K "Poly")) "prime" = some none)),
  (fun K => decide (PySem.W.findIn K (.ref (RH.ga K "Poly")) "entries" = some none)),
  (fun K => decide (PySem.W.findIn K (.ref (RH.ga K "Poly")) "degree" = some none)),
  (fun K => decide (PySem.W.findIn K (.ref (RH.ga K "Poly")) "lead" = some none)),
  (fun K => decide (PySem.W.findIn K (.ref (RH.ga K "Poly")) "number" = some (some (.ref (RH.ma K (RH.ga K "Poly") "number"))))),
  (fun K => decide (PySem.W.specialIn K (.ref (RH.ma K (RH.ga K "Poly") "number")) "__get__" = some (some (.builtin "property.__get__"))))]
def hcs3 : List RH.Ck := [
  (fun K => decide (PySem.W.takesIn K (.ref (RH.ma K (RH.ga K "Poly") "number")) = some true)),
  (fun K => decide (PySem.W.recIn K (RH.ma K (RH.ga K "Poly") "number") "property" = some (.ref (RH.recHd K (RH.ma K (RH.ga K "Poly") "number") "property") :: (RH.recTl K (RH.ma K (RH.ga K "Poly") "number") "property")))),
  (fun K => decide (PySem.W.findIn K (.ref (RH.ga K "Poly")) "__class__" = some (some (.builtin "object.__class__")))),
  (fun K => decide (PySem.W.specialIn K (.builtin "object.__class__") "__get__" = some (some (.builtin "getset_descriptor.__get__")))),
  (fun K => decide (PySem.W.takesIn K (.builtin "object.__class__") = some true)),
  (fun K => decide (PySem.W.mroIn K (RH.ga K "Poly") (.type "object") = some true)),
  (fun K => PySem.W.notFirst K (RH.ga K "Poly") (.ref (RH.ga K "Poly"))),
  (fun K => decide (PySem.W.findIn K (.ref (RH.ga K "Poly")) "__ne__" = some (some (.builtin "object.__ne__")))),
  (fun K => decide (PySem.W.subIn K (.ref (RH.ga K "Poly")) (.type "object") = some true)),
  (fun K => decide (PySem.W.findIn K (.ref (RH.ga K "Poly")) "__eq__" = some (some (.ref (RH.ma K (RH.ga K "Poly") "__eq__"))))),
  (fun K => PySem.W.isFn K (.ref (RH.ma K (RH.ga K "Poly") "__eq__"))),
  (fun K => decide (PySem.W.findIn K (.ref (RH.ga K "Poly")) "__str__" = some (some (.ref (RH.ma K (RH.ga K "Poly") "__str__"))))),
  (fun K => PySem.W.isFn K (.ref (RH.ma K (RH.ga K "Poly") "__str__"))),
  (fun K => PySem.W.readsIn K (RH.ga K "Poly") (.type "type")),
  (fun K => decide (PySem.W.specialIn K (.ref (RH.ga K "Poly")) "__getattribute__" = some (some (.builtin "type.__getattribute__")))),
  (fun K => RH.cmB K (RH.ga K "Poly") "read" (RH.cmA K (RH.ga K "Poly") "read")),
  (fun K => decide (PySem.W.recIn K (RH.cmA K (RH.ga K "Poly") "read") "classmethod" = some (.ref (RH.recHd K (RH.cmA K (RH.ga K "Poly") "read") "classmethod") :: (RH.recTl K (RH.cmA K (RH.ga K "Poly") "read") "classmethod")))),
  (fun K => PySem.W.fnIn K (RH.recHd K (RH.cmA K (RH.ga K "Poly") "read") "classmethod")),
  (fun K => decide (PySem.W.findIn K (.ref (RH.ga K "Poly")) "is_zero" = some none)),
  (fun K => decide (PySem.W.findIn K (.ref (RH.ga K "Poly")) "is_monic" = some none))]
def hcs4 : List RH.Ck := [
  (fun K => decide (PySem.W.findIn K (.ref (RH.ga K "Poly")) "__call__" = some (some (.ref (RH.ma K (RH.ga K "Poly") "__call__"))))),
  (fun K => PySem.W.isFn K (.ref (RH.ma K (RH.ga K "Poly") "__call__"))),
  (fun K => PySem.W.fnIn K (RH.ma K (RH.ga K "Poly") "__call__")),
  (fun K => decide (PySem.W.findIn K (.ref (RH.ga K "Poly")) "__getitem__" = some (some (.ref (RH.ma K (RH.ga K "Poly") "__getitem__"))))),
  (fun K => PySem.W.isFn K (.ref (RH.ma K (RH.ga K "Poly") "__getitem__"))),
  (fun K => PySem.W.fnIn K (RH.ma K (RH.ga K "Poly") "__getitem__")),
  (fun K => PySem.W.notFirst K (RH.ga K "Poly") (.type "tuple")),
  (fun K => PySem.W.notFirst K (RH.ga K "Poly") (.type "str")),
  (fun K => PySem.W.notFirst K (RH.ga K "Poly") (.type "int")),
  (fun K => PySem.W.makesIn K (RH.ga K "Made")),
  (fun K => decide (PySem.W.findIn K (.ref (RH.ga K "Made")) "__init__" = some (some (.ref (RH.ma K (RH.ga K "Made") "__init__"))))),
  (fun K => PySem.W.isFn K (.ref (RH.ma K (RH.ga K "Made") "__init__"))),
  (fun K => PySem.W.keepIn K (.ref (RH.ga K "Made"))),
  (fun K => PySem.W.plainGet K (RH.ga K "Made") Str.empty),
  (fun K => PySem.W.hasDictIn K (RH.ga K "Made")),
  (fun K => PySem.W.plainOver K (RH.ga K "Made")),
  (fun K => decide (PySem.W.findIn K (.ref (RH.ga K "Made")) "__setattr__" = some (some (.builtin "object.__setattr__")))),
  (fun K => decide (PySem.W.findIn K (.ref (RH.ga K "Made")) "row" = some none)),
  (fun K => decide (PySem.W.findIn K (.ref (RH.ga K "Made")) "__class__" = some (some (.builtin "object.__class__")))),
  (fun K => decide (PySem.W.specialIn K (.builtin "object.__class__") "__get__" = some (some (.builtin "getset_descriptor.__get__"))))]
def hcs5 : List RH.Ck := [
  (fun K => decide (PySem.W.takesIn K (.builtin "object.__class__") = some true)),
  (fun K => decide (PySem.W.mroIn K (RH.ga K "Made") (.type "object") = some true)),
  (fun K => decide (PySem.W.nsIn K mainGlobals "Made" = some (some (.ref (RH.ga K "Made"))))),
  (fun K => decide (PySem.W.kitOne K (.type "tuple") (.ref (RH.ga K "Made")) = some false)),
  (fun K => decide (PySem.W.kitOne K (.type "tuple") (.ref (RH.ga K "Poly")) = some false)),
  (fun K => decide (PySem.W.kitOne K (.type "str") (.ref (RH.ga K "Poly")) = some false)),
  (fun K => decide (PySem.W.kitOne K (.type "int") (.ref (RH.ga K "Poly")) = some false)),
  (fun K => decide (PySem.W.nsIn K mainGlobals "PRIMES" = some (some (.ref (RH.ga K "PRIMES"))))),
  (fun K => RH.rowB K (RH.ga K "PRIMES") primes),
  (fun K => decide (PySem.W.nsIn K mainGlobals "MAX_INTEGER" = some (some (.int 999999999999999999999999999999999999999999999999999999999999 (RH.tokOf K "MAX_INTEGER"))))),
  (fun K => decide (PySem.W.nsIn K mainGlobals "MAX_ENTRIES" = some (some (.int 1000 (RH.tokOf K "MAX_ENTRIES"))))),
  (fun K => decide (PySem.W.nsIn K mainGlobals "_MAX_POWER" = some (some (.int 1000 (RH.tokOf K "_MAX_POWER"))))),
  (fun K => decide (PySem.W.nsIn K mainGlobals "_MAX_DIGITS" = some (some (.int 2 (RH.tokOf K "_MAX_DIGITS"))))),
  (fun K => decide (PySem.W.nsIn K mainGlobals "LONG" = some (some (.int 24 (RH.tokOf K "LONG"))))),
  (fun K => decide (PySem.W.nsIn K mainGlobals "LONG_DIVIDED" = some (some (.int 80 (RH.tokOf K "LONG_DIVIDED")))))]
def hcs : List (List RH.Ck) := [hcs0, hcs1, hcs2, hcs3, hcs4, hcs5]
def hfn0 : List RH.FnP := [
  (⟨fun K => (RH.ga K "is_integer"), "is_integer", "is_integer", s_is_integer⟩ : RH.FnP),
  (⟨fun K => (RH.ga K "is_within"), "is_within", "is_within", s_is_within⟩ : RH.FnP),
  (⟨fun K => (RH.ga K "is_prime"), "is_prime", "is_prime", s_is_prime⟩ : RH.FnP),
  (⟨fun K => (RH.ga K "check_prime"), "check_prime", "check_prime", s_check_prime⟩ : RH.FnP),
  (⟨fun K => (RH.ga K "check_count"), "check_count", "check_count", s_check_count⟩ : RH.FnP),
  (⟨fun K => (RH.ga K "trimmed"), "trimmed", "trimmed", s_trimmed⟩ : RH.FnP),
  (⟨fun K => (RH.ga K "row_number"), "row_number", "row_number", s_row_number⟩ : RH.FnP),
  (⟨fun K => (RH.ga K "row_at"), "row_at", "row_at", s_row_at⟩ : RH.FnP),
  (⟨fun K => (RH.ga K "row_value"), "row_value", "row_value", s_row_value⟩ : RH.FnP),
  (⟨fun K => (RH.ma K (RH.ga K "Made") "__init__"), "__init__", "Made.__init__", s_Made___init__⟩ : RH.FnP),
  (⟨fun K => (RH.ma K (RH.ga K "Poly") "__init__"), "__init__", "Poly.__init__", s_Poly___init__⟩ : RH.FnP),
  (⟨fun K => (RH.recHd K (RH.cmA K (RH.ga K "Poly") "read") "classmethod"), "read", "Poly.read", s_Poly_read⟩ : RH.FnP),
  (⟨fun K => (RH.recHd K (RH.ma K (RH.ga K "Poly") "number") "property"), "number", "Poly.number", s_Poly_number⟩ : RH.FnP),
  (⟨fun K => (RH.ma K (RH.ga K "Poly") "__call__"), "__call__", "Poly.__call__", s_Poly___call__⟩ : RH.FnP),
  (⟨fun K => (RH.ma K (RH.ga K "Poly") "__getitem__"), "__getitem__", "Poly.__getitem__", s_Poly___getitem__⟩ : RH.FnP),
  (⟨fun K => (RH.ma K (RH.ga K "Poly") "__eq__"), "__eq__", "Poly.__eq__", s_Poly___eq__⟩ : RH.FnP),
  (⟨fun K => (RH.ma K (RH.ga K "Poly") "__str__"), "__str__", "Poly.__str__", s_Poly___str__⟩ : RH.FnP),
  (⟨fun K => (RH.ga K "poly_at"), "poly_at", "poly_at", s_poly_at⟩ : RH.FnP),
  (⟨fun K => (RH.ga K "poly_of"), "poly_of", "poly_of", s_poly_of⟩ : RH.FnP),
  (⟨fun K => (RH.ga K "is_row"), "is_row", "is_row", s_is_row⟩ : RH.FnP)]
def hfn1 : List RH.FnP := [
  (⟨fun K => (RH.ga K "are_entries"), "are_entries", "are_entries", s_are_entries⟩ : RH.FnP),
  (⟨fun K => (RH.ga K "check_residue"), "check_residue", "check_residue", s_check_residue⟩ : RH.FnP),
  (⟨fun K => (RH.ga K "terms_of"), "terms_of", "terms_of", s_terms_of⟩ : RH.FnP),
  (⟨fun K => (RH.ga K "term_text"), "term_text", "term_text", s_term_text⟩ : RH.FnP),
  (⟨fun K => (RH.ga K "row_told"), "row_told", "row_told", s_row_told⟩ : RH.FnP),
  (⟨fun K => (RH.ga K "terms_told"), "terms_told", "terms_told", s_terms_told⟩ : RH.FnP),
  (⟨fun K => (RH.ga K "entry_told"), "entry_told", "entry_told", s_entry_told⟩ : RH.FnP),
  (⟨fun K => (RH.ga K "power_told"), "power_told", "power_told", s_power_told⟩ : RH.FnP),
  (⟨fun K => (RH.ga K "is_number"), "is_number", "is_number", s_is_number⟩ : RH.FnP),
  (⟨fun K => (RH.ga K "is_lesser"), "is_lesser", "is_lesser", s_is_lesser⟩ : RH.FnP),
  (⟨fun K => (RH.ga K "_law_dice"), "_law_dice", "_law_dice", s__law_dice⟩ : RH.FnP),
  (⟨fun K => (RH.ga K "_law_roll"), "_law_roll", "_law_roll", s__law_roll⟩ : RH.FnP),
  (⟨fun K => (RH.ga K "_law_pick"), "_law_pick", "_law_pick", s__law_pick⟩ : RH.FnP),
  (⟨fun K => (RH.ga K "_law_worth"), "_law_worth", "_law_worth", s__law_worth⟩ : RH.FnP),
  (⟨fun K => (RH.ga K "_law_row_drawn"), "_law_row_drawn", "_law_row_drawn", s__law_row_drawn⟩ : RH.FnP),
  (⟨fun K => (RH.ga K "_law_text"), "_law_text", "_law_text", s__law_text⟩ : RH.FnP),
  (⟨fun K => (RH.ga K "_law_number"), "_law_number", "_law_number", s__law_number⟩ : RH.FnP),
  (⟨fun K => (RH.ga K "_law_any_row"), "_law_any_row", "_law_any_row", s__law_any_row⟩ : RH.FnP),
  (⟨fun K => (RH.ga K "_law_is_told"), "_law_is_told", "_law_is_told", s__law_is_told⟩ : RH.FnP),
  (⟨fun K => (RH.ga K "_law_right"), "_law_right", "_law_right", s__law_right⟩ : RH.FnP)]
def hfn2 : List RH.FnP := [
  (⟨fun K => (RH.ga K "law"), "law", "law", s_law⟩ : RH.FnP)]
def hfn : List RH.FnP := hfn0 ++ hfn1 ++ hfn2
section
variable {P : Program} {w : World} {K : PySem.W.Frag} {mg : Str → Option Value} {base : Heap}
theorem all_of_facts {l : PySem.W.OpenLaw} {fa : Addr} {h : Heap} (X : K.In h) (G : h.Ns mainGlobals mg) (hfa : mg "law" = some (.ref fa)) (c : RH.obsK hcs hfn K = RH.valK hfn) :
    ∃ fd : FuncData, (∀ (s : Shared) (v : Value), BindsTo s fd ⟨[v], []⟩ [("_law_script", v)]) ∧ ∀ base : Heap, K.In base → base.Ns mainGlobals mg → FnOk l.prog w K mg base CX0 10 fa fd ["_law_script"] (sp_law K) := by
  have h_a_is_integer : PySem.W.nsIn K mainGlobals "is_integer" = some (some (.ref (RH.ga K "is_integer"))) := of_decide_eq_true (RH.ck_of c 0 0 rfl rfl)
  obtain ⟨_, h_F_is_integer⟩ := (RH.fn_of c 0 rfl : ∃ fd, Fun K "is_integer" "is_integer" s_is_integer (RH.ga K "is_integer") fd)
  have h_a_is_within : PySem.W.nsIn K mainGlobals "is_within" = some (some (.ref (RH.ga K "is_within"))) := of_decide_eq_true (RH.ck_of c 0 1 rfl rfl)
  obtain ⟨_, h_F_is_within⟩ := (RH.fn_of c 1 rfl : ∃ fd, Fun K "is_within" "is_within" s_is_within (RH.ga K "is_within") fd)
  have h_a_is_prime : PySem.W.nsIn K mainGlobals "is_prime" = some (some (.ref (RH.ga K "is_prime"))) := of_decide_eq_true (RH.ck_of c 0 2 rfl rfl)
  obtain ⟨_, h_F_is_prime⟩ := (RH.fn_of c 2 rfl : ∃ fd, Fun K "is_prime" "is_prime" s_is_prime (RH.ga K "is_prime") fd)
  have h_a_check_prime : PySem.W.nsIn K mainGlobals "check_prime" = some (some (.ref (RH.ga K "check_prime"))) := of_decide_eq_true (RH.ck_of c 0 3 rfl rfl)
  obtain ⟨_, h_F_check_prime⟩ := (RH.fn_of c 3 rfl : ∃ fd, Fun K "check_prime" "check_prime" s_check_prime (RH.ga K "check_prime") fd)
  have h_a_check_count : PySem.W.nsIn K mainGlobals "check_count" = some (some (.ref (RH.ga K "check_count"))) := of_decide_eq_true (RH.ck_of c 0 4 rfl rfl)
  obtain ⟨_, h_F_check_count⟩ := (RH.fn_of c 4 rfl : ∃ fd, Fun K "check_count" "check_count" s_check_count (RH.ga K "check_count") fd)
  have h_a_trimmed : PySem.W.nsIn K mainGlobals "trimmed" = some (some (.ref (RH.ga K "trimmed"))) := of_decide_eq_true (RH.ck_of c 0 5 rfl rfl)
  obtain ⟨_, h_F_trimmed⟩ := (RH.fn_of c 5 rfl : ∃ fd, Fun K "trimmed" "trimmed" s_trimmed (RH.ga K "trimmed") fd)
  have h_a_row_number : PySem.W.nsIn K mainGlobals "row_number" = some (some (.ref (RH.ga K "row_number"))) := of_decide_eq_true (RH.ck_of c 0 6 rfl rfl)
  obtain ⟨_, h_F_row_number⟩ := (RH.fn_of c 6 rfl : ∃ fd, Fun K "row_number" "row_number" s_row_number (RH.ga K "row_number") fd)
  have h_a_row_at : PySem.W.nsIn K mainGlobals "row_at" = some (some (.ref (RH.ga K "row_at"))) := of_decide_eq_true (RH.ck_of c 0 7 rfl rfl)
  obtain ⟨_, h_F_row_at⟩ := (RH.fn_of c 7 rfl : ∃ fd, Fun K "row_at" "row_at" s_row_at (RH.ga K "row_at") fd)
  have h_a_row_value : PySem.W.nsIn K mainGlobals "row_value" = some (some (.ref (RH.ga K "row_value"))) := of_decide_eq_true (RH.ck_of c 0 8 rfl rfl)
  obtain ⟨_, h_F_row_value⟩ := (RH.fn_of c 8 rfl : ∃ fd, Fun K "row_value" "row_value" s_row_value (RH.ga K "row_value") fd)
  obtain ⟨_, h_F_Made___init__⟩ := (RH.fn_of c 9 rfl : ∃ fd, Fun K "__init__" "Made.__init__" s_Made___init__ (RH.ma K (RH.ga K "Made") "__init__") fd)
  obtain ⟨_, h_F_Poly___init__⟩ := (RH.fn_of c 10 rfl : ∃ fd, Fun K "__init__" "Poly.__init__" s_Poly___init__ (RH.ma K (RH.ga K "Poly") "__init__") fd)
  obtain ⟨_, h_F_Poly_read⟩ := (RH.fn_of c 11 rfl : ∃ fd, Fun K "read" "Poly.read" s_Poly_read (RH.recHd K (RH.cmA K (RH.ga K "Poly") "read") "classmethod") fd)
  obtain ⟨_, h_F_Poly_number⟩ := (RH.fn_of c 12 rfl : ∃ fd, Fun K "number" "Poly.number" s_Poly_number (RH.recHd K (RH.ma K (RH.ga K "Poly") "number") "property") fd)
  obtain ⟨_, h_F_Poly___call__⟩ := (RH.fn_of c 13 rfl : ∃ fd, Fun K "__call__" "Poly.__call__" s_Poly___call__ (RH.ma K (RH.ga K "Poly") "__call__") fd)
  obtain ⟨_, h_F_Poly___getitem__⟩ := (RH.fn_of c 14 rfl : ∃ fd, Fun K "__getitem__" "Poly.__getitem__" s_Poly___getitem__ (RH.ma K (RH.ga K "Poly") "__getitem__") fd)
  obtain ⟨_, h_F_Poly___eq__⟩ := (RH.fn_of c 15 rfl : ∃ fd, Fun K "__eq__" "Poly.__eq__" s_Poly___eq__ (RH.ma K (RH.ga K "Poly") "__eq__") fd)
  obtain ⟨_, h_F_Poly___str__⟩ := (RH.fn_of c 16 rfl : ∃ fd, Fun K "__str__" "Poly.__str__" s_Poly___str__ (RH.ma K (RH.ga K "Poly") "__str__") fd)
  have h_a_poly_at : PySem.W.nsIn K mainGlobals "poly_at" = some (some (.ref (RH.ga K "poly_at"))) := of_decide_eq_true (RH.ck_of c 0 9 rfl rfl)
  obtain ⟨_, h_F_poly_at⟩ := (RH.fn_of c 17 rfl : ∃ fd, Fun K "poly_at" "poly_at" s_poly_at (RH.ga K "poly_at") fd)
  have h_a_poly_of : PySem.W.nsIn K mainGlobals "poly_of" = some (some (.ref (RH.ga K "poly_of"))) := of_decide_eq_true (RH.ck_of c 0 10 rfl rfl)
  obtain ⟨_, h_F_poly_of⟩ := (RH.fn_of c 18 rfl : ∃ fd, Fun K "poly_of" "poly_of" s_poly_of (RH.ga K "poly_of") fd)
  have h_a_is_row : PySem.W.nsIn K mainGlobals "is_row" = some (some (.ref (RH.ga K "is_row"))) := of_decide_eq_true (RH.ck_of c 0 11 rfl rfl)
  obtain ⟨_, h_F_is_row⟩ := (RH.fn_of c 19 rfl : ∃ fd, Fun K "is_row" "is_row" s_is_row (RH.ga K "is_row") fd)
  have h_a_are_entries : PySem.W.nsIn K mainGlobals "are_entries" = some (some (.ref (RH.ga K "are_entries"))) := of_decide_eq_true (RH.ck_of c 0 12 rfl rfl)
  obtain ⟨_, h_F_are_entries⟩ := (RH.fn_of c 20 rfl : ∃ fd, Fun K "are_entries" "are_entries" s_are_entries (RH.ga K "are_entries") fd)
  have h_a_check_residue : PySem.W.nsIn K mainGlobals "check_residue" = some (some (.ref (RH.ga K "check_residue"))) := of_decide_eq_true (RH.ck_of c 0 13 rfl rfl)
  obtain ⟨_, h_F_check_residue⟩ := (RH.fn_of c 21 rfl : ∃ fd, Fun K "check_residue" "check_residue" s_check_residue (RH.ga K "check_residue") fd)
  have h_a_terms_of : PySem.W.nsIn K mainGlobals "terms_of" = some (some (.ref (RH.ga K "terms_of"))) := of_decide_eq_true (RH.ck_of c 0 14 rfl rfl)
  obtain ⟨_, h_F_terms_of⟩ := (RH.fn_of c 22 rfl : ∃ fd, Fun K "terms_of" "terms_of" s_terms_of (RH.ga K "terms_of") fd)
  have h_a_term_text : PySem.W.nsIn K mainGlobals "term_text" = some (some (.ref (RH.ga K "term_text"))) := of_decide_eq_true (RH.ck_of c 0 15 rfl rfl)
  obtain ⟨_, h_F_term_text⟩ := (RH.fn_of c 23 rfl : ∃ fd, Fun K "term_text" "term_text" s_term_text (RH.ga K "term_text") fd)
  have h_a_row_told : PySem.W.nsIn K mainGlobals "row_told" = some (some (.ref (RH.ga K "row_told"))) := of_decide_eq_true (RH.ck_of c 0 16 rfl rfl)
  obtain ⟨_, h_F_row_told⟩ := (RH.fn_of c 24 rfl : ∃ fd, Fun K "row_told" "row_told" s_row_told (RH.ga K "row_told") fd)
  have h_a_terms_told : PySem.W.nsIn K mainGlobals "terms_told" = some (some (.ref (RH.ga K "terms_told"))) := of_decide_eq_true (RH.ck_of c 0 17 rfl rfl)
  obtain ⟨_, h_F_terms_told⟩ := (RH.fn_of c 25 rfl : ∃ fd, Fun K "terms_told" "terms_told" s_terms_told (RH.ga K "terms_told") fd)
  have h_a_entry_told : PySem.W.nsIn K mainGlobals "entry_told" = some (some (.ref (RH.ga K "entry_told"))) := of_decide_eq_true (RH.ck_of c 0 18 rfl rfl)
  obtain ⟨_, h_F_entry_told⟩ := (RH.fn_of c 26 rfl : ∃ fd, Fun K "entry_told" "entry_told" s_entry_told (RH.ga K "entry_told") fd)
  have h_a_power_told : PySem.W.nsIn K mainGlobals "power_told" = some (some (.ref (RH.ga K "power_told"))) := of_decide_eq_true (RH.ck_of c 0 19 rfl rfl)
  obtain ⟨_, h_F_power_told⟩ := (RH.fn_of c 27 rfl : ∃ fd, Fun K "power_told" "power_told" s_power_told (RH.ga K "power_told") fd)
  have h_a_is_number : PySem.W.nsIn K mainGlobals "is_number" = some (some (.ref (RH.ga K "is_number"))) := of_decide_eq_true (RH.ck_of c 1 0 rfl rfl)
  obtain ⟨_, h_F_is_number⟩ := (RH.fn_of c 28 rfl : ∃ fd, Fun K "is_number" "is_number" s_is_number (RH.ga K "is_number") fd)
  have h_a_is_lesser : PySem.W.nsIn K mainGlobals "is_lesser" = some (some (.ref (RH.ga K "is_lesser"))) := of_decide_eq_true (RH.ck_of c 1 1 rfl rfl)
  obtain ⟨_, h_F_is_lesser⟩ := (RH.fn_of c 29 rfl : ∃ fd, Fun K "is_lesser" "is_lesser" s_is_lesser (RH.ga K "is_lesser") fd)
  have h_a__law_dice : PySem.W.nsIn K mainGlobals "_law_dice" = some (some (.ref (RH.ga K "_law_dice"))) := of_decide_eq_true (RH.ck_of c 1 2 rfl rfl)
  obtain ⟨_, h_F__law_dice⟩ := (RH.fn_of c 30 rfl : ∃ fd, Fun K "_law_dice" "_law_dice" s__law_dice (RH.ga K "_law_dice") fd)
  have h_a__law_roll : PySem.W.nsIn K mainGlobals "_law_roll" = some (some (.ref (RH.ga K "_law_roll"))) := of_decide_eq_true (RH.ck_of c 1 3 rfl rfl)
  obtain ⟨_, h_F__law_roll⟩ := (RH.fn_of c 31 rfl : ∃ fd, Fun K "_law_roll" "_law_roll" s__law_roll (RH.ga K "_law_roll") fd)
  have h_a__law_pick : PySem.W.nsIn K mainGlobals "_law_pick" = some (some (.ref (RH.ga K "_law_pick"))) := of_decide_eq_true (RH.ck_of c 1 4 rfl rfl)
  obtain ⟨_, h_F__law_pick⟩ := (RH.fn_of c 32 rfl : ∃ fd, Fun K "_law_pick" "_law_pick" s__law_pick (RH.ga K "_law_pick") fd)
  have h_a__law_worth : PySem.W.nsIn K mainGlobals "_law_worth" = some (some (.ref (RH.ga K "_law_worth"))) := of_decide_eq_true (RH.ck_of c 1 5 rfl rfl)
  obtain ⟨_, h_F__law_worth⟩ := (RH.fn_of c 33 rfl : ∃ fd, Fun K "_law_worth" "_law_worth" s__law_worth (RH.ga K "_law_worth") fd)
  have h_a__law_row_drawn : PySem.W.nsIn K mainGlobals "_law_row_drawn" = some (some (.ref (RH.ga K "_law_row_drawn"))) := of_decide_eq_true (RH.ck_of c 1 6 rfl rfl)
  obtain ⟨_, h_F__law_row_drawn⟩ := (RH.fn_of c 34 rfl : ∃ fd, Fun K "_law_row_drawn" "_law_row_drawn" s__law_row_drawn (RH.ga K "_law_row_drawn") fd)
  have h_a__law_text : PySem.W.nsIn K mainGlobals "_law_text" = some (some (.ref (RH.ga K "_law_text"))) := of_decide_eq_true (RH.ck_of c 1 7 rfl rfl)
  obtain ⟨_, h_F__law_text⟩ := (RH.fn_of c 35 rfl : ∃ fd, Fun K "_law_text" "_law_text" s__law_text (RH.ga K "_law_text") fd)
  have h_a__law_number : PySem.W.nsIn K mainGlobals "_law_number" = some (some (.ref (RH.ga K "_law_number"))) := of_decide_eq_true (RH.ck_of c 1 8 rfl rfl)
  obtain ⟨_, h_F__law_number⟩ := (RH.fn_of c 36 rfl : ∃ fd, Fun K "_law_number" "_law_number" s__law_number (RH.ga K "_law_number") fd)
  have h_a__law_any_row : PySem.W.nsIn K mainGlobals "_law_any_row" = some (some (.ref (RH.ga K "_law_any_row"))) := of_decide_eq_true (RH.ck_of c 1 9 rfl rfl)
  obtain ⟨_, h_F__law_any_row⟩ := (RH.fn_of c 37 rfl : ∃ fd, Fun K "_law_any_row" "_law_any_row" s__law_any_row (RH.ga K "_law_any_row") fd)
  have h_a__law_is_told : PySem.W.nsIn K mainGlobals "_law_is_told" = some (some (.ref (RH.ga K "_law_is_told"))) := of_decide_eq_true (RH.ck_of c 1 10 rfl rfl)
  obtain ⟨_, h_F__law_is_told⟩ := (RH.fn_of c 38 rfl : ∃ fd, Fun K "_law_is_told" "_law_is_told" s__law_is_told (RH.ga K "_law_is_told") fd)
  have h_a__law_right : PySem.W.nsIn K mainGlobals "_law_right" = some (some (.ref (RH.ga K "_law_right"))) := of_decide_eq_true (RH.ck_of c 1 11 rfl rfl)
  obtain ⟨_, h_F__law_right⟩ := (RH.fn_of c 39 rfl : ∃ fd, Fun K "_law_right" "_law_right" s__law_right (RH.ga K "_law_right") fd)
  have h_a_law : PySem.W.nsIn K mainGlobals "law" = some (some (.ref (RH.ga K "law"))) := of_decide_eq_true (RH.ck_of c 1 12 rfl rfl)
  obtain ⟨_, h_F_law⟩ := (RH.fn_of c 40 rfl : ∃ fd, Fun K "law" "law" s_law (RH.ga K "law") fd)
  have h_z_int : PySem.W.nsIn K mainGlobals "int" = some none := of_decide_eq_true (RH.ck_of c 1 13 rfl rfl)
  have h_z_len : PySem.W.nsIn K mainGlobals "len" = some none := of_decide_eq_true (RH.ck_of c 1 14 rfl rfl)
  have h_z_range : PySem.W.nsIn K mainGlobals "range" = some none := of_decide_eq_true (RH.ck_of c 1 15 rfl rfl)
  have h_z_str : PySem.W.nsIn K mainGlobals "str" = some none := of_decide_eq_true (RH.ck_of c 1 16 rfl rfl)
  have h_z_all : PySem.W.nsIn K mainGlobals "all" = some none := of_decide_eq_true (RH.ck_of c 1 17 rfl rfl)
  have h_z_list : PySem.W.nsIn K mainGlobals "list" = some none := of_decide_eq_true (RH.ck_of c 1 18 rfl rfl)
  have h_z_min : PySem.W.nsIn K mainGlobals "min" = some none := of_decide_eq_true (RH.ck_of c 1 19 rfl rfl)
  have h_z_max : PySem.W.nsIn K mainGlobals "max" = some none := of_decide_eq_true (RH.ck_of c 2 0 rfl rfl)
  have h_z_bool : PySem.W.nsIn K mainGlobals "bool" = some none := of_decide_eq_true (RH.ck_of c 2 1 rfl rfl)
  have h_z_isinstance : PySem.W.nsIn K mainGlobals "isinstance" = some none := of_decide_eq_true (RH.ck_of c 2 2 rfl rfl)
  have h_z_tuple : PySem.W.nsIn K mainGlobals "tuple" = some none := of_decide_eq_true (RH.ck_of c 2 3 rfl rfl)
  have h_z_abs : PySem.W.nsIn K mainGlobals "abs" = some none := of_decide_eq_true (RH.ck_of c 2 4 rfl rfl)
  have h_mmPoly : PySem.W.makesIn K (RH.ga K "Poly") = true := RH.ck_of c 2 5 rfl rfl
  have h_miPoly : PySem.W.findIn K (.ref (RH.ga K "Poly")) "__init__" = some (some (.ref (RH.ma K (RH.ga K "Poly") "__init__"))) := of_decide_eq_true (RH.ck_of c 2 6 rfl rfl)
  have h_mfPoly : PySem.W.isFn K (.ref (RH.ma K (RH.ga K "Poly") "__init__")) = true := RH.ck_of c 2 7 rfl rfl
  have h_mkPoly : PySem.W.keepIn K (.ref (RH.ga K "Poly")) = true := RH.ck_of c 2 8 rfl rfl
  have h_gPoly : PySem.W.nsIn K mainGlobals "Poly" = some (some (.ref (RH.ga K "Poly"))) := of_decide_eq_true (RH.ck_of c 2 9 rfl rfl)
  have h_pgPoly : PySem.W.plainGet K (RH.ga K "Poly") Str.empty = true := RH.ck_of c 2 10 rfl rfl
  have h_hdPoly : PySem.W.hasDictIn K (RH.ga K "Poly") = true := RH.ck_of c 2 11 rfl rfl
  have h_poPoly : PySem.W.plainOver K (RH.ga K "Poly") = true := RH.ck_of c 2 12 rfl rfl
  have h_saPoly : PySem.W.findIn K (.ref (RH.ga K "Poly")) "__setattr__" = some (some (.builtin "object.__setattr__")) := of_decide_eq_true (RH.ck_of c 2 13 rfl rfl)
  have h_nPoly_prime : PySem.W.findIn K (.ref (RH.ga K "Poly")) "prime" = some none := of_decide_eq_true (RH.ck_of c 2 14 rfl rfl)
  have h_nPoly_entries : PySem.W.findIn K (.ref (RH.ga K "Poly")) "entries" = some none := of_decide_eq_true (RH.ck_of c 2 15 rfl rfl)
  have h_nPoly_degree : PySem.W.findIn K (.ref (RH.ga K "Poly")) "degree" = some none := of_decide_eq_true (RH.ck_of c 2 16 rfl rfl)
  have h_nPoly_lead : PySem.W.findIn K (.ref (RH.ga K "Poly")) "lead" = some none := of_decide_eq_true (RH.ck_of c 2 17 rfl rfl)
  have h_p1Poly_number : PySem.W.findIn K (.ref (RH.ga K "Poly")) "number" = some (some (.ref (RH.ma K (RH.ga K "Poly") "number"))) := of_decide_eq_true (RH.ck_of c 2 18 rfl rfl)
  have h_p2Poly_number : PySem.W.specialIn K (.ref (RH.ma K (RH.ga K "Poly") "number")) "__get__" = some (some (.builtin "property.__get__")) := of_decide_eq_true (RH.ck_of c 2 19 rfl rfl)
  have h_p3Poly_number : PySem.W.takesIn K (.ref (RH.ma K (RH.ga K "Poly") "number")) = some true := of_decide_eq_true (RH.ck_of c 3 0 rfl rfl)
  have h_p4Poly_number : PySem.W.recIn K (RH.ma K (RH.ga K "Poly") "number") "property" = some (.ref (RH.recHd K (RH.ma K (RH.ga K "Poly") "number") "property") :: (RH.recTl K (RH.ma K (RH.ga K "Poly") "number") "property")) := of_decide_eq_true (RH.ck_of c 3 1 rfl rfl)
  have h_iaPoly : PySem.W.findIn K (.ref (RH.ga K "Poly")) "__class__" = some (some (.builtin "object.__class__")) := of_decide_eq_true (RH.ck_of c 3 2 rfl rfl)
  have h_inPoly : PySem.W.specialIn K (.builtin "object.__class__") "__get__" = some (some (.builtin "getset_descriptor.__get__")) := of_decide_eq_true (RH.ck_of c 3 3 rfl rfl)
  have h_itPoly : PySem.W.takesIn K (.builtin "object.__class__") = some true := of_decide_eq_true (RH.ck_of c 3 4 rfl rfl)
  have h_imPoly : PySem.W.mroIn K (RH.ga K "Poly") (.type "object") = some true := of_decide_eq_true (RH.ck_of c 3 5 rfl rfl)
  have h_nfPoly__ref_C_Poly : PySem.W.notFirst K (RH.ga K "Poly") (.ref (RH.ga K "Poly")) = true := RH.ck_of c 3 6 rfl rfl
  have h_nePoly : PySem.W.findIn K (.ref (RH.ga K "Poly")) "__ne__" = some (some (.builtin "object.__ne__")) := of_decide_eq_true (RH.ck_of c 3 7 rfl rfl)
  have h_obPoly : PySem.W.subIn K (.ref (RH.ga K "Poly")) (.type "object") = some true := of_decide_eq_true (RH.ck_of c 3 8 rfl rfl)
  have h_saPoly___eq__ : PySem.W.findIn K (.ref (RH.ga K "Poly")) "__eq__" = some (some (.ref (RH.ma K (RH.ga K "Poly") "__eq__"))) := of_decide_eq_true (RH.ck_of c 3 9 rfl rfl)
  have h_sbPoly___eq__ : PySem.W.isFn K (.ref (RH.ma K (RH.ga K "Poly") "__eq__")) = true := RH.ck_of c 3 10 rfl rfl
  have h_saPoly___str__ : PySem.W.findIn K (.ref (RH.ga K "Poly")) "__str__" = some (some (.ref (RH.ma K (RH.ga K "Poly") "__str__"))) := of_decide_eq_true (RH.ck_of c 3 11 rfl rfl)
  have h_sbPoly___str__ : PySem.W.isFn K (.ref (RH.ma K (RH.ga K "Poly") "__str__")) = true := RH.ck_of c 3 12 rfl rfl
  have h_crPoly : PySem.W.readsIn K (RH.ga K "Poly") (.type "type") = true := RH.ck_of c 3 13 rfl rfl
  have h_cgPoly : PySem.W.specialIn K (.ref (RH.ga K "Poly")) "__getattribute__" = some (some (.builtin "type.__getattribute__")) := of_decide_eq_true (RH.ck_of c 3 14 rfl rfl)
  have h_c1Poly_read : PySem.W.findCls K (.ref (RH.ga K "Poly")) (.type "type") "read" = some (.get (.builtin "classmethod.__get__") (.ref (RH.cmA K (RH.ga K "Poly") "read")) .none (.ref (RH.ga K "Poly"))) := RH.cm_ok (RH.ck_of c 3 15 rfl rfl : RH.cmB K (RH.ga K "Poly") "read" (RH.cmA K (RH.ga K "Poly") "read") = true)
  have h_c2Poly_read : PySem.W.recIn K (RH.cmA K (RH.ga K "Poly") "read") "classmethod" = some (.ref (RH.recHd K (RH.cmA K (RH.ga K "Poly") "read") "classmethod") :: (RH.recTl K (RH.cmA K (RH.ga K "Poly") "read") "classmethod")) := of_decide_eq_true (RH.ck_of c 3 16 rfl rfl)
  have h_c3Poly_read : PySem.W.fnIn K (RH.recHd K (RH.cmA K (RH.ga K "Poly") "read") "classmethod") = true := RH.ck_of c 3 17 rfl rfl
  have h_nPoly_is_zero : PySem.W.findIn K (.ref (RH.ga K "Poly")) "is_zero" = some none := of_decide_eq_true (RH.ck_of c 3 18 rfl rfl)
  have h_nPoly_is_monic : PySem.W.findIn K (.ref (RH.ga K "Poly")) "is_monic" = some none := of_decide_eq_true (RH.ck_of c 3 19 rfl rfl)
  have h_saPoly___call__ : PySem.W.findIn K (.ref (RH.ga K "Poly")) "__call__" = some (some (.ref (RH.ma K (RH.ga K "Poly") "__call__"))) := of_decide_eq_true (RH.ck_of c 4 0 rfl rfl)
  have h_sbPoly___call__ : PySem.W.isFn K (.ref (RH.ma K (RH.ga K "Poly") "__call__")) = true := RH.ck_of c 4 1 rfl rfl
  have h_fiPoly___call__ : PySem.W.fnIn K (RH.ma K (RH.ga K "Poly") "__call__") = true := RH.ck_of c 4 2 rfl rfl
  have h_saPoly___getitem__ : PySem.W.findIn K (.ref (RH.ga K "Poly")) "__getitem__" = some (some (.ref (RH.ma K (RH.ga K "Poly") "__getitem__"))) := of_decide_eq_true (RH.ck_of c 4 3 rfl rfl)
  have h_sbPoly___getitem__ : PySem.W.isFn K (.ref (RH.ma K (RH.ga K "Poly") "__getitem__")) = true := RH.ck_of c 4 4 rfl rfl
  have h_fiPoly___getitem__ : PySem.W.fnIn K (RH.ma K (RH.ga K "Poly") "__getitem__") = true := RH.ck_of c 4 5 rfl rfl
  have h_nfPoly__type_tuple_ : PySem.W.notFirst K (RH.ga K "Poly") (.type "tuple") = true := RH.ck_of c 4 6 rfl rfl
  have h_nfPoly__type_str_ : PySem.W.notFirst K (RH.ga K "Poly") (.type "str") = true := RH.ck_of c 4 7 rfl rfl
  have h_nfPoly__type_int_ : PySem.W.notFirst K (RH.ga K "Poly") (.type "int") = true := RH.ck_of c 4 8 rfl rfl
  have h_mmMade : PySem.W.makesIn K (RH.ga K "Made") = true := RH.ck_of c 4 9 rfl rfl
  have h_miMade : PySem.W.findIn K (.ref (RH.ga K "Made")) "__init__" = some (some (.ref (RH.ma K (RH.ga K "Made") "__init__"))) := of_decide_eq_true (RH.ck_of c 4 10 rfl rfl)
  have h_mfMade : PySem.W.isFn K (.ref (RH.ma K (RH.ga K "Made") "__init__")) = true := RH.ck_of c 4 11 rfl rfl
  have h_mkMade : PySem.W.keepIn K (.ref (RH.ga K "Made")) = true := RH.ck_of c 4 12 rfl rfl
  have h_pgMade : PySem.W.plainGet K (RH.ga K "Made") Str.empty = true := RH.ck_of c 4 13 rfl rfl
  have h_hdMade : PySem.W.hasDictIn K (RH.ga K "Made") = true := RH.ck_of c 4 14 rfl rfl
  have h_poMade : PySem.W.plainOver K (RH.ga K "Made") = true := RH.ck_of c 4 15 rfl rfl
  have h_saMade : PySem.W.findIn K (.ref (RH.ga K "Made")) "__setattr__" = some (some (.builtin "object.__setattr__")) := of_decide_eq_true (RH.ck_of c 4 16 rfl rfl)
  have h_nMade_row : PySem.W.findIn K (.ref (RH.ga K "Made")) "row" = some none := of_decide_eq_true (RH.ck_of c 4 17 rfl rfl)
  have h_iaMade : PySem.W.findIn K (.ref (RH.ga K "Made")) "__class__" = some (some (.builtin "object.__class__")) := of_decide_eq_true (RH.ck_of c 4 18 rfl rfl)
  have h_inMade : PySem.W.specialIn K (.builtin "object.__class__") "__get__" = some (some (.builtin "getset_descriptor.__get__")) := of_decide_eq_true (RH.ck_of c 4 19 rfl rfl)
  have h_itMade : PySem.W.takesIn K (.builtin "object.__class__") = some true := of_decide_eq_true (RH.ck_of c 5 0 rfl rfl)
  have h_imMade : PySem.W.mroIn K (RH.ga K "Made") (.type "object") = some true := of_decide_eq_true (RH.ck_of c 5 1 rfl rfl)
  have h_gMade : PySem.W.nsIn K mainGlobals "Made" = some (some (.ref (RH.ga K "Made"))) := of_decide_eq_true (RH.ck_of c 5 2 rfl rfl)
  have h_i_type_tuple__Made : PySem.W.kitOne K (.type "tuple") (.ref (RH.ga K "Made")) = some false := of_decide_eq_true (RH.ck_of c 5 3 rfl rfl)
  have h_i_type_tuple__Poly : PySem.W.kitOne K (.type "tuple") (.ref (RH.ga K "Poly")) = some false := of_decide_eq_true (RH.ck_of c 5 4 rfl rfl)
  have h_i_type_str__Poly : PySem.W.kitOne K (.type "str") (.ref (RH.ga K "Poly")) = some false := of_decide_eq_true (RH.ck_of c 5 5 rfl rfl)
  have h_i_type_int__Poly : PySem.W.kitOne K (.type "int") (.ref (RH.ga K "Poly")) = some false := of_decide_eq_true (RH.ck_of c 5 6 rfl rfl)
  have h_gPRIMES : PySem.W.nsIn K mainGlobals "PRIMES" = some (some (.ref (RH.ga K "PRIMES"))) := of_decide_eq_true (RH.ck_of c 5 7 rfl rfl)
  have h_lPRIMES : RH.rowB K (RH.ga K "PRIMES") primes = true := RH.ck_of c 5 8 rfl rfl
  have h_gMAX_INTEGER : PySem.W.nsIn K mainGlobals "MAX_INTEGER" = some (some (.int 999999999999999999999999999999999999999999999999999999999999 (RH.tokOf K "MAX_INTEGER"))) := of_decide_eq_true (RH.ck_of c 5 9 rfl rfl)
  have h_gMAX_ENTRIES : PySem.W.nsIn K mainGlobals "MAX_ENTRIES" = some (some (.int 1000 (RH.tokOf K "MAX_ENTRIES"))) := of_decide_eq_true (RH.ck_of c 5 10 rfl rfl)
  have h_g_MAX_POWER : PySem.W.nsIn K mainGlobals "_MAX_POWER" = some (some (.int 1000 (RH.tokOf K "_MAX_POWER"))) := of_decide_eq_true (RH.ck_of c 5 11 rfl rfl)
  have h_g_MAX_DIGITS : PySem.W.nsIn K mainGlobals "_MAX_DIGITS" = some (some (.int 2 (RH.tokOf K "_MAX_DIGITS"))) := of_decide_eq_true (RH.ck_of c 5 12 rfl rfl)
  have h_gLONG : PySem.W.nsIn K mainGlobals "LONG" = some (some (.int 24 (RH.tokOf K "LONG"))) := of_decide_eq_true (RH.ck_of c 5 13 rfl rfl)
  have h_gLONG_DIVIDED : PySem.W.nsIn K mainGlobals "LONG_DIVIDED" = some (some (.int 80 (RH.tokOf K "LONG_DIVIDED"))) := of_decide_eq_true (RH.ck_of c 5 14 rfl rfl)
  exact all_mk X G hfa h_a_is_integer h_F_is_integer h_a_is_within h_F_is_within h_a_is_prime h_F_is_prime h_a_check_prime h_F_check_prime h_a_check_count h_F_check_count h_a_trimmed h_F_trimmed h_a_row_number h_F_row_number h_a_row_at h_F_row_at h_a_row_value h_F_row_value h_F_Made___init__ h_F_Poly___init__ h_F_Poly_read h_F_Poly_number h_F_Poly___call__ h_F_Poly___getitem__ h_F_Poly___eq__ h_F_Poly___str__ h_a_poly_at h_F_poly_at h_a_poly_of h_F_poly_of h_a_is_row h_F_is_row h_a_are_entries h_F_are_entries h_a_check_residue h_F_check_residue h_a_terms_of h_F_terms_of h_a_term_text h_F_term_text h_a_row_told h_F_row_told h_a_terms_told h_F_terms_told h_a_entry_told h_F_entry_told h_a_power_told h_F_power_told h_a_is_number h_F_is_number h_a_is_lesser h_F_is_lesser h_a__law_dice h_F__law_dice h_a__law_roll h_F__law_roll h_a__law_pick h_F__law_pick h_a__law_worth h_F__law_worth h_a__law_row_drawn h_F__law_row_drawn h_a__law_text h_F__law_text h_a__law_number h_F__law_number h_a__law_any_row h_F__law_any_row h_a__law_is_told h_F__law_is_told h_a__law_right h_F__law_right h_a_law h_F_law h_z_int h_z_len h_z_range h_z_str h_z_all h_z_list h_z_min h_z_max h_z_bool h_z_isinstance h_z_tuple h_z_abs h_mmPoly h_miPoly h_mfPoly h_mkPoly h_gPoly h_pgPoly h_hdPoly h_poPoly h_saPoly h_nPoly_prime h_nPoly_entries h_nPoly_degree h_nPoly_lead h_p1Poly_number h_p2Poly_number h_p3Poly_number h_p4Poly_number h_iaPoly h_inPoly h_itPoly h_imPoly h_nfPoly__ref_C_Poly h_nePoly h_obPoly h_saPoly___eq__ h_sbPoly___eq__ h_saPoly___str__ h_sbPoly___str__ h_crPoly h_cgPoly h_c1Poly_read h_c2Poly_read h_c3Poly_read h_nPoly_is_zero h_nPoly_is_monic h_saPoly___call__ h_sbPoly___call__ h_fiPoly___call__ h_saPoly___getitem__ h_sbPoly___getitem__ h_fiPoly___getitem__ h_nfPoly__type_tuple_ h_nfPoly__type_str_ h_nfPoly__type_int_ h_mmMade h_miMade h_mfMade h_mkMade h_pgMade h_hdMade h_poMade h_saMade h_nMade_row h_iaMade h_inMade h_itMade h_imMade h_gMade h_i_type_tuple__Made h_i_type_tuple__Poly h_i_type_str__Poly h_i_type_int__Poly h_gPRIMES h_lPRIMES h_gMAX_INTEGER h_gMAX_ENTRIES h_g_MAX_POWER h_g_MAX_DIGITS h_gLONG h_gLONG_DIVIDED
end
def hlo0 : List Str := [("_wall" : Str), ("CurveError" : Str), ("InvalidPrime" : Str), ("InvalidPoly" : Str), ("InvalidOperation" : Str), ("ParseError" : Str), ("InvalidCount" : Str), ("PRIMES" : Str), ("MAX_INTEGER" : Str), ("is_integer" : Str), ("is_within" : Str), ("is_prime" : Str), ("check_prime" : Str), ("check_count" : Str), ("inverse_of" : Str), ("ONE" : Str), ("LONG" : Str), ("LONG_DIVIDED" : Str), ("trimmed" : Str), ("row_number" : Str)]
def hlo1 : List Str := [("row_at" : Str), ("row_sum" : Str), ("row_negative" : Str), ("row_difference" : Str), ("row_product" : Str), ("short_product" : Str), ("long_product" : Str), ("packed" : Str), ("row_divided" : Str), ("short_divided" : Str), ("long_divided" : Str), ("row_reciprocal" : Str), ("row_value" : Str), ("row_power" : Str), ("MAX_ENTRIES" : Str), ("_MAX_POWER" : Str), ("_MAX_DIGITS" : Str), ("Made" : Str), ("Poly" : Str), ("poly_at" : Str)]
def hlo2 : List Str := [("poly_of" : Str), ("is_row" : Str), ("are_entries" : Str), ("check_one_prime" : Str), ("check_residue" : Str), ("divided" : Str), ("terms_of" : Str), ("term_text" : Str), ("row_told" : Str), ("terms_told" : Str), ("entry_told" : Str), ("power_told" : Str), ("is_number" : Str), ("is_lesser" : Str), ("_law_dice" : Str), ("_law_roll" : Str), ("_law_pick" : Str), ("_law_worth" : Str), ("_law_row_drawn" : Str), ("_law_text" : Str)]
def hlo3 : List Str := [("_law_number" : Str), ("_law_any_row" : Str), ("_law_is_told" : Str), ("_law_right" : Str)]
def hlo : List Str := hlo0 ++ hlo1 ++ hlo2 ++ hlo3
abbrev hRow : PySem.W.OpenRow := PySem.W.OpenLaw.row PySem.Challenge.rw_twinsheets_k03_polynomials_told
set_option maxRecDepth 100000 in
set_option maxHeartbeats 0 in
theorem hrun (w : World) : HandSHeadRun.RunEq hRow (PySem.W.view hRow.prog [69]) (RH.hookK 5 hcs hfn) (RH.obT 5 hcs hfn) 40000 hlo w := by
  intro os
  kernel_rfl
end R

open PySem PySem.W PySem.Calls PyProof.Rows
set_option maxRecDepth 100000 in
set_option maxHeartbeats 0 in
theorem PySem.Challenge.cw_twinsheets_k03_polynomials_told_holds : PySem.Challenge.rw_twinsheets_k03_polynomials_told.Holds := by
  w_on; o_law
  refine HandSHeadRun.head_any (r := OpenLaw.row PySem.Challenge.rw_twinsheets_k03_polynomials_told) (q := view (OpenLaw.row PySem.Challenge.rw_twinsheets_k03_polynomials_told).prog [69]) (H := RH.hookK 5 R.hcs R.hfn) (ob := RH.obT 5 R.hcs R.hfn) (M := 40000) (loose := R.hlo) (d := HandSHeadRun.topDef (OpenLaw.row PySem.Challenge.rw_twinsheets_k03_polynomials_told).prog 69) (kwd := []) RH.obT_eq
    (by kernel_rfl) (fun s => by kernel_rfl) R.hrun (by kernel_rfl) (by kernel_rfl) (by kernel_rfl) (by rfl) (by first | assumption | decide +kernel) (by decide +kernel) ⟨rfl, rfl, rfl, rfl, rfl, by decide +kernel⟩ ?hw ?hc
  case hw => w_witness2
  case hc =>
    refine L2.walk_ofE (l := PySem.Challenge.rw_twinsheets_k03_polynomials_told) (n := 63) (k := 10) (x := "_law_script") (CX := L2.CX0) rfl (by decide) (by kernel_rfl) ⟨rfl, by decide, by decide⟩ ?F (fun _ _ _ _ z => z)
    intro w mg fa h Y G hmg0
    obtain ⟨K, KX, c⟩ := Y
    have hmg : mg ("law" : PySem.Str) = some (.ref fa) := by
      have e : (HandSHeadRun.topDef (OpenLaw.row PySem.Challenge.rw_twinsheets_k03_polynomials_told).prog 69).name = ("law" : PySem.Str) := by kernel_rfl
      rw [← e]
      exact hmg0
    obtain ⟨fd, hb, hF⟩ := R.all_of_facts (l := PySem.Challenge.rw_twinsheets_k03_polynomials_told) (w := w) KX G hmg c
    exact ⟨K, fd, Mir.sp_law K, KX, hb, fun H a ns hl _ hS => ⟨a, ns, rfl, hS, hl, fun _ => rfl⟩, hF⟩
