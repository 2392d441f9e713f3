import PyProof.Rows.All
import Wide.All
import OpenK.AllK
import Wide.FinOn
import HandS.ForMost
import HandS.ForExc
import HandS.Wide
import HandS.IsInst
import HandS.Steps
import HandS.Evl
import PySem.Challenge.RW_twinsheets_k00_words_and_primes
set_option Elab.async false
set_option linter.all false
set_option maxRecDepth 100000
set_option maxHeartbeats 4000000
namespace K00
open PySem PySem.Spec PyProof.Rows L2
def topS (i : Nat) : Stmt := PySem.Challenge.pw_twinsheets_k00_words_and_primes.main.body.getD i (.Pass ⟨0, 0, 0, 0⟩)
abbrev s_is_integer : Stmt := topS 8
abbrev s_is_name : Stmt := topS 12
abbrev s__law_dice : Stmt := topS 15
abbrev s__law_roll : Stmt := topS 16
abbrev s__law_raised : Stmt := topS 18
abbrev s_is_within : Stmt := topS 9
abbrev s_is_prime : Stmt := topS 10
abbrev s__law_pick : Stmt := topS 17
abbrev s_check_prime : Stmt := topS 13
abbrev s__law_integer_drawn : Stmt := topS 19
abbrev s__law_name_drawn : Stmt := topS 20
abbrev s_is_residue : Stmt := topS 11
abbrev s__law_is_refused : Stmt := topS 21
abbrev s__law_right : Stmt := topS 22
abbrev s_law : Stmt := topS 23
/-! ### what is said of values -/
/-- an error of a class is what its own name takes -/
theorem exm_of {K : PySem.W.Frag} {S : Addr} (h1 : PySem.W.subIn K (.ref S) (.type "BaseException") = some true) (h2 : PySem.W.isClsIn K S = true)
    (h3 : PySem.W.typeIn K (.ref S) = some (.type "type")) (h4 : PySem.W.subIn K (.ref S) (.ref S) = some true) : PySem.W.exmOne K (.ref S) (.ref S) = some true := by
  have g2 : (PySem.W.clsIn K S).isSome = true := h2
  have a : (PySem.W.subIn K (.ref S) (.type "BaseException") == some true) = true := by
    rw [h1]
    rfl
  have b : ((PySem.W.clsIn K S).isSome && PySem.W.typeIn K (.ref S) == some (.type "type")) = true := by
    rw [g2, h3]
    rfl
  unfold PySem.W.exmOne
  rw [if_pos a]
  unfold PySem.W.kitCls
  exact (if_pos b).trans h4
def edges : List Int := [10 ^ (60 : Int).toNat - 1, -(10 ^ (60 : Int).toNat - 1), 10 ^ (60 : Int).toNat, -(10 ^ (60 : Int).toNat)]
def primes : List Int := [3, 5, 7, 11, 13, 17, 19, 23, 29, 31]
abbrev top60 : Int := 999999999999999999999999999999999999999999999999999999999999
def isB : V → Bool | .bl _ => true | _ => false
def isI : V → Bool | .int _ => true | _ => false
def isS : V → Bool | .str _ => true | _ => false
/-- what kind of value stands at x -/
structure Kd (K : PySem.W.Frag) (H : Hp) (x : V) : Prop where
  ex : ∃ n : String, TyX K H x (.type n) ∧ kitB n "bool" = some (isB x) ∧ kitB n "int" = some (isB x || isI x) ∧ kitB n "str" = some (isS x)
section
variable {K : PySem.W.Frag} {H : Hp}
theorem Kd.int (i : Int) : Kd K H (.int i) := ⟨"int", .base (.int i), (show kitB "int" "bool" = some false by decide +kernel), (show kitB "int" "int" = some true by decide +kernel), (show kitB "int" "str" = some false by decide +kernel)⟩
theorem Kd.bl (b : Bool) : Kd K H (.bl b) := ⟨"bool", .base (.bl b), (show kitB "bool" "bool" = some true by decide +kernel), (show kitB "bool" "int" = some true by decide +kernel), (show kitB "bool" "str" = some false by decide +kernel)⟩
theorem Kd.non : Kd K H .non := ⟨"NoneType", .base .non, (show kitB "NoneType" "bool" = some false by decide +kernel), (show kitB "NoneType" "int" = some false by decide +kernel), (show kitB "NoneType" "str" = some false by decide +kernel)⟩
theorem Kd.str (s : Str) : Kd K H (.str s) := ⟨"str", .base (.str s), (show kitB "str" "bool" = some false by decide +kernel), (show kitB "str" "int" = some false by decide +kernel), (show kitB "str" "str" = some true by decide +kernel)⟩
theorem Kd.lst {a : Addr} {xs : List V} (h : H a = some (.lst xs)) : Kd K H (.ref a) := ⟨"list", .base (.lst h), (show kitB "list" "bool" = some false by decide +kernel), (show kitB "list" "int" = some false by decide +kernel), (show kitB "list" "str" = some false by decide +kernel)⟩
theorem Kd.tup {a : Addr} {xs : List V} (h : H a = some (.tup xs)) : Kd K H (.ref a) := ⟨"tuple", .base (.tup h), (show kitB "tuple" "bool" = some false by decide +kernel), (show kitB "tuple" "int" = some false by decide +kernel), (show kitB "tuple" "str" = some false by decide +kernel)⟩
theorem Kd.dK {a : Addr} {xs : List (Key × V)} (h : H a = some (.dK xs)) : Kd K H (.ref a) := ⟨"dict", .base (.dK h), (show kitB "dict" "bool" = some false by decide +kernel), (show kitB "dict" "int" = some false by decide +kernel), (show kitB "dict" "str" = some false by decide +kernel)⟩
end
/-- is_integer's answer -/
def intB : V → Bool | .int i => decide (-top60 ≤ i) && decide (i ≤ top60) | _ => false
/-- is_prime's -/
def primeB (x : V) : Bool := intB x && inV x (primes.map V.int)
def withinB (x : V) (lo hi : Int) : Bool := intB x && (match x with | .int i => decide (lo ≤ i) && decide (i ≤ hi) | _ => false)
def letterB (c : Nat) : Bool := decide (97 ≤ c) && decide (c ≤ 122)
def nameB : V → Bool | .str s => (decide (1 ≤ s.length) && decide (s.length ≤ 8)) && s.cps.toList.all letterB | _ => false
/-! ### the dice: a list of three ints at a; all else stays -/
def Dc (a : Addr) (H : Hp) : Prop := ∃ x y z : Int, H a = some (.lst [.int x, .int y, .int z])
structure Mv (a : Addr) (H H' : Hp) : Prop where
  keep : ∀ b o, b ≠ a → H b = some o → H' b = some o
  dice : Dc a H'
theorem Mv.refl {a : Addr} {H : Hp} (h : Dc a H) : Mv a H H := ⟨fun _ _ _ e => e, h⟩
theorem Mv.trans {a : Addr} {H H1 H2 : Hp} (h : Mv a H H1) (k : Mv a H1 H2) : Mv a H H2 := ⟨fun b o n e => k.keep b o n (h.keep b o n e), k.dice⟩
theorem Mv.roll {a : Addr} {H : Hp} (x y z : Int) : Mv a H (upd H a (.lst [.int x, .int y, .int z])) := ⟨fun b o n e => by rw [upd_ne n]; exact e, x, y, z, upd_same⟩
theorem Dc.new {a p : Addr} {H : Hp} {o : HO} (h : Dc a H) (n : H p = none) : Dc a (upd H p o) := by
  obtain ⟨x, y, z, e⟩ := h
  exact ⟨x, y, z, by rw [upd_ne (ne_of_none e n)]; exact e⟩
theorem Mv.new {a p : Addr} {H : Hp} {o : HO} (h : Dc a H) (n : H p = none) : Mv a H (upd H p o) := ⟨fun b u _ e => by rw [upd_ne (ne_of_none e n)]; exact e, h.new n⟩
theorem Mv.same {a : Addr} {H H' : Hp} (h : Dc a H) (s : Same H H') : Mv a H H' := by
  obtain ⟨x, y, z, e⟩ := h
  exact ⟨fun b o _ q => s b o q, x, y, z, s _ _ e⟩
theorem Mv.free {a p : Addr} {H H' : Hp} (m : Mv a H H') (h : Dc a H) (n : H' p = none) : H p = none := by
  cases q : H p with
  | none => rfl
  | some o =>
    by_cases e : p = a
    · obtain ⟨x, y, z, d⟩ := m.dice
      rw [e, d] at n
      cases n
    · rw [m.keep p o e q] at n
      cases n
theorem Mv.seq {K : PySem.W.Frag} {a b : Addr} {H H' : Hp} {xs : List V} (m : Mv a H H') (ne : b ≠ a) (h : SqL K H b xs) : SqL K H' b xs := by
  rcases h with (h | ⟨o, h⟩) | h
  · exact .inl (.inl (m.keep _ _ ne h))
  · exact .inl (.inr ⟨o, m.keep _ _ ne h⟩)
  · exact .inr h
theorem Dc.ne {a b : Addr} {H : Hp} (h : Dc a H) (n : H b = none) : b ≠ a := by
  intro e
  obtain ⟨x, y, z, d⟩ := h
  rw [e, d] at n
  cases n
def drawnN (n : Int) : Prop := ∃ (d : Nat) (r : Int), d ∈ [1, 2, 5, 59, 60, 61, 62] ∧ 0 ≤ r ∧ r < 9 ∧ (n = 10 ^ d - 1 - r ∨ n = -(10 ^ d - 1 - r))
/-! ### a drawn odd value: what it is, wherever the dice move -/
inductive OddAt (a : Addr) (H : Hp) : V → Prop
  | non : OddAt a H .non
  | bl (b : Bool) : OddAt a H (.bl b)
  | s3 : OddAt a H (.str "3")
  | s0 : OddAt a H (.str "")
  | tup {t : Addr} (n : t ≠ a) (h : H t = some (.tup [.int 3])) : OddAt a H (.ref t)
  | lst {t : Addr} (n : t ≠ a) (h : H t = some (.lst [])) : OddAt a H (.ref t)
  | dK {t : Addr} (n : t ≠ a) (h : H t = some (.dK [])) : OddAt a H (.ref t)
theorem OddAt.mv {a : Addr} {H H' : Hp} {v : V} (m : Mv a H H') (o : OddAt a H v) : OddAt a H' v := by
  cases o with
  | non => exact .non
  | bl b => exact .bl b
  | s3 => exact .s3
  | s0 => exact .s0
  | tup n h => exact .tup n (m.keep _ _ n h)
  | lst n h => exact .lst n (m.keep _ _ n h)
  | dK n h => exact .dK n (m.keep _ _ n h)
theorem OddAt.kd {K : PySem.W.Frag} {a : Addr} {H : Hp} {v : V} (o : OddAt a H v) : Kd K H v := by
  cases o with
  | non => exact .non
  | bl b => exact .bl b
  | s3 => exact .str _
  | s0 => exact .str _
  | tup n h => exact .tup h
  | lst n h => exact .lst h
  | dK n h => exact .dK h
theorem OddAt.int {a : Addr} {H : Hp} {v : V} (o : OddAt a H v) : intB v = false := by cases o <;> rfl
theorem OddAt.prime {a : Addr} {H : Hp} {v : V} (o : OddAt a H v) : primeB v = false := by
  unfold primeB
  rw [o.int]
  rfl
theorem OddAt.within {a : Addr} {H : Hp} {v : V} (o : OddAt a H v) (lo hi : Int) : withinB v lo hi = false := by
  unfold withinB
  rw [o.int]
  rfl
theorem OddAt.name {a : Addr} {H : Hp} {v : V} (o : OddAt a H v) : nameB v = false := by
  cases o with
  | s3 => decide +kernel
  | s0 => decide +kernel
  | _ => rfl
theorem OddAt.size {a : Addr} {H : Hp} {v : V} (o : OddAt a H v) : ∀ s, v = .str s → s.length ≤ sizeLine := by
  intro s e
  cases o with
  | s3 =>
    cases e
    exact (by decide +kernel)
  | s0 =>
    cases e
    exact (by decide +kernel)
  | _ => cases e
theorem prime_of {i : Int} (h : i ∈ primes) : 3 ≤ i ∧ i ≤ 31 := by
  unfold primes at h
  simp only [List.mem_cons, List.not_mem_nil, or_false] at h
  omega
theorem int_small {i : Int} (h1 : -1000 ≤ i) (h2 : i ≤ 1000) : intB (.int i) = true := by
  have t : top60 = 999999999999999999999999999999999999999999999999999999999999 := rfl
  show (decide (-top60 ≤ i) && decide (i ≤ top60)) = true
  rw [decide_eq_true (show -top60 ≤ i by omega), decide_eq_true (show i ≤ top60 by omega)]
  rfl
theorem primeB_of {i : Int} (h : i ∈ primes) : primeB (.int i) = true := by
  have b := prime_of h
  unfold primeB
  rw [int_small (by omega) (by omega)]
  unfold inV
  rw [Bool.true_and, List.any_eq_true]
  exact ⟨.int i, List.mem_map.mpr ⟨i, h, rfl⟩, by simp [eqV]⟩
theorem seq_law {K : PySem.W.Frag} {a p : Addr} {H H2 : Hp} {xs : List V} {o : HO} (h : SqL K H a xs) (n : H p = none) (m : Mv p (upd H p o) H2) : SqL K H2 a xs := by
  rcases h with (h | ⟨u, h⟩) | h
  · have ne : a ≠ p := ne_of_none h n
    exact .inl (.inl (m.keep _ _ ne (by rw [upd_ne ne]; exact h)))
  · have ne : a ≠ p := ne_of_none h n
    exact .inl (.inr ⟨u, m.keep _ _ ne (by rw [upd_ne ne]; exact h)⟩)
  · exact .inr h
theorem dp_ints {K : PySem.W.Frag} {H : Hp} : ∀ ns : List Int, DpAll K H (ns.map V.int) (ns.map PyData.int)
  | [] => .nil
  | n :: r => .cons (.int n) (dp_ints r)
theorem dp_bls {K : PySem.W.Frag} {H : Hp} : ∀ ns : List Bool, DpAll K H (ns.map V.bl) (ns.map PyData.bool)
  | [] => .nil
  | n :: r => .cons (.bl n) (dp_bls r)
theorem dp_strs {K : PySem.W.Frag} {H : Hp} : ∀ ns : List Str, DpAll K H (ns.map V.str) (ns.map PyData.str)
  | [] => .nil
  | n :: r => .cons (.str n) (dp_strs r)
theorem shaped_strs {ss : List Str} (h : ∀ s ∈ ss, PyData.strOk s = true) : SeqAt.shaped (.list (ss.map PyData.str)) = true := by
  unfold SeqAt.shaped
  have e1 : PyData.canLay0 (.list (ss.map PyData.str)) = true := by
    show PyData.canLayAll0 (ss.map PyData.str) = true
    rw [PyProof.Rows.canLayAll_strs', List.all_eq_true]
    exact h
  have e2 : PyData.depth (.list (ss.map PyData.str)) = 1 := by
    simp only [PyData.depth, PyProof.Rows.depthAll_strs']
  rw [e1, e2]
  rfl
theorem alpha (c : Nat) : decide (c ∈ ("abcdefghijklmnopqrstuvwxyz" : Str).cps.toList) = letterB c := by
  have e : ("abcdefghijklmnopqrstuvwxyz" : Str).cps.toList = List.range' 97 26 := by decide +kernel
  rw [e]
  unfold letterB
  rw [Bool.eq_iff_iff]
  simp only [decide_eq_true_eq, Bool.and_eq_true, List.mem_range'_1]
  omega
theorem eqv_nil (ss : List Str) : PyData.eqv (.list (ss.map PyData.str)) (.list []) = ss.isEmpty := by cases ss <;> rfl
theorem none_out (l : List Nat) : ((l.filter fun c => !letterB c).map fun c => (⟨#[c]⟩ : Str)).isEmpty = l.all letterB := by
  induction l with
  | nil => rfl
  | cons c r ih =>
    rw [List.all_cons, ← ih, List.filter_cons]
    cases letterB c <;> rfl
theorem draw_abs {n : Int} (h : drawnN n) : ∃ v : Nat, (if n < 0 then -n else n) = (v : Int) ∧ v < 10 ^ 62 ∧ (intB (.int n) = decide (v < 10 ^ 60)) := by
  obtain ⟨d, r, hd, r0, r1, e⟩ := h
  have hb : ∃ m : Int, (n = m ∨ n = -m) ∧ 0 ≤ m ∧ m < 10 ^ 62 := by
    simp only [List.mem_cons, List.not_mem_nil, or_false] at hd
    refine ⟨10 ^ d - 1 - r, e, ?_, ?_⟩ <;> rcases hd with rfl | rfl | rfl | rfl | rfl | rfl | rfl <;> omega
  obtain ⟨m, e, m0, m1⟩ := hb
  refine ⟨m.toNat, ?_, by omega, ?_⟩
  · rcases e with rfl | rfl
    · rw [if_neg (by omega)]
      omega
    · split <;> omega
  · have t : top60 = 999999999999999999999999999999999999999999999999999999999999 := rfl
    show (decide (-top60 ≤ n) && decide (n ≤ top60)) = _
    by_cases c : m.toNat < 10 ^ 60
    · rw [decide_eq_true c, decide_eq_true (show -top60 ≤ n by omega), decide_eq_true (show n ≤ top60 by omega)]
      rfl
    · rw [decide_eq_false c]
      rcases e with rfl | rfl
      · rw [decide_eq_false (show ¬ n ≤ top60 by omega), Bool.and_false]
      · rw [decide_eq_false (show ¬ -top60 ≤ -m by omega), Bool.false_and]
/-! ### the promises -/
def sp_law (K : PySem.W.Frag) : Sp := fun vs H Q _ => ∃ (a : Addr) (ns : List Int), vs = [.ref a] ∧ SqL K H a (ns.map V.int) ∧ ns.length ≤ 63 ∧ ∀ H', Q (.bl true) H'
def sp_integer (K : PySem.W.Frag) : Sp := fun vs H Q _ => ∃ x : V, vs = [x] ∧ Kd K H x ∧ Q (.bl (intB x)) H
def sp_within (K : PySem.W.Frag) : Sp := fun vs H Q _ => ∃ (x : V) (lo hi : Int), vs = [x, .int lo, .int hi] ∧ Kd K H x ∧ Q (.bl (withinB x lo hi)) H
def sp_prime (K : PySem.W.Frag) : Sp := fun vs H Q _ => ∃ x : V, vs = [x] ∧ Kd K H x ∧ Q (.bl (primeB x)) H
def sp_check (K : PySem.W.Frag) (C : Addr) : Sp := fun vs H Q E => ∃ x : V, vs = [x] ∧ Kd K H x ∧ (primeB x = true → Q .non H) ∧ (primeB x = false → E (.ref C) none H)
def sp_residue (K : PySem.W.Frag) (C : Addr) : Sp := fun vs H Q E => ∃ p x : V, vs = [p, x] ∧ Kd K H p ∧ Kd K H x ∧ (∀ i, p = .int i → primeB p = true → Q (.bl (withinB x 0 (i - 1))) H) ∧ (primeB p = false → E (.ref C) none H)
def sp_name (K : PySem.W.Frag) : Sp := fun vs H Q _ => ∃ x : V, vs = [x] ∧ Kd K H x ∧ (∀ s, x = .str s → s.length ≤ sizeLine) ∧ ∀ H', Same H H' → Q (.bl (nameB x)) H'
def sp_dice (K : PySem.W.Frag) : Sp := fun vs H Q _ => ∃ (a : Addr) (ns : List Int) (k : Nat), vs = [.ref a, .int k] ∧ SqL K H a (ns.map V.int) ∧ ∀ p x y z, H p = none → Q (.ref p) (upd H p (.lst [.int x, .int y, .int z]))
def sp_roll : Sp := fun vs H Q _ => ∃ (a : Addr) (t : Int), vs = [.ref a, .int t] ∧ Dc a H ∧ 0 < t ∧ t < 1000000000 ∧ ∀ r H', Mv a H H' → 0 ≤ r → r < t → Q (.int r) H'
def sp_pick (K : PySem.W.Frag) : Sp := fun vs H Q _ => ∃ (a b : Addr) (xs : List V), vs = [.ref a, .ref b] ∧ Dc a H ∧ b ≠ a ∧ SqL K H b xs ∧ 0 < xs.length ∧ xs.length < 1000000000 ∧ ∀ v H', Mv a H H' → v ∈ xs → Q v H'
def sp_raised : Sp := fun vs H Q _ => ∃ (b : Int) (n : Nat), vs = [.int b, .int n] ∧ n ≤ 1000 ∧ (-(2 ^ 64) < b ∧ b < 2 ^ 64) ∧ Q (.int (b ^ n)) H
def sp_idrawn : Sp := fun vs H Q _ => ∃ a : Addr, vs = [.ref a] ∧ Dc a H ∧ ∀ n H', Mv a H H' → drawnN n → Q (.int n) H'
def sp_ndrawn : Sp := fun vs H Q _ => ∃ a : Addr, vs = [.ref a] ∧ Dc a H ∧ ∀ (s : Str) H', Mv a H H' → s.length ≤ 100 → (∀ c ∈ s.cps.toList, c < 128) → Q (.str s) H'
def sp_refused (K : PySem.W.Frag) : Sp := fun vs H Q _ => ∃ p x : V, vs = [p, x] ∧ Kd K H p ∧ Kd K H x ∧ (∀ i, p = .int i → primeB p = true → Q (.bl false) H) ∧ (primeB p = false → Q (.bl true) H)
def sp_right : Sp := fun vs H Q _ => ∃ a : Addr, vs = [.ref a] ∧ Dc a H ∧ ∀ H', Mv a H H' → Q (.bl true) H'
section
variable {X : Cx}
theorem vals_of : ∀ {xs : List V} {us : List Value}, xs.length = us.length → (∀ (j : Nat) (x : V) (u : Value), xs[j]? = some x → us[j]? = some u → RelV x u) → Vals xs us
  | [], [], _, _ => .nil
  | [], _ :: _, h, _ => by cases h
  | _ :: _, [], h, _ => by cases h
  | x :: xs, u :: us, h, k => .cons (k 0 x u rfl rfl) (vals_of (Nat.succ.inj h) fun j y v hy hv => k (j + 1) y v hy hv)
/-- list(text) -/
theorem call_list_s (hc : X.calm = true) : CallR X (.type "list") (fun xs H Q => ∃ z : Str, xs = [.str z] ∧ z.length ≤ sizeLine ∧ ∀ p, H p = none → Q (.ref p) (upd H p (.lst (z.cps.toList.map fun c => V.str ⟨#[c]⟩)))) := by
  intro pins s σ H xs us Q I r h
  obtain ⟨z, rfl, hz, q⟩ := h
  obtain ⟨u, rfl, rx⟩ := vals1 r
  obtain ⟨t, rfl⟩ := rx
  refine call_list_str (I.ok.hd hc) z t (fun h' tk acc' c' kp e it => ?_) hz
  have hv : Vals (z.cps.toList.map fun c => V.str ⟨#[c]⟩) acc'.toList := by
    obtain ⟨hsz, hat⟩ := it
    refine vals_of (by rw [List.length_map, Array.length_toList, Array.length_toList, hsz]) fun j x u hx hu => ?_
    rw [Array.getElem?_toList] at hu
    obtain ⟨c, t', hc', rfl⟩ := hat j u hu
    rw [List.getElem?_map, Array.getElem?_toList, hc'] at hx
    cases hx
    exact ⟨t', rfl⟩
  refine ⟨.ref s.heap.objs.size, _, I.laid (t' := tk) kp (Nat.le_refl _) (show ObjOk X.prog X.w _ h' _ (.lst _) from ⟨?_, acc'.toList, c', hv, ?_⟩), rfl, q _ (I.hok.fresh (Nat.le_refl _))⟩
  · rw [List.length_map]
    exact hz
  · rw [Array.toArray_toList]
    exact e
end
/-- a comprehension without a test -/
theorem yes_go {te : TE} {σ : L2.St} {H : Hp} {k : V → Hp → Prop} {n : Hp → Prop} (h : te σ H k) : tYes σ H (fun b H3 => if b = true then te σ H3 k else n H3) := by
  show (if true = true then te σ H k else n H)
  rw [if_pos rfl]
  exact h
/-- a comprehension over a text's signs -/
theorem lc_str {z : Str} {g : TG} {tt : TT} {te : TE} {vs : List Nat} {σ : L2.St} {H1 : Hp} {D : Addr} {Qd : Hp → Prop} (Pv : Nat → Hp → Prop)
    (h0 : Pv 0 (upd H1 D (.lst [])))
    (hs : ∀ i c H, z.cps[i]? = some c → Pv i H → g (.str ⟨#[c]⟩) (wipe σ vs) H fun σ2 H2 => wipe σ2 vs = wipe σ vs ∧ tt σ2 H2 fun b H3 =>
      if b = true then (te σ2 H3 fun y H4 => ∃ acc, H4 D = some (.lst acc) ∧ acc.length < sizeLine ∧ Pv (i + 1) (upd H4 D (.lst (acc ++ [y])))) else Pv (i + 1) H3)
    (hd : ∀ H, Pv z.cps.size H → Qd H) :
    ∃ W : Nat → Nat → Hp → Prop, (∃ m, W 0 m (upd H1 D (.lst []))) ∧ ∀ i m H, W i m H →
      ((Its z).stop i H ∧ Qd H) ∨ ((Its z).go i H ∧ ∃ Nx : Hp → Prop, (∀ H', Nx H' → ∃ m', m' < m ∧ W (i + 1) m' H') ∧ ∀ x H', (Its z).yld i H x H' → g x (wipe σ vs) H' fun σ2 H2 => wipe σ2 vs = wipe σ vs ∧ tt σ2 H2 fun b H3 =>
        if b = true then (te σ2 H3 fun y H4 => ∃ acc, H4 D = some (.lst acc) ∧ acc.length < sizeLine ∧ Nx (upd H4 D (.lst (acc ++ [y])))) else Nx H3) := by
  refine ⟨fun i m H => m = z.cps.size - i ∧ i ≤ z.cps.size ∧ Pv i H, ⟨z.cps.size, by omega, Nat.zero_le _, h0⟩, fun i m H hw => ?_⟩
  obtain ⟨rfl, hi, p⟩ := hw
  by_cases c : i < z.cps.size
  · refine .inr ⟨c, Pv (i + 1), fun H' q => ⟨z.cps.size - (i + 1), by omega, rfl, by omega, q⟩, fun x H' y => ?_⟩
    obtain ⟨rfl, k, hk, rfl⟩ := y
    exact hs i k _ hk p
  · have e : i = z.cps.size := by omega
    subst e
    exact .inl ⟨Nat.le_refl _, hd _ p⟩
theorem join_cs (cs : List Nat) : Txt.join "" (cs.map fun c => (⟨#[c]⟩ : Str)) = ⟨cs.toArray⟩ := by
  have e : Txt.join "" (cs.map fun c => (⟨#[c]⟩ : Str)) = Str.join "" (cs.map fun c => (⟨#[c]⟩ : Str)) := eq_of_beq (PyProof.Rows.join_plain_closes "" _)
  have z : ("" : Str) = ⟨#[]⟩ := by decide +kernel
  rw [e, z]
  exact PyProof.Rows.join_ones cs
theorem sum_ones : ∀ cs : List Nat, ((cs.map fun c => (⟨#[c]⟩ : Str)).map (·.length)).sum = cs.length
  | [] => rfl
  | c :: r => by
    have ih := sum_ones r
    rw [List.map_cons, List.map_cons, List.sum_cons, ih, List.length_cons]
    show 1 + r.length = r.length + 1
    omega
theorem digits_len {v : Nat} {k : Nat} (hk : 0 < k) : (Str.ofString (toString (v : Int))).length ≤ k ↔ v < 10 ^ k := by
  rw [PyProof.Rows.ofString_length]
  have e : toString (v : Int) = Nat.repr v := rfl
  rw [e, Nat.repr_eq_ofList_toDigits, String.toList_ofList]
  exact Nat.length_toDigits_le_iff (by decide) hk
theorem le97 (c : Nat) : (!decide ((⟨#[c]⟩ : Str).cps.toList < ("a" : Str).cps.toList)) = decide (97 ≤ c) := by
  have e : ("a" : Str).cps.toList = [97] := by decide +kernel
  rw [e]
  show (!decide ([c] < [97])) = decide (97 ≤ c)
  by_cases h : c < 97
  · have : [c] < [97] := List.Lex.rel h
    rw [decide_eq_true this, decide_eq_false (by omega)]
    rfl
  · have : ¬ [c] < [97] := fun q => by
      cases q with
      | rel r => exact h r
      | cons r => cases r
    rw [decide_eq_false this, decide_eq_true (by omega)]
    rfl
theorem le122 (c : Nat) : (!decide (("z" : Str).cps.toList < (⟨#[c]⟩ : Str).cps.toList)) = decide (c ≤ 122) := by
  have e : ("z" : Str).cps.toList = [122] := by decide +kernel
  rw [e]
  show (!decide ([122] < [c])) = decide (c ≤ 122)
  by_cases h : 122 < c
  · have : [122] < [c] := List.Lex.rel h
    rw [decide_eq_true this, decide_eq_false (by omega)]
    rfl
  · have : ¬ [122] < [c] := fun q => by
      cases q with
      | rel r => exact h r
      | cons r => cases r
    rw [decide_eq_false this, decide_eq_true (by omega)]
    rfl
structure Txt (K : PySem.W.Frag) (mg : Str → Option Value) where
  f_is_integer : Addr
  fd_is_integer : FuncData
  F_is_integer : Fun K "is_integer" "is_integer" s_is_integer f_is_integer fd_is_integer
  b_is_integer : Binds K fd_is_integer ["value"] []
  g_is_integer : mg "is_integer" = some (.ref f_is_integer)
  f_is_name : Addr
  fd_is_name : FuncData
  F_is_name : Fun K "is_name" "is_name" s_is_name f_is_name fd_is_name
  b_is_name : Binds K fd_is_name ["value"] []
  g_is_name : mg "is_name" = some (.ref f_is_name)
  f__law_dice : Addr
  fd__law_dice : FuncData
  F__law_dice : Fun K "_law_dice" "_law_dice" s__law_dice f__law_dice fd__law_dice
  b__law_dice : Binds K fd__law_dice ["_law_script", "_law_spot"] []
  g__law_dice : mg "_law_dice" = some (.ref f__law_dice)
  f__law_roll : Addr
  fd__law_roll : FuncData
  F__law_roll : Fun K "_law_roll" "_law_roll" s__law_roll f__law_roll fd__law_roll
  b__law_roll : Binds K fd__law_roll ["_law_dice_here", "_law_total"] []
  g__law_roll : mg "_law_roll" = some (.ref f__law_roll)
  f__law_raised : Addr
  fd__law_raised : FuncData
  F__law_raised : Fun K "_law_raised" "_law_raised" s__law_raised f__law_raised fd__law_raised
  b__law_raised : Binds K fd__law_raised ["_law_base", "_law_times"] []
  g__law_raised : mg "_law_raised" = some (.ref f__law_raised)
  f_is_within : Addr
  fd_is_within : FuncData
  F_is_within : Fun K "is_within" "is_within" s_is_within f_is_within fd_is_within
  b_is_within : Binds K fd_is_within ["value", "low", "high"] []
  g_is_within : mg "is_within" = some (.ref f_is_within)
  f_is_prime : Addr
  fd_is_prime : FuncData
  F_is_prime : Fun K "is_prime" "is_prime" s_is_prime f_is_prime fd_is_prime
  b_is_prime : Binds K fd_is_prime ["value"] []
  g_is_prime : mg "is_prime" = some (.ref f_is_prime)
  f__law_pick : Addr
  fd__law_pick : FuncData
  F__law_pick : Fun K "_law_pick" "_law_pick" s__law_pick f__law_pick fd__law_pick
  b__law_pick : Binds K fd__law_pick ["_law_dice_here", "_law_items"] []
  g__law_pick : mg "_law_pick" = some (.ref f__law_pick)
  f_check_prime : Addr
  fd_check_prime : FuncData
  F_check_prime : Fun K "check_prime" "check_prime" s_check_prime f_check_prime fd_check_prime
  b_check_prime : Binds K fd_check_prime ["prime"] []
  g_check_prime : mg "check_prime" = some (.ref f_check_prime)
  f__law_integer_drawn : Addr
  fd__law_integer_drawn : FuncData
  F__law_integer_drawn : Fun K "_law_integer_drawn" "_law_integer_drawn" s__law_integer_drawn f__law_integer_drawn fd__law_integer_drawn
  b__law_integer_drawn : Binds K fd__law_integer_drawn ["_law_dice_here"] []
  g__law_integer_drawn : mg "_law_integer_drawn" = some (.ref f__law_integer_drawn)
  f__law_name_drawn : Addr
  fd__law_name_drawn : FuncData
  F__law_name_drawn : Fun K "_law_name_drawn" "_law_name_drawn" s__law_name_drawn f__law_name_drawn fd__law_name_drawn
  b__law_name_drawn : Binds K fd__law_name_drawn ["_law_dice_here"] []
  g__law_name_drawn : mg "_law_name_drawn" = some (.ref f__law_name_drawn)
  f_is_residue : Addr
  fd_is_residue : FuncData
  F_is_residue : Fun K "is_residue" "is_residue" s_is_residue f_is_residue fd_is_residue
  b_is_residue : Binds K fd_is_residue ["prime", "value"] []
  g_is_residue : mg "is_residue" = some (.ref f_is_residue)
  f__law_is_refused : Addr
  fd__law_is_refused : FuncData
  F__law_is_refused : Fun K "_law_is_refused" "_law_is_refused" s__law_is_refused f__law_is_refused fd__law_is_refused
  b__law_is_refused : Binds K fd__law_is_refused ["_law_prime", "_law_value"] []
  g__law_is_refused : mg "_law_is_refused" = some (.ref f__law_is_refused)
  f__law_right : Addr
  fd__law_right : FuncData
  F__law_right : Fun K "_law_right" "_law_right" s__law_right f__law_right fd__law_right
  b__law_right : Binds K fd__law_right ["_law_dice_here"] []
  g__law_right : mg "_law_right" = some (.ref f__law_right)
  f_law : Addr
  fd_law : FuncData
  F_law : Fun K "law" "law" s_law f_law fd_law
  b_law : Binds K fd_law ["_law_script"] []
  g_law : mg "law" = some (.ref f_law)
  z_isinstance : mg "isinstance" = none
  z_int : mg "int" = none
  z_bool : mg "bool" = none
  z_all : mg "all" = none
  z_len : mg "len" = none
  z_str : mg "str" = none
  z_abs : mg "abs" = none
  z_max : mg "max" = none
  z_range : mg "range" = none
  z_list : mg "list" = none
  z_min : mg "min" = none
  a_PRIMES : Addr
  g_PRIMES : mg "PRIMES" = some (.ref a_PRIMES)
  q_PRIMES : ∀ H, SqT K H a_PRIMES (primes.map V.int)
  t_MAX_INTEGER : Tok
  g_MAX_INTEGER : mg "MAX_INTEGER" = some (.int 999999999999999999999999999999999999999999999999999999999999 t_MAX_INTEGER)
  t_MAX_LETTERS : Tok
  g_MAX_LETTERS : mg "MAX_LETTERS" = some (.int 8 t_MAX_LETTERS)
  t_MAX_FACTORED : Tok
  g_MAX_FACTORED : mg "MAX_FACTORED" = some (.int 1000000000000 t_MAX_FACTORED)
  c_InvalidPrime : Addr
  g_InvalidPrime : mg "InvalidPrime" = some (.ref c_InvalidPrime)
  x_InvalidPrime : PySem.W.excIn K c_InvalidPrime [.type "ValueError", .type "Exception", .type "BaseException", .type "object"] "ValueError.__new__" = true
  k_InvalidPrime : PySem.W.keepIn K (.ref c_InvalidPrime) = true
  s_InvalidPrime : PySem.W.subIn K (.ref c_InvalidPrime) (.type "BaseException") = some true
  t_InvalidPrime : PySem.W.typeIn K (.ref c_InvalidPrime) = some (.type "type")
  e_InvalidPrime : PySem.W.exmOne K (.ref c_InvalidPrime) (.ref c_InvalidPrime) = some true
abbrev N_is_integer : List Str := ["value"]
theorem sc_is_integer : FnScope N_is_integer ["value"] (defScope s_is_integer) := ⟨rfl, rfl, rfl, by decide +kernel, rfl, by decide +kernel, by decide +kernel⟩
section
variable {P : Program} {w : World} {K : PySem.W.Frag} {mg : Str → Option Value} {base : Heap}
theorem ok_is_integer (T : Txt K mg) : FnOk P w K mg base CX0 1 T.f_is_integer T.fd_is_integer ["value"] (sp_integer K) := by
  refine T.F_is_integer.ok sc_is_integer (fun vs H Q E h => ?_) (fun cdv A outer s H vs Q E hr h => ?_)
  · obtain ⟨x, rfl, kd, q⟩ := h
    rfl
  · obtain ⟨x, rfl, kd, q⟩ := h
    refine ⟨_, (pss_cons (ps_if (PW.pt (pw_or (pt_val (pe_callB call_isi (by rfl) T.z_isinstance (by decide +kernel) (pa_cons (pv 0) (pa_cons (pe_bltn (v := V.ty "bool") (by rfl) T.z_bool (by decide +kernel) rfl) pa_nil)))) (pw_or1 (pt_not (pt_val (pe_callB call_isi (by rfl) T.z_isinstance (by decide +kernel) (pa_cons (pv 0) (pa_cons (pe_bltn (v := V.ty "int") (by rfl) T.z_int (by decide +kernel) rfl) pa_nil)))))))) (pss_one (ps_ret pe_bl)) pss_nil)
      (pss_one (ps_ret (pe_chain op_le op_le (pe_un un_neg (pe_glob (v := V.int top60) (by rfl) T.g_MAX_INTEGER ⟨_, rfl⟩)) (pv 0) (pe_glob (v := V.int top60) (by rfl) T.g_MAX_INTEGER ⟨_, rfl⟩))))), ?_⟩
    obtain ⟨n, ty, h1, h2, _⟩ := kd.ex
    refine ⟨_, rfl, x, _, _, _, _, rfl, .ty _, ty, kit_ty h1, _, rfl, ?_⟩
    cases x with
    | bl b => exact q
    | int i =>
      refine ⟨_, rfl, .int i, _, _, _, _, rfl, .ty _, ty, kit_ty h2, _, rfl, ?_⟩
      refine iteF ?_
      refine ⟨_, rfl, .int i, rfl, _, _, rfl, rfl, _, rfl, ?_⟩
      have e : intB (.int i) = (decide (-top60 ≤ i) && decide (i ≤ top60)) := rfl
      rw [e] at q
      by_cases c : -top60 ≤ i
      · rw [decide_eq_true c] at q ⊢
        refine iteT ?_
        exact ⟨_, _, rfl, rfl, q⟩
      · rw [decide_eq_false c] at q ⊢
        exact q
    | _ =>
      refine ⟨_, rfl, _, _, _, _, _, rfl, .ty _, ty, kit_ty h2, _, rfl, ?_⟩
      exact q
end
abbrev N_is_name : List Str := ["value", "letter"]
theorem sc_is_name : FnScope N_is_name ["value"] (defScope s_is_name) := ⟨rfl, rfl, rfl, by decide +kernel, rfl, by decide +kernel, by decide +kernel⟩
section
variable {P : Program} {w : World} {K : PySem.W.Frag} {mg : Str → Option Value} {base : Heap}
theorem ok_is_name (T : Txt K mg) : FnOk P w K mg base CX0 1 T.f_is_name T.fd_is_name ["value"] (sp_name K) := by
  refine T.F_is_name.ok sc_is_name (fun vs H Q E h => ?_) (fun cdv A outer s H vs Q E hr h => ?_)
  · obtain ⟨x, rfl, kd, hl, q⟩ := h
    rfl
  · obtain ⟨x, rfl, kd, hl, q⟩ := h
    refine ⟨_, (pss_cons (ps_if (PW.pt (pw_or (pt_not (pt_val (pe_callB call_isi (by rfl) T.z_isinstance (by decide +kernel) (pa_cons (pv 0) (pa_cons (pe_bltn (v := V.ty "str") (by rfl) T.z_str (by decide +kernel) rfl) pa_nil))))) (pw_or1 (pt_not (pt_chain op_le op_le pe_int (pe_callB call_len (by rfl) T.z_len (by decide +kernel) (pa_cons (pv 0) pa_nil)) (pe_glob (v := V.int 8) (by rfl) T.g_MAX_LETTERS ⟨_, rfl⟩)))))) (pss_one (ps_ret pe_bl)) pss_nil)
      (pss_one (ps_ret (pe_callB (cr_all rfl) (by rfl) T.z_all (by decide +kernel) (pa_cons (pe_lc (own := [("letter", 1)]) (g := gName 1) (tt := tYes) rfl sc_is_name.nd (pi_str (pv 0)) (blkOk_by (own := [("letter", 1)]) (N := N_is_name) (sc := defScope s_is_name) (by decide +kernel)) (fun _ _ _ _ _ => pg_name (i := 1) sc_is_name.nd rfl (Or.inl rfl)) (fun _ _ _ _ _ => pts_nil) (fun _ _ _ _ _ => (pe_chain op_le_str op_le_str pe_str (pv 1) pe_str))) pa_nil))))), ?_⟩
    obtain ⟨n, ty, _, _, h3⟩ := kd.ex
    refine ⟨_, rfl, x, _, _, _, _, rfl, .ty _, ty, kit_ty h3, _, rfl, ?_⟩
    cases x with
    | str s =>
      have hz := hl s rfl
      refine iteF ?_
      refine ⟨_, rfl, _, _, rfl, ⟨hz, rfl⟩, _, _, rfl, rfl, _, rfl, ?_⟩
      have e : nameB (.str s) = ((decide (1 ≤ s.length) && decide (s.length ≤ 8)) && s.cps.toList.all letterB) := rfl
      by_cases c1 : 1 ≤ s.length
      · rw [decide_eq_true (show (1 : Int) ≤ (s.length : Int) by omega)]
        refine iteT ?_
        refine ⟨_, _, rfl, rfl, _, rfl, ?_⟩
        by_cases c2 : s.length ≤ 8
        · rw [decide_eq_true (show (s.length : Int) ≤ 8 by omega)]
          refine iteF ?_
          refine ⟨_, rfl, s, rfl, fun D hD => lc_str (fun i H' => Same H H' ∧ H' D = some (.lst ((s.cps.toList.take i).map fun c => V.bl (letterB c)))) ⟨?_, upd_same⟩ ?_ ?_⟩
          · exact fun b o e => by rw [upd_ne (ne_of_none e hD)]; exact e
          · intro i c H' hc ⟨sm, hd⟩
            have hi : i < s.cps.size := (Array.getElem?_eq_some_iff.mp hc).1
            refine ⟨rfl, ?_⟩
            refine yes_go ?_
            refine ⟨_, rfl, _, _, rfl, rfl, _, rfl, ?_⟩
            rw [le97]
            have fin : ∀ (H2 : Hp) (b : Bool), H2 = H' → b = letterB c → ∃ acc, H2 D = some (.lst acc) ∧ acc.length < sizeLine ∧ (Same H (upd H2 D (.lst (acc ++ [.bl b]))) ∧ (upd H2 D (.lst (acc ++ [.bl b]))) D = some (.lst ((s.cps.toList.take (i + 1)).map fun c => V.bl (letterB c)))) := by
              rintro H2 b rfl rfl
              refine ⟨_, hd, ?_, fun a o e => ?_, ?_⟩
              · rw [List.length_map, List.length_take]
                exact Nat.lt_of_le_of_lt (Nat.min_le_left _ _) (Nat.lt_of_lt_of_le hi hz)
              · rw [upd_ne (ne_of_none e hD)]
                exact sm a o e
              · rw [upd_same, List.take_add_one, List.map_append]
                have g : s.cps.toList[i]? = some c := by rw [Array.getElem?_toList]; exact hc
                rw [g]
                rfl
            have el : letterB c = (decide (97 ≤ c) && decide (c ≤ 122)) := rfl
            by_cases d1 : 97 ≤ c
            · rw [decide_eq_true d1] at el ⊢
              refine iteT ?_
              refine ⟨_, _, rfl, rfl, ?_⟩
              rw [le122]
              exact fin _ _ rfl el.symm
            · rw [decide_eq_false d1] at el ⊢
              exact fin _ _ rfl el.symm
          · intro H' ⟨sm, hd⟩
            rw [← Array.length_toList, List.take_length] at hd
            refine ⟨D, s.cps.toList.map letterB, rfl, SqL.of (by rw [List.map_map]; exact hd), ?_⟩
            have q' := q H' sm
            rw [e, decide_eq_true c1, decide_eq_true c2] at q'
            have ea : (s.cps.toList.map letterB).all id = s.cps.toList.all letterB := by rw [List.all_map]; rfl
            rw [ea]
            exact q'
        · rw [decide_eq_false (show ¬ (s.length : Int) ≤ 8 by omega)]
          have q' := q H (Same.refl _)
          rw [e, decide_eq_true c1, decide_eq_false c2] at q'
          exact q'
      · rw [decide_eq_false (show ¬ (1 : Int) ≤ (s.length : Int) by omega)]
        have q' := q H (Same.refl _)
        rw [e, decide_eq_false c1] at q'
        exact ⟨_, rfl, q'⟩
    | _ => exact q H (Same.refl _)
end
abbrev N__law_dice : List Str := ["_law_script", "_law_spot", "_law_cell", "_law_left"]
theorem sc__law_dice : FnScope N__law_dice ["_law_script", "_law_spot"] (defScope s__law_dice) := ⟨rfl, rfl, rfl, by decide +kernel, rfl, by decide +kernel, by decide +kernel⟩
section
variable {P : Program} {w : World} {K : PySem.W.Frag} {mg : Str → Option Value} {base : Heap}
theorem ok__law_dice (T : Txt K mg) : FnOk P w K mg base CX0 1 T.f__law_dice T.fd__law_dice ["_law_script", "_law_spot"] (sp_dice K) := by
  refine T.F__law_dice.ok sc__law_dice (fun vs H Q E h => ?_) (fun cdv A outer s H vs Q E hr h => ?_)
  · obtain ⟨a, ns, k, rfl, hS, q⟩ := h
    rfl
  · obtain ⟨a, ns, k, rfl, hS, q⟩ := h
    refine ⟨_, (pss_cons (ps_set (i := 2) sc__law_dice.nd rfl (Or.inl rfl) (pe_ifExp (pt_cmpR op_lt (pv 1) (pe_callB call_len (by rfl) T.z_len (by decide +kernel) (pa_cons (pv 0) pa_nil)) (nomark _)) (pe_callTy call_int1 (by rfl) T.z_int (by decide +kernel) (pa_cons (pe_ix ix_list (pv 0) (pv 1) (fun _ _ => rfl)) pa_nil)) (pe_op op_add (pe_op op_mul pe_int (pv 1)) pe_int)))
      (pss_cons (ps_set (i := 3) sc__law_dice.nd rfl (Or.inl rfl) (pe_op op_mod (pe_callB (call_max2 rfl) (by rfl) T.z_max (by decide +kernel) (pa_cons pe_int (pa_cons (pe_op op_sub (pe_callB call_abs (by rfl) T.z_abs (by decide +kernel) (pa_cons (pv 2) pa_nil)) (pe_op op_pow pe_int pe_int)) pa_nil))) (pe_op op_mulW (pe_op op_pow pe_int pe_int) (pe_op op_pow pe_int pe_int))))
      (pss_one (ps_ret (pe_lst (pa_cons (pv 3) (pa_cons (pe_op op_add (pe_op op_add (pe_op op_add (pe_op op_mul (pe_op op_mod (pe_callB call_abs (by rfl) T.z_abs (by decide +kernel) (pa_cons (pv 2) pa_nil)) pe_int) pe_int) (pe_op op_mul pe_int (pv 1))) (pe_op op_mul pe_int (pe_callTy call_int1 (by rfl) T.z_int (by decide +kernel) (pa_cons (pe_cmpR op_lt (pv 2) pe_int (nomark _)) pa_nil)))) pe_int) (pa_cons pe_int pa_nil)))))))), ?_⟩
    refine ⟨_, rfl, _, rfl, _, _, rfl, .inl ⟨_, hS, rfl⟩, _, _, rfl, rfl, _, rfl, ?_⟩
    rw [List.length_map]
    refine ite2 (fun c => ?_) (fun c => ?_)
    · have hk : k < ns.length := by have := of_decide_eq_true c; omega
      refine ⟨_, rfl, _, rfl, a, _, _, .int ns[k], rfl, rfl, hS, atI_nat (by rw [List.getElem?_map, List.getElem?_eq_getElem hk]; rfl), .inl ⟨_, rfl, ?_⟩⟩
      refine ⟨_, rfl, _, rfl, _, _, rfl, rfl, ⟨by decide, by decide, by decide⟩, _, _, rfl, rfl, _, _, rfl, _, _, rfl, rfl, ⟨by decide, by decide, by decide⟩, _, _, rfl, rfl, ⟨by decide, by decide, by decide⟩, _, _, rfl, rfl, (show (Int.natAbs _).log2 + (Int.natAbs _).log2 < 1000000 by decide +kernel), _, _, rfl, rfl, (show (0 : Int) < _ by decide +kernel), ?_⟩
      refine ⟨_, rfl, _, rfl, _, rfl, _, _, rfl, rfl, (show (0 : Int) < _ by decide), _, _, rfl, rfl, .inr ⟨by decide, by decide⟩, _, rfl, _, _, rfl, rfl, .inl ⟨by decide, by decide⟩, _, _, rfl, rfl, _, rfl, _, _, rfl, rfl, .inr ⟨_, rfl, _, _, rfl, rfl, .inl ⟨by decide, by decide⟩, _, _, rfl, rfl, _, _, rfl, rfl, (by show 3 ≤ sizeLine; decide), fun p hp => q p _ _ _ hp⟩⟩
    · refine ⟨_, rfl, _, _, rfl, rfl, .inl ⟨by decide, by decide⟩, _, _, rfl, rfl, ?_⟩
      refine ⟨_, rfl, _, rfl, _, _, rfl, rfl, ⟨by decide, by decide, by decide⟩, _, _, rfl, rfl, _, _, rfl, _, _, rfl, rfl, ⟨by decide, by decide, by decide⟩, _, _, rfl, rfl, ⟨by decide, by decide, by decide⟩, _, _, rfl, rfl, (show (Int.natAbs _).log2 + (Int.natAbs _).log2 < 1000000 by decide +kernel), _, _, rfl, rfl, (show (0 : Int) < _ by decide +kernel), ?_⟩
      refine ⟨_, rfl, _, rfl, _, rfl, _, _, rfl, rfl, (show (0 : Int) < _ by decide), _, _, rfl, rfl, .inr ⟨by decide, by decide⟩, _, rfl, _, _, rfl, rfl, .inl ⟨by decide, by decide⟩, _, _, rfl, rfl, _, rfl, _, _, rfl, rfl, .inr ⟨_, rfl, _, _, rfl, rfl, .inl ⟨by decide, by decide⟩, _, _, rfl, rfl, _, _, rfl, rfl, (by show 3 ≤ sizeLine; decide), fun p hp => q p _ _ _ hp⟩⟩
end
abbrev N__law_roll : List Str := ["_law_dice_here", "_law_total", "_law_found", "_law_one", "_law_two"]
theorem sc__law_roll : FnScope N__law_roll ["_law_dice_here", "_law_total"] (defScope s__law_roll) := ⟨rfl, rfl, rfl, by decide +kernel, rfl, by decide +kernel, by decide +kernel⟩
section
variable {P : Program} {w : World} {K : PySem.W.Frag} {mg : Str → Option Value} {base : Heap}
theorem ok__law_roll (T : Txt K mg) : FnOk P w K mg base CX0 1 T.f__law_roll T.fd__law_roll ["_law_dice_here", "_law_total"] (sp_roll) := by
  refine T.F__law_roll.ok sc__law_roll (fun vs H Q E h => ?_) (fun cdv A outer s H vs Q E hr h => ?_)
  · obtain ⟨a, t, rfl, ⟨x, y, z, hd⟩, h0, h1, q⟩ := h
    rfl
  · obtain ⟨a, t, rfl, ⟨x, y, z, hd⟩, h0, h1, q⟩ := h
    refine ⟨_, (pss_cons (ps_if (pt_cmpR op_gt (pe_ix ix_list (pv 0) pe_int (fun _ _ => rfl)) pe_int (nomark _)) (pss_cons (ps_set (i := 2) sc__law_roll.nd rfl (Or.inl rfl) (pe_op op_mod (pe_callTy call_int1 (by rfl) T.z_int (by decide +kernel) (pa_cons (pe_ix ix_list (pv 0) pe_int (fun _ _ => rfl)) pa_nil)) (pv 1)))
      (pss_cons (ps_asg (pe_op op_fdivN (pe_ix ix_list (pv 0) pe_int (fun _ _ => rfl)) (pv 1)) (pg_sub (pv 0) pe_int set_list))
      (pss_one (ps_ret (pv 2))))) pss_nil)
      (pss_cons (ps_asg (pe_op op_add (pe_ix ix_list (pv 0) pe_int (fun _ _ => rfl)) pe_int) (pg_sub (pv 0) pe_int set_list))
      (pss_cons (ps_set (i := 3) sc__law_roll.nd rfl (Or.inl rfl) (pe_op op_mod (pe_callTy call_int1 (by rfl) T.z_int (by decide +kernel) (pa_cons (pe_op op_add (pe_ix ix_list (pv 0) pe_int (fun _ _ => rfl)) (pe_op op_mul pe_int (pe_ix ix_list (pv 0) pe_int (fun _ _ => rfl)))) pa_nil)) pe_int))
      (pss_cons (ps_set (i := 4) sc__law_roll.nd rfl (Or.inl rfl) (pe_op op_add (pe_op op_mul (pe_op op_mod (pe_callTy call_int1 (by rfl) T.z_int (by decide +kernel) (pa_cons (pe_op op_add (pe_op op_mul (pv 3) (pv 3)) (pe_op op_mul pe_int (pe_ix ix_list (pv 0) pe_int (fun _ _ => rfl)))) pa_nil)) pe_int) pe_int) (pv 3)))
      (pss_one (ps_ret (pe_op op_mod (pe_callTy call_int1 (by rfl) T.z_int (by decide +kernel) (pa_cons (pe_op op_fdivN (pv 4) pe_int) pa_nil)) (pv 1)))))))), ?_⟩
    refine ⟨_, rfl, _, _, _, _, rfl, rfl, SqL.of hd, rfl, _, _, rfl, rfl, _, rfl, ?_⟩
    refine ite2 (fun c => ?_) (fun c => ?_)
    · refine ⟨_, rfl, _, _, _, _, rfl, rfl, SqL.of hd, rfl, .inl ⟨_, rfl, _, rfl, _, _, rfl, rfl, h0, ?_⟩⟩
      refine ⟨_, rfl, _, _, _, _, rfl, rfl, SqL.of hd, rfl, _, rfl, _, _, rfl, rfl, ⟨by omega, by omega⟩, _, rfl, _, _, _, _, rfl, rfl, hd, rfl, ?_⟩
      exact ⟨_, rfl, q _ _ (Mv.roll _ _ _) (Int.emod_nonneg _ (by omega)) (Int.emod_lt_of_pos _ h0)⟩
    · refine ⟨_, rfl, _, _, _, _, rfl, rfl, SqL.of hd, rfl, _, _, rfl, rfl, _, rfl, _, _, _, _, rfl, rfl, hd, rfl, ?_⟩
      refine ⟨_, rfl, _, _, _, _, rfl, rfl, SqL.of upd_same, rfl, _, rfl, _, _, _, _, rfl, rfl, SqL.of upd_same, rfl, _, _, rfl, rfl, .inl ⟨by decide, by decide⟩, _, _, rfl, rfl, .inl ⟨_, rfl, _, _, rfl, rfl, (show (0 : Int) < _ by decide), ?_⟩⟩
      refine ⟨_, rfl, _, rfl, _, _, rfl, rfl, .inl ⟨by omega, by omega⟩, _, rfl, _, _, _, _, rfl, rfl, SqL.of upd_same, rfl, _, _, rfl, rfl, .inl ⟨by decide, by decide⟩, _, _, rfl, rfl, .inl ⟨_, rfl, _, _, rfl, rfl, (show (0 : Int) < _ by decide), _, _, rfl, rfl, .inr ⟨by decide, by decide⟩, _, rfl, _, _, rfl, rfl, ?_⟩⟩
      exact ⟨_, rfl, _, _, rfl, rfl, ⟨by decide, by decide⟩, .inl ⟨_, rfl, _, rfl, _, _, rfl, rfl, h0, q _ _ (Mv.roll _ _ _) (Int.emod_nonneg _ (by omega)) (Int.emod_lt_of_pos _ h0)⟩⟩
end
abbrev N__law_raised : List Str := ["_law_base", "_law_times", "_law_found", "_law_turn"]
theorem sc__law_raised : FnScope N__law_raised ["_law_base", "_law_times"] (defScope s__law_raised) := ⟨rfl, rfl, rfl, by decide +kernel, rfl, by decide +kernel, by decide +kernel⟩
section
variable {P : Program} {w : World} {K : PySem.W.Frag} {mg : Str → Option Value} {base : Heap}
theorem ok__law_raised (T : Txt K mg) : FnOk P w K mg base CX0 1 T.f__law_raised T.fd__law_raised ["_law_base", "_law_times"] (sp_raised) := by
  refine T.F__law_raised.ok sc__law_raised (fun vs H Q E h => ?_) (fun cdv A outer s H vs Q E hr h => ?_)
  · obtain ⟨b, n, rfl, hn, hb, q⟩ := h
    rfl
  · obtain ⟨b, n, rfl, hn, hb, q⟩ := h
    refine ⟨_, (pss_cons (ps_set (i := 2) sc__law_raised.nd rfl (Or.inl rfl) pe_int)
      (pss_cons (ps_for PassesOwn.never rfl (pi_range1 (by rfl) T.z_range (pa_cons (pv 1) pa_nil)) (pg_name (i := 3) sc__law_raised.nd rfl (Or.inl rfl)) (pss_one (ps_set (i := 2) sc__law_raised.nd rfl (Or.inl rfl) (pe_op op_mul (pv 2) (pv 0)))))
      (pss_one (ps_ret (pv 2))))), ?_⟩
    refine ⟨_, rfl, _, rfl, by omega, by omega, ?_⟩
    refine for_range (lo := 0) (n := ((n : Int)).toNat) (fun i σ H' => ∃ v, σ = [some (.int b), some (.int n), some (.int (b ^ i)), v] ∧ H' = H) ⟨none, by rw [Int.pow_zero]; rfl, rfl⟩ ?_ ?_
    · rintro i σ H' hi ⟨v, rfl, rfl⟩
      refine ⟨_, rfl, _, rfl, _, _, rfl, rfl, .inr hb, ?_⟩
      exact ⟨_, by rw [Int.pow_succ]; rfl, rfl⟩
    · rintro σ H' ⟨v, rfl, rfl⟩
      rw [Int.toNat_natCast]
      exact ⟨_, rfl, q⟩
end
abbrev N_is_within : List Str := ["value", "low", "high"]
theorem sc_is_within : FnScope N_is_within ["value", "low", "high"] (defScope s_is_within) := ⟨rfl, rfl, rfl, by decide +kernel, rfl, by decide +kernel, by decide +kernel⟩
section
variable {P : Program} {w : World} {K : PySem.W.Frag} {mg : Str → Option Value} {base : Heap}
theorem ok_is_within (T : Txt K mg) : FnOk P w K mg base CX0 2 T.f_is_within T.fd_is_within ["value", "low", "high"] (sp_within K) := by
  refine T.F_is_within.ok sc_is_within (fun vs H Q E h => ?_) (fun cdv A outer s H vs Q E hr h => ?_)
  · obtain ⟨x, lo, hi, rfl, kd, q⟩ := h
    rfl
  · obtain ⟨x, lo, hi, rfl, kd, q⟩ := h
    refine ⟨_, (pss_one (ps_ret (pe_and (pe_call (ok_is_integer T) (hr.mono (by decide)) (by rfl) T.g_is_integer T.F_is_integer.kp T.b_is_integer .nil pass0 (pa_cons (pv 0) pa_nil)) (pe_one (pe_chain op_le op_le (pv 1) (pv 0) (pv 2)))))), ?_⟩
    refine ⟨_, rfl, x, rfl, kd, _, rfl, ?_⟩
    cases x with
    | int i =>
      have e : withinB (.int i) lo hi = (intB (.int i) && (decide (lo ≤ i) && decide (i ≤ hi))) := rfl
      rw [e] at q
      by_cases c : intB (.int i) = true
      · rw [c] at q ⊢
        refine iteT ?_
        refine ⟨_, rfl, _, rfl, _, _, rfl, rfl, _, rfl, ?_⟩
        by_cases c2 : lo ≤ i
        · rw [decide_eq_true c2] at q ⊢
          refine iteT ?_
          exact ⟨_, rfl, _, _, rfl, rfl, q⟩
        · rw [decide_eq_false c2] at q ⊢
          exact q
      · rw [Bool.not_eq_true] at c
        rw [c] at q ⊢
        exact q
    | _ => exact q
end
abbrev N_is_prime : List Str := ["value"]
theorem sc_is_prime : FnScope N_is_prime ["value"] (defScope s_is_prime) := ⟨rfl, rfl, rfl, by decide +kernel, rfl, by decide +kernel, by decide +kernel⟩
section
variable {P : Program} {w : World} {K : PySem.W.Frag} {mg : Str → Option Value} {base : Heap}
theorem ok_is_prime (T : Txt K mg) : FnOk P w K mg base CX0 2 T.f_is_prime T.fd_is_prime ["value"] (sp_prime K) := by
  refine T.F_is_prime.ok sc_is_prime (fun vs H Q E h => ?_) (fun cdv A outer s H vs Q E hr h => ?_)
  · obtain ⟨x, rfl, kd, q⟩ := h
    rfl
  · obtain ⟨x, rfl, kd, q⟩ := h
    refine ⟨_, (pss_one (ps_ret (pe_and (pe_call (ok_is_integer T) (hr.mono (by decide)) (by rfl) T.g_is_integer T.F_is_integer.kp T.b_is_integer .nil pass0 (pa_cons (pv 0) pa_nil)) (pe_one (pe_cmpR op_in_seq (pv 0) (pe_glob (v := V.ref T.a_PRIMES) (by rfl) T.g_PRIMES rfl) (by rfl)))))), ?_⟩
    refine ⟨_, rfl, x, rfl, kd, _, rfl, ?_⟩
    have e : primeB x = (intB x && inV x (primes.map V.int)) := rfl
    rw [e] at q
    by_cases c : intB x = true
    · rw [c] at q ⊢
      refine iteT ?_
      refine ⟨_, rfl, _, _, rfl, .inr (T.q_PRIMES _), ?_, by decide, q⟩
      cases x <;> first | rfl | cases c
    · rw [Bool.not_eq_true] at c
      rw [c] at q ⊢
      exact q
end
abbrev N__law_pick : List Str := ["_law_dice_here", "_law_items"]
theorem sc__law_pick : FnScope N__law_pick ["_law_dice_here", "_law_items"] (defScope s__law_pick) := ⟨rfl, rfl, rfl, by decide +kernel, rfl, by decide +kernel, by decide +kernel⟩
section
variable {P : Program} {w : World} {K : PySem.W.Frag} {mg : Str → Option Value} {base : Heap}
theorem ok__law_pick (T : Txt K mg) : FnOk P w K mg base CX0 2 T.f__law_pick T.fd__law_pick ["_law_dice_here", "_law_items"] (sp_pick K) := by
  refine T.F__law_pick.ok sc__law_pick (fun vs H Q E h => ?_) (fun cdv A outer s H vs Q E hr h => ?_)
  · obtain ⟨a, b, xs, rfl, hd, ne, hS, h0, h1, q⟩ := h
    rfl
  · obtain ⟨a, b, xs, rfl, hd, ne, hS, h0, h1, q⟩ := h
    refine ⟨_, (pss_one (ps_ret (pe_ix ix_list (pv 1) (pe_call (ok__law_roll T) (hr.mono (by decide)) (by rfl) T.g__law_roll T.F__law_roll.kp T.b__law_roll .nil pass0 (pa_cons (pv 0) (pa_cons (pe_callB call_len (by rfl) T.z_len (by decide +kernel) (pa_cons (pv 1) pa_nil)) pa_nil))) (fun _ _ => rfl)))), ?_⟩
    refine ⟨_, rfl, _, rfl, _, rfl, _, _, rfl, .inl ⟨_, hS, rfl⟩, a, _, rfl, hd, by omega, by omega, fun r H' m r0 r1 => ?_⟩
    have hi : r.toNat < xs.length := by omega
    have hr' : atI xs r = some xs[r.toNat] := by
      have e : (r.toNat : Int) = r := by omega
      have g := atI_nat (List.getElem?_eq_getElem hi)
      rw [e] at g
      exact g
    exact ⟨b, xs, r, _, rfl, rfl, m.seq ne hS, hr', q _ _ m (List.getElem_mem hi)⟩
end
abbrev N_check_prime : List Str := ["prime"]
theorem sc_check_prime : FnScope N_check_prime ["prime"] (defScope s_check_prime) := ⟨rfl, rfl, rfl, by decide +kernel, rfl, by decide +kernel, by decide +kernel⟩
section
variable {P : Program} {w : World} {K : PySem.W.Frag} {mg : Str → Option Value} {base : Heap}
theorem ok_check_prime (T : Txt K mg) : FnOk P w K mg base (L2.CX P w) 3 T.f_check_prime T.fd_check_prime ["prime"] (sp_check K T.c_InvalidPrime) := by
  refine T.F_check_prime.okX sc_check_prime (fun vs H Q E h => ?_) (fun cdv A outer s H vs Q E hr h => ?_)
  · obtain ⟨x, rfl, kd, q, k⟩ := h
    rfl
  · obtain ⟨x, rfl, kd, q, k⟩ := h
    refine ⟨_, (pss_one (ps_if (pt_not (pt_val (pe_call (ok_is_prime T) (hr.mono (by decide)) (by rfl) T.g_is_prime T.F_is_prime.kp T.b_is_prime .nil pass0 (pa_cons (pv 0) pa_nil)))) (pss_one (ps_raise rfl (takes_of rfl rfl rfl rfl) (pmk_own PySem.F.excBase_ValueError T.x_InvalidPrime T.g_InvalidPrime T.k_InvalidPrime (raises_own T.s_InvalidPrime T.t_InvalidPrime) (by rfl)))) pss_nil)), ?_⟩
    refine ⟨_, rfl, x, rfl, kd, _, rfl, ?_⟩
    by_cases c : primeB x = true
    · have q' := q c
      rw [c]
      exact q'
    · rw [Bool.not_eq_true] at c
      have k' := k c
      rw [c]
      exact k'
end
abbrev N__law_integer_drawn : List Str := ["_law_dice_here", "_law_digits", "_law_number"]
theorem sc__law_integer_drawn : FnScope N__law_integer_drawn ["_law_dice_here"] (defScope s__law_integer_drawn) := ⟨rfl, rfl, rfl, by decide +kernel, rfl, by decide +kernel, by decide +kernel⟩
section
variable {P : Program} {w : World} {K : PySem.W.Frag} {mg : Str → Option Value} {base : Heap}
theorem ok__law_integer_drawn (T : Txt K mg) : FnOk P w K mg base CX0 3 T.f__law_integer_drawn T.fd__law_integer_drawn ["_law_dice_here"] (sp_idrawn) := by
  refine T.F__law_integer_drawn.ok sc__law_integer_drawn (fun vs H Q E h => ?_) (fun cdv A outer s H vs Q E hr h => ?_)
  · obtain ⟨a, rfl, hd, q⟩ := h
    rfl
  · obtain ⟨a, rfl, hd, q⟩ := h
    refine ⟨_, (pss_cons (ps_set (i := 1) sc__law_integer_drawn.nd rfl (Or.inl rfl) (pe_call (ok__law_pick T) (hr.mono (by decide)) (by rfl) T.g__law_pick T.F__law_pick.kp T.b__law_pick .nil pass0 (pa_cons (pv 0) (pa_cons (pe_lst (pa_cons pe_int (pa_cons pe_int (pa_cons pe_int (pa_cons pe_int (pa_cons pe_int (pa_cons pe_int (pa_cons pe_int pa_nil)))))))) pa_nil))))
      (pss_cons (ps_set (i := 2) sc__law_integer_drawn.nd rfl (Or.inl rfl) (pe_op op_sub (pe_op op_sub (pe_call (ok__law_raised T) (hr.mono (by decide)) (by rfl) T.g__law_raised T.F__law_raised.kp T.b__law_raised .nil pass0 (pa_cons pe_int (pa_cons (pv 1) pa_nil))) pe_int) (pe_call (ok__law_roll T) (hr.mono (by decide)) (by rfl) T.g__law_roll T.F__law_roll.kp T.b__law_roll .nil pass0 (pa_cons (pv 0) (pa_cons pe_int pa_nil)))))
      (pss_one (ps_ret (pe_ifExp (pt_cmpR op_eq (pe_call (ok__law_roll T) (hr.mono (by decide)) (by rfl) T.g__law_roll T.F__law_roll.kp T.b__law_roll .nil pass0 (pa_cons (pv 0) (pa_cons pe_int pa_nil))) pe_int (nomark _)) (pv 2) (pe_un un_neg (pv 2))))))), ?_⟩
    refine ⟨_, rfl, (by show 7 ≤ sizeLine; decide), fun p hp => ⟨a, p, _, rfl, hd.new hp, hd.ne hp, SqL.of upd_same, by decide, by decide, fun v H1 m1 hv => ?_⟩⟩
    obtain ⟨d, hdm, rfl⟩ : ∃ d : Nat, d ∈ [1, 2, 5, 59, 60, 61, 62] ∧ v = .int d := by
      simp only [List.mem_cons, List.not_mem_nil, or_false] at hv
      rcases hv with rfl | rfl | rfl | rfl | rfl | rfl | rfl
      · exact ⟨1, by decide, rfl⟩
      · exact ⟨2, by decide, rfl⟩
      · exact ⟨5, by decide, rfl⟩
      · exact ⟨59, by decide, rfl⟩
      · exact ⟨60, by decide, rfl⟩
      · exact ⟨61, by decide, rfl⟩
      · exact ⟨62, by decide, rfl⟩
    have hd62 : d ≤ 1000 := by
      simp only [List.mem_cons, List.not_mem_nil, or_false] at hdm
      omega
    have m1' : Mv a H H1 := (Mv.new hd hp).trans m1
    refine ⟨_, rfl, 10, d, rfl, hd62, ⟨by decide, by decide⟩, _, _, rfl, rfl, _, rfl, a, 9, rfl, m1.dice, by decide, by decide, fun r H2 m2 r0 r1 => ⟨_, _, rfl, rfl, ?_⟩⟩
    refine ⟨_, rfl, a, 2, rfl, m2.dice, by decide, by decide, fun r3 H3 m3 _ _ => ⟨rfl, _, rfl, ?_⟩⟩
    refine ite2 (fun _ => ?_) (fun _ => ?_)
    · exact ⟨_, rfl, q _ _ ((m1'.trans m2).trans m3) ⟨d, r, hdm, r0, r1, .inl rfl⟩⟩
    · exact ⟨_, rfl, _, rfl, q _ _ ((m1'.trans m2).trans m3) ⟨d, r, hdm, r0, r1, .inr rfl⟩⟩
end
abbrev N__law_name_drawn : List Str := ["_law_dice_here", "_law_signs", "_law_found", "_law_turn"]
theorem sc__law_name_drawn : FnScope N__law_name_drawn ["_law_dice_here"] (defScope s__law_name_drawn) := ⟨rfl, rfl, rfl, by decide +kernel, rfl, by decide +kernel, by decide +kernel⟩
section
variable {P : Program} {w : World} {K : PySem.W.Frag} {mg : Str → Option Value} {base : Heap}
theorem ok__law_name_drawn (T : Txt K mg) : FnOk P w K mg base CX0 3 T.f__law_name_drawn T.fd__law_name_drawn ["_law_dice_here"] (sp_ndrawn) := by
  refine T.F__law_name_drawn.ok sc__law_name_drawn (fun vs H Q E h => ?_) (fun cdv A outer s H vs Q E hr h => ?_)
  · obtain ⟨a, rfl, hd, q⟩ := h
    rfl
  · obtain ⟨a, rfl, hd, q⟩ := h
    refine ⟨_, (pss_cons (ps_set (i := 1) sc__law_name_drawn.nd rfl (Or.inr rfl) pe_str)
      (pss_cons (ps_set (i := 2) sc__law_name_drawn.nd rfl (Or.inl rfl) (pe_join pe_str (pe_lc (own := [("_law_turn", 3)]) (g := gName 3) (tt := tYes) rfl sc__law_name_drawn.nd (pi_range1 (by rfl) T.z_range (pa_cons (pe_call (ok__law_roll T) (hr.mono (by decide)) (by rfl) T.g__law_roll T.F__law_roll.kp T.b__law_roll .nil pass0 (pa_cons (pv 0) (pa_cons pe_int pa_nil))) pa_nil)) (blkOk_by (own := [("_law_turn", 3)]) (N := N__law_name_drawn) (sc := defScope s__law_name_drawn) (by decide +kernel)) (fun _ _ _ _ _ => pg_name (i := 3) sc__law_name_drawn.nd rfl (Or.inl rfl)) (fun _ _ _ _ _ => pts_nil) (fun _ _ _ _ _ => (pe_call (ok__law_pick T) (hr.mono (by decide)) (by rfl) T.g__law_pick T.F__law_pick.kp T.b__law_pick .nil pass0 (pa_cons (pv 0) (pa_cons (pe_callTy (call_list_s rfl) (by rfl) T.z_list (by decide +kernel) (pa_cons (pv 1) pa_nil)) pa_nil)))))))
      (pss_cons (ps_if (pt_cmpR op_eq (pe_call (ok__law_roll T) (hr.mono (by decide)) (by rfl) T.g__law_roll T.F__law_roll.kp T.b__law_roll .nil pass0 (pa_cons (pv 0) (pa_cons pe_int pa_nil))) pe_int (nomark _)) (pss_one (ps_ret (pv 2))) pss_nil)
      (pss_one (ps_ret (pe_op op_add_str (pv 2) (pe_call (ok__law_pick T) (hr.mono (by decide)) (by rfl) T.g__law_pick T.F__law_pick.kp T.b__law_pick .nil pass0 (pa_cons (pv 0) (pa_cons (pe_lst (pa_cons pe_str (pa_cons pe_str (pa_cons pe_str (pa_cons pe_str (pa_cons pe_str (pa_cons pe_str pa_nil))))))) pa_nil))))))))), ?_⟩
    refine ⟨⟨_, rfl⟩, _, rfl, a, 11, rfl, hd, by decide, by decide, fun r H1 m1 r0 r1 => ⟨_, rfl, by omega, by omega, fun D hD => lc_range (lo := 0) (n := r.toNat) (fun i H' => Mv a H1 H' ∧ ∃ cs : List Nat, cs.length = i ∧ (∀ c ∈ cs, c < 128) ∧ H' D = some (.lst ((cs.map fun c => (⟨#[c]⟩ : Str)).map V.str))) ?_ ?_ ?_⟩⟩
    · exact ⟨Mv.new m1.dice hD, [], rfl, fun c h => (by cases h), upd_same⟩
    · rintro i H' hi ⟨m, cs, hl, hc, hD'⟩
      have nDa : D ≠ a := m1.dice.ne hD
      refine ⟨rfl, ?_⟩
      refine yes_go ?_
      refine ⟨_, rfl, _, rfl, "abcxyz", rfl, (by decide +kernel), fun p hp => ⟨a, p, _, rfl, m.dice.new hp, m.dice.ne hp, SqL.of upd_same, by decide +kernel, by decide +kernel, fun v H3 m3 hv => ?_⟩⟩
      obtain ⟨c, hcm, rfl⟩ := List.mem_map.mp hv
      have e6 : ("abcxyz" : Str).cps.toList = [97, 98, 99, 120, 121, 122] := by decide +kernel
      rw [e6] at hcm
      have hc128 : c < 128 := by
        simp only [List.mem_cons, List.not_mem_nil, or_false] at hcm
        omega
      have m13 : Mv a H1 H3 := (m.trans (Mv.new m.dice hp)).trans m3
      have hD3 : H3 D = some (.lst ((cs.map fun c => (⟨#[c]⟩ : Str)).map V.str)) := m3.keep _ _ nDa (by rw [upd_ne (ne_of_none hD' hp)]; exact hD')
      refine ⟨_, hD3, ?_, ⟨fun b o n e => ?_, ?_⟩, cs ++ [c], ?_, ?_, ?_⟩
      · rw [List.length_map, List.length_map, hl]
        exact small1000 (by omega)
      · rw [upd_ne (ne_of_none e hD)]
        exact m13.keep b o n e
      · obtain ⟨x, y, z, hz⟩ := m13.dice
        exact ⟨x, y, z, by rw [upd_ne nDa.symm]; exact hz⟩
      · rw [List.length_append, hl]
        rfl
      · intro k hk
        rcases List.mem_append.mp hk with hk | hk
        · exact hc k hk
        · rw [List.mem_singleton] at hk
          rw [hk]
          exact hc128
      · rw [upd_same, List.map_append, List.map_append]
        rfl
    · rintro H' ⟨m, cs, hl, hc, hD'⟩
      refine ⟨_, D, (cs.map fun c => (⟨#[c]⟩ : Str)), rfl, rfl, .inl (SqL.of hD'), ?_, ?_⟩
      · rw [sum_ones]
        show cs.length + (cs.map fun c => (⟨#[c]⟩ : Str)).length * 0 ≤ 16777216
        omega
      rw [join_cs]
      have mH : Mv a H H' := m1.trans m
      have hlen : (⟨cs.toArray⟩ : Str).length = cs.length := by
        show cs.toArray.size = cs.length
        exact List.size_toArray
      refine ⟨_, rfl, a, 2, rfl, m.dice, by decide, by decide, fun r3 H3 m3 _ _ => ⟨rfl, _, rfl, ?_⟩⟩
      refine ite2 (fun _ => ?_) (fun _ => ?_)
      · exact ⟨_, rfl, q _ _ (mH.trans m3) (by rw [hlen]; omega) hc⟩
      · refine ⟨_, rfl, _, rfl, (by show 6 ≤ sizeLine; decide), fun p hp => ⟨a, p, _, rfl, m3.dice.new hp, m3.dice.ne hp, SqL.of upd_same, by decide, by decide, fun v H4 m4 hv => ?_⟩⟩
        obtain ⟨t, rfl, ht, ht2⟩ : ∃ t : Str, v = .str t ∧ t.length ≤ 1 ∧ ∀ c ∈ t.cps.toList, c < 128 := by
          simp only [List.mem_cons, List.not_mem_nil, or_false] at hv
          rcases hv with rfl | rfl | rfl | rfl | rfl | rfl
          all_goals exact ⟨_, rfl, by decide +kernel, by decide +kernel⟩
        have hap : ((⟨cs.toArray⟩ : Str) ++ t).length = cs.length + t.length := by
          show (cs.toArray ++ t.cps).size = cs.length + t.cps.size
          rw [Array.size_append, List.size_toArray]
        refine ⟨_, _, rfl, rfl, ?_, q _ _ ((mH.trans m3).trans ((Mv.new m3.dice hp).trans m4)) ?_ ?_⟩
        · rw [hlen]
          exact Nat.le_trans (show cs.length + t.length ≤ 100 by omega) (by decide)
        · rw [hap]
          omega
        · intro c hcc
          have e : ((⟨cs.toArray⟩ : Str) ++ t).cps.toList = cs ++ t.cps.toList := by
            show (cs.toArray ++ t.cps).toList = _
            rw [Array.toList_append]
          rw [e] at hcc
          rcases List.mem_append.mp hcc with h | h
          · exact hc c h
          · exact ht2 c h
end
abbrev N_is_residue : List Str := ["prime", "value"]
theorem sc_is_residue : FnScope N_is_residue ["prime", "value"] (defScope s_is_residue) := ⟨rfl, rfl, rfl, by decide +kernel, rfl, by decide +kernel, by decide +kernel⟩
section
variable {P : Program} {w : World} {K : PySem.W.Frag} {mg : Str → Option Value} {base : Heap}
theorem ok_is_residue (T : Txt K mg) : FnOk P w K mg base (L2.CX P w) 4 T.f_is_residue T.fd_is_residue ["prime", "value"] (sp_residue K T.c_InvalidPrime) := by
  refine T.F_is_residue.okX sc_is_residue (fun vs H Q E h => ?_) (fun cdv A outer s H vs Q E hr h => ?_)
  · obtain ⟨p, x, rfl, kp, kx, q, k⟩ := h
    rfl
  · obtain ⟨p, x, rfl, kp, kx, q, k⟩ := h
    refine ⟨_, (pss_cons (ps_expr (pe_call (ok_check_prime T) (hr.mono (by decide)) (by rfl) T.g_check_prime T.F_check_prime.kp T.b_check_prime .nil (passes_call (takes_of rfl rfl rfl rfl) (fun _ _ _ _ h => h)) (pa_cons (pv 0) pa_nil)))
      (pss_one (ps_ret (pe_call (ok_is_within T) (hr.mono (by decide)) (by rfl) T.g_is_within T.F_is_within.kp T.b_is_within .nil pass0 (pa_cons (pv 1) (pa_cons pe_int (pa_cons (pe_op op_sub (pv 0) pe_int) pa_nil))))))), ?_⟩
    refine ⟨_, rfl, p, rfl, kp, fun c => ?_, fun c => k c⟩
    obtain ⟨i, rfl⟩ : ∃ i, p = .int i := by
      cases p with
      | int i => exact ⟨i, rfl⟩
      | _ => cases c
    exact ⟨_, rfl, _, rfl, _, _, rfl, rfl, _, _, _, rfl, kx, q i rfl c⟩
end
abbrev N__law_is_refused : List Str := ["_law_prime", "_law_value"]
theorem sc__law_is_refused : FnScope N__law_is_refused ["_law_prime", "_law_value"] (defScope s__law_is_refused) := ⟨rfl, rfl, rfl, by decide +kernel, rfl, by decide +kernel, by decide +kernel⟩
section
variable {P : Program} {w : World} {K : PySem.W.Frag} {mg : Str → Option Value} {base : Heap}
theorem ok__law_is_refused (T : Txt K mg) : FnOk P w K mg base CX0 5 T.f__law_is_refused T.fd__law_is_refused ["_law_prime", "_law_value"] (sp_refused K) := by
  refine T.F__law_is_refused.ok sc__law_is_refused (fun vs H Q E h => ?_) (fun cdv A outer s H vs Q E hr h => ?_)
  · obtain ⟨p, x, rfl, kp, kx, q, k⟩ := h
    rfl
  · obtain ⟨p, x, rfl, kp, kx, q, k⟩ := h
    refine ⟨_, (pss_cons (ps_try_only rfl rfl ⟨rfl, by decide, .inl T.g_InvalidPrime⟩ takes0 (fun W pn xe tk _ => (pss_one (ps_expr (pe_callS (ok_is_residue T) (hr.mono (by decide)) (by rfl) T.g_is_residue T.F_is_residue.kp T.b_is_residue (fun σ => passAt tk σ) (pa_cons (pv 0) (pa_cons (pv 1) pa_nil)))))) (fun a oe cls d pn _ _ => (pss_one (ps_ret pe_bl))))
      (pss_one (ps_ret pe_bl))), ?_⟩
    refine ⟨_, rfl, _, rfl, p, x, rfl, kp, kx, fun i e c => ?_, fun c => ?_⟩
    · exact q i e c
    · exact ⟨true, T.e_InvalidPrime, fun _ a0 _ => k c, fun z => Bool.noConfusion z⟩
end
abbrev N__law_right : List Str := ["_law_dice_here", "_law_number", "_law_small", "_law_prime", "_law_odd", "_law_beside", "_law_text", "_law_inside", "_law_bad", "_law_sign"]
theorem sc__law_right : FnScope N__law_right ["_law_dice_here"] (defScope s__law_right) := ⟨rfl, rfl, rfl, by decide +kernel, rfl, by decide +kernel, by decide +kernel⟩
section
variable {P : Program} {w : World} {K : PySem.W.Frag} {mg : Str → Option Value} {base : Heap}
theorem ok__law_right (T : Txt K mg) : FnOk P w K mg base CX0 6 T.f__law_right T.fd__law_right ["_law_dice_here"] (sp_right) := by
  refine T.F__law_right.ok sc__law_right (fun vs H Q E h => ?_) (fun cdv A outer s H vs Q E hr h => ?_)
  · obtain ⟨a, rfl, hd, q⟩ := h
    rfl
  · obtain ⟨a, rfl, hd, q⟩ := h
    refine ⟨_, (pss_cons (ps_set (i := 1) sc__law_right.nd rfl (Or.inl rfl) (pe_call (ok__law_integer_drawn T) (hr.mono (by decide)) (by rfl) T.g__law_integer_drawn T.F__law_integer_drawn.kp T.b__law_integer_drawn .nil pass0 (pa_cons (pv 0) pa_nil)))
      (pss_cons (ps_if (pt_cmpR op_ne (pe_call (ok_is_integer T) (hr.mono (by decide)) (by rfl) T.g_is_integer T.F_is_integer.kp T.b_is_integer .nil pass0 (pa_cons (pv 1) pa_nil)) (pe_cmpR op_le (pe_callB call_len (by rfl) T.z_len (by decide +kernel) (pa_cons (pe_callTy call_str_int (by rfl) T.z_str (by decide +kernel) (pa_cons (pe_callB call_abs (by rfl) T.z_abs (by decide +kernel) (pa_cons (pv 1) pa_nil)) pa_nil)) pa_nil)) pe_int (nomark _)) (nomark _)) (pss_one (ps_ret pe_bl)) pss_nil)
      (pss_cons (ps_set (i := 2) sc__law_right.nd rfl (Or.inl rfl) (pe_op op_sub (pe_call (ok__law_roll T) (hr.mono (by decide)) (by rfl) T.g__law_roll T.F__law_roll.kp T.b__law_roll .nil pass0 (pa_cons (pv 0) (pa_cons pe_int pa_nil))) pe_int))
      (pss_cons (ps_if (PW.pt (pw_or (pt_cmpR op_ne (pe_call (ok_is_prime T) (hr.mono (by decide)) (by rfl) T.g_is_prime T.F_is_prime.kp T.b_is_prime .nil pass0 (pa_cons (pv 2) pa_nil)) (pe_cmpR op_in_seq (pv 2) (pe_glob (v := V.ref T.a_PRIMES) (by rfl) T.g_PRIMES rfl) (by rfl)) (nomark _)) (pw_or1 (pt_not (pt_val (pe_call (ok_is_integer T) (hr.mono (by decide)) (by rfl) T.g_is_integer T.F_is_integer.kp T.b_is_integer .nil pass0 (pa_cons (pv 2) pa_nil))))))) (pss_one (ps_ret pe_bl)) pss_nil)
      (pss_cons (ps_par (i := 3) (j := 4) (by rfl) sc__law_right.nd rfl rfl (by decide) rfl rfl (pa_cons (pe_call (ok__law_pick T) (hr.mono (by decide)) (by rfl) T.g__law_pick T.F__law_pick.kp T.b__law_pick .nil pass0 (pa_cons (pv 0) (pa_cons (pe_callTy call_list_of (by rfl) T.z_list (by decide +kernel) (pa_cons (pe_glob (v := V.ref T.a_PRIMES) (by rfl) T.g_PRIMES rfl) pa_nil)) pa_nil))) (pa_cons (pe_call (ok__law_pick T) (hr.mono (by decide)) (by rfl) T.g__law_pick T.F__law_pick.kp T.b__law_pick .nil pass0 (pa_cons (pv 0) (pa_cons (pe_lst (pa_cons pe_non (pa_cons pe_bl (pa_cons pe_bl (pa_cons pe_str (pa_cons (pe_tup (pa_cons pe_int pa_nil)) (pa_cons (pe_lst pa_nil) (pa_cons pe_dnewK (pa_cons pe_str pa_nil))))))))) pa_nil))) pa_nil)) (by rfl))
      (pss_cons (ps_set (i := 5) sc__law_right.nd rfl (Or.inl rfl) (pe_op op_sub (pe_call (ok__law_roll T) (hr.mono (by decide)) (by rfl) T.g__law_roll T.F__law_roll.kp T.b__law_roll .nil pass0 (pa_cons (pv 0) (pa_cons (pe_op op_mul pe_int (pv 3)) pa_nil))) (pv 3)))
      (Evl.pss_cut (ps_if (pt_cmpR op_ne (pe_call (ok_is_residue T) (hr.mono (by decide)) (by rfl) T.g_is_residue T.F_is_residue.kp T.b_is_residue .nil passL (pa_cons (pv 3) (pa_cons (pv 5) pa_nil))) (pe_chain op_le op_lt pe_int (pv 5) (pv 3)) (nomark _)) (pss_one (ps_ret pe_bl)) pss_nil)
      (pss_cons (ps_set (i := 6) sc__law_right.nd rfl (Or.inl rfl) (pe_call (ok__law_name_drawn T) (hr.mono (by decide)) (by rfl) T.g__law_name_drawn T.F__law_name_drawn.kp T.b__law_name_drawn .nil pass0 (pa_cons (pv 0) pa_nil)))
      (pss_cons (ps_setLc (i := 7) (own := [("_law_sign", 9)]) (g := gName 9) rfl sc__law_right.nd rfl rfl (sw_true rfl rfl rfl (by decide +kernel)) (pi_str (pv 6)) (blkOk_by (own := [("_law_sign", 9)]) (N := N__law_right) (sc := defScope s__law_right) (by decide +kernel)) (fun _ _ _ _ _ => pg_name (i := 9) sc__law_right.nd rfl (Or.inl rfl)) (fun _ _ _ _ _ => (pts_one (pt_cmpR op_notIn_sign (pv 9) pe_str (by rfl)))) (fun _ _ _ _ _ => (pv 9)))
      (Evl.pss_cut (ps_if (pt_cmpR op_ne (pe_call (ok_is_name T) (hr.mono (by decide)) (by rfl) T.g_is_name T.F_is_name.kp T.b_is_name .nil pass0 (pa_cons (pv 6) pa_nil)) (pe_and (pe_chain op_le op_le pe_int (pe_callB call_len (by rfl) T.z_len (by decide +kernel) (pa_cons (pv 6) pa_nil)) pe_int) (pe_one (pe_cmpR (op_eqD hr.units) (pv 7) (pe_lst pa_nil) (nomark _)))) (nomark _)) (pss_one (ps_ret pe_bl)) pss_nil)
      (pss_cons (ps_if (PW.pt (pw_or (pt_val (pe_call (ok_is_integer T) (hr.mono (by decide)) (by rfl) T.g_is_integer T.F_is_integer.kp T.b_is_integer .nil pass0 (pa_cons (pv 4) pa_nil))) (pw_or (pt_val (pe_call (ok_is_prime T) (hr.mono (by decide)) (by rfl) T.g_is_prime T.F_is_prime.kp T.b_is_prime .nil pass0 (pa_cons (pv 4) pa_nil))) (pw_or (pt_val (pe_call (ok_is_residue T) (hr.mono (by decide)) (by rfl) T.g_is_residue T.F_is_residue.kp T.b_is_residue .nil passL (pa_cons (pv 3) (pa_cons (pv 4) pa_nil)))) (pw_or1 (pt_val (pe_call (ok_is_name T) (hr.mono (by decide)) (by rfl) T.g_is_name T.F_is_name.kp T.b_is_name .nil pass0 (pa_cons (pv 4) pa_nil)))))))) (pss_one (ps_ret pe_bl)) pss_nil)
      (pss_cons (ps_set (i := 8) sc__law_right.nd rfl (Or.inl rfl) (pe_call (ok__law_pick T) (hr.mono (by decide)) (by rfl) T.g__law_pick T.F__law_pick.kp T.b__law_pick .nil pass0 (pa_cons (pv 0) (pa_cons (pe_lst (pa_cons pe_non (pa_cons pe_int (pa_cons pe_int (pa_cons pe_int (pa_cons pe_int (pa_cons (pe_un un_neg pe_int) (pa_cons pe_bl (pa_cons pe_str (pa_cons (pe_tup (pa_cons pe_int pa_nil)) (pa_cons (pe_op op_pow pe_int pe_int) pa_nil))))))))))) pa_nil))))
      (pss_one (ps_ret (pe_and (pe_call (ok__law_is_refused T) (hr.mono (by decide)) (by rfl) T.g__law_is_refused T.F__law_is_refused.kp T.b__law_is_refused .nil pass0 (pa_cons (pv 8) (pa_cons (pv 4) pa_nil))) (pe_and (pe_call (ok__law_is_refused T) (hr.mono (by decide)) (by rfl) T.g__law_is_refused T.F__law_is_refused.kp T.b__law_is_refused .nil pass0 (pa_cons (pv 8) (pa_cons pe_int pa_nil))) (pe_one (pe_not (pe_call (ok__law_is_refused T) (hr.mono (by decide)) (by rfl) T.g__law_is_refused T.F__law_is_refused.kp T.b__law_is_refused .nil pass0 (pa_cons (pv 3) (pa_cons (pv 4) pa_nil))))))))))))))))))))), ?_⟩
    -- the drawn integer
    refine ⟨_, rfl, a, rfl, hd, fun n H1 m1 dn => ?_⟩
    obtain ⟨v, hv, hv62, hb⟩ := draw_abs dn
    refine ⟨_, rfl, .int n, rfl, Kd.int n, _, rfl, _, rfl, ?_⟩
    rw [hv]
    have hlen : (Str.ofString (toString (v : Int))).length ≤ 62 := (digits_len (by decide)).mpr hv62
    refine ⟨_, rfl, ?_, _, _, rfl, ⟨Nat.le_trans hlen (by decide), rfl⟩, _, _, rfl, rfl, rfl, _, rfl, ?_⟩
    · show (Int.natAbs (v : Int)).log2 < 1920
      rw [Int.natAbs_natCast]
      have h2 : v < 2 ^ 210 := Nat.lt_of_lt_of_le hv62 (by decide)
      exact Nat.lt_of_lt_of_le (PySem.Flt.log2_lt_of (by decide) (show ((v : Int)).natAbs < 2 ^ 210 by rw [Int.natAbs_natCast]; exact h2)) (by decide)
    refine iteNS (congrArg V.bl ?_) ?_
    · rw [hb]
      have e : ((Str.ofString (toString (v : Int))).length ≤ 60) = (v < 10 ^ 60) := propext (digits_len (by decide))
      have e2 : (((Str.ofString (toString (v : Int))).length : Int) ≤ 60) = (v < 10 ^ 60) := by
        rw [← e]
        exact propext ⟨fun h => by omega, fun h => by omega⟩
      exact (decide_eq_decide.mpr (by rw [e2])).symm
    -- the small one
    refine ⟨_, rfl, a, 40, rfl, m1.dice, by decide, by decide, fun r H2 m2 r0 r1 => ⟨_, _, rfl, rfl, ?_⟩⟩
    have sm := int_small (i := r - 4) (by omega) (by omega)
    refine ⟨_, rfl, _, rfl, Kd.int _, _, rfl, _, _, rfl, .inr (T.q_PRIMES _), rfl, by decide, rfl, _, rfl, ?_⟩
    refine iteNS (congrArg V.bl ?_) ?_
    · show primeB (.int (r - 4)) = inV (.int (r - 4)) (primes.map V.int)
      unfold primeB
      rw [sm, Bool.true_and]
    refine ⟨_, rfl, .int (r - 4), rfl, Kd.int _, _, rfl, ?_⟩
    rw [sm]
    -- a prime, an odd value
    refine ⟨_, rfl, _, _, rfl, .inr (T.q_PRIMES _), fun p hp => ⟨a, p, _, rfl, m2.dice.new hp, m2.dice.ne hp, SqL.of upd_same, by decide, by decide, fun pv H3 m3 hpv => ?_⟩⟩
    obtain ⟨i, hi, rfl⟩ := List.mem_map.mp hpv
    have bi := prime_of hi
    have hpB := primeB_of hi
    have m13 : Mv a H H3 := ((m1.trans m2).trans (Mv.new m2.dice hp)).trans m3
    refine ⟨_, rfl, (by show 1 ≤ sizeLine; decide), fun t ht => ⟨(by show 0 ≤ sizeLine; decide), fun l hl d hdd => ⟨(by show 8 ≤ sizeLine; decide), fun p2 hp2 => ?_⟩⟩⟩
    have dt := m3.dice.new (o := .tup [.int 3]) ht
    have dl := dt.new (o := .lst []) hl
    have dd := dl.new (o := .dK []) hdd
    have tl : t ≠ l := ne_of_none upd_same hl
    have td : t ≠ d := ne_of_none (by rw [upd_ne tl]; exact upd_same) hdd
    have ld : l ≠ d := ne_of_none upd_same hdd
    refine ⟨a, p2, _, rfl, dd.new hp2, dd.ne hp2, SqL.of upd_same, (by show 0 < 8; decide), (by show 8 < 1000000000; decide), fun ov H4 m4 hov => ?_⟩
    have ht4 : H4 t = some (.tup [.int 3]) := by
      have tp : t ≠ p2 := ne_of_none (by rw [upd_ne td, upd_ne tl]; exact upd_same) hp2
      exact m4.keep _ _ (m3.dice.ne ht) (by rw [upd_ne tp, upd_ne td, upd_ne tl]; exact upd_same)
    have hl4 : H4 l = some (.lst []) := by
      have lp : l ≠ p2 := ne_of_none (by rw [upd_ne ld]; exact upd_same) hp2
      exact m4.keep _ _ (dt.ne hl) (by rw [upd_ne lp, upd_ne ld]; exact upd_same)
    have hd4 : H4 d = some (.dK []) := by
      have dp : d ≠ p2 := ne_of_none upd_same hp2
      exact m4.keep _ _ (dl.ne hdd) (by rw [upd_ne dp]; exact upd_same)
    have m14 : Mv a H H4 := ((((m13.trans (Mv.new m3.dice ht)).trans (Mv.new dt hl)).trans (Mv.new dl hdd)).trans (Mv.new dd hp2)).trans m4
    have od4 : OddAt a H4 ov := by
      simp only [List.mem_cons, List.not_mem_nil, or_false] at hov
      rcases hov with rfl | rfl | rfl | rfl | rfl | rfl | rfl | rfl
      · exact .non
      · exact .bl _
      · exact .bl _
      · exact .s3
      · exact .tup (m3.dice.ne ht) ht4
      · exact .lst (dt.ne hl) hl4
      · exact .dK (dl.ne hdd) hd4
      · exact .s0
    refine ⟨_, _, rfl, ?_⟩
    -- a number beside the prime
    refine ⟨_, rfl, _, rfl, _, _, rfl, rfl, .inl ⟨by decide, by decide⟩, a, _, rfl, m4.dice, by omega, by omega, fun r5 H5 m5 _ _ => ⟨_, rfl, _, _, rfl, rfl, ?_⟩⟩
    refine ⟨fun σ' H' => σ' = [some (.ref a), some (.int n), some (.int (r - 4)), some (.int i), some ov, some (.int (r5 - i)), none, none, none, none] ∧ Mv a H H' ∧ OddAt a H' ov, ?_, ?_⟩
    · refine ⟨_, rfl, _, rfl, _, _, rfl, Kd.int _, Kd.int _, fun k ek _ => ?_, fun c => (by rw [hpB] at c; cases c)⟩
      cases ek
      refine ⟨_, rfl, _, _, rfl, rfl, _, rfl, ?_⟩
      have fin : ∀ (b : Bool) (A B : Prop), b = withinB (.int (r5 - i)) 0 (i - 1) → B → (if (!decide (V.bl (withinB (.int (r5 - i)) 0 (i - 1)) = V.bl b)) = true then A else B) := by
        rintro b A B rfl h
        exact iteNS rfl h
      have e : withinB (.int (r5 - i)) 0 (i - 1) = (intB (.int (r5 - i)) && (decide (0 ≤ r5 - i) && decide (r5 - i ≤ i - 1))) := rfl
      have sb : intB (.int (r5 - i)) = true := int_small (by omega) (by omega)
      by_cases c0 : 0 ≤ r5 - i
      · rw [decide_eq_true c0]
        refine iteT ⟨_, rfl, _, _, rfl, rfl, rfl, _, rfl, fin _ _ _ ?_ ⟨rfl, m14.trans m5, od4.mv m5⟩⟩
        rw [e, sb, decide_eq_true c0]
        show decide (r5 - i < i) = decide (r5 - i ≤ i - 1)
        exact decide_eq_decide.mpr ⟨fun h => by omega, fun h => by omega⟩
      · rw [decide_eq_false c0]
        refine ⟨rfl, _, rfl, fin _ _ _ ?_ ⟨rfl, m14.trans m5, od4.mv m5⟩⟩
        rw [e, sb, decide_eq_false c0]
        rfl
    rintro σ' H5' ⟨rfl, m15, od5⟩
    -- a name
    refine ⟨_, rfl, a, rfl, m15.dice, fun s H6 m6 hs hc => ?_⟩
    refine ⟨_, rfl, s, rfl, fun D hD => lc_str (fun k H' => Mv a H6 H' ∧ H' D = some (.lst ((((s.cps.toList.take k).filter fun c => !letterB c).map fun c => (⟨#[c]⟩ : Str)).map V.str))) ⟨Mv.new m6.dice hD, upd_same⟩ ?_ ?_⟩
    · rintro k c H' hck ⟨m, hd'⟩
      have nDa : D ≠ a := m6.dice.ne hD
      have hk : k < s.cps.size := (Array.getElem?_eq_some_iff.mp hck).1
      have g : s.cps.toList[k]? = some c := by rw [Array.getElem?_toList]; exact hck
      refine ⟨rfl, ?_⟩
      refine ⟨_, rfl, c, _, rfl, rfl, _, rfl, ?_⟩
      rw [alpha]
      have e1 : s.cps.toList.take (k + 1) = s.cps.toList.take k ++ [c] := by rw [List.take_add_one, g]; rfl
      cases hl : letterB c with
      | true =>
        refine iteF ⟨m, ?_⟩
        rw [e1, List.filter_append]
        show H' D = some (.lst ((((s.cps.toList.take k).filter fun c => !letterB c) ++ ([c].filter fun c => !letterB c)).map _ |>.map V.str))
        rw [List.filter_cons, hl]
        show H' D = some (.lst ((((s.cps.toList.take k).filter fun c => !letterB c) ++ []).map _ |>.map V.str))
        rw [List.append_nil]
        exact hd'
      | false =>
        refine iteT ⟨_, rfl, _, hd', ?_, ⟨fun b o n' e => ?_, ?_⟩, ?_⟩
        · rw [List.length_map, List.length_map]
          refine Nat.lt_of_le_of_lt (List.length_filter_le _ _) ?_
          rw [List.length_take]
          exact small1000 (by have h2 : s.cps.size ≤ 100 := hs; omega)
        · rw [upd_ne (ne_of_none e hD)]
          exact m.keep b o n' e
        · obtain ⟨x, y, z, hz⟩ := m.dice
          exact ⟨x, y, z, by rw [upd_ne nDa.symm]; exact hz⟩
        · rw [upd_same, e1, List.filter_append]
          have e3 : ([c].filter fun c => !letterB c) = [c] := by rw [List.filter_cons, hl]; rfl
          rw [e3, List.map_append, List.map_append]
          rfl
    rintro H7 ⟨m7, hD7⟩
    rw [← Array.length_toList, List.take_length] at hD7
    have nDa : D ≠ a := m6.dice.ne hD
    have hz : s.length ≤ sizeLine := Nat.le_trans hs (by decide)
    have m17 := (m15.trans m6).trans m7
    have od7 := (od5.mv m6).mv m7
    refine ⟨fun σ' H' => σ' = [some (.ref a), some (.int n), some (.int (r - 4)), some (.int i), some ov, some (.int (r5 - i)), some (.str s), some (.ref D), none, none] ∧ Mv a H H' ∧ OddAt a H' ov, ?_, ?_⟩
    · refine ⟨_, rfl, .str s, rfl, Kd.str s, (fun s' e => by cases e; exact hz), fun H8 s8 => ?_⟩
      have m8 : Mv a H7 H8 := Mv.same m7.dice s8
      have end8 := And.intro (m17.trans m8) (od7.mv m8)
      have hD8 := s8 _ _ hD7
      have fin : ∀ (b : Bool) (A B : Prop), b = nameB (.str s) → B → (if (!decide (V.bl (nameB (.str s)) = V.bl b)) = true then A else B) := by
        rintro b A B rfl h
        exact iteNS rfl h
      have e : nameB (.str s) = ((decide (1 ≤ s.length) && decide (s.length ≤ 8)) && s.cps.toList.all letterB) := rfl
      refine ⟨_, rfl, _, _, rfl, ⟨hz, rfl⟩, _, _, rfl, rfl, _, rfl, ?_⟩
      by_cases c1 : 1 ≤ s.length
      · rw [decide_eq_true (show (1 : Int) ≤ (s.length : Int) by omega)]
        refine iteT ⟨_, _, rfl, rfl, _, rfl, ?_⟩
        by_cases c2 : s.length ≤ 8
        · rw [decide_eq_true (show (s.length : Int) ≤ 8 by omega)]
          refine iteT ⟨_, rfl, (by show 0 ≤ sizeLine; decide), fun p hp => ⟨_, .list [], .lst (SqL.of (by rw [upd_ne (ne_of_none hD8 hp)]; exact hD8)) (dp_strs _), .lst (SqL.of upd_same) .nil, shaped_strs ?_, by decide, rfl, _, rfl, fin _ _ _ ?_ ⟨rfl, end8.1.trans (Mv.new end8.1.dice hp), end8.2.mv (Mv.new end8.1.dice hp)⟩⟩⟩
          · intro t ht
            obtain ⟨c, hcm, rfl⟩ := List.mem_map.mp ht
            have h128 := hc c (List.mem_filter.mp hcm).1
            show (#[c] : Array Nat).all (· < 0x110000) = true
            simp only [Array.all_eq_true, decide_eq_true_eq]
            intro j hj
            have e0 : j = 0 := by simp at hj; exact hj
            subst e0
            show c < 0x110000
            omega
          · rw [eqv_nil, none_out, e, decide_eq_true c1, decide_eq_true c2]
            rfl
        · rw [decide_eq_false (show ¬ (s.length : Int) ≤ 8 by omega)]
          refine iteF ⟨rfl, _, rfl, fin _ _ _ ?_ ⟨rfl, end8⟩⟩
          rw [e, decide_eq_true c1, decide_eq_false c2]
          rfl
      · rw [decide_eq_false (show ¬ (1 : Int) ≤ (s.length : Int) by omega)]
        refine iteF ⟨_, rfl, iteF ⟨rfl, _, rfl, fin _ _ _ ?_ ⟨rfl, end8⟩⟩⟩
        rw [e, decide_eq_false c1]
        rfl
    rintro σ' H8 ⟨rfl, m18, od8⟩
    -- the odd value is refused by all
    refine ⟨_, rfl, ov, rfl, od8.kd, _, rfl, ?_⟩
    rw [od8.int]
    refine iteF ⟨_, rfl, ov, rfl, od8.kd, _, rfl, ?_⟩
    rw [od8.prime]
    refine iteF ⟨_, rfl, _, rfl, .int i, ov, rfl, Kd.int _, od8.kd, fun k ek _ => ?_, fun c => (by rw [hpB] at c; cases c)⟩
    cases ek
    refine ⟨_, rfl, ?_⟩
    rw [od8.within]
    refine iteF ⟨_, rfl, ov, rfl, od8.kd, od8.size, fun H9 s9 => ⟨_, rfl, ?_⟩⟩
    rw [od8.name]
    refine iteF ?_
    have m9 : Mv a H8 H9 := Mv.same m18.dice s9
    have d9 := m9.dice
    -- a bad prime
    refine ⟨_, rfl, _, rfl, (by show 1 ≤ sizeLine; decide), fun t2 ht2 => ⟨_, _, rfl, rfl, ⟨by decide, by decide, by decide⟩, (by show 10 ≤ sizeLine; decide), fun p3 hp3 => ?_⟩⟩
    have d10 := d9.new (o := .tup [.int 3]) ht2
    refine ⟨a, p3, _, rfl, d10.new hp3, d10.ne hp3, SqL.of upd_same, (by show 0 < 10; decide), (by show 10 < 1000000000; decide), fun bv H10 m10 hbv => ?_⟩
    have h3 : H10 t2 = some (.tup [.int 3]) := by
      have tp : t2 ≠ p3 := ne_of_none upd_same hp3
      exact m10.keep _ _ (d9.ne ht2) (by rw [upd_ne tp]; exact upd_same)
    have m9' := ((m9.trans (Mv.new d9 ht2)).trans (Mv.new d10 hp3)).trans m10
    have od10 := od8.mv m9'
    have kb : Kd K H10 bv ∧ primeB bv = false := by
      simp only [List.mem_cons, List.not_mem_nil, or_false] at hbv
      rcases hbv with rfl | rfl | rfl | rfl | rfl | rfl | rfl | rfl | rfl | rfl
      · exact ⟨.non, rfl⟩
      · exact ⟨.int _, by decide +kernel⟩
      · exact ⟨.int _, by decide +kernel⟩
      · exact ⟨.int _, by decide +kernel⟩
      · exact ⟨.int _, by decide +kernel⟩
      · exact ⟨.int _, by decide +kernel⟩
      · exact ⟨.bl _, rfl⟩
      · exact ⟨.str _, rfl⟩
      · exact ⟨.tup h3, rfl⟩
      · exact ⟨.int _, by decide +kernel⟩
    have no : ∀ {A : Prop}, primeB bv = true → A := fun c => by rw [kb.2] at c; cases c
    refine ⟨_, rfl, _, rfl, bv, ov, rfl, kb.1, od10.kd, fun k e c => no c, fun _ => ⟨_, rfl, iteT ⟨_, rfl, bv, .int 1, rfl, kb.1, Kd.int _, fun k e c => no c, fun _ => ⟨_, rfl, iteT ⟨_, rfl, _, rfl, .int i, ov, rfl, Kd.int _, od10.kd, fun k e c => ⟨_, rfl, q _ (m18.trans m9')⟩, fun c => (by rw [hpB] at c; cases c)⟩⟩⟩⟩⟩
end
abbrev N_law : List Str := ["_law_script", "_law_spot", "_law_dice_here", "_law_edges", "_law_edge"]
theorem sc_law : FnScope N_law ["_law_script"] (defScope s_law) := ⟨rfl, rfl, rfl, by decide +kernel, rfl, by decide +kernel, by decide +kernel⟩
section
variable {P : Program} {w : World} {K : PySem.W.Frag} {mg : Str → Option Value} {base : Heap}
theorem ok_law (T : Txt K mg) : FnOk P w K mg base CX0 7 T.f_law T.fd_law ["_law_script"] (sp_law K) := by
  refine T.F_law.ok sc_law (fun vs H Q E h => ?_) (fun cdv A outer s H vs Q E hr h => ?_)
  · obtain ⟨a, ns, rfl, hS, hl, q⟩ := h
    rfl
  · obtain ⟨a, ns, rfl, hS, hl, q⟩ := h
    refine ⟨_, (pss_cons (ps_for PassesOwn.never rfl (pi_range1 (by rfl) T.z_range (pa_cons (pe_callB (call_max2 rfl) (by rfl) T.z_max (by decide +kernel) (pa_cons pe_int (pa_cons (pe_callB (call_min2 rfl) (by rfl) T.z_min (by decide +kernel) (pa_cons pe_int (pa_cons (pe_callB call_len (by rfl) T.z_len (by decide +kernel) (pa_cons (pv 0) pa_nil)) pa_nil))) pa_nil))) pa_nil)) (pg_name (i := 1) sc_law.nd rfl (Or.inl rfl)) (pss_cons (ps_set (i := 2) sc_law.nd rfl (Or.inl rfl) (pe_call (ok__law_dice T) (hr.mono (by decide)) (by rfl) T.g__law_dice T.F__law_dice.kp T.b__law_dice .nil pass0 (pa_cons (pv 0) (pa_cons (pv 1) pa_nil))))
      (pss_one (ps_if (PW.pt (pw_or (pt_not (pt_val (pe_call (ok__law_right T) (hr.mono (by decide)) (by rfl) T.g__law_right T.F__law_right.kp T.b__law_right .nil pass0 (pa_cons (pv 2) pa_nil)))) (pw_or (pt_not (pt_val (pe_call (ok__law_right T) (hr.mono (by decide)) (by rfl) T.g__law_right T.F__law_right.kp T.b__law_right .nil pass0 (pa_cons (pv 2) pa_nil)))) (pw_or1 (pt_not (pt_val (pe_call (ok__law_right T) (hr.mono (by decide)) (by rfl) T.g__law_right T.F__law_right.kp T.b__law_right .nil pass0 (pa_cons (pv 2) pa_nil)))))))) (pss_one (ps_ret pe_bl)) pss_nil))))
      (pss_cons (ps_if (PW.pt (pw_or (pt_cmpR (op_neD hr.units) (pe_glob (v := V.ref T.a_PRIMES) (by rfl) T.g_PRIMES rfl) (pe_tup (pa_cons pe_int (pa_cons pe_int (pa_cons pe_int (pa_cons pe_int (pa_cons pe_int (pa_cons pe_int (pa_cons pe_int (pa_cons pe_int (pa_cons pe_int (pa_cons pe_int pa_nil))))))))))) (nomark _)) (pw_or (pt_cmpR op_ne (pe_glob (v := V.int 1000000000000) (by rfl) T.g_MAX_FACTORED ⟨_, rfl⟩) (pe_op op_pow pe_int pe_int) (nomark _)) (pw_or1 (pt_cmpR op_ne (pe_glob (v := V.int 8) (by rfl) T.g_MAX_LETTERS ⟨_, rfl⟩) pe_int (nomark _)))))) (pss_one (ps_ret pe_bl)) pss_nil)
      (pss_cons (ps_set (i := 3) sc_law.nd rfl (Or.inl rfl) (pe_lst (pa_cons (pe_op op_sub (pe_op op_pow pe_int pe_int) pe_int) (pa_cons (pe_un un_neg (pe_op op_sub (pe_op op_pow pe_int pe_int) pe_int)) (pa_cons (pe_op op_pow pe_int pe_int) (pa_cons (pe_un un_neg (pe_op op_pow pe_int pe_int)) pa_nil))))))
      (pss_one (ps_ret (pe_cmpR (op_eqD hr.units) (pe_lc (own := [("_law_edge", 4)]) (g := gName 4) (tt := tYes) rfl sc_law.nd (pi_list (pv 3)) (blkOk_by (own := [("_law_edge", 4)]) (N := N_law) (sc := defScope s_law) (by decide +kernel)) (fun _ _ _ _ _ => pg_name (i := 4) sc_law.nd rfl (Or.inl rfl)) (fun _ _ _ _ _ => pts_nil) (fun _ _ _ _ _ => (pe_call (ok_is_integer T) (hr.mono (by decide)) (by rfl) T.g_is_integer T.F_is_integer.kp T.b_is_integer .nil pass0 (pa_cons (pv 4) pa_nil)))) (pe_lst (pa_cons pe_bl (pa_cons pe_bl (pa_cons pe_bl (pa_cons pe_bl pa_nil))))) (nomark _))))))), ?_⟩
    refine ⟨_, rfl, _, _, rfl, .inl ⟨_, hS, rfl⟩, _, _, rfl, _, _, rfl, _, rfl, ?_, ?_, ?_⟩
    · split <;> (try split) <;> omega
    · split <;> (try split) <;> omega
    refine for_range (lo := 0) (n := _) (fun i σ H' => ∃ v2 v3, σ = [some (.ref a), v2, v3, none, none] ∧ SqL K H' a (ns.map V.int)) ⟨none, none, rfl, hS⟩ ?_ ?_
    · rintro i σ H' hi ⟨v2, v3, rfl, hS'⟩
      refine ⟨_, rfl, _, rfl, a, ns, i, (by rw [Int.zero_add]; rfl), hS', fun p x y z hp => ?_⟩
      have dp : Dc p (upd H' p (.lst [.int x, .int y, .int z])) := ⟨x, y, z, upd_same⟩
      refine ⟨_, rfl, p, rfl, dp, fun H1 m1 => ⟨_, rfl, iteF ⟨_, rfl, p, rfl, m1.dice, fun H2 m2 => ⟨_, rfl, iteF ⟨_, rfl, p, rfl, m2.dice, fun H3 m3 => ⟨_, rfl, iteF ?_⟩⟩⟩⟩⟩⟩
      exact ⟨_, _, rfl, seq_law hS' hp ((m1.trans m2).trans m3)⟩
    · rintro σ H' ⟨v2, v3, rfl, hS'⟩
      refine ⟨(by show 10 ≤ sizeLine; decide), fun t ht => ⟨.tuple (primes.map PyData.int), .tuple (primes.map PyData.int), .tup (T.q_PRIMES _) (dp_ints _), .tup (SqT.of upd_same) (dp_ints primes), (by decide +kernel), (by decide +kernel), _, rfl, ?_⟩⟩
      have e0 : PyData.eqv (.tuple (primes.map PyData.int)) (.tuple (primes.map PyData.int)) = true := by decide +kernel
      rw [e0]
      refine iteF ⟨_, _, rfl, rfl, ⟨by decide, by decide, by decide⟩, rfl, _, rfl, ?_⟩
      refine iteNS (by decide +kernel) ⟨rfl, _, rfl, iteNS rfl ?_⟩
      -- the edges
      refine ⟨_, _, rfl, rfl, ⟨by decide, by decide, by decide⟩, _, _, rfl, rfl, _, _, rfl, rfl, ⟨by decide, by decide, by decide⟩, _, _, rfl, rfl, _, rfl, _, _, rfl, rfl, ⟨by decide, by decide, by decide⟩, _, _, rfl, rfl, ⟨by decide, by decide, by decide⟩, _, rfl, (by show 4 ≤ sizeLine; decide), fun p hp => ?_⟩
      refine ⟨_, rfl, p, rfl, ⟨_, SqL.of upd_same⟩, fun D hD => ?_⟩
      have npD : p ≠ D := ne_of_none upd_same hD
      refine lc_list (K := K) (a := p) (xs := edges.map V.int) (fun i H2 => H2 p = some (.lst (edges.map V.int)) ∧ H2 D = some (.lst ((edges.take i).map fun e => V.bl (intB (.int e))))) ⟨by rw [upd_ne npD]; exact upd_same, upd_same⟩ (fun i H2 _ h => SqL.of h.1) ?_ ?_
      · rintro i x H2 hx ⟨h1, h2⟩
        rw [List.getElem?_map] at hx
        obtain ⟨e, he, rfl⟩ := Option.map_eq_some_iff.mp hx
        have hi : i < 4 := (List.getElem?_eq_some_iff.mp he).1
        refine ⟨rfl, yes_go ⟨_, rfl, .int e, rfl, Kd.int e, _, h2, ?_, by rw [upd_ne npD]; exact h1, ?_⟩⟩
        · rw [List.length_map, List.length_take]
          exact small1000 (by omega)
        · rw [upd_same, List.take_add_one, he, List.map_append]
          rfl
      · rintro H2 ⟨h1, h2⟩
        refine ⟨(by show 4 ≤ sizeLine; decide), fun p2 hp2 => ⟨.list ((edges.map fun e => intB (.int e)).map PyData.bool), .list ([true, true, false, false].map PyData.bool), .lst (SqL.of ?_) (dp_bls _), .lst (SqL.of upd_same) (dp_bls [true, true, false, false]), (by decide +kernel), (by decide +kernel), ?_⟩⟩
        · rw [upd_ne (ne_of_none h2 hp2), h2, List.map_map]
          rfl
        · have e1 : PyData.eqv (.list ((edges.map fun e => intB (.int e)).map PyData.bool)) (.list ([true, true, false, false].map PyData.bool)) = true := by decide +kernel
          rw [e1]
          exact q _
end
section
variable {P : Program} {w : World} {K : PySem.W.Frag} {mg : Str → Option Value} {base : Heap}
theorem all_mk {l : PySem.W.OpenLaw} {fa : Addr} {h : Heap} (X : K.In h) (G : h.Ns mainGlobals mg) (hfa : mg "law" = some (.ref fa))
    {f_is_integer : Addr} {od_is_integer an_is_integer : Option Addr} {sl_is_integer : Array (Option Value)} {oc_is_integer kV_is_integer dc_is_integer pm_is_integer cd_is_integer ct_is_integer : Value}
    (a_is_integer : PySem.W.nsIn K mainGlobals "is_integer" = some (some (.ref f_is_integer))) (l_is_integer : K.lookup f_is_integer = some ⟨oc_is_integer, od_is_integer, .func (PySem.W.fnOf "is_integer" "is_integer" (defArgs s_is_integer) (defBody s_is_integer) (defScope s_is_integer) .none kV_is_integer dc_is_integer pm_is_integer an_is_integer cd_is_integer ct_is_integer), sl_is_integer⟩) (c_is_integer : PySem.W.codeIn K cd_is_integer "is_integer" = true) (k_is_integer : PySem.W.keepIn K (.ref f_is_integer) = true)
    {f_is_name : Addr} {od_is_name an_is_name : Option Addr} {sl_is_name : Array (Option Value)} {oc_is_name kV_is_name dc_is_name pm_is_name cd_is_name ct_is_name : Value}
    (a_is_name : PySem.W.nsIn K mainGlobals "is_name" = some (some (.ref f_is_name))) (l_is_name : K.lookup f_is_name = some ⟨oc_is_name, od_is_name, .func (PySem.W.fnOf "is_name" "is_name" (defArgs s_is_name) (defBody s_is_name) (defScope s_is_name) .none kV_is_name dc_is_name pm_is_name an_is_name cd_is_name ct_is_name), sl_is_name⟩) (c_is_name : PySem.W.codeIn K cd_is_name "is_name" = true) (k_is_name : PySem.W.keepIn K (.ref f_is_name) = true)
    {f__law_dice : Addr} {od__law_dice an__law_dice : Option Addr} {sl__law_dice : Array (Option Value)} {oc__law_dice kV__law_dice dc__law_dice pm__law_dice cd__law_dice ct__law_dice : Value}
    (a__law_dice : PySem.W.nsIn K mainGlobals "_law_dice" = some (some (.ref f__law_dice))) (l__law_dice : K.lookup f__law_dice = some ⟨oc__law_dice, od__law_dice, .func (PySem.W.fnOf "_law_dice" "_law_dice" (defArgs s__law_dice) (defBody s__law_dice) (defScope s__law_dice) .none kV__law_dice dc__law_dice pm__law_dice an__law_dice cd__law_dice ct__law_dice), sl__law_dice⟩) (c__law_dice : PySem.W.codeIn K cd__law_dice "_law_dice" = true) (k__law_dice : PySem.W.keepIn K (.ref f__law_dice) = true)
    {f__law_roll : Addr} {od__law_roll an__law_roll : Option Addr} {sl__law_roll : Array (Option Value)} {oc__law_roll kV__law_roll dc__law_roll pm__law_roll cd__law_roll ct__law_roll : Value}
    (a__law_roll : PySem.W.nsIn K mainGlobals "_law_roll" = some (some (.ref f__law_roll))) (l__law_roll : K.lookup f__law_roll = some ⟨oc__law_roll, od__law_roll, .func (PySem.W.fnOf "_law_roll" "_law_roll" (defArgs s__law_roll) (defBody s__law_roll) (defScope s__law_roll) .none kV__law_roll dc__law_roll pm__law_roll an__law_roll cd__law_roll ct__law_roll), sl__law_roll⟩) (c__law_roll : PySem.W.codeIn K cd__law_roll "_law_roll" = true) (k__law_roll : PySem.W.keepIn K (.ref f__law_roll) = true)
    {f__law_raised : Addr} {od__law_raised an__law_raised : Option Addr} {sl__law_raised : Array (Option Value)} {oc__law_raised kV__law_raised dc__law_raised pm__law_raised cd__law_raised ct__law_raised : Value}
    (a__law_raised : PySem.W.nsIn K mainGlobals "_law_raised" = some (some (.ref f__law_raised))) (l__law_raised : K.lookup f__law_raised = some ⟨oc__law_raised, od__law_raised, .func (PySem.W.fnOf "_law_raised" "_law_raised" (defArgs s__law_raised) (defBody s__law_raised) (defScope s__law_raised) .none kV__law_raised dc__law_raised pm__law_raised an__law_raised cd__law_raised ct__law_raised), sl__law_raised⟩) (c__law_raised : PySem.W.codeIn K cd__law_raised "_law_raised" = true) (k__law_raised : PySem.W.keepIn K (.ref f__law_raised) = true)
    {f_is_within : Addr} {od_is_within an_is_within : Option Addr} {sl_is_within : Array (Option Value)} {oc_is_within kV_is_within dc_is_within pm_is_within cd_is_within ct_is_within : Value}
    (a_is_within : PySem.W.nsIn K mainGlobals "is_within" = some (some (.ref f_is_within))) (l_is_within : K.lookup f_is_within = some ⟨oc_is_within, od_is_within, .func (PySem.W.fnOf "is_within" "is_within" (defArgs s_is_within) (defBody s_is_within) (defScope s_is_within) .none kV_is_within dc_is_within pm_is_within an_is_within cd_is_within ct_is_within), sl_is_within⟩) (c_is_within : PySem.W.codeIn K cd_is_within "is_within" = true) (k_is_within : PySem.W.keepIn K (.ref f_is_within) = true)
    {f_is_prime : Addr} {od_is_prime an_is_prime : Option Addr} {sl_is_prime : Array (Option Value)} {oc_is_prime kV_is_prime dc_is_prime pm_is_prime cd_is_prime ct_is_prime : Value}
    (a_is_prime : PySem.W.nsIn K mainGlobals "is_prime" = some (some (.ref f_is_prime))) (l_is_prime : K.lookup f_is_prime = some ⟨oc_is_prime, od_is_prime, .func (PySem.W.fnOf "is_prime" "is_prime" (defArgs s_is_prime) (defBody s_is_prime) (defScope s_is_prime) .none kV_is_prime dc_is_prime pm_is_prime an_is_prime cd_is_prime ct_is_prime), sl_is_prime⟩) (c_is_prime : PySem.W.codeIn K cd_is_prime "is_prime" = true) (k_is_prime : PySem.W.keepIn K (.ref f_is_prime) = true)
    {f__law_pick : Addr} {od__law_pick an__law_pick : Option Addr} {sl__law_pick : Array (Option Value)} {oc__law_pick kV__law_pick dc__law_pick pm__law_pick cd__law_pick ct__law_pick : Value}
    (a__law_pick : PySem.W.nsIn K mainGlobals "_law_pick" = some (some (.ref f__law_pick))) (l__law_pick : K.lookup f__law_pick = some ⟨oc__law_pick, od__law_pick, .func (PySem.W.fnOf "_law_pick" "_law_pick" (defArgs s__law_pick) (defBody s__law_pick) (defScope s__law_pick) .none kV__law_pick dc__law_pick pm__law_pick an__law_pick cd__law_pick ct__law_pick), sl__law_pick⟩) (c__law_pick : PySem.W.codeIn K cd__law_pick "_law_pick" = true) (k__law_pick : PySem.W.keepIn K (.ref f__law_pick) = true)
    {f_check_prime : Addr} {od_check_prime an_check_prime : Option Addr} {sl_check_prime : Array (Option Value)} {oc_check_prime kV_check_prime dc_check_prime pm_check_prime cd_check_prime ct_check_prime : Value}
    (a_check_prime : PySem.W.nsIn K mainGlobals "check_prime" = some (some (.ref f_check_prime))) (l_check_prime : K.lookup f_check_prime = some ⟨oc_check_prime, od_check_prime, .func (PySem.W.fnOf "check_prime" "check_prime" (defArgs s_check_prime) (defBody s_check_prime) (defScope s_check_prime) .none kV_check_prime dc_check_prime pm_check_prime an_check_prime cd_check_prime ct_check_prime), sl_check_prime⟩) (c_check_prime : PySem.W.codeIn K cd_check_prime "check_prime" = true) (k_check_prime : PySem.W.keepIn K (.ref f_check_prime) = true)
    {f__law_integer_drawn : Addr} {od__law_integer_drawn an__law_integer_drawn : Option Addr} {sl__law_integer_drawn : Array (Option Value)} {oc__law_integer_drawn kV__law_integer_drawn dc__law_integer_drawn pm__law_integer_drawn cd__law_integer_drawn ct__law_integer_drawn : Value}
    (a__law_integer_drawn : PySem.W.nsIn K mainGlobals "_law_integer_drawn" = some (some (.ref f__law_integer_drawn))) (l__law_integer_drawn : K.lookup f__law_integer_drawn = some ⟨oc__law_integer_drawn, od__law_integer_drawn, .func (PySem.W.fnOf "_law_integer_drawn" "_law_integer_drawn" (defArgs s__law_integer_drawn) (defBody s__law_integer_drawn) (defScope s__law_integer_drawn) .none kV__law_integer_drawn dc__law_integer_drawn pm__law_integer_drawn an__law_integer_drawn cd__law_integer_drawn ct__law_integer_drawn), sl__law_integer_drawn⟩) (c__law_integer_drawn : PySem.W.codeIn K cd__law_integer_drawn "_law_integer_drawn" = true) (k__law_integer_drawn : PySem.W.keepIn K (.ref f__law_integer_drawn) = true)
    {f__law_name_drawn : Addr} {od__law_name_drawn an__law_name_drawn : Option Addr} {sl__law_name_drawn : Array (Option Value)} {oc__law_name_drawn kV__law_name_drawn dc__law_name_drawn pm__law_name_drawn cd__law_name_drawn ct__law_name_drawn : Value}
    (a__law_name_drawn : PySem.W.nsIn K mainGlobals "_law_name_drawn" = some (some (.ref f__law_name_drawn))) (l__law_name_drawn : K.lookup f__law_name_drawn = some ⟨oc__law_name_drawn, od__law_name_drawn, .func (PySem.W.fnOf "_law_name_drawn" "_law_name_drawn" (defArgs s__law_name_drawn) (defBody s__law_name_drawn) (defScope s__law_name_drawn) .none kV__law_name_drawn dc__law_name_drawn pm__law_name_drawn an__law_name_drawn cd__law_name_drawn ct__law_name_drawn), sl__law_name_drawn⟩) (c__law_name_drawn : PySem.W.codeIn K cd__law_name_drawn "_law_name_drawn" = true) (k__law_name_drawn : PySem.W.keepIn K (.ref f__law_name_drawn) = true)
    {f_is_residue : Addr} {od_is_residue an_is_residue : Option Addr} {sl_is_residue : Array (Option Value)} {oc_is_residue kV_is_residue dc_is_residue pm_is_residue cd_is_residue ct_is_residue : Value}
    (a_is_residue : PySem.W.nsIn K mainGlobals "is_residue" = some (some (.ref f_is_residue))) (l_is_residue : K.lookup f_is_residue = some ⟨oc_is_residue, od_is_residue, .func (PySem.W.fnOf "is_residue" "is_residue" (defArgs s_is_residue) (defBody s_is_residue) (defScope s_is_residue) .none kV_is_residue dc_is_residue pm_is_residue an_is_residue cd_is_residue ct_is_residue), sl_is_residue⟩) (c_is_residue : PySem.W.codeIn K cd_is_residue "is_residue" = true) (k_is_residue : PySem.W.keepIn K (.ref f_is_residue) = true)
    {f__law_is_refused : Addr} {od__law_is_refused an__law_is_refused : Option Addr} {sl__law_is_refused : Array (Option Value)} {oc__law_is_refused kV__law_is_refused dc__law_is_refused pm__law_is_refused cd__law_is_refused ct__law_is_refused : Value}
    (a__law_is_refused : PySem.W.nsIn K mainGlobals "_law_is_refused" = some (some (.ref f__law_is_refused))) (l__law_is_refused : K.lookup f__law_is_refused = some ⟨oc__law_is_refused, od__law_is_refused, .func (PySem.W.fnOf "_law_is_refused" "_law_is_refused" (defArgs s__law_is_refused) (defBody s__law_is_refused) (defScope s__law_is_refused) .none kV__law_is_refused dc__law_is_refused pm__law_is_refused an__law_is_refused cd__law_is_refused ct__law_is_refused), sl__law_is_refused⟩) (c__law_is_refused : PySem.W.codeIn K cd__law_is_refused "_law_is_refused" = true) (k__law_is_refused : PySem.W.keepIn K (.ref f__law_is_refused) = true)
    {f__law_right : Addr} {od__law_right an__law_right : Option Addr} {sl__law_right : Array (Option Value)} {oc__law_right kV__law_right dc__law_right pm__law_right cd__law_right ct__law_right : Value}
    (a__law_right : PySem.W.nsIn K mainGlobals "_law_right" = some (some (.ref f__law_right))) (l__law_right : K.lookup f__law_right = some ⟨oc__law_right, od__law_right, .func (PySem.W.fnOf "_law_right" "_law_right" (defArgs s__law_right) (defBody s__law_right) (defScope s__law_right) .none kV__law_right dc__law_right pm__law_right an__law_right cd__law_right ct__law_right), sl__law_right⟩) (c__law_right : PySem.W.codeIn K cd__law_right "_law_right" = true) (k__law_right : PySem.W.keepIn K (.ref f__law_right) = true)
    {f_law : Addr} {od_law an_law : Option Addr} {sl_law : Array (Option Value)} {oc_law kV_law dc_law pm_law cd_law ct_law : Value}
    (a_law : PySem.W.nsIn K mainGlobals "law" = some (some (.ref f_law))) (l_law : K.lookup f_law = some ⟨oc_law, od_law, .func (PySem.W.fnOf "law" "law" (defArgs s_law) (defBody s_law) (defScope s_law) .none kV_law dc_law pm_law an_law cd_law ct_law), sl_law⟩) (c_law : PySem.W.codeIn K cd_law "law" = true) (k_law : PySem.W.keepIn K (.ref f_law) = true)
    (z_isinstance : PySem.W.nsIn K mainGlobals "isinstance" = some none)
    (z_int : PySem.W.nsIn K mainGlobals "int" = some none)
    (z_bool : PySem.W.nsIn K mainGlobals "bool" = some none)
    (z_all : PySem.W.nsIn K mainGlobals "all" = some none)
    (z_len : PySem.W.nsIn K mainGlobals "len" = some none)
    (z_str : PySem.W.nsIn K mainGlobals "str" = some none)
    (z_abs : PySem.W.nsIn K mainGlobals "abs" = some none)
    (z_max : PySem.W.nsIn K mainGlobals "max" = some none)
    (z_range : PySem.W.nsIn K mainGlobals "range" = some none)
    (z_list : PySem.W.nsIn K mainGlobals "list" = some none)
    (z_min : PySem.W.nsIn K mainGlobals "min" = some none)
    {a_PRIMES : Addr}
    (gPRIMES : PySem.W.nsIn K mainGlobals "PRIMES" = some (some (.ref a_PRIMES)))
    {p1 p2 p3 p4 p5 p6 p7 p8 p9 p10 : Tok} {odP : Option Addr} {nP : Nat} {slP : Array (Option Value)} (lPRIMES : K.lookup a_PRIMES = some ⟨.type "tuple", odP, .seq #[.int 3 p1, .int 5 p2, .int 7 p3, .int 11 p4, .int 13 p5, .int 17 p6, .int 19 p7, .int 23 p8, .int 29 p9, .int 31 p10] nP, slP⟩)
    {t_MAX_INTEGER : Tok}
    (gMAX_INTEGER : PySem.W.nsIn K mainGlobals "MAX_INTEGER" = some (some (.int 999999999999999999999999999999999999999999999999999999999999 t_MAX_INTEGER)))
    {t_MAX_LETTERS : Tok}
    (gMAX_LETTERS : PySem.W.nsIn K mainGlobals "MAX_LETTERS" = some (some (.int 8 t_MAX_LETTERS)))
    {t_MAX_FACTORED : Tok}
    (gMAX_FACTORED : PySem.W.nsIn K mainGlobals "MAX_FACTORED" = some (some (.int 1000000000000 t_MAX_FACTORED)))
    {c_InvalidPrime : Addr}
    (gInvalidPrime : PySem.W.nsIn K mainGlobals "InvalidPrime" = some (some (.ref c_InvalidPrime)))
    (xInvalidPrime : PySem.W.excIn K c_InvalidPrime [.type "ValueError", .type "Exception", .type "BaseException", .type "object"] "ValueError.__new__" = true)
    (kInvalidPrime : PySem.W.keepIn K (.ref c_InvalidPrime) = true)
    (sInvalidPrime : PySem.W.subIn K (.ref c_InvalidPrime) (.type "BaseException") = some true)
    (tInvalidPrime : PySem.W.typeIn K (.ref c_InvalidPrime) = some (.type "type"))
    (iInvalidPrime : PySem.W.isClsIn K c_InvalidPrime = true) (ssInvalidPrime : PySem.W.subIn K (.ref c_InvalidPrime) (.ref c_InvalidPrime) = some true) :
    ∃ fd : FuncData, (∀ (s : Shared) (v : Value), BindsTo s fd ⟨[v], []⟩ [("_law_script", v)]) ∧ ∀ base : Heap, K.In base → base.Ns mainGlobals mg → FnOk l.prog w K mg base CX0 7 fa fd ["_law_script"] (sp_law K) := by
  have e := hfa.symm.trans (PySem.W.mg_of X G a_law)
  cases e
  exact ⟨PySem.W.fnOf "law" "law" (defArgs s_law) (defBody s_law) (defScope s_law) .none kV_law dc_law pm_law an_law cd_law ct_law, fun s v => .of_eq rfl, fun base _ _ => ok_law
    {
      f_is_integer := _,
      fd_is_integer := _,
      F_is_integer := fun_mk (st := s_is_integer) l_is_integer c_is_integer k_is_integer,
      b_is_integer := (fun_mk (st := s_is_integer) l_is_integer c_is_integer k_is_integer).binds (ps := ["value"]) (fun _ _ _ _ _ _ us hl => match us, hl with | [_], _ => rfl),
      g_is_integer := PySem.W.mg_of X G a_is_integer,
      f_is_name := _,
      fd_is_name := _,
      F_is_name := fun_mk (st := s_is_name) l_is_name c_is_name k_is_name,
      b_is_name := (fun_mk (st := s_is_name) l_is_name c_is_name k_is_name).binds (ps := ["value"]) (fun _ _ _ _ _ _ us hl => match us, hl with | [_], _ => rfl),
      g_is_name := PySem.W.mg_of X G a_is_name,
      f__law_dice := _,
      fd__law_dice := _,
      F__law_dice := fun_mk (st := s__law_dice) l__law_dice c__law_dice k__law_dice,
      b__law_dice := (fun_mk (st := s__law_dice) l__law_dice c__law_dice k__law_dice).binds (ps := ["_law_script", "_law_spot"]) (fun _ _ _ _ _ _ us hl => match us, hl with | [_, _], _ => rfl),
      g__law_dice := PySem.W.mg_of X G a__law_dice,
      f__law_roll := _,
      fd__law_roll := _,
      F__law_roll := fun_mk (st := s__law_roll) l__law_roll c__law_roll k__law_roll,
      b__law_roll := (fun_mk (st := s__law_roll) l__law_roll c__law_roll k__law_roll).binds (ps := ["_law_dice_here", "_law_total"]) (fun _ _ _ _ _ _ us hl => match us, hl with | [_, _], _ => rfl),
      g__law_roll := PySem.W.mg_of X G a__law_roll,
      f__law_raised := _,
      fd__law_raised := _,
      F__law_raised := fun_mk (st := s__law_raised) l__law_raised c__law_raised k__law_raised,
      b__law_raised := (fun_mk (st := s__law_raised) l__law_raised c__law_raised k__law_raised).binds (ps := ["_law_base", "_law_times"]) (fun _ _ _ _ _ _ us hl => match us, hl with | [_, _], _ => rfl),
      g__law_raised := PySem.W.mg_of X G a__law_raised,
      f_is_within := _,
      fd_is_within := _,
      F_is_within := fun_mk (st := s_is_within) l_is_within c_is_within k_is_within,
      b_is_within := (fun_mk (st := s_is_within) l_is_within c_is_within k_is_within).binds (ps := ["value", "low", "high"]) (fun _ _ _ _ _ _ us hl => match us, hl with | [_, _, _], _ => rfl),
      g_is_within := PySem.W.mg_of X G a_is_within,
      f_is_prime := _,
      fd_is_prime := _,
      F_is_prime := fun_mk (st := s_is_prime) l_is_prime c_is_prime k_is_prime,
      b_is_prime := (fun_mk (st := s_is_prime) l_is_prime c_is_prime k_is_prime).binds (ps := ["value"]) (fun _ _ _ _ _ _ us hl => match us, hl with | [_], _ => rfl),
      g_is_prime := PySem.W.mg_of X G a_is_prime,
      f__law_pick := _,
      fd__law_pick := _,
      F__law_pick := fun_mk (st := s__law_pick) l__law_pick c__law_pick k__law_pick,
      b__law_pick := (fun_mk (st := s__law_pick) l__law_pick c__law_pick k__law_pick).binds (ps := ["_law_dice_here", "_law_items"]) (fun _ _ _ _ _ _ us hl => match us, hl with | [_, _], _ => rfl),
      g__law_pick := PySem.W.mg_of X G a__law_pick,
      f_check_prime := _,
      fd_check_prime := _,
      F_check_prime := fun_mk (st := s_check_prime) l_check_prime c_check_prime k_check_prime,
      b_check_prime := (fun_mk (st := s_check_prime) l_check_prime c_check_prime k_check_prime).binds (ps := ["prime"]) (fun _ _ _ _ _ _ us hl => match us, hl with | [_], _ => rfl),
      g_check_prime := PySem.W.mg_of X G a_check_prime,
      f__law_integer_drawn := _,
      fd__law_integer_drawn := _,
      F__law_integer_drawn := fun_mk (st := s__law_integer_drawn) l__law_integer_drawn c__law_integer_drawn k__law_integer_drawn,
      b__law_integer_drawn := (fun_mk (st := s__law_integer_drawn) l__law_integer_drawn c__law_integer_drawn k__law_integer_drawn).binds (ps := ["_law_dice_here"]) (fun _ _ _ _ _ _ us hl => match us, hl with | [_], _ => rfl),
      g__law_integer_drawn := PySem.W.mg_of X G a__law_integer_drawn,
      f__law_name_drawn := _,
      fd__law_name_drawn := _,
      F__law_name_drawn := fun_mk (st := s__law_name_drawn) l__law_name_drawn c__law_name_drawn k__law_name_drawn,
      b__law_name_drawn := (fun_mk (st := s__law_name_drawn) l__law_name_drawn c__law_name_drawn k__law_name_drawn).binds (ps := ["_law_dice_here"]) (fun _ _ _ _ _ _ us hl => match us, hl with | [_], _ => rfl),
      g__law_name_drawn := PySem.W.mg_of X G a__law_name_drawn,
      f_is_residue := _,
      fd_is_residue := _,
      F_is_residue := fun_mk (st := s_is_residue) l_is_residue c_is_residue k_is_residue,
      b_is_residue := (fun_mk (st := s_is_residue) l_is_residue c_is_residue k_is_residue).binds (ps := ["prime", "value"]) (fun _ _ _ _ _ _ us hl => match us, hl with | [_, _], _ => rfl),
      g_is_residue := PySem.W.mg_of X G a_is_residue,
      f__law_is_refused := _,
      fd__law_is_refused := _,
      F__law_is_refused := fun_mk (st := s__law_is_refused) l__law_is_refused c__law_is_refused k__law_is_refused,
      b__law_is_refused := (fun_mk (st := s__law_is_refused) l__law_is_refused c__law_is_refused k__law_is_refused).binds (ps := ["_law_prime", "_law_value"]) (fun _ _ _ _ _ _ us hl => match us, hl with | [_, _], _ => rfl),
      g__law_is_refused := PySem.W.mg_of X G a__law_is_refused,
      f__law_right := _,
      fd__law_right := _,
      F__law_right := fun_mk (st := s__law_right) l__law_right c__law_right k__law_right,
      b__law_right := (fun_mk (st := s__law_right) l__law_right c__law_right k__law_right).binds (ps := ["_law_dice_here"]) (fun _ _ _ _ _ _ us hl => match us, hl with | [_], _ => rfl),
      g__law_right := PySem.W.mg_of X G a__law_right,
      f_law := _,
      fd_law := _,
      F_law := fun_mk (st := s_law) l_law c_law k_law,
      b_law := (fun_mk (st := s_law) l_law c_law k_law).binds (ps := ["_law_script"]) (fun _ _ _ _ _ _ us hl => match us, hl with | [_], _ => rfl),
      g_law := PySem.W.mg_of X G a_law,
      z_isinstance := PySem.W.mg_none_of X G z_isinstance,
      z_int := PySem.W.mg_none_of X G z_int,
      z_bool := PySem.W.mg_none_of X G z_bool,
      z_all := PySem.W.mg_none_of X G z_all,
      z_len := PySem.W.mg_none_of X G z_len,
      z_str := PySem.W.mg_none_of X G z_str,
      z_abs := PySem.W.mg_none_of X G z_abs,
      z_max := PySem.W.mg_none_of X G z_max,
      z_range := PySem.W.mg_none_of X G z_range,
      z_list := PySem.W.mg_none_of X G z_list,
      z_min := PySem.W.mg_none_of X G z_min,
      a_PRIMES := a_PRIMES,
      g_PRIMES := PySem.W.mg_of X G gPRIMES,
      q_PRIMES := fun H => .inr ⟨_, _, _, lPRIMES, rfl, rfl, (by show 10 ≤ sizeLine; decide), by repeat (first | exact .nil | refine .cons ⟨_, rfl⟩ ?_)⟩,
      t_MAX_INTEGER := t_MAX_INTEGER,
      g_MAX_INTEGER := PySem.W.mg_of X G gMAX_INTEGER,
      t_MAX_LETTERS := t_MAX_LETTERS,
      g_MAX_LETTERS := PySem.W.mg_of X G gMAX_LETTERS,
      t_MAX_FACTORED := t_MAX_FACTORED,
      g_MAX_FACTORED := PySem.W.mg_of X G gMAX_FACTORED,
      c_InvalidPrime := c_InvalidPrime,
      g_InvalidPrime := PySem.W.mg_of X G gInvalidPrime,
      x_InvalidPrime := xInvalidPrime,
      k_InvalidPrime := kInvalidPrime,
      s_InvalidPrime := sInvalidPrime,
      t_InvalidPrime := tInvalidPrime,
      e_InvalidPrime := exm_of sInvalidPrime iInvalidPrime tInvalidPrime ssInvalidPrime }⟩
end
end K00
open PySem PySem.W PyProof.Rows
set_option maxRecDepth 100000 in
set_option maxHeartbeats 0 in
theorem PySem.Challenge.cw_twinsheets_k00_words_and_primes_holds : PySem.Challenge.rw_twinsheets_k00_words_and_primes.Holds := by
  w_on; o_law; k_head; (case hw => w_witness2)
  k_fill
  refine L2.walk_of (l := PySem.Challenge.rw_twinsheets_k00_words_and_primes) (n := 63) (k := 7) (x := "_law_script") (CX := fun _ => L2.CX0) (sp := fun w => K00.sp_law _) rfl (by decide) rfl ⟨rfl, by decide, by decide⟩ (fun w h Y => PySem.W.kIn_of Y) ?F (fun _ _ a ns hl _ hS => ⟨a, ns, rfl, hS, hl, fun _ => rfl⟩) (fun _ _ _ _ _ h => h)
  case F =>
    intro w mg fa h KX G hmg
    refine' K00.all_mk KX G hmg ?a_is_integer ?l_is_integer ?c_is_integer ?k_is_integer ?a_is_name ?l_is_name ?c_is_name ?k_is_name ?a__law_dice ?l__law_dice ?c__law_dice ?k__law_dice ?a__law_roll ?l__law_roll ?c__law_roll ?k__law_roll ?a__law_raised ?l__law_raised ?c__law_raised ?k__law_raised ?a_is_within ?l_is_within ?c_is_within ?k_is_within ?a_is_prime ?l_is_prime ?c_is_prime ?k_is_prime ?a__law_pick ?l__law_pick ?c__law_pick ?k__law_pick ?a_check_prime ?l_check_prime ?c_check_prime ?k_check_prime ?a__law_integer_drawn ?l__law_integer_drawn ?c__law_integer_drawn ?k__law_integer_drawn ?a__law_name_drawn ?l__law_name_drawn ?c__law_name_drawn ?k__law_name_drawn ?a_is_residue ?l_is_residue ?c_is_residue ?k_is_residue ?a__law_is_refused ?l__law_is_refused ?c__law_is_refused ?k__law_is_refused ?a__law_right ?l__law_right ?c__law_right ?k__law_right ?a_law ?l_law ?c_law ?k_law ?z_isinstance ?z_int ?z_bool ?z_all ?z_len ?z_str ?z_abs ?z_max ?z_range ?z_list ?z_min ?gPRIMES ?lPRIMES ?gMAX_INTEGER ?gMAX_LETTERS ?gMAX_FACTORED ?gInvalidPrime ?xInvalidPrime ?kInvalidPrime ?sInvalidPrime ?tInvalidPrime ?iInvalidPrime ?ssInvalidPrime
    (case a_is_integer => k_is)
    (case l_is_integer => k_is)
    (case c_is_integer => k_is)
    (case k_is_integer => k_is)
    (case a_is_name => k_is)
    (case l_is_name => k_is)
    (case c_is_name => k_is)
    (case k_is_name => k_is)
    (case a__law_dice => k_is)
    (case l__law_dice => k_is)
    (case c__law_dice => k_is)
    (case k__law_dice => k_is)
    (case a__law_roll => k_is)
    (case l__law_roll => k_is)
    (case c__law_roll => k_is)
    (case k__law_roll => k_is)
    (case a__law_raised => k_is)
    (case l__law_raised => k_is)
    (case c__law_raised => k_is)
    (case k__law_raised => k_is)
    (case a_is_within => k_is)
    (case l_is_within => k_is)
    (case c_is_within => k_is)
    (case k_is_within => k_is)
    (case a_is_prime => k_is)
    (case l_is_prime => k_is)
    (case c_is_prime => k_is)
    (case k_is_prime => k_is)
    (case a__law_pick => k_is)
    (case l__law_pick => k_is)
    (case c__law_pick => k_is)
    (case k__law_pick => k_is)
    (case a_check_prime => k_is)
    (case l_check_prime => k_is)
    (case c_check_prime => k_is)
    (case k_check_prime => k_is)
    (case a__law_integer_drawn => k_is)
    (case l__law_integer_drawn => k_is)
    (case c__law_integer_drawn => k_is)
    (case k__law_integer_drawn => k_is)
    (case a__law_name_drawn => k_is)
    (case l__law_name_drawn => k_is)
    (case c__law_name_drawn => k_is)
    (case k__law_name_drawn => k_is)
    (case a_is_residue => k_is)
    (case l_is_residue => k_is)
    (case c_is_residue => k_is)
    (case k_is_residue => k_is)
    (case a__law_is_refused => k_is)
    (case l__law_is_refused => k_is)
    (case c__law_is_refused => k_is)
    (case k__law_is_refused => k_is)
    (case a__law_right => k_is)
    (case l__law_right => k_is)
    (case c__law_right => k_is)
    (case k__law_right => k_is)
    (case a_law => k_is)
    (case l_law => k_is)
    (case c_law => k_is)
    (case k_law => k_is)
    (case z_isinstance => k_is)
    (case z_int => k_is)
    (case z_bool => k_is)
    (case z_all => k_is)
    (case z_len => k_is)
    (case z_str => k_is)
    (case z_abs => k_is)
    (case z_max => k_is)
    (case z_range => k_is)
    (case z_list => k_is)
    (case z_min => k_is)
    (case gPRIMES => k_is)
    (case lPRIMES => k_is)
    (case gMAX_INTEGER => k_is)
    (case gMAX_LETTERS => k_is)
    (case gMAX_FACTORED => k_is)
    (case gInvalidPrime => k_is)
    (case xInvalidPrime => k_exc)
    (case kInvalidPrime => k_is)
    (case sInvalidPrime => k_is)
    (case tInvalidPrime => k_is)
    (case iInvalidPrime => k_is)
    (case ssInvalidPrime => k_is)
