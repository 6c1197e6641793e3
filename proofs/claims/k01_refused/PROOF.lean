import PyProof.Rows.All
import Wide.All
import OpenK.AllK
import Wide.FinOn
import KE.KStateDown
import Lean
import HandS.ForMost
import HandS.SortInts
import HandS.SetFor
import HandS.Wide
import HandS.Defaults
import HandS.IsInst
import HandS.CallLocal
import HandS.More
import HandS.Codes
import HandS.Sort
import HandS.Head0
import HandS.Head1
import HandS.Head2
import HandS.HeadEnd
import HandS.HeadHook1
import HandS.HeadHook2
import HandS.HeadHook3
import HandS.Walk
import KE.KExcSuper
import HandS.Exc
import HandS.ExcInit
import HandS.FStr
import HandS.ExcSuper
import HandS.ExcCtx
import HandS.ExcIs
import HandS.ExcField
import HandS.HotCalls
import KE.KExcIs
import HandS.Nested
import HandS.EndTab
import KE.KDflt
import KE.DataMinMax
import HandS.RevRange
import HandS.Style
import KE.KDictZip
import KE.KTurns
import KE.KItemsList
import PyProof.ListNew
import HandS.ListItems
import HandS.Rev
import HandS.CallRecv
import HandS.HeadWalk
import HandS.HeadHook4
import PySem.Challenge.RW_clockhand_k01_refused
set_option Elab.async false
set_option linter.all false
set_option maxRecDepth 100000
set_option maxHeartbeats 0
/-! Clockhand: the shared ground of its laws: where a def stands, heaps, the box of the draws. -/
namespace CK
open PySem PySem.Spec PyProof.Rows L2
def top (i : Nat) : Stmt := PySem.Challenge.pw_clockhand_k01_refused.main.body.getD i (.Pass ⟨0, 0, 0, 0⟩)

/-- a def of the text, behind the top -/
structure DAt (K : PySem.W.Frag) (mg : Str → Option Value) (x : Str) (st : Stmt) (ps : List Str) where
  f : Addr
  fd : FuncData
  fn : FunD K x x (defArgs st) (defBody st) (defScope st) [] [] f fd
  bd : Binds K fd ps []
  g : mg x = some (.ref f)
/-- a method of the class at C -/
structure MAt (K : PySem.W.Frag) (C : Addr) (x q : Str) (st : Stmt) (ps : List Str) where
  f : Addr
  fd : FuncData
  fn : FunD K x q (defArgs st) (defBody st) (defScope st) [] [] f fd
  bd : Binds K fd ps []
  me : Meth K C x f

/-! ### the head's look, by one more Bool -/
def obsX (n : Nat) (fa : List He.Fa) (fn : List He.DefD) (ts : List He.Tab) (xt : PySem.W.Frag → Bool) (g : Addr → Option Obj) : He.AlT × Bool := (He.obsTG n fa fn ts g, xt (He.frG g (He.asD g n)))
def hookX (n : Nat) (fa : List He.Fa) (fn : List He.DefD) (ts : List He.Tab) (xt : PySem.W.Frag → Bool) : PySem.W.Hook where
  α := He.AlT × Bool
  obs := fun s => obsX n fa fn ts xt s.heap.get?
  val := fun w => (He.valT fn ts w, true)
  says := fun w h => ∃ K : PySem.W.Frag, K.In h ∧ He.SaysT fa fn ts w K ∧ xt K = true
  of := fun _ _ e => ⟨_, He.frG_in, congrArg Prod.fst e, congrArg Prod.snd e⟩
  keeps := fun _ _ _ ⟨K, hK, c⟩ k => ⟨K, PySem.W.Frag.In.keeps hK k, c⟩
theorem obsX_eq {n : Nat} {fa : List He.Fa} {fn : List He.DefD} {ts : List He.Tab} {xt : PySem.W.Frag → Bool} {g : Addr → Option Obj} {s : Shared} (h : ∀ a, g a = s.heap.get? a) : obsX n fa fn ts xt g = (hookX n fa fn ts xt).obs s := by
  have e : g = s.heap.get? := funext h
  rw [e] <;> rfl
/-! ### where all stands behind the top -/
structure DialAt (K : PySem.W.Frag) (mg : Str → Option Value) where
  C : Addr
  cl : Cls K C
  g : mg "Dial" = some (.ref C)
  n_hand : NoAttr K C "_hand"
  n_held : NoAttr K C "_held"
  n_lacks : NoAttr K C "_lacks"
  n_marks : NoAttr K C "_marks"
  init : MAt K C "__init__" "Dial.__init__" (inClass (top 16) 0) ["self", "rooms"]
  ask : MAt K C "ask" "Dial.ask" (inClass (top 16) 1) ["self", "page"]
  pages : MAt K C "pages" "Dial.pages" (inClass (top 16) 2) ["self"]
  looked : MAt K C "looked" "Dial.looked" (inClass (top 16) 3) ["self"]
  points : MAt K C "points" "Dial.points" (inClass (top 16) 4) ["self"]
  pass_marked : MAt K C "_pass_marked" "Dial._pass_marked" (inClass (top 16) 6) ["self"]
  exchange : MAt K C "_exchange" "Dial._exchange" (inClass (top 16) 7) ["self", "page"]
  go_on : MAt K C "_go_on" "Dial._go_on" (inClass (top 16) 8) ["self"]
  mkr : Mk K C init.f
  bI : Binds K init.fd ["self", "rooms"] []
structure Prog (K : PySem.W.Frag) (mg : Str → Option Value) where
  check_rooms : DAt K mg "check_rooms" (top 11) ["rooms"]
  is_page : DAt K mg "is_page" (top 12) ["page"]
  check_page : DAt K mg "check_page" (top 13) ["page"]
  check_row : DAt K mg "check_row" (top 14) ["row"]
  told : DAt K mg "told" (top 17) ["rooms", "row"]
  spells : DAt K mg "spells" (top 19) ["row"]
  shown : DAt K mg "shown" (top 20) ["rooms", "row", "places"]
  paper : DAt K mg "paper" (top 21) ["rooms", "row"]
  find_spells : DAt K mg "find_spells" (top 22) ["row"]
  check_paper : DAt K mg "_check_paper" (top 23) ["row", "places"]
  has_within : DAt K mg "_has_within" (top 24) ["spell", "places"]
  cheapest_step : DAt K mg "_cheapest_step" (top 25) ["stop", "ends", "least"]
  way_back : DAt K mg "_way_back" (top 26) ["ahead"]
  best : DAt K mg "best" (top 28) ["rooms", "row"]
  find_best : DAt K mg "find_best" (top 29) ["rooms", "row"]
  farthest : DAt K mg "_farthest" (top 30) ["there"]
  by_hand : DAt K mg "_by_hand" (top 32) ["rooms", "row"]
  by_unseen : DAt K mg "_by_unseen" (top 33) ["rooms", "row"]
  by_first : DAt K mg "_by_first" (top 34) ["rooms", "row"]
  by_line : DAt K mg "_by_line" (top 35) ["rooms", "row", "renewed"]
  check_rule : DAt K mg "check_rule" (top 37) ["rule"]
  lacking : DAt K mg "lacking" (top 38) ["rooms", "row", "rule"]
  find_lacks : DAt K mg "find_lacks" (top 39) ["rooms", "row", "rule"]
  stretches : DAt K mg "stretches" (top 41) ["rooms", "row"]
  lacking_in : DAt K mg "lacking_in" (top 42) ["rooms", "row", "rule"]
  begins : DAt K mg "_begins" (top 43) ["rooms", "row"]
  worst : DAt K mg "worst" (top 47) ["rooms", "pages", "long", "rule"]
  check_size : DAt K mg "_check_size" (top 48) ["pages", "long"]
  are_too_many : DAt K mg "_are_too_many" (top 49) ["pages", "long"]
  all_rows : DAt K mg "_all_rows" (top 50) ["pages", "long"]
  more_lacks : DAt K mg "_more_lacks" (top 51) ["rooms", "row", "rule"]
  law_begun : DAt K mg "_law_begun" (top 53) ["_law_script"]
  law_take : DAt K mg "_law_take" (top 54) ["_law_box", "_law_many"]
  law_alike : DAt K mg "_law_alike" (top 55) ["_law_found", "_law_due"]
  law_class : DAt K mg "_law_class" (top 56) ["_law_e"]
  law_row : DAt K mg "_law_row" (top 57) ["_law_box", "_law_most"]
  law_refused : DAt K mg "_law_refused" (top 58) ["_law_work"]
  law_all : DAt K mg "_law_all" (top 59) ["_law_works_here", "_law_due"]
  law_works : DAt K mg "_law_works" (top 60) ["_law_rooms", "_law_row_here", "_law_rule", "_law_places"]
  Dial : DialAt K mg
  t_MOST_ROOMS : Tok
  g_MOST_ROOMS : mg "MOST_ROOMS" = some (.int 8 t_MOST_ROOMS)
  t_PAGES : Tok
  g_PAGES : mg "PAGES" = some (.int 12 t_PAGES)
  t_MOST_ASKS : Tok
  g_MOST_ASKS : mg "MOST_ASKS" = some (.int 100 t_MOST_ASKS)
  t_MOST_ROWS : Tok
  g_MOST_ROWS : mg "MOST_ROWS" = some (.int 5000 t_MOST_ROWS)
  t_LONGEST : Tok
  g_LONGEST : mg "LONGEST" = some (.int 5000 t_LONGEST)
  any : mg "any" = none
  bool_ : mg "bool" = none
  dict_ : mg "dict" = none
  enumerate : mg "enumerate" = none
  int_ : mg "int" = none
  isinstance : mg "isinstance" = none
  len : mg "len" = none
  list_ : mg "list" = none
  max : mg "max" = none
  min : mg "min" = none
  range : mg "range" = none
  reversed : mg "reversed" = none
  str_ : mg "str" = none
  tuple_ : mg "tuple" = none
  zip : mg "zip" = none
  a_RULES : Addr
  g_RULES : mg "RULES" = some (.ref a_RULES)
  r_RULES_hand : ∃ u, PySem.W.nsIn K a_RULES "hand" = some (some u) ∧ RelV (.ref by_hand.f) u
  r_RULES_unseen : ∃ u, PySem.W.nsIn K a_RULES "unseen" = some (some u) ∧ RelV (.ref by_unseen.f) u
  r_RULES_first : ∃ u, PySem.W.nsIn K a_RULES "first" = some (some u) ∧ RelV (.ref by_first.f) u
  m_RULES : ∀ z ∈ (["far", "", "Hand", "seen", "handunseen", "last"] : List Str), PySem.W.nsIn K a_RULES z = some none

/-! ### heaps -/
/-- all that H knows stands in H' as it stood, but for what stands at the places S -/
def But (S : List Addr) (H H' : Hp) : Prop := ∀ b o, H b = some o → b ∉ S → H' b = some o
theorem But.refl (S : List Addr) (H : Hp) : But S H H := fun _ _ h _ => h
theorem But.trans {S : List Addr} {H H1 H2 : Hp} (a : But S H H1) (b : But S H1 H2) : But S H H2 := fun c o h n => b c o (a c o h n) n
theorem But.mono {S T : List Addr} {H H1 : Hp} (a : But S H H1) (h : ∀ x, x ∈ S → x ∈ T) : But T H H1 := fun c o e n => a c o e fun z => n (h c z)
theorem But.same {H H1 : Hp} (a : But [] H H1) : Same H H1 := fun c o e => a c o e (by simp)
theorem But.of {S : List Addr} {H H1 : Hp} (a : Same H H1) : But S H H1 := fun c o e _ => a c o e
theorem But.new {S : List Addr} {H : Hp} {p : Addr} {o : HO} (h : H p = none) : But S H (upd H p o) := fun b u e _ => by
  rw [upd_ne (ne_of_none e h)]
  exact e
theorem But.put {S : List Addr} {H : Hp} {p : Addr} {o : HO} (h : p ∈ S) : But S H (upd H p o) := fun b u e n => by
  rw [upd_ne (fun z => n (by rw [z]; exact h))]
  exact e
/-- a place that H did not know may change -/
theorem But.free {S : List Addr} {p : Addr} {H H' : Hp} (a : But (p :: S) H H') (h : H p = none) : But S H H' := fun b o e n => a b o e fun z => by
  rcases List.mem_cons.mp z with z | z
  · rw [z, h] at e
    cases e
  · exact n z
theorem But.at {S : List Addr} {H H' : Hp} (a : But S H H') {b : Addr} {o : HO} (e : H b = some o) (n : b ∉ S := by first | assumption | simp) : H' b = some o := a b o e n
/-- what is new behind was free ahead, if it isn't of S -/
theorem But.back {S : List Addr} {H H' : Hp} (a : But S H H') {p : Addr} (h : H' p = none) (n : p ∉ S) : H p = none := by
  cases e : H p with
  | none => rfl
  | some o => rw [a p o e n] at h; cases h
theorem Same.new {H : Hp} {p : Addr} {o : HO} (h : H p = none) : Same H (upd H p o) := fun b u e => by
  rw [upd_ne (ne_of_none e h)]
  exact e
theorem Same.back {H H' : Hp} (a : Same H H') {p : Addr} (h : H' p = none) : H p = none := by
  cases e : H p with
  | none => rfl
  | some o => rw [a p o e] at h; cases h
theorem Same.put {H H' : Hp} {p : Addr} {o : HO} (a : Same H H') (h : H p = none) : Same H (upd H' p o) := fun b u e => by
  rw [upd_ne (ne_of_none e h)]
  exact a b u e
theorem ne_fresh {H : Hp} {a b : Addr} {o : HO} (h : H a = some o) (h' : H b = none) : a ≠ b := ne_of_none h h'

/-! ### lists of ints -/
abbrev il (ns : List Int) : List V := ns.map V.int
theorem il_at {ns : List Int} {j : Nat} {n : Int} (h : ns[j]? = some n) : (il ns)[j]? = some (V.int n) := by
  rw [List.getElem?_map, h]
  rfl
theorem il_set {ns : List Int} {j : Nat} {n : Int} : (il ns).set j (V.int n) = il (ns.set j n) := by
  show (ns.map V.int).set j (V.int n) = (ns.set j n).map V.int
  rw [List.map_set]
theorem il_get {ns : List Int} {j : Nat} {y : V} (h : (il ns)[j]? = some y) : ∃ n, ns[j]? = some n ∧ y = V.int n := by
  rw [List.getElem?_map] at h
  cases e : ns[j]? with
  | none => rw [e] at h; cases h
  | some n => rw [e] at h; exact ⟨n, rfl, (Option.some.inj h).symm⟩
theorem il_snoc {ns : List Int} {n : Int} : il ns ++ [V.int n] = il (ns ++ [n]) := by
  show ns.map V.int ++ [V.int n] = (ns ++ [n]).map V.int
  rw [List.map_append]
  rfl
theorem il_app {ns ms : List Int} : il ns ++ il ms = il (ns ++ ms) := by
  show ns.map V.int ++ ms.map V.int = (ns ++ ms).map V.int
  rw [List.map_append]
theorem il_len {ns : List Int} : (il ns).length = ns.length := List.length_map _
theorem flat_il (ns : List Int) : (il ns).all flatV = true := by
  rw [List.all_eq_true]
  intro x hx
  obtain ⟨n, _, rfl⟩ := List.mem_map.mp hx
  rfl
theorem inV_il (n : Int) (ns : List Int) : inV (V.int n) (il ns) = decide (n ∈ ns) := by
  induction ns with
  | nil => rfl
  | cons a r ih =>
    show (eqV (V.int a) (V.int n) || inV (V.int n) (il r)) = _
    rw [ih]
    have e : eqV (V.int a) (V.int n) = decide (a = n) := by
      first
        | rfl
        | (simp [eqV])
    rw [e]
    by_cases h : a = n
    · simp [h]
    · have h2 : ¬ n = a := fun z => h z.symm
      simp [h, h2]
/-! ### data that is read -/
def pd (ns : List Int) : PyData := .list (ns.map PyData.int)
theorem dp_all (K : PySem.W.Frag) (H : Hp) : ∀ ns : List Int, DpAll K H (il ns) (ns.map PyData.int)
  | [] => .nil
  | _ :: r => .cons (.int _) (dp_all K H r)
theorem dp_il {K : PySem.W.Frag} {H : Hp} {a : Addr} {ns : List Int} (h : SqL K H a (il ns)) : Dp K H (.ref a) (pd ns) := .lst h (dp_all K H ns)
theorem eqv_pd : ∀ a b : List Int, PyData.eqvAll (a.map PyData.int) (b.map PyData.int) = decide (a = b)
  | [], [] => rfl
  | [], _ :: _ => rfl
  | _ :: _, [] => rfl
  | x :: r, y :: s => by
    show ((x == y) && PyData.eqvAll (r.map PyData.int) (s.map PyData.int)) = _
    rw [eqv_pd r s]
    by_cases h : x = y
    · by_cases h2 : r = s
      · simp [h, h2]
      · simp [h, h2]
    · simp [h]
theorem eqv_il (a b : List Int) : PyData.eqv (pd a) (pd b) = decide (a = b) := eqv_pd a b
theorem lay_il : ∀ a : List Int, PyData.canLayAll0 (a.map PyData.int) = true
  | [] => rfl
  | _ :: r => by
    show (true && PyData.canLayAll0 (r.map PyData.int)) = true
    rw [lay_il r]
    rfl
theorem dep_il : ∀ a : List Int, PyData.depthAll (a.map PyData.int) = 0
  | [] => rfl
  | _ :: r => by
    show max 0 (PyData.depthAll (r.map PyData.int)) = 0
    rw [dep_il r]
    rfl
theorem shaped_il (a : List Int) : SeqAt.shaped (pd a) = true := by
  unfold SeqAt.shaped pd
  rw [Bool.and_eq_true]
  constructor
  · show PyData.canLayAll0 _ = true
    exact lay_il a
  · apply decide_eq_true
    show PyData.depthAll _ + 1 ≤ 64
    rw [dep_il a]
    decide
theorem sz {n : Nat} (h : n ≤ 100000) : n ≤ sizeLine := Nat.le_trans h (by decide)
theorem szl {n : Nat} (h : n < 100000) : n < sizeLine := Nat.lt_of_lt_of_le h (by decide)

theorem ixn {n : Nat} {i : Int} {j : Nat} (e : i = (j : Int)) (h : j < n) : ixN n i = some j := by
  unfold ixN
  rw [if_pos (by omega), if_pos (by omega), e]
  rfl
theorem seq_ix {n : Nat} {i : Int} {j : Nat} (e : i = (j : Int)) (h : j < n) : seqIndex? i n = some j := (ixN_seq (ixn e h)).1
theorem szd {n : Nat} (h : Nat.ble n 1000 = true) : n ≤ sizeLine := Nat.le_trans (Nat.le_of_ble_eq_true h) (by decide)
theorem il_menu {xs : List Int} {r : Int} (h0 : 0 ≤ r) (h1 : r < xs.length) : ∃ v, v ∈ xs ∧ atI (il xs) r = some (V.int v) := by
  obtain ⟨j, rfl⟩ : ∃ j : Nat, r = (j : Int) := ⟨r.toNat, by omega⟩
  have hj : j < xs.length := by omega
  exact ⟨xs[j], List.getElem_mem hj, atI_nat (il_at (List.getElem?_eq_getElem hj))⟩
theorem il_last {xs : List Int} (h : xs ≠ []) : ∃ v, v ∈ xs ∧ atI (il xs) (-1) = some (V.int v) := by
  obtain ⟨ys, y, rfl⟩ : ∃ ys y, xs = ys ++ [y] := ⟨xs.dropLast, xs.getLast h, (List.dropLast_concat_getLast h).symm⟩
  refine ⟨y, by simp, ?_⟩
  rw [← il_snoc]
  exact atI_last _ _
theorem ifT {c : Bool} {A B : Prop} (e : c = true) (h : A) : if c = true then A else B := by
  rw [if_pos e]
  exact h
theorem ifF {c : Bool} {A B : Prop} (e : c = false) (h : B) : if c = true then A else B := by
  rw [e]
  exact iteF h
theorem int0 {a b : Int} (h : a < b) : a < b := h
/-! ### the box of the draws -/
/-- the box at b: the numbers left, in the list at l, and a number by which draws go on -/
structure BoxAt (H : Hp) (b l : Addr) : Prop where
  ne : b ≠ l
  ex : ∃ (ns : List Int) (z : Int), H b = some (.lst [.ref l, .int z]) ∧ H l = some (.lst (il ns)) ∧ 0 ≤ z ∧ z < 2147483647
theorem BoxAt.but {S : List Addr} {H H' : Hp} {b l : Addr} (B : BoxAt H b l) (k : But S H H') (hb : b ∉ S) (hl : l ∉ S) : BoxAt H' b l := by
  obtain ⟨ns, z, h1, h2, h3⟩ := B.ex
  exact ⟨B.ne, ns, z, k _ _ h1 hb, k _ _ h2 hl, h3⟩
theorem BoxAt.same {H H' : Hp} {b l : Addr} (B : BoxAt H b l) (k : Same H H') : BoxAt H' b l := by
  obtain ⟨ns, z, h1, h2, h3⟩ := B.ex
  exact ⟨B.ne, ns, z, k _ _ h1, k _ _ h2, h3⟩

/-! ### the promises of the draws -/
/-- a new box over the script's ints -/
def spBegun (K : PySem.W.Frag) : Sp := fun vs H Q _ => ∃ (a : Addr) (ns : List Int), vs = [.ref a] ∧ SqL K H a (il ns) ∧ ns.length ≤ 63 ∧
  ∀ (b l : Addr) (H' : Hp), H b = none → H l = none → Same H H' → BoxAt H' b l → Q (.ref b) H'
/-- a draw: some number below m, and the box is still one -/
def spTake : Sp := fun vs H Q _ => ∃ (b l : Addr) (m : Int), vs = [.ref b, .int m] ∧ BoxAt H b l ∧ 0 < m ∧ m < 1000000000 ∧
  ∀ (r : Int) (H' : Hp), 0 ≤ r → r < m → But [b, l] H H' → BoxAt H' b l → Q (.int r) H'
/-- a row: asks for pages below twelve, at most as many as asked for -/
def spRow : Sp := fun vs H Q _ => ∃ (b l : Addr) (m : Int), vs = [.ref b, .int m] ∧ BoxAt H b l ∧ 0 ≤ m ∧ m ≤ 100 ∧
  ∀ (row : List Int) (r : Addr) (H' : Hp), H r = none → (∀ p ∈ row, 0 ≤ p ∧ p < 12) → (row.length : Int) ≤ m → But [b, l] H H' → H' r = some (.lst (il row)) → BoxAt H' b l → Q (.ref r) H'
end CK

namespace CK
open PySem PySem.Spec PyProof.Rows L2
section
variable {P : Program} {w : World} {K : PySem.W.Frag} {mg : Str → Option Value} {base : Heap}
/-! ### a draw -/
theorem sc_law_take : FnScope ["_law_box", "_law_many", "_law_number"] ["_law_box", "_law_many"] (defScope (top 54)) := ⟨rfl, rfl, rfl, by decide +kernel, rfl, by decide +kernel, by decide +kernel⟩
theorem ok_law_take (T : Prog K mg) : FnOk P w K mg base CX0 1 T.law_take.f T.law_take.fd ["_law_box", "_law_many"] spTake := by
  refine T.law_take.fn.ok sc_law_take (fun vs H Q E h => ?len) (fun cdv A outer s H vs Q E hr h => ?body)
  case len =>
    obtain ⟨b, l, m, rfl, _⟩ := h
    rfl
  case body =>
    have hu := hu_of hr
    obtain ⟨b, l, m, rfl, B, m0, m1, k⟩ := h
    refine ⟨_, PSs.nox (pss_cons (ps_if (pt_cmpR (op_eqD hr.units) (pe_ix ix_list (pv 0) pe_int (fun _ _ => rfl)) (pe_lst pa_nil) (nomark _))
        (pss_cons (ps_asg (pe_op op_mod (pe_op op_mul (pe_ix ix_list (pv 0) pe_int (fun _ _ => rfl)) pe_int) pe_int) (pg_sub (pv 0) pe_int set_list))
        (pss_one (ps_ret (pe_op op_mod (pe_op op_fdiv (pe_ix ix_list (pv 0) pe_int (fun _ _ => rfl)) pe_int) (pv 1)))))
        pss_nil)
        (pss_cons (ps_set (i := 2) sc_law_take.nd rfl (Or.inl rfl) (pe_ix ix_list (pe_ix ix_list (pv 0) pe_int (fun _ _ => rfl)) pe_int (fun _ _ => rfl)))
        (pss_cons (ps_asg (pe_op op_fdiv (pv 2) (pv 1)) (pg_sub (pe_ix ix_list (pv 0) pe_int (fun _ _ => rfl)) pe_int set_list))
        (pss_cons (ps_if (PW.pt (pw_or (pt_cmpR op_eq (pe_ix ix_list (pe_ix ix_list (pv 0) pe_int (fun _ _ => rfl)) pe_int (fun _ _ => rfl)) pe_int (nomark _)) (pw_or1 (pt_cmpR op_eq (pe_ix ix_list (pe_ix ix_list (pv 0) pe_int (fun _ _ => rfl)) pe_int (fun _ _ => rfl)) (pe_un un_neg pe_int) (nomark _)))))
        (pss_one (ps_expr (pe_bm PySem.F.plainAttrs_list PySem.F.slot_list_pop PySem.F.type_list_pop mt_popAt (pe_ix ix_list (pv 0) pe_int (fun _ _ => rfl)) (pa_cons pe_int pa_nil))))
        pss_nil)
        (pss_one (ps_ret (pe_op op_mod (pv 2) (pv 1)))))))), ?_⟩
    have B0 := B
    obtain ⟨ns, z, hb, hl, z0, z1⟩ := B.ex
    -- if box[0] == []
    refine ⟨_, rfl, b, _, _, _, rfl, rfl, SqL.of hb, atI_nat (j := 0) rfl, by decide, fun e he => ?_⟩
    have eb : b ≠ e := ne_fresh hb he
    have el : l ≠ e := ne_fresh hl he
    have s1 : But [b, l] H (upd H e (.lst [])) := But.new he
    have hb1 : upd H e (.lst []) b = some (.lst [.ref l, .int z]) := by rw [upd_ne eb]; exact hb
    have hl1 : upd H e (.lst []) l = some (.lst (il ns)) := by rw [upd_ne el]; exact hl
    refine ⟨pd ns, pd [], dp_il (SqL.of hl1), dp_il (ns := []) (SqL.of upd_same), shaped_il _, shaped_il _, _, rfl, ?_⟩
    rw [eqv_il]
    refine ite2 (fun hn => ?_) (fun hn => ?_)
    · -- box[1] = box[1] * 48271 % 2147483647; return box[1] // 7 % many
      refine ⟨_, rfl, b, _, _, _, rfl, rfl, SqL.of hb1, atI_nat (j := 1) rfl, _, _, rfl, rfl, .inl ⟨by omega, by omega⟩, _, _, rfl, rfl, int0 (by decide), ?_⟩
      refine ⟨_, rfl, b, _, 1, 1, rfl, rfl, hb1, rfl, ?_⟩
      refine ⟨_, rfl, b, _, _, _, rfl, rfl, SqL.of upd_same, atI_nat (j := 1) rfl, _, _, rfl, rfl, ⟨by decide, by decide⟩, _, rfl, _, _, rfl, rfl, m0, ?_⟩
      refine k _ _ (Int.emod_nonneg _ (by omega)) (Int.emod_lt_of_pos _ m0) (s1.trans (But.put (by simp))) ⟨B.ne, ns, _, upd_same, ?_, Int.emod_nonneg _ (by decide), Int.emod_lt_of_pos _ (by decide)⟩
      rw [upd_ne (Ne.symm B.ne)]
      exact hl1
    · -- number = box[0][0]
      obtain ⟨n, r, rfl⟩ : ∃ n r, ns = n :: r := by
        cases ns with
        | nil => exact absurd (by simp) hn
        | cons n r => exact ⟨n, r, rfl⟩
      refine ⟨_, rfl, b, _, _, _, rfl, rfl, SqL.of hb1, atI_nat (j := 0) rfl, l, _, _, _, rfl, rfl, SqL.of hl1, atI_nat (j := 0) rfl, ?_⟩
      -- box[0][0] = number // many
      refine ⟨_, rfl, _, rfl, _, _, rfl, rfl, ⟨m0, by omega⟩, ?_⟩
      refine ⟨_, rfl, b, _, _, _, rfl, rfl, SqL.of hb1, atI_nat (j := 0) rfl, l, _, 0, 0, rfl, rfl, hl1, ixn rfl (by simp), ?_⟩
      have hb2 : ∀ o, upd (upd H e (.lst [])) l o b = some (.lst [.ref l, .int z]) := fun o => by rw [upd_ne B.ne]; exact hb1
      have hl2 : upd (upd H e (.lst [])) l (.lst ((il (n :: r)).set 0 (.int (n / m)))) l = some (.lst (il ((n / m) :: r))) := upd_same
      have s2 : But [b, l] H (upd (upd H e (.lst [])) l (.lst ((il (n :: r)).set 0 (.int (n / m))))) := s1.trans (But.put (by simp))
      have r0 : 0 ≤ n % m := Int.emod_nonneg _ (by omega)
      have r1 : n % m < m := Int.emod_lt_of_pos _ m0
      -- if box[0][0] == 0 or box[0][0] == -1
      refine ⟨_, rfl, b, _, _, _, rfl, rfl, SqL.of (hb2 _), atI_nat (j := 0) rfl, l, _, _, _, rfl, rfl, SqL.of hl2, atI_nat (j := 0) rfl, rfl, _, rfl, ?_⟩
      have pop : ∀ (σ : L2.St), ∀ D : Ends, σ[0]? = some (some (.ref b)) → (∀ H', But [b, l] H H' → BoxAt H' b l → D.nx σ H') → tDrop (tBM K "list" rPopAt (tOp (rIxL K) (tVar 0) (tC (.int 0))) (tCons (tC (.int 0)) tNil)) D σ (upd (upd H e (.lst [])) l (.lst ((il (n :: r)).set 0 (.int (n / m))))) := by
        intro σ D hσ hD
        refine ⟨_, hσ, b, _, _, _, rfl, rfl, SqL.of (hb2 _), atI_nat (j := 0) rfl, .inl ⟨rfl, _, SqL.of hl2⟩, l, _, 0, 0, _, rfl, rfl, hl2, by decide, by decide, seq_ix rfl (by simp), rfl, ?_⟩
        refine hD _ (s2.trans (But.put (by simp))) ⟨B.ne, r, z, ?_, upd_same, z0, z1⟩
        rw [upd_ne B.ne]
        exact hb2 _
      have out : ∀ H', But [b, l] H H' → BoxAt H' b l → tRet (tOp (rI (fun _ j => 0 < j) fun i j => V.int (i % j)) (tVar 2) (tVar 1)) { nx := fun _ H' => Q .non H', rt := Q } [some (.ref b), some (.int m), some (.int n)] H' := fun H' k1 B1 => by
        refine ⟨_, rfl, _, rfl, _, _, rfl, rfl, m0, ?_⟩
        exact k _ _ r0 r1 k1 B1
      refine ite2 (fun _ => iteT (pop _ _ rfl out)) (fun _ => ?_)
      refine ⟨_, rfl, b, _, _, _, rfl, rfl, SqL.of (hb2 _), atI_nat (j := 0) rfl, l, _, _, _, rfl, rfl, SqL.of hl2, atI_nat (j := 0) rfl, _, rfl, rfl, _, rfl, ?_⟩
      refine ite2 (fun _ => pop _ _ rfl out) (fun _ => ?_)
      exact out _ s2 ⟨B.ne, _, z, hb2 _, hl2, z0, z1⟩
/-! ### the box -/
theorem sc_law_begun : FnScope ["_law_script", "_law_stirred", "_law_cell"] ["_law_script"] (defScope (top 53)) := ⟨rfl, rfl, rfl, by decide +kernel, rfl, by decide +kernel, by decide +kernel⟩
theorem ok_law_begun (T : Prog K mg) : FnOk P w K mg base CX0 1 T.law_begun.f T.law_begun.fd ["_law_script"] (spBegun K) := by
  refine T.law_begun.fn.ok sc_law_begun (fun vs H Q E h => ?len) (fun cdv A outer s H vs Q E hr h => ?body)
  case len =>
    obtain ⟨a, ns, rfl, _⟩ := h
    rfl
  case body =>
    have hu := hu_of hr
    obtain ⟨a, ns, rfl, hS, hlen, k⟩ := h
    refine ⟨_, PSs.nox (pss_cons (ps_set (i := 1) sc_law_begun.nd rfl (Or.inl rfl) pe_int)
        (pss_cons (ps_for PassesOwn.never rfl (pi_list (pv 0)) (pg_name (i := 2) sc_law_begun.nd rfl (Or.inl rfl))
        (pss_one (ps_set (i := 1) sc_law_begun.nd rfl (Or.inl rfl) (pe_op op_mod (pe_op op_add (pe_op op_add (pe_op op_mul (pv 1) pe_int) (pe_op op_mul (pv 2) pe_int)) pe_int) pe_int))))
        (pss_one (ps_ret (pe_lst (pa_cons (pe_callTy call_list_of (by rfl) T.list_ (by decide +kernel) (pa_cons (pv 0) pa_nil)) (pa_cons (pe_op op_mul (pv 1) (pe_callTy call_int1 (by rfl) T.int_ (by decide +kernel) (pa_cons (pe_cmpR op_gt (pe_callB call_len_seq (by rfl) T.len PySem.boot_len (pa_cons (pv 0) pa_nil)) pe_int (nomark _)) pa_nil))) pa_nil))))))), ?_⟩
    refine ⟨_, rfl, a, rfl, ⟨_, hS⟩, for_list (K := K) (a := a) (xs := il ns) (fun i σ H2 => ∃ (z : Int) (v : Option V), σ = [some (.ref a), some (.int z), v] ∧ H2 = H ∧ 0 ≤ z ∧ z < 2147483647)
      ⟨0, none, rfl, rfl, by decide, by decide⟩ (fun i σ H2 _ ⟨_, _, _, e, _⟩ => by rw [e]; exact hS) ?_ ?_⟩
    · rintro i y σ H2 hi ⟨z, v, rfl, rfl, z0, z1⟩
      obtain ⟨n, _, rfl⟩ := il_get hi
      refine ⟨_, rfl, _, _, rfl, rfl, .inl ⟨by omega, by omega⟩, _, rfl, _, _, rfl, rfl, .inr ⟨by omega, by omega⟩, _, _, rfl, rfl, _, _, rfl, rfl, _, _, rfl, rfl, int0 (by decide), ?_⟩
      exact ⟨_, _, rfl, rfl, Int.emod_nonneg _ (by decide), Int.emod_lt_of_pos _ (by decide)⟩
    · rintro σ H2 ⟨z, v, rfl, rfl, z0, z1⟩
      refine ⟨_, rfl, a, _, rfl, .inl hS, fun l hl => ?_⟩
      have s1 : Same H2 (upd H2 l (.lst (il ns))) := Same.new hl
      refine ⟨_, rfl, _, rfl, a, _, rfl, .inl (s1.seq hS), _, _, rfl, rfl, .inr ⟨_, rfl, _, _, rfl, rfl, .inl ⟨by omega, by omega⟩, ?_⟩⟩
      refine ⟨szd rfl, fun b hb => ?_⟩
      have lb : l ≠ b := ne_fresh (H := upd H2 l (.lst (il ns))) upd_same hb
      have hl2 : upd (upd H2 l (.lst (il ns))) b (.lst [V.ref l, V.int (z * (if decide ((2 : Int) < ((il ns).length : Int)) = true then 1 else 0))]) l = some (.lst (il ns)) := by
        rw [upd_ne lb]
        exact upd_same
      refine k b l _ (Same.back s1 hb) hl (s1.trans (Same.new hb)) ⟨Ne.symm lb, ns, _, upd_same, hl2, ?_, ?_⟩
      · by_cases h2 : decide ((2 : Int) < ((il ns).length : Int)) = true
        · rw [if_pos h2]; omega
        · rw [if_neg h2]; omega
      · by_cases h2 : decide ((2 : Int) < ((il ns).length : Int)) = true
        · rw [if_pos h2]; omega
        · rw [if_neg h2]; omega
/-! ### a row -/
theorem sc_law_row : FnScope ["_law_box", "_law_most", "_law_pages", "_law_found", "_law_way", "_law_turn", "_law_page"] ["_law_box", "_law_most"] (defScope (top 57)) := ⟨rfl, rfl, rfl, by decide +kernel, rfl, by decide +kernel, by decide +kernel⟩
theorem ok_law_row (T : Prog K mg) : FnOk P w K mg base CX0 2 T.law_row.f T.law_row.fd ["_law_box", "_law_most"] spRow := by
  have G_law_take := ok_law_take (P := P) (w := w) (base := base) T
  refine T.law_row.fn.ok sc_law_row (fun vs H Q E h => ?len) (fun cdv A outer s H vs Q E hr h => ?body)
  case len =>
    obtain ⟨b, l, m, rfl, _⟩ := h
    rfl
  case body =>
    have hr_law_take : Room 1 _ := hr.mono (by decide)
    have hu := hu_of hr
    obtain ⟨b, l, m, rfl, B, m0, m1, k⟩ := h
    refine ⟨_, PSs.nox (pss_cons (ps_set (i := 2) sc_law_row.nd rfl (Or.inl rfl) (pe_op op_add pe_int (pe_call G_law_take hr_law_take (by rfl) T.law_take.g T.law_take.fn.kp T.law_take.bd .nil pass0 (pa_cons (pv 0) (pa_cons (pe_ix ix_list (pe_lst (pa_cons pe_int (pa_cons pe_int (pa_cons pe_int pa_nil)))) (pe_call G_law_take hr_law_take (by rfl) T.law_take.g T.law_take.fn.kp T.law_take.bd .nil pass0 (pa_cons (pv 0) (pa_cons pe_int pa_nil))) (fun _ _ => rfl)) pa_nil)))))
        (pss_cons (ps_set (i := 3) sc_law_row.nd rfl (Or.inl rfl) (pe_lst pa_nil))
        (pss_cons (ps_set (i := 4) sc_law_row.nd rfl (Or.inl rfl) (pe_call G_law_take hr_law_take (by rfl) T.law_take.g T.law_take.fn.kp T.law_take.bd .nil pass0 (pa_cons (pv 0) (pa_cons pe_int pa_nil))))
        (pss_cons (ps_for PassesOwn.never rfl (pi_range1 (by rfl) T.range (pa_cons (pe_call G_law_take hr_law_take (by rfl) T.law_take.g T.law_take.fn.kp T.law_take.bd .nil pass0 (pa_cons (pv 0) (pa_cons (pe_op op_add (pv 1) pe_int) pa_nil))) pa_nil)) (pg_name (i := 5) sc_law_row.nd rfl (Or.inl rfl))
        (pss_cons (ps_set (i := 6) sc_law_row.nd rfl (Or.inl rfl) (pe_call G_law_take hr_law_take (by rfl) T.law_take.g T.law_take.fn.kp T.law_take.bd .nil pass0 (pa_cons (pv 0) (pa_cons (pv 2) pa_nil))))
        (C8.pss_cut (ps_if (PW.pt (pw_and (pt_cmpR op_eq (pv 4) pe_int (nomark _)) (pw_and (pt_cmpR (op_neD hr.units) (pv 3) (pe_lst pa_nil) (nomark _)) (pw_and1 (pt_cmpR op_gt (pe_call G_law_take hr_law_take (by rfl) T.law_take.g T.law_take.fn.kp T.law_take.bd .nil pass0 (pa_cons (pv 0) (pa_cons pe_int pa_nil))) pe_int (nomark _))))))
        (pss_one (ps_set (i := 6) sc_law_row.nd rfl (Or.inl rfl) (pe_ix ix_list (pv 3) (pe_op op_sub (pe_op op_sub (pe_callB call_len_seq (by rfl) T.len PySem.boot_len (pa_cons (pv 3) pa_nil)) pe_int) (pe_call G_law_take hr_law_take (by rfl) T.law_take.g T.law_take.fn.kp T.law_take.bd .nil pass0 (pa_cons (pv 0) (pa_cons (pe_callB (call_min2 rfl) (by rfl) T.min (by decide +kernel) (pa_cons pe_int (pa_cons (pe_callB call_len_seq (by rfl) T.len PySem.boot_len (pa_cons (pv 3) pa_nil)) pa_nil))) pa_nil)))) (fun _ _ => rfl))))
        pss_nil)
        (C8.pss_cut (ps_if (PW.pt (pw_and (pt_cmpR op_eq (pv 4) pe_int (nomark _)) (pw_and1 (pt_cmpR op_gt (pe_call G_law_take hr_law_take (by rfl) T.law_take.g T.law_take.fn.kp T.law_take.bd .nil pass0 (pa_cons (pv 0) (pa_cons pe_int pa_nil))) pe_int (nomark _)))))
        (pss_one (ps_set (i := 6) sc_law_row.nd rfl (Or.inl rfl) (pe_op op_mod (pv 5) (pv 2))))
        pss_nil)
        (C8.pss_cut (ps_if (PW.pt (pw_and (pt_cmpR op_eq (pv 4) pe_int (nomark _)) (pw_and (pt_cmpR (op_neD hr.units) (pv 3) (pe_lst pa_nil) (nomark _)) (pw_and1 (pt_cmpR op_gt (pe_call G_law_take hr_law_take (by rfl) T.law_take.g T.law_take.fn.kp T.law_take.bd .nil pass0 (pa_cons (pv 0) (pa_cons pe_int pa_nil))) pe_int (nomark _))))))
        (pss_one (ps_set (i := 6) sc_law_row.nd rfl (Or.inl rfl) (pe_op op_mod (pe_op op_add (pe_op op_add (pe_ix ix_list (pv 3) (pe_un un_neg pe_int) (fun _ _ => rfl)) pe_int) (pe_call G_law_take hr_law_take (by rfl) T.law_take.g T.law_take.fn.kp T.law_take.bd .nil pass0 (pa_cons (pv 0) (pa_cons pe_int pa_nil)))) (pv 2))))
        pss_nil)
        (pss_one (ps_expr (pe_bm PySem.F.plainAttrs_list PySem.F.slot_list_append PySem.F.type_list_append mt_append (pv 3) (pa_cons (pv 6) pa_nil)))))))))
        (pss_one (ps_ret (pv 3))))))), ?_⟩
    -- pages = 1 + take(box, [4, 6, 12][take(box, 3)])
    refine ⟨_, rfl, ⟨szd rfl, fun e he => ?_⟩⟩
    have eb : b ≠ e := by obtain ⟨_, _, h1, _⟩ := B.ex; exact ne_fresh h1 he
    have el : l ≠ e := by obtain ⟨_, _, _, h1, _⟩ := B.ex; exact ne_fresh h1 he
    have s1 : But [b, l] H (upd H e (.lst (il [4, 6, 12]))) := But.new he
    refine ⟨_, rfl, b, l, 3, rfl, B.same (Same.new he), by decide, by decide, fun r H1 r0 r1 k1 B1 => ?_⟩
    have he1 : H1 e = some (.lst (il [4, 6, 12])) := k1 e _ upd_same (by simp [Ne.symm eb, Ne.symm el])
    obtain ⟨v, hv, hat⟩ := il_menu (xs := [4, 6, 12]) r0 r1
    have v0 : 0 < v ∧ v ≤ 12 := by simp at hv; omega
    refine ⟨e, _, _, _, rfl, rfl, SqL.of he1, hat, b, l, v, rfl, B1, v0.1, by omega, fun pg H2 p0 p1 k2 B2 => ?_⟩
    have k02 : But [b, l] H H2 := (s1.trans k1).trans k2
    refine ⟨_, _, rfl, rfl, ?_⟩
    have pgs0 : 0 < 1 + pg ∧ 1 + pg ≤ 12 := by omega
    -- found = []; way = take(box, 4)
    refine ⟨szd rfl, fun f hf => ?_⟩
    have hfH : H f = none := k02.back hf (by
      obtain ⟨_, _, h1, h2, _⟩ := B2.ex
      have := ne_fresh h1 hf
      have := ne_fresh h2 hf
      simp only [List.mem_cons, List.not_mem_nil, or_false, not_or]
      exact ⟨Ne.symm ‹b ≠ f›, Ne.symm ‹l ≠ f›⟩)
    have fb : f ≠ b := by obtain ⟨_, _, h1, _⟩ := B2.ex; exact Ne.symm (ne_fresh h1 hf)
    have fl : f ≠ l := by obtain ⟨_, _, _, h1, _⟩ := B2.ex; exact Ne.symm (ne_fresh h1 hf)
    have fS : f ∉ [b, l] := by simp [fb, fl]
    refine ⟨_, rfl, b, l, 4, rfl, B2.same (Same.new hf), by decide, by decide, fun way H3 w0 w1 k3 B3 => ?_⟩
    -- for turn in range(take(box, most + 1))
    refine ⟨_, rfl, _, rfl, _, _, rfl, rfl, b, l, _, rfl, B3, by omega, by omega, fun j H4 j0 j1 k4 B4 => ?_⟩
    have hf4 : H4 f = some (.lst (il [])) := k4 f _ (k3 f _ upd_same fS) fS
    have k04 : But [b, l] H H4 := ((k02.trans (But.new hf)).trans k3).trans k4
    refine ⟨_, rfl, by omega, by omega, for_range (lo := 0) (n := j.toNat) (fun i σ H' => ∃ (row : List Int) (v5 v6 : Option V), σ = [some (.ref b), some (.int m), some (.int (1 + pg)), some (.ref f), some (.int way), v5, v6] ∧
      H' f = some (.lst (il row)) ∧ BoxAt H' b l ∧ But [b, l] H H' ∧ row.length = i ∧ ∀ p ∈ row, 0 ≤ p ∧ p < (1 + pg)) ⟨[], _, _, rfl, hf4, B4, k04, rfl, by simp⟩ ?_ ?_⟩
    · rintro i σ H5 hi ⟨row, v5, v6, rfl, hf5, B5, k05, hlen, hrow⟩
      -- page = take(box, pages)
      refine ⟨_, rfl, _, rfl, b, l, _, rfl, B5, pgs0.1, by omega, fun pg1 H6 q0 q1 k6 B6 => ?_⟩
      -- what stands between the ifs
      let S : L2.Hp → Prop := fun H' => H' f = some (.lst (il row)) ∧ BoxAt H' b l ∧ But [b, l] H H'
      let M : L2.St → Hp → Prop := fun σ' H' => ∃ p : Int, σ' = [some (.ref b), some (.int m), some (.int (1 + pg)), some (.ref f), some (.int way), some (.int (0 + (i : Int))), some (.int p)] ∧ S H' ∧ 0 ≤ p ∧ p < 1 + pg
      have sNew : ∀ {H' : Hp} {e : Addr} {o : HO}, S H' → H' e = none → S (upd H' e o) := fun {H' e o} h he => ⟨by rw [upd_ne (ne_fresh h.1 he)]; exact h.1, h.2.1.same (Same.new he), h.2.2.trans (But.new he)⟩
      have sTake : ∀ {H' H'' : Hp}, S H' → But [b, l] H' H'' → BoxAt H'' b l → S H'' := fun h k B => ⟨k f _ h.1 fS, B, h.2.2.trans k⟩
      have sM : ∀ {H' : Hp} {p : Int}, S H' → 0 ≤ p → p < 1 + pg → M [some (.ref b), some (.int m), some (.int (1 + pg)), some (.ref f), some (.int way), some (.int (0 + (i : Int))), some (.int p)] H' := fun h p0 p1 => ⟨_, rfl, h, p0, p1⟩
      have s6 : S H6 := ⟨k6 f _ hf5 fS, B6, k05.trans k6⟩
      refine ⟨M, ?_, ?_⟩
      · -- way == 1 and found != [] and take(box, 3) > 0
        refine ⟨_, rfl, rfl, _, rfl, ?_⟩
        refine ite2 (fun _ => ?_) (fun _ => iteF (sM s6 q0 q1))
        refine ⟨_, rfl, szd rfl, fun e he => ?_⟩
        have s7 := sNew (o := .lst []) s6 he
        refine ⟨pd row, pd [], dp_il (SqL.of s7.1), dp_il (ns := []) (SqL.of upd_same), shaped_il _, shaped_il _, _, rfl, ?_⟩
        rw [eqv_il]
        by_cases hr0 : row = []
        · exact ifF (by simp [hr0]) (iteF (sM s7 q0 q1))
        refine ifT (by simp [hr0]) ?_
        have hpos : 0 < row.length := List.length_pos_iff.mpr hr0
        refine ⟨_, rfl, b, l, 3, rfl, s7.2.1, by decide, by decide, fun c H8 c0 c1 k8 B8 => ?_⟩
        have s8 := sTake s7 k8 B8
        refine ⟨_, _, rfl, rfl, _, rfl, ?_⟩
        refine ite2 (fun _ => ?_) (fun _ => sM s8 q0 q1)
        refine ⟨_, rfl, _, rfl, f, _, rfl, .inl (SqL.of s8.1), _, _, rfl, rfl, _, rfl, _, rfl, f, _, rfl, .inl (SqL.of s8.1), _, _, rfl, b, l, _, rfl, B8, ?_, ?_, fun u H9 u0 u1 k9 B9 => ?_⟩
        · rw [il_len]; split <;> omega
        · rw [il_len]; split <;> omega
        have s9 := sTake s8 k9 B9
        rw [il_len] at u1
        have hat : ∃ v, v ∈ row ∧ atI (il row) ((((il row).length : Int) - 1) - u) = some (V.int v) := by
          rw [il_len]
          refine il_menu ?_ ?_
          · split at u1 <;> omega
          · omega
        obtain ⟨v, hv, hat⟩ := hat
        refine ⟨_, _, rfl, rfl, f, _, _, _, rfl, rfl, SqL.of s9.1, hat, ?_⟩
        exact sM s9 (hrow v hv).1 (hrow v hv).2
      · rintro σ' H7 ⟨p, rfl, s7, p0, p1⟩
        refine ⟨M, ?_, ?_⟩
        · -- way == 2 and take(box, 5) > 0
          refine ⟨_, rfl, rfl, _, rfl, ?_⟩
          refine ite2 (fun _ => ?_) (fun _ => iteF (sM s7 p0 p1))
          refine ⟨_, rfl, b, l, 5, rfl, s7.2.1, by decide, by decide, fun c H8 c0 c1 k8 B8 => ?_⟩
          have s8 := sTake s7 k8 B8
          refine ⟨_, _, rfl, rfl, _, rfl, ?_⟩
          refine ite2 (fun _ => ?_) (fun _ => sM s8 p0 p1)
          refine ⟨_, rfl, _, rfl, _, _, rfl, rfl, pgs0.1, ?_⟩
          exact sM s8 (Int.emod_nonneg _ (by omega)) (Int.emod_lt_of_pos _ pgs0.1)
        · rintro σ' H7 ⟨p, rfl, s7, p0, p1⟩
          refine ⟨M, ?_, ?_⟩
          · -- way == 3 and found != [] and take(box, 3) > 0
            refine ⟨_, rfl, rfl, _, rfl, ?_⟩
            refine ite2 (fun _ => ?_) (fun _ => iteF (sM s7 p0 p1))
            refine ⟨_, rfl, szd rfl, fun e he => ?_⟩
            have s8 := sNew (o := .lst []) s7 he
            refine ⟨pd row, pd [], dp_il (SqL.of s8.1), dp_il (ns := []) (SqL.of upd_same), shaped_il _, shaped_il _, _, rfl, ?_⟩
            rw [eqv_il]
            by_cases hr0 : row = []
            · exact ifF (by simp [hr0]) (iteF (sM s8 p0 p1))
            refine ifT (by simp [hr0]) ?_
            refine ⟨_, rfl, b, l, 3, rfl, s8.2.1, by decide, by decide, fun c H9 c0 c1 k9 B9 => ?_⟩
            have s9 := sTake s8 k9 B9
            refine ⟨_, _, rfl, rfl, _, rfl, ?_⟩
            refine ite2 (fun _ => ?_) (fun _ => sM s9 p0 p1)
            obtain ⟨v, hv, hat⟩ := il_last hr0
            refine ⟨_, rfl, _, rfl, f, _, _, _, rfl, rfl, SqL.of s9.1, hat, _, _, rfl, rfl, _, rfl, b, l, 2, rfl, B9, by decide, by decide, fun u H10 u0 u1 k10 B10 => ?_⟩
            have s10 := sTake s9 k10 B10
            refine ⟨_, _, rfl, rfl, _, rfl, _, _, rfl, rfl, pgs0.1, ?_⟩
            exact sM s10 (Int.emod_nonneg _ (by omega)) (Int.emod_lt_of_pos _ pgs0.1)
          · -- found.append(page)
            rintro σ' H8 ⟨p, rfl, s8, p0, p1⟩
            refine ⟨_, rfl, .inl ⟨rfl, _, SqL.of s8.1⟩, _, rfl, f, _, _, rfl, rfl, s8.1, szl (by rw [il_len]; omega), ?_⟩
            refine ⟨row ++ [p], _, _, rfl, ?_, s8.2.1.but (S := [f]) (But.put (by simp)) (by simp [Ne.symm fb]) (by simp [Ne.symm fl]), ?_, by simp [hlen], ?_⟩
            · rw [upd_same, il_snoc]
            · intro c o hc hn
              rw [upd_ne (ne_fresh hc hfH)]
              exact s8.2.2 c o hc hn
            · intro x hx
              rcases List.mem_append.mp hx with hx | hx
              · exact hrow x hx
              · rw [List.mem_singleton.mp hx]
                exact ⟨p0, p1⟩
    · rintro σ H' ⟨row, v5, v6, rfl, hf', B', k', hlen, hrow⟩
      exact ⟨_, rfl, k row f H' hfH (fun p hp => by have := hrow p hp; omega) (by omega) k' hf' B'⟩
end
end CK

namespace CK
open PySem PySem.Spec PyProof.Rows L2
/-! ### two things that read as the same data are alike -/
mutual
/-- no list of it is longer than a thousand -/
def smallD : PyData → Prop
  | .list ds => ds.length ≤ 1000 ∧ smallAll ds
  | .tuple ds => ds.length ≤ 1000 ∧ smallAll ds
  | _ => True
def smallAll : List PyData → Prop
  | [] => True
  | d :: ds => smallD d ∧ smallAll ds
end
theorem small_at : ∀ {ds : List PyData} {i : Nat} {d : PyData}, smallAll ds → ds[i]? = some d → smallD d
  | [], _, _, _, h => by simp at h
  | a :: r, 0, d, s, h => by
    have e : a = d := Option.some.inj h
    rw [← e]
    exact s.1
  | a :: r, i + 1, d, s, h => small_at (ds := r) (i := i) s.2 h
def spAlike (K : PySem.W.Frag) (n : Nat) : Sp := fun vs H Q _ => ∃ (x y : V) (d : PyData), vs = [x, y] ∧ Dp K H x d ∧ Dp K H y d ∧ d.depth < n ∧ smallD d ∧ Q (.bl true) H
theorem dpAll_len {K : PySem.W.Frag} {H : Hp} : ∀ {xs : List V} {ds : List PyData}, DpAll K H xs ds → xs.length = ds.length
  | _, _, .nil => rfl
  | _, _, .cons _ t => congrArg Nat.succ (dpAll_len t)
theorem dpAll_at {K : PySem.W.Frag} {H : Hp} : ∀ {xs : List V} {ds : List PyData} {i : Nat}, DpAll K H xs ds → i < ds.length → ∃ x d, xs[i]? = some x ∧ ds[i]? = some d ∧ Dp K H x d
  | _, _, _, .nil, h => absurd h (Nat.not_lt_zero _)
  | x :: _, d :: _, 0, .cons a _, _ => ⟨x, d, rfl, rfl, a⟩
  | _ :: xs, _ :: ds, i + 1, .cons _ t, h => by
    obtain ⟨x, d, e1, e2, e3⟩ := dpAll_at (i := i) t (Nat.lt_of_succ_lt_succ h)
    exact ⟨x, d, e1, e2, e3⟩
theorem dep_at : ∀ {ds : List PyData} {i : Nat} {d : PyData}, ds[i]? = some d → d.depth ≤ PyData.depthAll ds
  | [], _, _, h => by simp at h
  | a :: r, 0, d, h => by
    have e : a = d := Option.some.inj h
    rw [← e]
    exact Nat.le_max_left _ _
  | a :: r, i + 1, d, h => Nat.le_trans (dep_at (ds := r) (i := i) h) (Nat.le_max_right _ _)
theorem ty_list {K : PySem.W.Frag} {H : Hp} {a : Addr} {xs : List V} (h : SqL K H a xs) : TyX K H (.ref a) (.type "list") := by
  rcases h with (h | ⟨o, h⟩) | ⟨o, its, n, hk, hc, _⟩
  · exact .base (.lst h)
  · exact .base (.frz h)
  · exact .kList hk hc
theorem ty_tup {K : PySem.W.Frag} {H : Hp} {a : Addr} {xs : List V} (h : SqT K H a xs) : TyX K H (.ref a) (.type "tuple") := by
  rcases h with (h | ⟨o, h⟩) | ⟨o, its, n, hk, hc, _⟩
  · exact .base (.tup h)
  · exact .fTuple h
  · exact .kTuple hk hc
section
variable {P : Program} {w : World} {K : PySem.W.Frag} {mg : Str → Option Value} {base : Heap}
theorem sc_law_alike : FnScope ["_law_found", "_law_due", "_law_k"] ["_law_found", "_law_due"] (defScope (top 55)) := ⟨rfl, rfl, rfl, by decide +kernel, rfl, by decide +kernel, by decide +kernel⟩
theorem ok_law_alike (T : Prog K mg) (n : Nat) (G_law_alike : FnOk P w K mg base CX0 n T.law_alike.f T.law_alike.fd ["_law_found", "_law_due"] (spAlike K n)) : FnOk P w K mg base CX0 (n + 1) T.law_alike.f T.law_alike.fd ["_law_found", "_law_due"] (spAlike K (n + 1)) := by
  refine T.law_alike.fn.ok sc_law_alike (fun vs H Q E h => ?len) (fun cdv A outer s H vs Q E hr h => ?body)
  case len =>
    obtain ⟨x, y, d, rfl, _⟩ := h
    rfl
  case body =>
    have hu := hu_of hr
    have hr_law_alike : Room n _ := hr
    obtain ⟨x, y, d, rfl, dx, dy, hn, hsm, k⟩ := h
    refine ⟨_, PSs.nox (pss_cons (ps_if (pt_cmpR op_isN (pv 1) pe_non (nomark _))
        (pss_one (ps_ret (pe_cmpR op_isN (pv 0) pe_non (nomark _))))
        pss_nil)
        (pss_cons (ps_if (pt_val (pe_callB call_isi (by rfl) T.isinstance (by decide +kernel) (pa_cons (pv 1) (pa_cons (pe_bltn (v := L2.V.ty "bool") (by rfl) T.bool_ (by decide +kernel) rfl) pa_nil))))
        (pss_one (ps_ret (pe_and (pe_callB call_isi (by rfl) T.isinstance (by decide +kernel) (pa_cons (pv 0) (pa_cons (pe_bltn (v := L2.V.ty "bool") (by rfl) T.bool_ (by decide +kernel) rfl) pa_nil))) (pe_one (pe_cmpR op_eq (pv 0) (pv 1) (nomark _))))))
        pss_nil)
        (pss_cons (ps_if (pt_val (pe_callB call_isi (by rfl) T.isinstance (by decide +kernel) (pa_cons (pv 1) (pa_cons (pe_bltn (v := L2.V.ty "int") (by rfl) T.int_ (by decide +kernel) rfl) pa_nil))))
        (pss_one (ps_ret (pe_and (pe_callB call_isi (by rfl) T.isinstance (by decide +kernel) (pa_cons (pv 0) (pa_cons (pe_bltn (v := L2.V.ty "int") (by rfl) T.int_ (by decide +kernel) rfl) pa_nil))) (pe_and (pe_not (pe_callB call_isi (by rfl) T.isinstance (by decide +kernel) (pa_cons (pv 0) (pa_cons (pe_bltn (v := L2.V.ty "bool") (by rfl) T.bool_ (by decide +kernel) rfl) pa_nil)))) (pe_one (pe_cmpR op_eq (pv 0) (pv 1) (nomark _)))))))
        pss_nil)
        (pss_cons (ps_if (pt_val (pe_callB call_isi (by rfl) T.isinstance (by decide +kernel) (pa_cons (pv 1) (pa_cons (pe_bltn (v := L2.V.ty "str") (by rfl) T.str_ (by decide +kernel) rfl) pa_nil))))
        (pss_one (ps_ret (pe_and (pe_callB call_isi (by rfl) T.isinstance (by decide +kernel) (pa_cons (pv 0) (pa_cons (pe_bltn (v := L2.V.ty "str") (by rfl) T.str_ (by decide +kernel) rfl) pa_nil))) (pe_one (pe_cmpR op_eq (pv 0) (pv 1) (nomark _))))))
        pss_nil)
        (pss_cons (ps_if (PW.pt (pw_or (pt_cmpR op_ne (pe_callB call_isi (by rfl) T.isinstance (by decide +kernel) (pa_cons (pv 1) (pa_cons (pe_bltn (v := L2.V.ty "tuple") (by rfl) T.tuple_ (by decide +kernel) rfl) pa_nil))) (pe_callB call_isi (by rfl) T.isinstance (by decide +kernel) (pa_cons (pv 0) (pa_cons (pe_bltn (v := L2.V.ty "tuple") (by rfl) T.tuple_ (by decide +kernel) rfl) pa_nil))) (nomark _)) (pw_or1 (pt_cmpR op_ne (pe_callB call_isi (by rfl) T.isinstance (by decide +kernel) (pa_cons (pv 1) (pa_cons (pe_bltn (v := L2.V.ty "list") (by rfl) T.list_ (by decide +kernel) rfl) pa_nil))) (pe_callB call_isi (by rfl) T.isinstance (by decide +kernel) (pa_cons (pv 0) (pa_cons (pe_bltn (v := L2.V.ty "list") (by rfl) T.list_ (by decide +kernel) rfl) pa_nil))) (nomark _)))))
        (pss_one (ps_ret pe_bl))
        pss_nil)
        (pss_cons (ps_if (pt_cmpR op_ne (pe_callB call_len_seq (by rfl) T.len PySem.boot_len (pa_cons (pv 0) pa_nil)) (pe_callB call_len_seq (by rfl) T.len PySem.boot_len (pa_cons (pv 1) pa_nil)) (nomark _))
        (pss_one (ps_ret pe_bl))
        pss_nil)
        (pss_cons (ps_for PassesOwn.never rfl (pi_range1 (by rfl) T.range (pa_cons (pe_callB call_len_seq (by rfl) T.len PySem.boot_len (pa_cons (pv 1) pa_nil)) pa_nil)) (pg_name (i := 2) sc_law_alike.nd rfl (Or.inl rfl))
        (pss_one (ps_if (pt_not (pt_val (pe_call G_law_alike hr_law_alike (by rfl) T.law_alike.g T.law_alike.fn.kp T.law_alike.bd .nil pass0 (pa_cons (pe_ix ix_seq (pv 0) (pv 2) (fun _ _ => rfl)) (pa_cons (pe_ix ix_seq (pv 1) (pv 2) (fun _ _ => rfl)) pa_nil)))))
        (pss_one (ps_ret pe_bl))
        pss_nil)))
        (pss_one (ps_ret pe_bl))))))))), ?_⟩
    refine ⟨_, rfl, rfl, _, rfl, ?_⟩
    cases dy with
    | non =>
      cases dx
      exact ifT rfl ⟨_, rfl, rfl, k⟩
    | bl c =>
      cases dx
      refine ifF rfl ⟨_, rfl, _, _, _, _, _, rfl, .ty _, .base (.bl _), kit_ty (by decide +kernel), _, rfl, iteT ?_⟩
      refine ⟨_, rfl, _, _, _, _, _, rfl, .ty _, .base (.bl _), kit_ty (by decide +kernel), _, rfl, iteT ?_⟩
      refine ⟨_, rfl, _, rfl, rfl, ?_⟩
      rw [decide_eq_true rfl]
      exact k
    | int i =>
      cases dx
      refine ifF rfl ⟨_, rfl, _, _, _, _, _, rfl, .ty _, .base (.int _), kit_ty (by decide +kernel), _, rfl, iteF ?_⟩
      refine ⟨_, rfl, _, _, _, _, _, rfl, .ty _, .base (.int _), kit_ty (by decide +kernel), _, rfl, iteT ?_⟩
      refine ⟨_, rfl, _, _, _, _, _, rfl, .ty _, .base (.int _), kit_ty (by decide +kernel), _, rfl, iteT ?_⟩
      refine ⟨_, rfl, _, _, _, _, _, rfl, .ty _, .base (.int _), kit_ty (r := false) (by decide +kernel), _, rfl, _, rfl, iteT ?_⟩
      refine ⟨_, rfl, _, rfl, rfl, ?_⟩
      rw [decide_eq_true rfl]
      exact k
    | str z =>
      cases dx
      refine ifF rfl ⟨_, rfl, _, _, _, _, _, rfl, .ty _, .base (.str _), kit_ty (by decide +kernel), _, rfl, iteF ?_⟩
      refine ⟨_, rfl, _, _, _, _, _, rfl, .ty _, .base (.str _), kit_ty (by decide +kernel), _, rfl, iteF ?_⟩
      refine ⟨_, rfl, _, _, _, _, _, rfl, .ty _, .base (.str _), kit_ty (by decide +kernel), _, rfl, iteT ?_⟩
      refine ⟨_, rfl, _, _, _, _, _, rfl, .ty _, .base (.str _), kit_ty (by decide +kernel), _, rfl, iteT ?_⟩
      refine ⟨_, rfl, _, rfl, rfl, ?_⟩
      rw [decide_eq_true rfl]
      exact k
    | @lst a xs ds ha hall =>
      cases dx with
      | @lst a' xs' _ ha' hall' =>
      refine ifF rfl ⟨_, rfl, _, _, _, _, _, rfl, .ty _, ty_list ha, kit_ty (by decide +kernel), _, rfl, iteF ?_⟩
      refine ⟨_, rfl, _, _, _, _, _, rfl, .ty _, ty_list ha, kit_ty (by decide +kernel), _, rfl, iteF ?_⟩
      refine ⟨_, rfl, _, _, _, _, _, rfl, .ty _, ty_list ha, kit_ty (by decide +kernel), _, rfl, iteF ?_⟩
      refine ⟨_, rfl, _, _, _, _, _, rfl, .ty _, ty_list ha, kit_ty (r := false) (by decide +kernel), _, rfl, _, _, _, _, _, rfl, .ty _, ty_list ha', kit_ty (r := false) (by decide +kernel), rfl, _, rfl, ?_⟩
      refine ifF rfl ⟨_, rfl, _, _, _, _, _, rfl, .ty _, ty_list ha, kit_ty (r := true) (by decide +kernel), _, rfl, _, _, _, _, _, rfl, .ty _, ty_list ha', kit_ty (r := true) (by decide +kernel), rfl, _, rfl, ?_⟩
      refine ifF rfl ?_
      have e1 := dpAll_len hall
      have e2 := dpAll_len hall'
      have hs1 : ds.length ≤ 1000 := hsm.1
      refine ⟨_, rfl, _, _, rfl, .inl ha', _, rfl, _, _, rfl, .inl ha, rfl, _, rfl, ?_⟩
      refine ifF (by rw [e1, e2]; simp) ?_
      refine ⟨_, rfl, _, _, rfl, .inl ha, _, rfl, by omega, by omega, ?_⟩
      refine for_range (lo := 0) (n := ((xs.length : Int)).toNat) (fun i σ H' => ∃ v, σ = [some (.ref a'), some (.ref a), v] ∧ H' = H) ⟨_, rfl, rfl⟩ ?_ ?_
      · rintro i σ H' hi ⟨v, rfl, rfl⟩
        have hi' : i < ds.length := by omega
        obtain ⟨x1, d1, f1, f2, f3⟩ := dpAll_at hall hi'
        obtain ⟨x2, d2, g1, g2, g3⟩ := dpAll_at hall' hi'
        have ed : d2 = d1 := Option.some.inj (g2.symm.trans f2)
        subst ed
        have hat1 : atI xs (0 + (i : Int)) = some x1 := by rw [Int.zero_add]; exact atI_nat f1
        have hat2 : atI xs' (0 + (i : Int)) = some x2 := by rw [Int.zero_add]; exact atI_nat g1
        have hdep : d2.depth < n := by
          have h1 := dep_at f2
          have h2 : PyData.depthAll ds + 1 < n + 1 := hn
          omega
        refine ⟨_, rfl, _, rfl, .inl ⟨_, _, _, _, rfl, rfl, ha', hat2, _, rfl, _, rfl, .inl ⟨_, _, _, _, rfl, rfl, ha, hat1, ?_⟩⟩⟩
        refine ⟨_, _, d2, rfl, g3, f3, hdep, small_at hsm.2 f2, _, rfl, ?_⟩
        exact iteF ⟨_, rfl, rfl⟩
      · rintro σ H' ⟨v, rfl, rfl⟩
        exact k
    | @tup a xs ds ha hall =>
      cases dx with
      | @tup a' xs' _ ha' hall' =>
      refine ifF rfl ⟨_, rfl, _, _, _, _, _, rfl, .ty _, ty_tup ha, kit_ty (by decide +kernel), _, rfl, iteF ?_⟩
      refine ⟨_, rfl, _, _, _, _, _, rfl, .ty _, ty_tup ha, kit_ty (by decide +kernel), _, rfl, iteF ?_⟩
      refine ⟨_, rfl, _, _, _, _, _, rfl, .ty _, ty_tup ha, kit_ty (by decide +kernel), _, rfl, iteF ?_⟩
      refine ⟨_, rfl, _, _, _, _, _, rfl, .ty _, ty_tup ha, kit_ty (r := true) (by decide +kernel), _, rfl, _, _, _, _, _, rfl, .ty _, ty_tup ha', kit_ty (r := true) (by decide +kernel), rfl, _, rfl, ?_⟩
      refine ifF rfl ⟨_, rfl, _, _, _, _, _, rfl, .ty _, ty_tup ha, kit_ty (r := false) (by decide +kernel), _, rfl, _, _, _, _, _, rfl, .ty _, ty_tup ha', kit_ty (r := false) (by decide +kernel), rfl, _, rfl, ?_⟩
      refine ifF rfl ?_
      have e1 := dpAll_len hall
      have e2 := dpAll_len hall'
      have hs1 : ds.length ≤ 1000 := hsm.1
      refine ⟨_, rfl, _, _, rfl, .inr ha', _, rfl, _, _, rfl, .inr ha, rfl, _, rfl, ?_⟩
      refine ifF (by rw [e1, e2]; simp) ?_
      refine ⟨_, rfl, _, _, rfl, .inr ha, _, rfl, by omega, by omega, ?_⟩
      refine for_range (lo := 0) (n := ((xs.length : Int)).toNat) (fun i σ H' => ∃ v, σ = [some (.ref a'), some (.ref a), v] ∧ H' = H) ⟨_, rfl, rfl⟩ ?_ ?_
      · rintro i σ H' hi ⟨v, rfl, rfl⟩
        have hi' : i < ds.length := by omega
        obtain ⟨x1, d1, f1, f2, f3⟩ := dpAll_at hall hi'
        obtain ⟨x2, d2, g1, g2, g3⟩ := dpAll_at hall' hi'
        have ed : d2 = d1 := Option.some.inj (g2.symm.trans f2)
        subst ed
        have hat1 : atI xs (0 + (i : Int)) = some x1 := by rw [Int.zero_add]; exact atI_nat f1
        have hat2 : atI xs' (0 + (i : Int)) = some x2 := by rw [Int.zero_add]; exact atI_nat g1
        have hdep : d2.depth < n := by
          have h1 := dep_at f2
          have h2 : PyData.depthAll ds + 1 < n + 1 := hn
          omega
        refine ⟨_, rfl, _, rfl, .inr (.inl ⟨_, _, _, _, rfl, rfl, ha', hat2, _, rfl, _, rfl, .inr (.inl ⟨_, _, _, _, rfl, rfl, ha, hat1, ?_⟩)⟩)⟩
        refine ⟨_, _, d2, rfl, g3, f3, hdep, small_at hsm.2 f2, _, rfl, ?_⟩
        exact iteF ⟨_, rfl, rfl⟩
      · rintro σ H' ⟨v, rfl, rfl⟩
        exact k
/-- so of any depth, by its levels -/
theorem ok_alike (T : Prog K mg) : ∀ n : Nat, FnOk P w K mg base CX0 n T.law_alike.f T.law_alike.fd ["_law_found", "_law_due"] (spAlike K n)
  | 0 => ⟨fun vs H Q E ⟨x, y, d, e, _⟩ => by rw [e]; rfl, fun A outer s H args us vs Q E _ _ _ _ ⟨x, y, d, _, _, _, h, _⟩ => absurd h (Nat.not_lt_zero _)⟩
  | n + 1 => ok_law_alike T n (ok_alike T n)
end
end CK

/-! The dial as plain data, and what an ask does to it. -/
namespace CK
structure DS where
  held : List (Option Int)
  marks : List Bool
  hand : Nat
  lacks : Nat
structure DS.WF (s : DS) (n : Nat) : Prop where
  h : s.held.length = n
  m : s.marks.length = n
  n : s.hand < n
def DS.new (n : Nat) : DS := ⟨List.replicate n none, List.replicate n false, 0, 0⟩
/-- the hand past the marked rooms: so many rounds at most -/
def passF : Nat → List Bool → Nat → List Bool × Nat × List Nat
  | 0, m, h => (m, h, [])
  | k + 1, m, h => if m[h]? = some true then
      let r := passF k (m.set h false) ((h + 1) % m.length)
      (r.1, r.2.1, h :: r.2.2)
    else (m, h, [])
def DS.pass (s : DS) : List Bool × Nat × List Nat := passF (s.marks.count true) s.marks s.hand
def DS.lack (s : DS) (p : Int) : DS :=
  ⟨s.held.set s.pass.2.1 (some p), s.pass.1.set s.pass.2.1 true, (s.pass.2.1 + 1) % s.held.length, s.lacks + 1⟩
def DS.hit (s : DS) (p : Int) : DS := { s with marks := s.marks.set (s.held.idxOf (some p)) true }
def DS.ask (s : DS) (p : Int) : DS := if some p ∈ s.held then s.hit p else s.lack p
/-- what an ask tells -/
def DS.tells (s : DS) (p : Int) : Bool × Option Int × List Nat :=
  if some p ∈ s.held then (false, none, []) else (true, (s.held[s.pass.2.1]?).getD none, s.pass.2.2)
def afterL (s : DS) (row : List Int) : DS := row.foldl DS.ask s
def tellsL : DS → List Int → List (Bool × Option Int × List Nat)
  | _, [] => []
  | s, p :: r => s.tells p :: tellsL (s.ask p) r
theorem afterL_snoc (s : DS) (xs : List Int) (p : Int) : afterL s (xs ++ [p]) = (afterL s xs).ask p := by
  unfold afterL
  rw [List.foldl_append]
  rfl
theorem tellsL_snoc : ∀ (s : DS) (xs : List Int) (p : Int), tellsL s (xs ++ [p]) = tellsL s xs ++ [(afterL s xs).tells p]
  | _, [], _ => rfl
  | s, x :: r, p => congrArg (s.tells x :: ·) (tellsL_snoc (s.ask x) r p)
theorem tellsL_len : ∀ (s : DS) (xs : List Int), (tellsL s xs).length = xs.length
  | _, [] => rfl
  | s, x :: r => congrArg Nat.succ (tellsL_len (s.ask x) r)
/-- the places of what is true -/
def placesT : Nat → List Bool → List Nat
  | _, [] => []
  | i, b :: r => if b = true then i :: placesT (i + 1) r else placesT (i + 1) r
theorem placesT_snoc : ∀ (i : Nat) (xs : List Bool) (b : Bool), placesT i (xs ++ [b]) = placesT i xs ++ (if b = true then [i + xs.length] else [])
  | i, [], b => by
    show (if b = true then i :: [] else []) = [] ++ _
    rfl
  | i, x :: r, b => by
    show (if x = true then i :: placesT (i + 1) (r ++ [b]) else placesT (i + 1) (r ++ [b])) = (if x = true then i :: placesT (i + 1) r else placesT (i + 1) r) ++ _
    rw [placesT_snoc (i + 1) r b]
    have e : i + 1 + r.length = i + (x :: r).length := by simp; omega
    rw [e]
    by_cases h : x = true
    · rw [if_pos h, if_pos h]; rfl
    · rw [if_neg h, if_neg h]
theorem placesT_le : ∀ (i : Nat) (xs : List Bool), (placesT i xs).length ≤ xs.length
  | _, [] => Nat.le_refl _
  | i, x :: r => by
    have q := placesT_le (i + 1) r
    unfold placesT
    split
    · simpa using q
    · simp; omega
/-- the line of the other rules -/
def lineStep (n : Nat) (re : Bool) (l : List Int) (p : Int) : List Int :=
  if p ∈ l then (if re = true then l.eraseIdx (l.idxOf p) ++ [p] else l) else (if l.length = n then l.eraseIdx 0 else l) ++ [p]
def lineAt (n : Nat) (re : Bool) (row : List Int) : List Int := row.foldl (lineStep n re) []
def lineL (n : Nat) (re : Bool) : List Int → List Int → List Bool
  | _, [] => []
  | l, p :: r => (!decide (p ∈ l)) :: lineL n re (lineStep n re l p) r
theorem lineAt_snoc (n : Nat) (re : Bool) (xs : List Int) (p : Int) : lineAt n re (xs ++ [p]) = lineStep n re (lineAt n re xs) p := by
  unfold lineAt
  rw [List.foldl_append]
  rfl
theorem lineL_snoc : ∀ (n : Nat) (re : Bool) (l xs : List Int) (p : Int), lineL n re l (xs ++ [p]) = lineL n re l xs ++ [!decide (p ∈ xs.foldl (lineStep n re) l)]
  | _, _, _, [], _ => rfl
  | n, re, l, x :: r, p => congrArg (_ :: ·) (lineL_snoc n re (lineStep n re l x) r p)
theorem lineL_len : ∀ (n : Nat) (re : Bool) (l xs : List Int), (lineL n re l xs).length = xs.length
  | _, _, _, [] => rfl
  | n, re, l, x :: r => congrArg Nat.succ (lineL_len n re (lineStep n re l x) r)
structure LineOk (n : Nat) (l : List Int) : Prop where
  nd : l.Nodup
  le : l.length ≤ n
theorem erase_line {l : List Int} (nd : l.Nodup) (p : Int) : l.eraseIdx (l.idxOf p) = l.filter (· != p) := by
  rw [← List.erase_eq_eraseIdx_of_idxOf (a := p) (l := l) (i := l.idxOf p) rfl]
  exact nd.erase_eq_filter p
theorem line_ok {n : Nat} {re : Bool} {l : List Int} {p : Int} (h : LineOk n l) (hn : 0 < n) : LineOk n (lineStep n re l p) := by
  unfold lineStep
  split
  · rename_i hp
    split
    · have hlt := List.idxOf_lt_length_of_mem hp
      have e := erase_line h.nd p
      refine ⟨?_, ?_⟩
      · rw [e]
        rw [List.nodup_append]
        refine ⟨h.nd.filter _, by simp, fun a ha b hb => ?_⟩
        have hb' : b = p := by simpa using hb
        have ha' : a ≠ p := by
          have := (List.mem_filter.mp ha).2
          simpa using this
        rw [hb']
        exact ha'
      · rw [List.length_append, List.length_eraseIdx_of_lt hlt]
        have := h.le
        simp
        omega
    · exact h
  · rename_i hp
    split
    · rename_i hl
      refine ⟨?_, ?_⟩
      · rw [List.nodup_append]
        refine ⟨h.nd.sublist (List.eraseIdx_sublist _ _), by simp, fun a ha b hb => ?_⟩
        have hb' : b = p := by simpa using hb
        intro z
        rw [z, hb'] at ha
        exact hp ((List.eraseIdx_sublist l 0).subset ha)
      · rw [List.length_append, List.length_eraseIdx_of_lt (by omega)]
        have := h.le
        simp
        omega
    · refine ⟨?_, ?_⟩
      · rw [List.nodup_append]
        refine ⟨h.nd, by simp, fun a ha b hb => ?_⟩
        have hb' : b = p := by simpa using hb
        intro z
        rw [z, hb'] at ha
        exact hp ha
      · rw [List.length_append]
        have := h.le
        simp
        omega
theorem lineAt_ok {n : Nat} {re : Bool} (hn : 0 < n) (row : List Int) : LineOk n (lineAt n re row) := by
  have q : ∀ (row l : List Int), LineOk n l → LineOk n (row.foldl (lineStep n re) l) := by
    intro row
    induction row with
    | nil => exact fun l h => h
    | cons p r ih => exact fun l h => ih _ (line_ok h hn)
  exact q row [] ⟨by simp, by simp⟩
/-- the lacks by a rule: which asks, their places -/
inductive Rl where
  | hand | unseen | first
def Rl.s : Rl → PySem.Str
  | .hand => "hand"
  | .unseen => "unseen"
  | .first => "first"
def lackB (n : Nat) : Rl → List Int → List Bool
  | .hand, row => (tellsL (DS.new n) row).map (·.1)
  | .unseen, row => lineL n true [] row
  | .first, row => lineL n false [] row
def lacksR (n : Nat) (rule : Rl) (row : List Int) : List Nat := placesT 0 (lackB n rule row)
/-- what the law's own going keeps by a rule -/
def keptR (n : Nat) : Rl → List Int → List Int
  | .hand, _ => []
  | .unseen, row => lineAt n true row
  | .first, row => lineAt n false row
def dialR (n : Nat) : Rl → List Int → DS
  | .hand, row => afterL (DS.new n) row
  | _, _ => DS.new n
def lackR (n : Nat) (rule : Rl) (row : List Int) (p : Int) : Bool := match rule with
  | .hand => ((afterL (DS.new n) row).tells p).1
  | _ => !decide (p ∈ keptR n rule row)
theorem lackB_snoc (n : Nat) (rule : Rl) (row : List Int) (p : Int) : lackB n rule (row ++ [p]) = lackB n rule row ++ [lackR n rule row p] := by
  cases rule
  · show (tellsL (DS.new n) (row ++ [p])).map (·.1) = _
    rw [tellsL_snoc, List.map_append]
    rfl
  · exact lineL_snoc n true [] row p
  · exact lineL_snoc n false [] row p
theorem lackB_len (n : Nat) (rule : Rl) (row : List Int) : (lackB n rule row).length = row.length := by
  cases rule
  · show ((tellsL (DS.new n) row).map (·.1)).length = _
    rw [List.length_map, tellsL_len]
  · exact lineL_len _ _ _ _
  · exact lineL_len _ _ _ _
theorem lacksR_le (n : Nat) (rule : Rl) (row : List Int) : (lacksR n rule row).length ≤ row.length := by
  have q := placesT_le 0 (lackB n rule row)
  rw [lackB_len] at q
  exact q
theorem count_set {m : List Bool} {h : Nat} (e : m[h]? = some true) : (m.set h false).count true + 1 = m.count true := by
  induction m generalizing h with
  | nil => simp at e
  | cons a r ih =>
    cases h with
    | zero =>
      have ea : a = true := Option.some.inj e
      subst ea
      simp
    | succ h =>
      have e' : r[h]? = some true := e
      have q := ih e'
      simp only [List.set_cons_succ, List.count_cons]
      omega
theorem count_pos {m : List Bool} {h : Nat} (e : m[h]? = some true) : 0 < m.count true := by
  have := count_set e
  omega
theorem passF_len : ∀ (k : Nat) (m : List Bool) (h : Nat), (passF k m h).1.length = m.length
  | 0, _, _ => rfl
  | k + 1, m, h => by
    unfold passF
    split
    · have q := passF_len k (m.set h false) ((h + 1) % m.length)
      rw [List.length_set] at q
      exact q
    · rfl
theorem passF_lt : ∀ (k : Nat) (m : List Bool) (h : Nat), h < m.length → (passF k m h).2.1 < m.length
  | 0, _, _, l => l
  | k + 1, m, h, l => by
    unfold passF
    split
    · have q := passF_lt k (m.set h false) ((h + 1) % m.length) (by rw [List.length_set]; exact Nat.mod_lt _ (by omega))
      rw [List.length_set] at q
      exact q
    · exact l
/-- the loop's own word: from (m, h), with l passed so far, the end is e -/
structure PassInv (e : List Bool × Nat × List Nat) (m : List Bool) (h : Nat) (l : List Nat) : Prop where
  a : (passF (m.count true) m h).1 = e.1
  b : (passF (m.count true) m h).2.1 = e.2.1
  c : l ++ (passF (m.count true) m h).2.2 = e.2.2
theorem PassInv.start (m : List Bool) (h : Nat) : PassInv (passF (m.count true) m h) m h [] := ⟨rfl, rfl, rfl⟩
theorem passF_step {m : List Bool} {h : Nat} (e : m[h]? = some true) : passF (m.count true) m h =
    ((passF ((m.set h false).count true) (m.set h false) ((h + 1) % m.length)).1, (passF ((m.set h false).count true) (m.set h false) ((h + 1) % m.length)).2.1, h :: (passF ((m.set h false).count true) (m.set h false) ((h + 1) % m.length)).2.2) := by
  rw [← count_set e]
  show (if m[h]? = some true then _ else _) = _
  rw [if_pos e]
theorem passF_stop {m : List Bool} {h k : Nat} (e : m[h]? = some false) : passF k m h = (m, h, []) := by
  cases k with
  | zero => rfl
  | succ k =>
    show (if m[h]? = some true then _ else _) = _
    rw [if_neg (by rw [e]; simp)]
theorem PassInv.go {e : List Bool × Nat × List Nat} {m : List Bool} {h : Nat} {l : List Nat} (I : PassInv e m h l) (t : m[h]? = some true) : PassInv e (m.set h false) ((h + 1) % m.length) (l ++ [h]) := by
  obtain ⟨a, b, c⟩ := I
  rw [passF_step t] at a b c
  refine ⟨a, b, ?_⟩
  rw [← c, List.append_assoc]
  rfl
theorem PassInv.end {e : List Bool × Nat × List Nat} {m : List Bool} {h : Nat} {l : List Nat} (I : PassInv e m h l) (t : m[h]? = some false) : e = (m, h, l) := by
  obtain ⟨a, b, c⟩ := I
  rw [passF_stop t] at a b c
  obtain ⟨x, y, z⟩ := e
  simp only [List.append_nil] at a b c
  rw [a, b, c]
theorem DS.WF.pos {s : DS} {n : Nat} (w : s.WF n) : 0 < n := Nat.lt_of_le_of_lt (Nat.zero_le _) w.n
theorem DS.WF.passlt {s : DS} {n : Nat} (w : s.WF n) : s.pass.2.1 < n := by
  have q := passF_lt (s.marks.count true) s.marks s.hand (by rw [w.m]; exact w.n)
  rw [w.m] at q
  exact q
theorem DS.WF.passm {s : DS} {n : Nat} (w : s.WF n) : s.pass.1.length = n := by
  have q := passF_len (s.marks.count true) s.marks s.hand
  rw [w.m] at q
  exact q
theorem DS.new_wf {n : Nat} (h : 0 < n) : (DS.new n).WF n := ⟨List.length_replicate, List.length_replicate, h⟩
theorem DS.lack_wf {s : DS} {n : Nat} {p : Int} (w : s.WF n) : (s.lack p).WF n := by
  refine ⟨?_, ?_, ?_⟩
  · show (s.held.set _ _).length = n
    rw [List.length_set]; exact w.h
  · show (s.pass.1.set _ _).length = n
    rw [List.length_set]; exact w.passm
  · show (s.pass.2.1 + 1) % s.held.length < n
    rw [w.h]; exact Nat.mod_lt _ w.pos
theorem DS.hit_wf {s : DS} {n : Nat} {p : Int} (w : s.WF n) : (s.hit p).WF n :=
  ⟨w.h, by show (s.marks.set _ _).length = n; rw [List.length_set]; exact w.m, w.n⟩
theorem DS.ask_wf {s : DS} {n : Nat} {p : Int} (w : s.WF n) : (s.ask p).WF n := by
  unfold DS.ask
  split
  · exact hit_wf w
  · exact lack_wf w
theorem afterL_wf {s : DS} {n : Nat} (w : s.WF n) : ∀ row : List Int, (afterL s row).WF n := by
  intro row
  induction row generalizing s with
  | nil => exact w
  | cons p r ih => exact ih (DS.ask_wf w)
/-- the first place of a thing -/
theorem idx_at {α : Type} [BEq α] [LawfulBEq α] {l : List α} {x : α} (h : x ∈ l) : l[l.idxOf x]? = some x := by
  have q := List.idxOf_lt_length_of_mem h
  rw [List.getElem?_eq_getElem q]
  exact congrArg some (List.getElem_idxOf q)
theorem idx_no {α : Type} [BEq α] [LawfulBEq α] : ∀ {l : List α} {x y : α} {m : Nat}, m < l.idxOf x → l[m]? = some y → ¬ y = x
  | [], _, _, _, h, _ => by simp at h
  | a :: r, x, y, m, h, e => by
    intro q
    subst q
    by_cases ha : a = y
    · subst ha
      simp [List.idxOf_cons] at h
    · have hb : (a == y) = false := by simpa using ha
      rw [List.idxOf_cons, hb] at h
      cases m with
      | zero => exact ha (Option.some.inj e)
      | succ m => exact idx_no (l := r) (m := m) (by simpa using h) e rfl
theorem take_snoc {α : Type} {l : List α} {i : Nat} {x : α} (h : l[i]? = some x) : l.take (i + 1) = l.take i ++ [x] := by
  rw [List.take_add_one, h]
  rfl
/-! ### as values -/
open PySem L2
def pgV : Option Int → V
  | none => .non
  | some p => .int p
abbrev HL (l : List (Option Int)) : List V := l.map pgV
abbrev BL (l : List Bool) : List V := l.map V.bl
theorem flat_hl (l : List (Option Int)) : (HL l).all flatV = true := by
  rw [List.all_eq_true]
  intro x hx
  obtain ⟨n, _, rfl⟩ := List.mem_map.mp hx
  cases n <;> rfl
theorem eqV_pg (a : Option Int) (p : Int) : eqV (pgV a) (.int p) = decide (a = some p) := by
  cases a with
  | none => rfl
  | some n =>
    show (n == p) = _
    by_cases h : n = p <;> simp [h]
theorem inV_hl (p : Int) (l : List (Option Int)) : inV (V.int p) (HL l) = decide (some p ∈ l) := by
  induction l with
  | nil => rfl
  | cons a r ih =>
    show (eqV (pgV a) (V.int p) || inV (V.int p) (HL r)) = _
    rw [ih, eqV_pg]
    by_cases h : a = some p
    · simp [h]
    · have h2 : ¬ some p = a := fun z => h z.symm
      simp [h, h2]
theorem hl_set {l : List (Option Int)} {j : Nat} {p : Int} : (HL l).set j (V.int p) = HL (l.set j (some p)) := by
  show (l.map pgV).set j (pgV (some p)) = (l.set j (some p)).map pgV
  rw [List.map_set]
theorem bl_set {l : List Bool} {j : Nat} {b : Bool} : (BL l).set j (V.bl b) = BL (l.set j b) := by
  show (l.map V.bl).set j (V.bl b) = (l.set j b).map V.bl
  rw [List.map_set]
theorem bl_at {l : List Bool} {j : Nat} {b : Bool} (h : l[j]? = some b) : (BL l)[j]? = some (V.bl b) := by
  rw [List.getElem?_map, h]
  rfl
theorem hl_at {l : List (Option Int)} {j : Nat} {b : Option Int} (h : l[j]? = some b) : (HL l)[j]? = some (pgV b) := by
  rw [List.getElem?_map, h]
  rfl
abbrev NL (l : List Nat) : List V := l.map fun n : Nat => V.int (n : Int)
/-- rReps: n times one thing -/
theorem rep_one {x : V} {n : Nat} : (List.replicate n [x]).flatten = List.replicate n x := by
  induction n with
  | zero => rfl
  | succ n ih =>
    rw [List.replicate_succ, List.flatten_cons, ih, List.replicate_succ]
    rfl
theorem hl_new (n : Nat) : HL (DS.new n).held = List.replicate n .non := by
  show (List.replicate n none).map pgV = _
  rw [List.map_replicate]
  rfl
theorem bl_new (n : Nat) : BL (DS.new n).marks = List.replicate n (.bl false) := by
  show (List.replicate n false).map V.bl = _
  rw [List.map_replicate]
end CK

/-! The program's checks. -/
namespace CK
open PySem PySem.Spec PyProof.Rows L2
theorem NL_snoc {ns : List Nat} {n : Nat} : NL ns ++ [V.int (n : Int)] = NL (ns ++ [n]) := by
  show ns.map _ ++ _ = (ns ++ [n]).map _
  rw [List.map_append]
  rfl
theorem NL_il (ns : List Nat) : NL ns = il (ns.map fun n : Nat => (n : Int)) := by
  show ns.map _ = (ns.map _).map V.int
  rw [List.map_map]
  rfl
theorem NL_at {ns : List Nat} {j : Nat} {y : V} (h : (NL ns)[j]? = some y) : ∃ n, ns[j]? = some n ∧ y = V.int (n : Int) := by
  rw [List.getElem?_map] at h
  cases e : ns[j]? with
  | none => rw [e] at h; cases h
  | some n => rw [e] at h; exact ⟨n, rfl, (Option.some.inj h).symm⟩
abbrev rLenQ (K : PySem.W.Frag) : List V → Hp → VK → Prop := fun xs H Q => ∃ p ys, xs = [.ref p] ∧ (SqL K H p ys ∨ SqT K H p ys) ∧ Q (.int ys.length) H
/-! ### places in the text -/
def sub (s : Stmt) (i : Nat) : Stmt := match s with
  | .FunctionDef _ _ b _ _ _ _ _ _ _ => b.getD i (.Pass ⟨0, 0, 0, 0⟩)
  | .For _ _ b _ _ => b.getD i (.Pass ⟨0, 0, 0, 0⟩)
  | .While _ b _ _ => b.getD i (.Pass ⟨0, 0, 0, 0⟩)
  | .If _ b o _ => (b ++ o).getD i (.Pass ⟨0, 0, 0, 0⟩)
  | s => s
def valE : Stmt → Expr
  | .Return (some e) _ => e
  | .Assign _ e _ => e
  | .Expr e _ => e
  | _ => .Name "" ⟨0, 0, 0, 0⟩
def lcSc : Expr → Scope
  | .ListComp _ _ sc _ => sc
  | _ => { kind := .function, names := [], isGenerator := false, isCoroutine := false }
theorem BoxAt.off {H : Hp} {b l c : Addr} (B : BoxAt H b l) (h : H c = none) : c ∉ [b, l] := by
  obtain ⟨_, _, q1, q2, _⟩ := B.ex
  have z1 := ne_fresh q1 h
  have z2 := ne_fresh q2 h
  simp [Ne.symm z1, Ne.symm z2]
theorem BoxAt.notup {H : Hp} {b l : Addr} (B : BoxAt H b l) : ∀ d ∈ [b, l], ∀ u, H d ≠ some (.tup u) := by
  obtain ⟨_, _, q1, q2, _⟩ := B.ex
  intro d hd u z
  rcases List.mem_cons.mp hd with e | e
  · rw [e, q1] at z; cases z
  · rw [List.mem_singleton.mp e, q2] at z; cases z
def spCheckRooms : Sp := fun vs H Q _ => ∃ n : Int, vs = [.int n] ∧ 1 ≤ n ∧ n ≤ 8 ∧ Q .non H
def spIsPage : Sp := fun vs H Q _ => ∃ p : Int, vs = [.int p] ∧ Q (.bl (decide (0 ≤ p ∧ p < 12))) H
/-- a row as it may be handed in -/
def RowOk (row : List Int) : Prop := row.length ≤ 100 ∧ ∀ p ∈ row, 0 ≤ p ∧ p < 12
def spCheckRow (K : PySem.W.Frag) : Sp := fun vs H Q _ => ∃ (r : Addr) (row : List Int), vs = [.ref r] ∧ SqL K H r (il row) ∧ RowOk row ∧ ∀ H', Same H H' → Q .non H'
def spLaw (K : PySem.W.Frag) : Sp := fun vs H Q _ => ∃ (a : Addr) (ns : List Int), vs = [.ref a] ∧ SqL K H a (il ns) ∧ ns.length ≤ 63 ∧ ∀ H', Q (.bl true) H'
theorem depth_pd (a : List Int) : (pd a).depth = 1 := by
  show PyData.depthAll _ + 1 = 1
  rw [dep_il]
theorem small_ints : ∀ a : List Int, smallAll (a.map PyData.int)
  | [] => trivial
  | _ :: r => ⟨trivial, small_ints r⟩
theorem small_pd {a : List Int} (h : a.length ≤ 1000) : smallD (pd a) := ⟨by rw [List.length_map]; exact h, small_ints a⟩
section
variable {P : Program} {w : World} {K : PySem.W.Frag} {mg : Str → Option Value} {base : Heap}
theorem sc_check_rooms : FnScope ["rooms"] ["rooms"] (defScope (top 11)) := ⟨rfl, rfl, rfl, by decide +kernel, rfl, by decide +kernel, by decide +kernel⟩
theorem ok_check_rooms (T : Prog K mg) : FnOk P w K mg base CX0 1 T.check_rooms.f T.check_rooms.fd ["rooms"] spCheckRooms := by
  refine T.check_rooms.fn.ok sc_check_rooms (fun vs H Q E h => ?len) (fun cdv A outer s H vs Q E hr h => ?body)
  case len =>
    obtain ⟨n, rfl, _⟩ := h
    rfl
  case body =>
    have hu := hu_of hr
    obtain ⟨n, rfl, n1, n8, k⟩ := h
    refine ⟨_, PSs.nox (pss_one (ps_if (pt_not (pt_chain op_le op_le pe_int (pv 0) (pe_glob (v := L2.V.int 8) rfl T.g_MOST_ROOMS ⟨_, rfl⟩)))
        (pss_one ps_never)
        pss_nil)), ?_⟩
    refine ⟨_, rfl, _, _, rfl, rfl, _, rfl, ifT (decide_eq_true n1) ⟨_, _, rfl, rfl, _, rfl, ?_⟩⟩
    exact ifF (by rw [decide_eq_true n8]; rfl) k
theorem sc_is_page : FnScope ["page"] ["page"] (defScope (top 12)) := ⟨rfl, rfl, rfl, by decide +kernel, rfl, by decide +kernel, by decide +kernel⟩
theorem ok_is_page (T : Prog K mg) : FnOk P w K mg base CX0 1 T.is_page.f T.is_page.fd ["page"] spIsPage := by
  refine T.is_page.fn.ok sc_is_page (fun vs H Q E h => ?len) (fun cdv A outer s H vs Q E hr h => ?body)
  case len =>
    obtain ⟨n, rfl, _⟩ := h
    rfl
  case body =>
    have hu := hu_of hr
    obtain ⟨p, rfl, k⟩ := h
    refine ⟨_, PSs.nox (pss_one (ps_ret (pe_chain op_le op_lt pe_int (pv 0) (pe_glob (v := L2.V.int 12) rfl T.g_PAGES ⟨_, rfl⟩)))), ?_⟩
    refine ⟨_, rfl, _, _, rfl, rfl, _, rfl, ?_⟩
    by_cases h0 : 0 ≤ p
    · refine ifT (decide_eq_true h0) ⟨_, _, rfl, rfl, ?_⟩
      have e : decide (p < 12) = decide (0 ≤ p ∧ p < 12) := by simp [h0]
      rw [← e] at k
      exact k
    · refine ifF (decide_eq_false h0) ?_
      have e : false = decide (0 ≤ p ∧ p < 12) := by simp [h0]
      rw [← e] at k
      exact k
theorem sc_check_row : FnScope ["row", "place", "page"] ["row"] (defScope (top 14)) := ⟨rfl, rfl, rfl, by decide +kernel, rfl, by decide +kernel, by decide +kernel⟩
theorem ok_check_row (T : Prog K mg) : FnOk P w K mg base CX0 2 T.check_row.f T.check_row.fd ["row"] (spCheckRow K) := by
  have G_is_page := ok_is_page (P := P) (w := w) (base := base) T
  refine T.check_row.fn.ok sc_check_row (fun vs H Q E h => ?len) (fun cdv A outer s H vs Q E hr h => ?body)
  case len =>
    obtain ⟨r, row, rfl, _⟩ := h
    rfl
  case body =>
    have hr_is_page : Room 1 _ := hr.mono (by decide)
    have hu := hu_of hr
    obtain ⟨r, row, rfl, hS, hR, k⟩ := h
    refine ⟨_, PSs.nox (pss_one (ps_for PassesOwn.never rfl (pi_enum (by rfl) T.enumerate (pa_cons (pv 0) pa_nil)) (pg_tup rfl (pgs_cons (pg_name (i := 1) sc_check_row.nd rfl (Or.inl rfl)) (pgs_cons (pg_name (i := 2) sc_check_row.nd rfl (Or.inl rfl)) pgs_nil)))
        (pss_one (ps_if (PW.pt (pw_or (pt_cmpR op_eq (pv 1) (pe_glob (v := L2.V.int 100) rfl T.g_MOST_ASKS ⟨_, rfl⟩) (nomark _)) (pw_or1 (pt_not (pt_val (pe_call G_is_page hr_is_page (by rfl) T.is_page.g T.is_page.fn.kp T.is_page.bd .nil pass0 (pa_cons (pv 2) pa_nil)))))))
        (pss_one ps_never)
        pss_nil)))), ?_⟩
    refine ⟨_, rfl, r, _, rfl, hS, for_it (walk_enum (K := K) (a := r) (xs := il row)) (fun i σ H' => (∃ v1 v2, σ = [some (.ref r), v1, v2]) ∧ Same H H') ⟨⟨_, _, rfl⟩, Same.refl H⟩ (fun i σ H' _ h => h.2.seq hS) ?_ ?_⟩
    · rintro i x σ H1 H2 hi ⟨⟨v1, v2, rfl⟩, s1⟩ ⟨t, a, b, rfl, ht, rfl, ha, hb⟩
      have ea : V.int (i : Nat) = a := Option.some.inj ha
      subst ea
      obtain ⟨p, hp, rfl⟩ := il_get hb
      have hpg := hR.2 p (List.mem_of_getElem? hp)
      rw [il_len] at hi
      have hlen := hR.1
      refine ⟨t, _, rfl, SqT.of upd_same, rfl, _, _, rfl, _, _, rfl, rfl, ?_⟩
      refine ⟨_, rfl, rfl, _, rfl, ifF (decide_eq_false (by intro z; injection z with z; omega)) ?_⟩
      refine ⟨_, rfl, p, rfl, _, rfl, ifF (by rw [decide_eq_true hpg]; rfl) ?_⟩
      exact ⟨⟨_, _, rfl⟩, s1.trans (Same.new ht)⟩
    · rintro σ H' ⟨⟨v1, v2, rfl⟩, s1⟩
      exact k H' s1
end
end CK

/-! The program's dial. -/
namespace CK
open PySem PySem.Spec PyProof.Rows L2
def spCheckPage : Sp := fun vs H Q _ => ∃ p : Int, vs = [.int p] ∧ 0 ≤ p ∧ p < 12 ∧ Q .non H
section
variable {P : Program} {w : World} {K : PySem.W.Frag} {mg : Str → Option Value} {base : Heap}
theorem sc_check_page : FnScope ["page"] ["page"] (defScope (top 13)) := ⟨rfl, rfl, rfl, by decide +kernel, rfl, by decide +kernel, by decide +kernel⟩
theorem ok_check_page (T : Prog K mg) : FnOk P w K mg base CX0 2 T.check_page.f T.check_page.fd ["page"] spCheckPage := by
  have G_is_page := ok_is_page (P := P) (w := w) (base := base) T
  refine T.check_page.fn.ok sc_check_page (fun vs H Q E h => ?len) (fun cdv A outer s H vs Q E hr h => ?body)
  case len =>
    obtain ⟨n, rfl, _⟩ := h
    rfl
  case body =>
    have hr_is_page : Room 1 _ := hr.mono (by decide)
    have hu := hu_of hr
    obtain ⟨p, rfl, p0, p1, k⟩ := h
    refine ⟨_, PSs.nox (pss_one (ps_if (pt_not (pt_val (pe_call G_is_page hr_is_page (by rfl) T.is_page.g T.is_page.fn.kp T.is_page.bd .nil pass0 (pa_cons (pv 0) pa_nil))))
        (pss_one ps_never)
        pss_nil)), ?_⟩
    refine ⟨_, rfl, p, rfl, _, rfl, ?_⟩
    exact ifF (by rw [decide_eq_true ⟨p0, p1⟩]; rfl) k
/-! ### the dial -/
abbrev flD (a b : Addr) (h k : Int) : List (Str × V) := [("_held", .ref a), ("_marks", .ref b), ("_hand", .int h), ("_lacks", .int k)]
/-- a Dial of the class at C stands at p, its rooms' pages at a, their marks at b: s -/
structure DialIs (C : Addr) (H : Hp) (p a b : Addr) (s : DS) : Prop where
  ne : a ≠ b
  ob : ∃ dx, H p = some (.ins C dx (flD a b s.hand s.lacks))
  he : H a = some (.lst (HL s.held))
  ma : H b = some (.lst (BL s.marks))
theorem DialIs.pa {C : Addr} {H : Hp} {p a b : Addr} {s : DS} (D : DialIs C H p a b s) : p ≠ a := by
  obtain ⟨dx, h⟩ := D.ob
  exact ne_of h D.he (by intro z; cases z)
theorem DialIs.pb {C : Addr} {H : Hp} {p a b : Addr} {s : DS} (D : DialIs C H p a b s) : p ≠ b := by
  obtain ⟨dx, h⟩ := D.ob
  exact ne_of h D.ma (by intro z; cases z)
theorem DialIs.but {S : List Addr} {C : Addr} {H H' : Hp} {p a b : Addr} {s : DS} (D : DialIs C H p a b s) (k : But S H H') (h1 : p ∉ S) (h2 : a ∉ S) (h3 : b ∉ S) : DialIs C H' p a b s := by
  obtain ⟨dx, h⟩ := D.ob
  exact ⟨D.ne, ⟨dx, k _ _ h h1⟩, k _ _ D.he h2, k _ _ D.ma h3⟩
theorem DialIs.same {C : Addr} {H H' : Hp} {p a b : Addr} {s : DS} (D : DialIs C H p a b s) (k : Same H H') : DialIs C H' p a b s := D.but (S := []) (But.of k) (by simp) (by simp) (by simp)
/-- the hand goes on by one -/
def spGoOn (C : Addr) : Sp := fun vs H Q _ => ∃ (p a b dx : Addr) (xs : List V) (h k : Nat), vs = [.ref p] ∧ H p = some (.ins C dx (flD a b h k)) ∧ H a = some (.lst xs) ∧ 0 < xs.length ∧
  Q .non (upd H p (.ins C dx (flD a b ((h + 1) % xs.length : Nat) k)))
theorem sc_Dial_go_on : FnScope ["self"] ["self"] (defScope (inClass (top 16) 8)) := ⟨rfl, rfl, rfl, by decide +kernel, rfl, by decide +kernel, by decide +kernel⟩
theorem ok_Dial_go_on (T : Prog K mg) : FnOk P w K mg base CX0 1 T.Dial.go_on.f T.Dial.go_on.fd ["self"] (spGoOn T.Dial.C) := by
  refine T.Dial.go_on.fn.ok sc_Dial_go_on (fun vs H Q E h => ?len) (fun cdv A outer s H vs Q E hr h => ?body)
  case len =>
    obtain ⟨p, a, b, dx, xs, h, k, rfl, _⟩ := h
    rfl
  case body =>
    have hu := hu_of hr
    obtain ⟨p, a, b, dx, xs, h, k, rfl, hp, ha, hx, q⟩ := h
    refine ⟨_, PSs.nox (pss_one (ps_fld (pv 0) (pe_op op_mod (pe_op op_add (pe_fld (pv 0) rfl) pe_int) (pe_callB call_len_seq (by rfl) T.len PySem.boot_len (pa_cons (pe_fld (pv 0) rfl) pa_nil))) rfl)), ?_⟩
    refine ⟨_, rfl, p, _, dx, _, _, rfl, hp, T.Dial.cl, T.Dial.n_hand, rfl, _, _, rfl, rfl, ?_⟩
    refine ⟨_, rfl, p, _, dx, _, _, rfl, hp, T.Dial.cl, T.Dial.n_held, rfl, a, xs, rfl, .inl (SqL.of ha), _, _, rfl, rfl, int0 (by omega), ?_⟩
    refine ⟨_, rfl, p, _, dx, _, rfl, hp, T.Dial.cl, T.Dial.n_hand, by show 4 < 1000; decide, ?_⟩
    have e : (((h : Nat) : Int) + 1) % ((xs.length : Nat) : Int) = (((h + 1) % xs.length : Nat) : Int) := by
      rw [Int.natCast_emod]
      rfl
    have e2 : putF "_hand" (V.int ((((h : Nat) : Int) + 1) % ((xs.length : Nat) : Int))) (flD a b h k) = flD a b ((h + 1) % xs.length : Nat) k := by
      rw [e]
      rfl
    exact e2 ▸ q
/-- a new dial of n rooms -/
def spDInit (C : Addr) : Sp := fun vs H Q _ => ∃ (p dx : Addr) (n : Int), vs = [.ref p, .int n] ∧ H p = some (.ins C dx []) ∧ 1 ≤ n ∧ n ≤ 8 ∧
  ∀ (a b : Addr) (H' : Hp), H a = none → H b = none → DialIs C H' p a b (DS.new n.toNat) → But [p] H H' → Q .non H'
theorem sc_Dial_init : FnScope ["self", "rooms"] ["self", "rooms"] (defScope (inClass (top 16) 0)) := ⟨rfl, rfl, rfl, by decide +kernel, rfl, by decide +kernel, by decide +kernel⟩
theorem ok_Dial_init (T : Prog K mg) : FnOk P w K mg base CX0 2 T.Dial.init.f T.Dial.init.fd ["self", "rooms"] (spDInit T.Dial.C) := by
  have G_check_rooms := ok_check_rooms (P := P) (w := w) (base := base) T
  refine T.Dial.init.fn.ok sc_Dial_init (fun vs H Q E h => ?len) (fun cdv A outer s H vs Q E hr h => ?body)
  case len =>
    obtain ⟨p, dx, n, rfl, _⟩ := h
    rfl
  case body =>
    have hr_check_rooms : Room 1 _ := hr.mono (by decide)
    have hu := hu_of hr
    obtain ⟨p, dx, n, rfl, hp, n1, n8, k⟩ := h
    refine ⟨_, PSs.nox (pss_cons (ps_expr (pe_call G_check_rooms hr_check_rooms (by rfl) T.check_rooms.g T.check_rooms.fn.kp T.check_rooms.bd .nil pass0 (pa_cons (pv 1) pa_nil)))
        (pss_cons (ps_fld (pv 0) (pe_op op_rep (pe_lst (pa_cons pe_non pa_nil)) (pv 1)) rfl)
        (pss_cons (ps_fld (pv 0) (pe_op op_rep (pe_lst (pa_cons pe_bl pa_nil)) (pv 1)) rfl)
        (pss_cons (ps_fld (pv 0) pe_int rfl)
        (pss_one (ps_fld (pv 0) pe_int rfl)))))), ?_⟩
    refine ⟨_, rfl, n, rfl, n1, n8, ?_⟩
    -- self._held = [None] * rooms
    refine ⟨szd rfl, fun e he => ?_⟩
    have pe : p ≠ e := ne_fresh hp he
    refine ⟨_, rfl, e, n, _, rfl, rfl, upd_same, by omega, by omega, sz (by show 1 * n.toNat ≤ 100000; omega), fun a ha => ?_⟩
    have s1 : Same H (upd H e (.lst [.non])) := Same.new he
    have haH := Same.back s1 ha
    have hp1 : upd H e (.lst [.non]) p = some (.ins T.Dial.C dx []) := s1 _ _ hp
    have pa : p ≠ a := ne_fresh hp1 ha
    have ea : e ≠ a := ne_fresh (H := upd H e (.lst [.non])) upd_same ha
    refine ⟨_, rfl, p, _, dx, _, rfl, by rw [upd_ne pa]; exact hp1, T.Dial.cl, T.Dial.n_held, by show 0 < 1000; decide, ?_⟩
    -- self._marks = [False] * rooms
    refine ⟨szd rfl, fun e2 he2 => ?_⟩
    have pe2 : p ≠ e2 := ne_fresh upd_same he2
    have ae2 : a ≠ e2 := ne_fresh (by rw [upd_ne (Ne.symm pa)]; exact upd_same) he2
    refine ⟨_, rfl, e2, n, _, rfl, rfl, upd_same, by omega, by omega, sz (by show 1 * n.toNat ≤ 100000; omega), fun b hb => ?_⟩
    have pb : p ≠ b := ne_fresh (by rw [upd_ne pe2]; exact upd_same) hb
    have ab : a ≠ b := ne_fresh (by rw [upd_ne ae2, upd_ne (Ne.symm pa)]; exact upd_same) hb
    refine ⟨_, rfl, p, _, dx, _, rfl, by rw [upd_ne pb, upd_ne pe2]; exact upd_same, T.Dial.cl, T.Dial.n_marks, by show 1 < 1000; decide, ?_⟩
    -- self._hand = 0; self._lacks = 0
    refine ⟨_, rfl, p, _, dx, _, rfl, upd_same, T.Dial.cl, T.Dial.n_hand, by show 2 < 1000; decide, ?_⟩
    refine ⟨_, rfl, p, _, dx, _, rfl, upd_same, T.Dial.cl, T.Dial.n_lacks, by show 3 < 1000; decide, ?_⟩
    rw [upd_upd, upd_upd]
    have bH : H b = none := by
      have q := hb
      by_cases z1 : b = e2
      · rw [z1] at q; rw [upd_same] at q; cases q
      rw [upd_ne z1, upd_ne (Ne.symm pb), upd_ne (Ne.symm ab)] at q
      exact Same.back s1 q
    refine k a b _ haH bH ⟨ab, ⟨dx, ?_⟩, ?_, ?_⟩ ?_
    · rw [upd_same]; rfl
    · rw [upd_ne (Ne.symm pa), upd_ne ab, upd_ne ae2, upd_ne (Ne.symm pa), upd_same, rep_one, hl_new]
    · rw [upd_ne (Ne.symm pb), upd_same, rep_one, bl_new]
    · intro c o hc hn
      have c1 : c ≠ p := by simpa using hn
      have c2 : c ≠ e := ne_fresh hc he
      have c3 : c ≠ a := ne_fresh hc haH
      have c4 : c ≠ b := ne_fresh hc bH
      have c5 : c ≠ e2 := by
        intro z
        rw [z] at hc c1 c3
        rw [upd_ne c1, upd_ne c3] at he2
        have := s1 _ _ hc
        rw [he2] at this
        cases this
      rw [upd_ne c1, upd_ne c4, upd_ne c5, upd_ne c1, upd_ne c3, upd_ne c2]
      exact hc
/-- the hand past the marked rooms -/
def spPass (C : Addr) : Sp := fun vs H Q _ => ∃ (p a b : Addr) (s : DS) (n : Nat), vs = [.ref p] ∧ DialIs C H p a b s ∧ s.WF n ∧ n ≤ 8 ∧
  ∀ (l : Addr) (H' : Hp), H l = none → H' l = some (.lst (NL s.pass.2.2)) → DialIs C H' p a b { s with marks := s.pass.1, hand := s.pass.2.1 } → But [p, b] H H' → Q (.ref l) H'
theorem sc_Dial_pass_marked : FnScope ["self", "passed"] ["self"] (defScope (inClass (top 16) 6)) := ⟨rfl, rfl, rfl, by decide +kernel, rfl, by decide +kernel, by decide +kernel⟩
theorem ok_Dial_pass_marked (T : Prog K mg) : FnOk P w K mg base CX0 2 T.Dial.pass_marked.f T.Dial.pass_marked.fd ["self"] (spPass T.Dial.C) := by
  have G_go_on := ok_Dial_go_on (P := P) (w := w) (base := base) T
  refine T.Dial.pass_marked.fn.ok sc_Dial_pass_marked (fun vs H Q E h => ?len) (fun cdv A outer s H vs Q E hr h => ?body)
  case len =>
    obtain ⟨p, a, b, s, n, rfl, _⟩ := h
    rfl
  case body =>
    have hr_go_on : Room 1 _ := hr.mono (by decide)
    have hu := hu_of hr
    obtain ⟨p, a, b, s, n, rfl, D, W, n8, k⟩ := h
    refine ⟨_, PSs.nox (pss_cons (ps_set (i := 1) sc_Dial_pass_marked.nd rfl (Or.inl rfl) (pe_lst pa_nil))
        (pss_cons (ps_while PassesOwn.never (pt_val (pe_ix ix_list (pe_fld (pv 0) rfl) (pe_fld (pv 0) rfl) (fun _ _ => rfl)))
        (pss_cons (ps_asg pe_bl (pg_sub (pe_fld (pv 0) rfl) (pe_fld (pv 0) rfl) set_list))
        (pss_cons (ps_expr (pe_bm PySem.F.plainAttrs_list PySem.F.slot_list_append PySem.F.type_list_append mt_append (pv 1) (pa_cons (pe_fld (pv 0) rfl) pa_nil)))
        (pss_one (ps_expr (pe_meth0 (pv 0) T.Dial.cl T.Dial.go_on.me G_go_on hr_go_on T.Dial.go_on.bd .nil pass0))))))
        (pss_one (ps_ret (pv 1))))), ?_⟩
    refine ⟨szd rfl, fun l hl => ?_⟩
    have s0 : Same H (upd H l (.lst [])) := Same.new hl
    let St : Nat → L2.St → Hp → Prop := fun c σ H' => ∃ (m : List Bool) (h : Nat) (acc : List Nat), σ = [some (.ref p), some (.ref l)] ∧ PassInv s.pass m h acc ∧ m.length = n ∧ h < n ∧ c = m.count true ∧ acc.length + c = s.marks.count true ∧
      DialIs T.Dial.C H' p a b { s with marks := m, hand := h } ∧ H' l = some (.lst (NL acc)) ∧ But [p, b] H H'
    refine ⟨St, ⟨_, s.marks, s.hand, [], rfl, PassInv.start _ _, W.m, W.n, rfl, by simp, D.same s0, upd_same, But.of s0⟩, ?_⟩
    rintro c σ H1 ⟨m, h, acc, rfl, I, hm, hh, rfl, hc, D1, hl1, k1⟩
    obtain ⟨dx, hp1⟩ := D1.ob
    have hcm : s.marks.count true ≤ 8 := Nat.le_trans List.count_le_length (by rw [W.m]; exact n8)
    have hat : m[h]? = some (m[h]'(by omega)) := List.getElem?_eq_getElem _
    refine ⟨_, rfl, p, _, dx, _, _, rfl, hp1, T.Dial.cl, T.Dial.n_marks, rfl, _, rfl, p, _, dx, _, _, rfl, hp1, T.Dial.cl, T.Dial.n_hand, rfl, b, _, _, _, rfl, rfl, SqL.of D1.ma, atI_nat (bl_at hat), _, rfl, ?_⟩
    have pb := D1.pb
    have pa := D1.pa
    have lp : l ≠ p := by intro z; rw [z] at hl1; rw [hp1] at hl1; cases hl1
    have lb : l ≠ b := by
      obtain ⟨dx0, hp0⟩ := D.ob
      intro z
      rw [z] at hl
      rw [D.ma] at hl
      cases hl
    have la : l ≠ a := by
      intro z
      rw [z] at hl
      rw [D.he] at hl
      cases hl
    by_cases ht : m[h]'(by omega) = true
    · rw [ht] at hat ⊢
      refine iteT ⟨fun σ' H' => ∃ c', c' < m.count true ∧ St c' σ' H', fun σ' H' q => q, ?_⟩
      -- self._marks[self._hand] = False
      refine ⟨_, rfl, p, _, dx, _, _, rfl, hp1, T.Dial.cl, T.Dial.n_marks, rfl, _, rfl, p, _, dx, _, _, rfl, hp1, T.Dial.cl, T.Dial.n_hand, rfl, b, _, _, _, rfl, rfl, D1.ma, ixn rfl (by simp; omega), ?_⟩
      rw [bl_set]
      -- passed.append(self._hand)
      have hp2 : upd H1 b (.lst (BL (m.set h false))) p = some (.ins T.Dial.C dx (flD a b h s.lacks)) := by rw [upd_ne pb]; exact hp1
      have hl2 : upd H1 b (.lst (BL (m.set h false))) l = some (.lst (NL acc)) := by rw [upd_ne lb]; exact hl1
      refine ⟨_, rfl, .inl ⟨rfl, _, SqL.of hl2⟩, _, rfl, p, _, dx, _, _, rfl, hp2, T.Dial.cl, T.Dial.n_hand, rfl, l, _, _, rfl, rfl, hl2, szl (by simp; omega), ?_⟩
      -- self._go_on()
      have hp3 : upd (upd H1 b (.lst (BL (m.set h false)))) l (.lst (NL acc ++ [V.int h])) p = some (.ins T.Dial.C dx (flD a b h s.lacks)) := by rw [upd_ne (Ne.symm lp)]; exact hp2
      have ha3 : upd (upd H1 b (.lst (BL (m.set h false)))) l (.lst (NL acc ++ [V.int h])) a = some (.lst (HL s.held)) := by rw [upd_ne (Ne.symm la), upd_ne D1.ne]; exact D1.he
      refine ⟨_, rfl, p, dx, _, rfl, hp3, rfl, p, a, b, dx, _, h, s.lacks, rfl, hp3, ha3, by simp [W.h]; omega, ?_⟩
      have cs := count_set hat
      have hn0 : 0 < n := by omega
      refine ⟨_, by omega, m.set h false, (h + 1) % m.length, acc ++ [h], rfl, I.go hat, by rw [List.length_set]; exact hm, by rw [hm]; exact Nat.mod_lt _ hn0, rfl, by rw [List.length_append]; simp; omega, ⟨D1.ne, ⟨dx, ?_⟩, ?_, ?_⟩, ?_, ?_⟩
      · rw [upd_same]
        have e : (HL s.held).length = m.length := by simp [W.h, hm]
        rw [e]
      · rw [upd_ne (Ne.symm pa)]; exact ha3
      · rw [upd_ne (Ne.symm pb), upd_ne (Ne.symm lb), upd_same]
      · rw [upd_ne lp, upd_same]
        show _ = some (HO.lst ((acc ++ [h]).map fun n : Nat => V.int (n : Int)))
        rw [List.map_append]
        rfl
      · intro c o hc hn
        have hn' : c ≠ p ∧ c ≠ b := by simpa using hn
        rw [upd_ne hn'.1, upd_ne (ne_fresh hc hl), upd_ne hn'.2]
        exact k1 c o hc hn
    · have hf : m[h]'(by omega) = false := by simpa using ht
      rw [hf] at hat ⊢
      have e := I.end hat
      refine iteF ⟨_, rfl, k l H1 hl (by rw [e]; exact hl1) ?_ k1⟩
      rw [e]
      exact D1
/-- the asked page to the room of the hand; the one that was there -/
def spExch (C : Addr) : Sp := fun vs H Q _ => ∃ (p a b : Addr) (s : DS) (n : Nat) (pg : Int), vs = [.ref p, .int pg] ∧ DialIs C H p a b s ∧ s.WF n ∧
  ∀ H' : Hp, DialIs C H' p a b ⟨s.held.set s.hand (some pg), s.marks.set s.hand true, (s.hand + 1) % s.held.length, s.lacks⟩ → But [p, a, b] H H' → Q (pgV ((s.held[s.hand]?).getD none)) H'
theorem sc_Dial_exchange : FnScope ["self", "page", "gone"] ["self", "page"] (defScope (inClass (top 16) 7)) := ⟨rfl, rfl, rfl, by decide +kernel, rfl, by decide +kernel, by decide +kernel⟩
theorem ok_Dial_exchange (T : Prog K mg) : FnOk P w K mg base CX0 2 T.Dial.exchange.f T.Dial.exchange.fd ["self", "page"] (spExch T.Dial.C) := by
  have G_go_on := ok_Dial_go_on (P := P) (w := w) (base := base) T
  refine T.Dial.exchange.fn.ok sc_Dial_exchange (fun vs H Q E h => ?len) (fun cdv A outer s H vs Q E hr h => ?body)
  case len =>
    obtain ⟨p, a, b, s, n, pg, rfl, _⟩ := h
    rfl
  case body =>
    have hr_go_on : Room 1 _ := hr.mono (by decide)
    have hu := hu_of hr
    obtain ⟨p, a, b, s, n, pg, rfl, D, W, k⟩ := h
    refine ⟨_, PSs.nox (pss_cons (ps_set (i := 2) sc_Dial_exchange.nd rfl (Or.inl rfl) (pe_ix ix_list (pe_fld (pv 0) rfl) (pe_fld (pv 0) rfl) (fun _ _ => rfl)))
        (pss_cons (ps_asg (pv 1) (pg_sub (pe_fld (pv 0) rfl) (pe_fld (pv 0) rfl) set_list))
        (pss_cons (ps_asg pe_bl (pg_sub (pe_fld (pv 0) rfl) (pe_fld (pv 0) rfl) set_list))
        (pss_cons (ps_expr (pe_meth0 (pv 0) T.Dial.cl T.Dial.go_on.me G_go_on hr_go_on T.Dial.go_on.bd .nil pass0))
        (pss_one (ps_ret (pv 2))))))), ?_⟩
    obtain ⟨dx, hp⟩ := D.ob
    have pb := D.pb
    have pa := D.pa
    have hlt : s.hand < s.held.length := by rw [W.h]; exact W.n
    have hat : s.held[s.hand]? = some (s.held[s.hand]'hlt) := List.getElem?_eq_getElem _
    rw [hat] at k
    -- gone = self._held[self._hand]
    refine ⟨_, rfl, p, _, dx, _, _, rfl, hp, T.Dial.cl, T.Dial.n_held, rfl, _, rfl, p, _, dx, _, _, rfl, hp, T.Dial.cl, T.Dial.n_hand, rfl, a, _, _, _, rfl, rfl, SqL.of D.he, atI_nat (hl_at hat), ?_⟩
    -- self._held[self._hand] = page
    refine ⟨_, rfl, _, rfl, p, _, dx, _, _, rfl, hp, T.Dial.cl, T.Dial.n_held, rfl, _, rfl, p, _, dx, _, _, rfl, hp, T.Dial.cl, T.Dial.n_hand, rfl, a, _, _, _, rfl, rfl, D.he, ixn rfl (by simp; exact hlt), ?_⟩
    rw [hl_set]
    have hp1 : upd H a (.lst (HL (s.held.set s.hand (some pg)))) p = some (.ins T.Dial.C dx (flD a b s.hand s.lacks)) := by rw [upd_ne pa]; exact hp
    have hb1 : upd H a (.lst (HL (s.held.set s.hand (some pg)))) b = some (.lst (BL s.marks)) := by rw [upd_ne (Ne.symm D.ne)]; exact D.ma
    -- self._marks[self._hand] = True
    refine ⟨_, rfl, p, _, dx, _, _, rfl, hp1, T.Dial.cl, T.Dial.n_marks, rfl, _, rfl, p, _, dx, _, _, rfl, hp1, T.Dial.cl, T.Dial.n_hand, rfl, b, _, _, _, rfl, rfl, hb1, ixn rfl (by simp [W.m]; exact W.n), ?_⟩
    rw [bl_set]
    have hp2 : ∀ o, upd (upd H a (.lst (HL (s.held.set s.hand (some pg))))) b o p = some (.ins T.Dial.C dx (flD a b s.hand s.lacks)) := fun o => by rw [upd_ne pb]; exact hp1
    have ha2 : ∀ o, upd (upd H a (.lst (HL (s.held.set s.hand (some pg))))) b o a = some (.lst (HL (s.held.set s.hand (some pg)))) := fun o => by rw [upd_ne D.ne, upd_same]
    refine ⟨_, rfl, p, dx, _, rfl, hp2 _, rfl, p, a, b, dx, _, s.hand, s.lacks, rfl, hp2 _, ha2 _, by simp [W.h]; exact W.pos, ?_⟩
    refine ⟨_, rfl, k _ ⟨D.ne, ⟨dx, ?_⟩, ?_, ?_⟩ ?_⟩
    · rw [upd_same]
      have e : (HL (s.held.set s.hand (some pg))).length = s.held.length := by simp
      rw [e]
    · rw [upd_ne (Ne.symm pa)]; exact ha2 _
    · rw [upd_ne (Ne.symm pb), upd_same]
    · exact ((But.put (by simp)).trans (But.put (by simp))).trans (But.put (by simp))
/-- an ask -/
def spAsk (C : Addr) : Sp := fun vs H Q _ => ∃ (p a b : Addr) (s : DS) (n : Nat) (pg : Int), vs = [.ref p, .int pg] ∧ DialIs C H p a b s ∧ s.WF n ∧ n ≤ 8 ∧ 0 ≤ pg ∧ pg < 12 ∧
  ∀ (t l : Addr) (H' : Hp), H t = none → H l = none → t ≠ l → H' t = some (.tup [.bl (s.tells pg).1, pgV (s.tells pg).2.1, .ref l]) → H' l = some (.lst (NL (s.tells pg).2.2)) → DialIs C H' p a b (s.ask pg) → But [p, a, b] H H' → Q (.ref t) H'
theorem sc_Dial_ask : FnScope ["self", "page", "passed", "gone"] ["self", "page"] (defScope (inClass (top 16) 1)) := ⟨rfl, rfl, rfl, by decide +kernel, rfl, by decide +kernel, by decide +kernel⟩
theorem ok_Dial_ask (T : Prog K mg) : FnOk P w K mg base CX0 3 T.Dial.ask.f T.Dial.ask.fd ["self", "page"] (spAsk T.Dial.C) := by
  have G_check_page := ok_check_page (P := P) (w := w) (base := base) T
  have G_pass_marked := ok_Dial_pass_marked (P := P) (w := w) (base := base) T
  have G_exchange := ok_Dial_exchange (P := P) (w := w) (base := base) T
  refine T.Dial.ask.fn.ok sc_Dial_ask (fun vs H Q E h => ?len) (fun cdv A outer s H vs Q E hr h => ?body)
  case len =>
    obtain ⟨p, a, b, s, n, pg, rfl, _⟩ := h
    rfl
  case body =>
    have hr_check_page : Room 2 _ := hr.mono (by decide)
    have hr_pass_marked : Room 2 _ := hr.mono (by decide)
    have hr_exchange : Room 2 _ := hr.mono (by decide)
    have hu := hu_of hr
    obtain ⟨p, a, b, s, n, pg, rfl, D, W, n8, g0, g1, k⟩ := h
    refine ⟨_, PSs.nox (pss_cons (ps_expr (pe_call G_check_page hr_check_page (by rfl) T.check_page.g T.check_page.fn.kp T.check_page.bd .nil pass0 (pa_cons (pv 1) pa_nil)))
        (pss_cons (ps_if (pt_cmpR op_in_seq (pv 1) (pe_fld (pv 0) rfl) (by rfl))
        (pss_cons (ps_asg pe_bl (pg_sub (pe_fld (pv 0) rfl) (pe_bm PySem.F.plainAttrs_list PySem.F.slot_list_index PySem.F.type_list_index mt_index (pe_fld (pv 0) rfl) (pa_cons (pv 1) pa_nil)) set_list))
        (pss_one (ps_ret (pe_tup (pa_cons pe_bl (pa_cons pe_non (pa_cons (pe_lst pa_nil) pa_nil)))))))
        pss_nil)
        (pss_cons (ps_fldaug (pv 0) pe_int in_add)
        (pss_cons (ps_set (i := 2) sc_Dial_ask.nd rfl (Or.inl rfl) (pe_meth0 (pv 0) T.Dial.cl T.Dial.pass_marked.me G_pass_marked hr_pass_marked T.Dial.pass_marked.bd .nil pass0))
        (pss_cons (ps_set (i := 3) sc_Dial_ask.nd rfl (Or.inl rfl) (pe_meth (pv 0) T.Dial.cl T.Dial.exchange.me G_exchange hr_exchange T.Dial.exchange.bd .nil pass0 (pa_cons (pv 1) pa_nil)))
        (pss_one (ps_ret (pe_tup (pa_cons pe_bl (pa_cons (pv 3) (pa_cons (pv 2) pa_nil))))))))))), ?_⟩
    obtain ⟨dx, hp⟩ := D.ob
    have pb := D.pb
    have pa := D.pa
    refine ⟨_, rfl, pg, rfl, g0, g1, ?_⟩
    -- if page in self._held
    refine ⟨_, rfl, _, rfl, p, _, dx, _, _, rfl, hp, T.Dial.cl, T.Dial.n_held, rfl, a, _, rfl, .inl (SqL.of D.he), rfl, flat_hl _, _, rfl, ?_⟩
    have e0 : (if false = true then !inV (V.int pg) (HL s.held) else inV (V.int pg) (HL s.held)) = decide (some pg ∈ s.held) := by
      rw [if_neg (by simp), inV_hl]
    by_cases hin : some pg ∈ s.held
    · refine ifT (by rw [e0]; exact decide_eq_true hin) ?_
      have eT : s.tells pg = (false, none, []) := by unfold DS.tells; rw [if_pos hin]
      have eA : s.ask pg = s.hit pg := by unfold DS.ask; rw [if_pos hin]
      rw [eT, eA] at k
      have hj : s.held.idxOf (some pg) < n := by rw [← W.h]; exact List.idxOf_lt_length_of_mem hin
      -- self._marks[self._held.index(page)] = True
      refine ⟨_, rfl, p, _, dx, _, _, rfl, hp, T.Dial.cl, T.Dial.n_marks, rfl, _, rfl, p, _, dx, _, _, rfl, hp, T.Dial.cl, T.Dial.n_held, rfl, .inl ⟨rfl, _, SqL.of D.he⟩, _, rfl, a, _, _, s.held.idxOf (some pg), _, rfl, rfl, SqL.of D.he, rfl, flat_hl _, hl_at (idx_at hin), ?_, ?_, ?_⟩
      · rw [eqV_pg]; exact decide_eq_true rfl
      · intro m z' hm hz
        rw [List.getElem?_map] at hz
        cases q : s.held[m]? with
        | none => rw [q] at hz; cases hz
        | some y =>
          rw [q] at hz
          have ez : pgV y = z' := Option.some.inj hz
          rw [← ez, eqV_pg]
          exact decide_eq_false (idx_no hm q)
      refine ⟨b, _, _, _, rfl, rfl, D.ma, ixn rfl (by simp [W.m]; exact hj), ?_⟩
      rw [bl_set]
      -- return False, None, []
      refine ⟨szd rfl, fun l hl => ⟨szd rfl, fun t ht => ?_⟩⟩
      have s1 : But [p, a, b] H (upd H b (.lst (BL (s.marks.set (s.held.idxOf (some pg)) true)))) := But.put (by simp)
      have lb : l ≠ b := by intro z; rw [z, upd_same] at hl; cases hl
      have tb : t ≠ b := by intro z; rw [z, upd_ne (Ne.symm lb), upd_same] at ht; cases ht
      have tl : t ≠ l := by intro z; rw [z, upd_same] at ht; cases ht
      have hl' : H l = none := by rw [upd_ne lb] at hl; exact hl
      have ht' : H t = none := by rw [upd_ne tl, upd_ne tb] at ht; exact ht
      have hit : DialIs T.Dial.C (upd H b (.lst (BL (s.marks.set (s.held.idxOf (some pg)) true)))) p a b (s.hit pg) :=
        ⟨D.ne, ⟨dx, by rw [upd_ne pb]; exact hp⟩, by rw [upd_ne D.ne]; exact D.he, upd_same⟩
      exact k t l _ ht' hl' tl upd_same (by rw [upd_ne (Ne.symm tl)]; exact upd_same) ((hit.same (Same.new hl)).same (Same.new ht)) ((s1.trans (But.new hl)).trans (But.new ht))
    · refine ifF (by rw [e0]; exact decide_eq_false hin) ?_
      have eT : s.tells pg = (true, (s.held[s.pass.2.1]?).getD none, s.pass.2.2) := by unfold DS.tells; rw [if_neg hin]
      have eA : s.ask pg = s.lack pg := by unfold DS.ask; rw [if_neg hin]
      rw [eT, eA] at k
      -- self._lacks += 1
      refine ⟨_, rfl, p, _, dx, _, _, rfl, hp, T.Dial.cl, T.Dial.n_lacks, rfl, _, _, rfl, rfl, dx, _, hp, by show 4 < 1000; decide, ?_⟩
      have D1 : DialIs T.Dial.C (upd H p (.ins T.Dial.C dx (putF "_lacks" (V.int ((s.lacks : Int) + 1)) (flD a b s.hand s.lacks)))) p a b { s with lacks := s.lacks + 1 } :=
        ⟨D.ne, ⟨dx, by rw [upd_same]; rfl⟩, by rw [upd_ne (Ne.symm pa)]; exact D.he, by rw [upd_ne (Ne.symm pb)]; exact D.ma⟩
      have k1 : But [p, a, b] H (upd H p (.ins T.Dial.C dx (putF "_lacks" (V.int ((s.lacks : Int) + 1)) (flD a b s.hand s.lacks)))) := But.put (by simp)
      have W1 : DS.WF { s with lacks := s.lacks + 1 } n := ⟨W.h, W.m, W.n⟩
      -- passed = self._pass_marked()
      obtain ⟨dx1, hp1⟩ := D1.ob
      refine ⟨_, rfl, p, dx1, _, rfl, hp1, rfl, p, a, b, _, n, rfl, D1, W1, n8, fun l H2 hl hl2 D2 k2 => ?_⟩
      have hlH : H l = none := k1.back hl (by
        obtain ⟨_, q⟩ := D1.ob
        have z1 := ne_fresh q hl
        have z2 := ne_fresh D1.he hl
        have z3 := ne_fresh D1.ma hl
        simp [Ne.symm z1, Ne.symm z2, Ne.symm z3])
      -- gone = self._exchange(page)
      obtain ⟨dx2, hp2⟩ := D2.ob
      have W2 : DS.WF { s with lacks := s.lacks + 1, marks := s.pass.1, hand := s.pass.2.1 } n := ⟨W.h, W.passm, W.passlt⟩
      refine ⟨_, rfl, p, dx2, _, rfl, hp2, rfl, _, rfl, p, a, b, _, n, pg, rfl, D2, W2, fun H3 D3 k3 => ?_⟩
      have lS : l ∉ [p, a, b] := by
        have z1 := ne_fresh hp hlH
        have z2 := ne_fresh D.he hlH
        have z3 := ne_fresh D.ma hlH
        simp [Ne.symm z1, Ne.symm z2, Ne.symm z3]
      have hl3 : H3 l = some (.lst (NL s.pass.2.2)) := k3 l _ hl2 lS
      have k03 : But [p, a, b] H H3 := (k1.trans (k2.mono (by simp))).trans k3
      -- return True, gone, passed
      refine ⟨_, rfl, _, rfl, szd rfl, fun t ht => ?_⟩
      have tl : t ≠ l := Ne.symm (ne_fresh hl3 ht)
      have htH : H t = none := k03.back ht (by
        obtain ⟨_, q⟩ := D3.ob
        have z1 := ne_fresh q ht
        have z2 := ne_fresh D3.he ht
        have z3 := ne_fresh D3.ma ht
        simp [Ne.symm z1, Ne.symm z2, Ne.symm z3])
      exact k t l _ htH hlH tl upd_same (by rw [upd_ne (Ne.symm tl)]; exact hl3) (D3.same (Same.new ht)) (k03.trans (But.new ht))
/-- what an ask told stands at t -/
def TellAt (H : Hp) (t : Addr) (x : Bool × Option Int × List Nat) : Prop := ∃ l : Addr, t ≠ l ∧ H t = some (.tup [.bl x.1, pgV x.2.1, .ref l]) ∧ H l = some (.lst (NL x.2.2))
/-- the tuples at as are what was told, xs: new since H, none of them at a place of S -/
structure TellsAt (S : List Addr) (H H' : Hp) (as : List Addr) (xs : List (Bool × Option Int × List Nat)) : Prop where
  len : as.length = xs.length
  at_ : ∀ (i : Nat) (a : Addr) (x : Bool × Option Int × List Nat), as[i]? = some a → xs[i]? = some x → H a = none ∧ a ∉ S ∧ ∃ l : Addr, H l = none ∧ l ∉ S ∧ a ≠ l ∧ H' a = some (.tup [.bl x.1, pgV x.2.1, .ref l]) ∧ H' l = some (.lst (NL x.2.2))
theorem TellsAt.but {S S' : List Addr} {H H' H'' : Hp} {as : List Addr} {xs : List (Bool × Option Int × List Nat)} (t : TellsAt S H H' as xs) (k : But S' H' H'') (hS : ∀ a ∈ S', a ∈ S) : TellsAt S H H'' as xs := by
  refine ⟨t.len, fun i a x ha hx => ?_⟩
  obtain ⟨h1, n1, l, h2, n2, h3, h4, h5⟩ := t.at_ i a x ha hx
  exact ⟨h1, n1, l, h2, n2, h3, k _ _ h4 fun z => n1 (hS _ z), k _ _ h5 fun z => n2 (hS _ z)⟩
theorem TellsAt.snoc {S : List Addr} {H H' : Hp} {as : List Addr} {xs : List (Bool × Option Int × List Nat)} {t l : Addr} {x : Bool × Option Int × List Nat} (T : TellsAt S H H' as xs) (h1 : H t = none) (n1 : t ∉ S) (h2 : H l = none) (n2 : l ∉ S) (h3 : t ≠ l)
    (h4 : H' t = some (.tup [.bl x.1, pgV x.2.1, .ref l])) (h5 : H' l = some (.lst (NL x.2.2))) : TellsAt S H H' (as ++ [t]) (xs ++ [x]) := by
  refine ⟨by simp [T.len], fun j c y hc hy => ?_⟩
  by_cases hj : j < as.length
  · rw [List.getElem?_append_left hj] at hc
    rw [List.getElem?_append_left (by rw [← T.len]; exact hj)] at hy
    exact T.at_ j c y hc hy
  · have ej : j = as.length := by
      have := (List.getElem?_eq_some_iff.mp hc).1
      simp at this
      omega
    subst ej
    rw [List.getElem?_append_right (Nat.le_refl _), Nat.sub_self] at hc
    rw [List.getElem?_append_right (by rw [T.len]; exact Nat.le_refl _), T.len, Nat.sub_self] at hy
    have ec : t = c := Option.some.inj hc
    have ex := Option.some.inj hy
    subst ec
    rw [← ex]
    exact ⟨h1, n1, l, h2, n2, h3, h4, h5⟩
end
end CK

/-! The law's own dial: a dict. -/
namespace CK
open PySem PySem.Spec PyProof.Rows L2
abbrev dkv (a b : Addr) (h k : Int) : List (Key × V) := [(Sum.inr "pages", .ref a), (Sum.inr "marks", .ref b), (Sum.inr "hand", .int h), (Sum.inr "lacks", .int k)]
section
variable {H : Hp} {d a b : Addr} {h k : Int}
theorem dg_pages (e : H d = some (.dK (dkv a b h k))) : DGet H d (.str "pages") (some (.ref a)) := DGet.k (k := Sum.inr "pages") e
theorem dg_marks (e : H d = some (.dK (dkv a b h k))) : DGet H d (.str "marks") (some (.ref b)) := DGet.k (k := Sum.inr "marks") e
theorem dg_hand (e : H d = some (.dK (dkv a b h k))) : DGet H d (.str "hand") (some (.int h)) := DGet.k (k := Sum.inr "hand") e
theorem dg_lacks (e : H d = some (.dK (dkv a b h k))) : DGet H d (.str "lacks") (some (.int k)) := DGet.k (k := Sum.inr "lacks") e
theorem dp_hand {j : Int} (e : H d = some (.dK (dkv a b h k))) : DPut H d (.str "hand") (.int j) (upd H d (.dK (dkv a b j k))) := DPut.k (k := Sum.inr "hand") e (by show 4 < sizeLine; decide)
theorem dp_lacks {j : Int} (e : H d = some (.dK (dkv a b h k))) : DPut H d (.str "lacks") (.int j) (upd H d (.dK (dkv a b h j))) := DPut.k (k := Sum.inr "lacks") e (by show 4 < sizeLine; decide)
end
theorem mk_dkv (a b : Addr) (h k : Int) : mergeK [] (dkv a b h k) = dkv a b h k := rfl
structure LDial (H : Hp) (d a b : Addr) (s : DS) : Prop where
  ne : a ≠ b
  ob : H d = some (.dK (dkv a b s.hand s.lacks))
  he : H a = some (.lst (HL s.held))
  ma : H b = some (.lst (BL s.marks))
theorem LDial.pa {H : Hp} {p a b : Addr} {s : DS} (D : LDial H p a b s) : p ≠ a := ne_of D.ob D.he (by intro z; cases z)
theorem LDial.pb {H : Hp} {p a b : Addr} {s : DS} (D : LDial H p a b s) : p ≠ b := ne_of D.ob D.ma (by intro z; cases z)
theorem LDial.but {S : List Addr} {H H' : Hp} {p a b : Addr} {s : DS} (D : LDial H p a b s) (k : But S H H') (h1 : p ∉ S) (h2 : a ∉ S) (h3 : b ∉ S) : LDial H' p a b s :=
  ⟨D.ne, k _ _ D.ob h1, k _ _ D.he h2, k _ _ D.ma h3⟩
theorem LDial.same {H H' : Hp} {p a b : Addr} {s : DS} (D : LDial H p a b s) (k : Same H H') : LDial H' p a b s := D.but (S := []) (But.of k) (by simp) (by simp) (by simp)
theorem LDial.off {H : Hp} {p a b t : Addr} {s : DS} (D : LDial H p a b s) (h : H t = none) : t ∉ [p, a, b] := by
  have z1 := ne_fresh D.ob h
  have z2 := ne_fresh D.he h
  have z3 := ne_fresh D.ma h
  simp [Ne.symm z1, Ne.symm z2, Ne.symm z3]
def spLDial : Sp := fun vs H Q _ => ∃ n : Int, vs = [.int n] ∧ 1 ≤ n ∧ n ≤ 8 ∧
  ∀ (d a b : Addr) (H' : Hp), H d = none → H a = none → H b = none → LDial H' d a b (DS.new n.toNat) → Same H H' → Q (.ref d) H'
def spLAsk : Sp := fun vs H Q _ => ∃ (p a b : Addr) (s : DS) (n : Nat) (pg : Int), vs = [.ref p, .int pg] ∧ LDial H p a b s ∧ s.WF n ∧ n ≤ 8 ∧
  ∀ (t l : Addr) (H' : Hp), H t = none → H l = none → t ≠ l → H' t = some (.tup [.bl (s.tells pg).1, pgV (s.tells pg).2.1, .ref l]) → H' l = some (.lst (NL (s.tells pg).2.2)) → LDial H' p a b (s.ask pg) → But [p, a, b] H H' → Q (.ref t) H'
section
variable {P : Program} {w : World} {K : PySem.W.Frag} {mg : Str → Option Value} {base : Heap}
-- _law_dial is not in this text
-- _law_ask is not in this text
end
end CK

/-! What a new dial tells of a row. -/
namespace CK
open PySem PySem.Spec PyProof.Rows L2
section
variable {P : Program} {w : World} {K : PySem.W.Frag} {mg : Str → Option Value} {base : Heap}
/-- all that a new dial tells of a row -/
def spTold (K : PySem.W.Frag) : Sp := fun vs H Q _ => ∃ (n : Int) (r : Addr) (row : List Int), vs = [.int n, .ref r] ∧ 1 ≤ n ∧ n ≤ 8 ∧ SqL K H r (il row) ∧ RowOk row ∧
  ∀ (d : Addr) (as : List Addr) (H' : Hp), H d = none → Same H H' → H' d = some (.lst (as.map V.ref)) → TellsAt [d] H H' as (tellsL (DS.new n.toNat) row) → Q (.ref d) H'
theorem sc_told : FnScope ["rooms", "row", "dial", "page"] ["rooms", "row"] (defScope (top 17)) := ⟨rfl, rfl, rfl, by decide +kernel, rfl, by decide +kernel, by decide +kernel⟩
theorem ok_told (T : Prog K mg) : FnOk P w K mg base CX0 4 T.told.f T.told.fd ["rooms", "row"] (spTold K) := by
  have G_check_rooms := ok_check_rooms (P := P) (w := w) (base := base) T
  have G_check_row := ok_check_row (P := P) (w := w) (base := base) T
  have G_Dial := ok_Dial_init (P := P) (w := w) (base := base) T
  have G_ask := ok_Dial_ask (P := P) (w := w) (base := base) T
  refine T.told.fn.ok sc_told (fun vs H Q E h => ?len) (fun cdv A outer s H vs Q E hr h => ?body)
  case len =>
    obtain ⟨n, r, row, rfl, _⟩ := h
    rfl
  case body =>
    have hr_check_rooms : Room 1 _ := hr.mono (by decide)
    have hr_check_row : Room 2 _ := hr.mono (by decide)
    have hr_ask : Room 3 _ := hr.mono (by decide)
    have hu := hu_of hr
    obtain ⟨n, r, row, rfl, n1, n8, hS, hR, k⟩ := h
    refine ⟨_, PSs.nox (pss_cons (ps_expr (pe_call G_check_rooms hr_check_rooms (by rfl) T.check_rooms.g T.check_rooms.fn.kp T.check_rooms.bd .nil pass0 (pa_cons (pv 0) pa_nil)))
        (pss_cons (ps_expr (pe_call G_check_row hr_check_row (by rfl) T.check_row.g T.check_row.fn.kp T.check_row.bd .nil pass0 (pa_cons (pv 1) pa_nil)))
        (pss_cons (ps_set (i := 2) sc_told.nd rfl (Or.inr rfl) (pe_make T.Dial.mkr G_Dial (hr.mono (by decide)) (by rfl) T.Dial.g T.Dial.bI .nil pass0 (pa_cons (pv 0) pa_nil)))
        (pss_one (ps_ret (pe_lc (own := [("page", 3)]) (g := gName 3) rfl sc_told.nd ((pi_list (pv 1))) (blkOk_by (own := [("page", 3)]) (N := ["rooms", "row", "dial", "page"]) (sc := defScope (top 17)) (by decide +kernel)) (fun _ _ _ _ _ => (by exact (pg_name (i := 3) sc_told.nd rfl (Or.inl rfl)))) (fun _ _ _ _ _ => (by exact pts_nil)) (fun _ _ _ _ _ => (by exact (pe_meth (pv 2) T.Dial.cl T.Dial.ask.me G_ask hr_ask T.Dial.ask.bd .nil pass0 (pa_cons (pv 3) pa_nil)))))))))), ?_⟩
    refine ⟨_, rfl, n, rfl, n1, n8, ?_⟩
    refine ⟨_, rfl, r, row, rfl, hS, hR, fun H1 s1 => ?_⟩
    -- dial = Dial(rooms)
    refine ⟨_, rfl, fun p dx np ndx nex => ?_⟩
    refine ⟨p, dx, n, rfl, upd_same, n1, n8, fun a b H2 ha hb D2 k2 => ⟨rfl, ?_⟩⟩
    have s0 : Same H1 (upd (upd H1 dx (.own p)) p (.ins T.Dial.C dx [])) := fun c o e => by
      rw [upd_ne (ne_fresh e np), upd_ne (ne_fresh e ndx)]
      exact e
    have s2 : Same H1 H2 := fun c o e => k2 c o (s0 c o e) (by simpa using ne_fresh e np)
    have s02 : Same H H2 := s1.trans s2
    have pH : H p = none := Same.back s1 np
    have aH : H a = none := Same.back (s1.trans s0) ha
    have bH : H b = none := Same.back (s1.trans s0) hb
    have W0 : (DS.new n.toNat).WF n.toNat := DS.new_wf (by omega)
    -- [dial.ask(page) for page in row]
    refine ⟨_, rfl, r, rfl, ⟨_, s02.seq hS⟩, fun d hd => ?_⟩
    have dH : H d = none := Same.back s02 hd
    have dp : d ≠ p := by obtain ⟨_, q⟩ := D2.ob; exact Ne.symm (ne_fresh q hd)
    have da : d ≠ a := Ne.symm (ne_fresh D2.he hd)
    have db : d ≠ b := Ne.symm (ne_fresh D2.ma hd)
    have dS : d ∉ [p, a, b] := by simp [dp, da, db]
    refine lc_list (K := K) (a := r) (xs := il row) (fun i H' => ∃ as : List Addr, H' d = some (.lst (as.map V.ref)) ∧ DialIs T.Dial.C H' p a b (afterL (DS.new n.toNat) (row.take i)) ∧ Same H H' ∧ TellsAt [d, p, a, b] H H' as (tellsL (DS.new n.toNat) (row.take i)) ∧ as.length = i) ?_ ?_ ?_ ?_
    · exact ⟨[], upd_same, D2.same (Same.new hd), s02.trans (Same.new hd), ⟨rfl, fun i a x h => by simp at h⟩, rfl⟩
    · rintro i H' _ ⟨as, _, _, q, _⟩
      exact q.seq hS
    · rintro i x H3 hx ⟨as, hd3, D3, s3, t3, hl3⟩
      obtain ⟨pg, hpg, rfl⟩ := il_get hx
      have hpl := hR.2 pg (List.mem_of_getElem? hpg)
      have hi : i < row.length := (List.getElem?_eq_some_iff.mp hpg).1
      have hR1 := hR.1
      obtain ⟨dx3, hp3⟩ := D3.ob
      refine ⟨rfl, _, rfl, p, dx3, _, rfl, hp3, rfl, _, rfl, p, a, b, _, n.toNat, pg, rfl, D3, afterL_wf W0 _, by omega, hpl.1, hpl.2, fun t l H4 ht hl tl ht4 hl4 D4 k4 => ?_⟩
      have hd4 : H4 d = some (.lst (as.map V.ref)) := k4 _ _ hd3 dS
      have s4 : Same H H4 := fun c o e => k4 _ _ (s3 _ _ e) (by
        have z1 := ne_fresh e pH
        have z2 := ne_fresh e aH
        have z3 := ne_fresh e bH
        simp [z1, z2, z3])
      have td : t ≠ d := Ne.symm (ne_fresh hd3 ht)
      have ld : l ≠ d := Ne.symm (ne_fresh hd3 hl)
      refine ⟨_, hd4, szl (by simp; omega), as ++ [t], ?_, ?_, ?_, ?_, by simp [hl3]⟩
      · rw [upd_same, List.map_append]
        rfl
      · rw [take_snoc hpg, afterL_snoc]
        exact D4.but (S := [d]) (But.put (by simp)) (by simp [Ne.symm dp]) (by simp [Ne.symm da]) (by simp [Ne.symm db])
      · exact Same.put s4 dH
      · rw [take_snoc hpg, tellsL_snoc]
        have tS : t ∉ [d, p, a, b] := by
          have q1 : t ≠ p := by obtain ⟨_, q⟩ := D3.ob; exact Ne.symm (ne_fresh q ht)
          have q2 : t ≠ a := Ne.symm (ne_fresh D3.he ht)
          have q3 : t ≠ b := Ne.symm (ne_fresh D3.ma ht)
          simp [td, q1, q2, q3]
        have lS : l ∉ [d, p, a, b] := by
          have q1 : l ≠ p := by obtain ⟨_, q⟩ := D3.ob; exact Ne.symm (ne_fresh q hl)
          have q2 : l ≠ a := Ne.symm (ne_fresh D3.he hl)
          have q3 : l ≠ b := Ne.symm (ne_fresh D3.ma hl)
          simp [ld, q1, q2, q3]
        exact ((t3.but k4 (by simp)).snoc (Same.back s3 ht) tS (Same.back s3 hl) lS tl ht4 hl4).but (S' := [d]) (But.put (by simp)) (by simp)
    · rintro H' ⟨as, z1, z2, z3, z4, z5⟩
      rw [List.take_of_length_le (by simp)] at z4
      exact k d as H' dH z3 z1 ⟨z4.len, fun i c x hc hx => by
        obtain ⟨y1, y2, l, y3, y4, y5⟩ := z4.at_ i c x hc hx
        simp at y2 y4
        exact ⟨y1, by simp [y2.1], l, y3, by simp [y4.1], y5⟩⟩
end
end CK

/-! BadRow(place): its __init__ says super().__init__(f'..'), then self.place = place. -/
namespace CKX
open PySem PySem.Spec PySem.W PySem.Calls PyProof.Rows PySem.HandSPX L2 CK
/-! ### the text of __init__, its places left open -/
abbrev sBR : Stmt := (inClass (top 4) 0)
abbrev iA : Arguments := L2.defArgs sBR
abbrev iB : List Stmt := L2.defBody sBR
abbrev iS : Scope := L2.defScope sBR
/-- where the text stands -/
def posJ : Pos := match iB with
  | .Expr (.Call _ (.JoinedStr _ p :: _) _ _) _ :: _ => p
  | _ => ⟨0, 0, 0, 0⟩
/-- what the written part says of BadRow, at C, of its __init__, at fI, of the cell at cc and the code at cda -/
structure BrTxt (p : Program) (K : Frag) (mg : Str → Option Value) (C fI cc cda : Addr) : Prop where
  gC : mg "BadRow" = some (.ref C)
  gS : mg "super" = none
  cls : ∃ nm q N bs bm sn sub ab col dd k0 k1 k2 k3 k5, K.lookup C = some (excClassObj nm q C N bs bm true sn sub ab col dd k0 k1 k2 k3 k5 "ValueError.__new__") ∧ refsVE bm = true ∧ alongIn K "__init__" bm = some (some (.builtin "ValueError.__init__"))
  sa : findIn K (.ref C) "__setattr__" = some (some (.builtin "object.__setattr__"))
  ga : findIn K (.ref C) "__getattribute__" = some (some (.builtin "BaseException.__getattribute__"))
  gg : findIn K (.ref C) "__getattr__" = some none
  noN : findIn K (.ref C) "place" = some none
  iC : findIn K (.ref C) "__init__" = some (some (.ref fI))
  tC : typeIn K (.ref fI) = some (.type "function")
  kC : keepIn K (.ref C) = true
  exC : subIn K (.ref C) (.type "BaseException") = some true
  tyC : typeIn K (.ref C) = some (.type "type")
  hdC : hasDictIn K C = true
  subB : subIn K (.ref C) (.type "ValueError") = some true
  opq : nsIn K cStatics "thirdparty.any" = some none
  fn : ∃ (oc : Value) (od : Option Addr) (doc pm : Value) (an : Option Addr) (ct : Value) (osl : Array (Option Value)),
    K.lookup fI = some ⟨oc, od, .func (ksFn "__init__" "BadRow.__init__" iA iB iS .none .none doc pm an (.ref cda) ct cc), osl⟩ ∧ codeIn K (.ref cda) "BadRow.__init__" = true
  code : ∃ (ccl : Value) (cdd : Option Addr) (vs : Array Value) (ccs : Array (Option Value)) (file : Str) (tf : Tok), K.lookup cda = some ⟨ccl, cdd, .fields vs, ccs⟩ ∧ vs[2]? = some (.str file tf) ∧ ((p.main.file : Str) == file) = true
  cell : ∃ (cl : Value) (cld : Option Addr) (csl : Array (Option Value)), K.lookup cc = some ⟨cl, cld, .cell (some (.ref C)), csl⟩
  top : (p.main.scope.names.lookup ("super" : Str)).isSome = false
theorem one_size (v : Value) : [v].length ≤ sizeLine := by
  rw [sizeLine_eq]
  exact (by decide : 1 ≤ 16777216)
theorem kept_but {K : Frag} {h h' : Heap} {x : Addr} (X : K.In h) (hx : K.lookup x = none) (k : ∀ b o, b ≠ x → h.get? b = some o → h'.get? b = some o) : K.In h' := fun a o e =>
  k a o (fun z => by rw [z, hx] at e; cases e) (X a o e)
/-- what __init__ leaves of a fresh exception at x -/
structure InitEnd (h h' : Heap) (x C dx t1 : Addr) (v : Value) : Prop where
  keep : ∀ b o, b ≠ x → h.get? b = some o → h'.get? b = some o
  obj : h'.get? x = some { cls := .ref C, dict := some dx, data := .fields #[.ref t1, .none, .none, .none, .bool false, .none] }
  dbig : h.objs.size ≤ dx
  dne : dx ≠ x
  ns : h'.Ns1 dx (fun y => if y = "place" then some v else none)
/-- what the module's names and the built-in ones are, at a heap -/
structure Names (mg : Str → Option Value) (h : Heap) : Prop where
  g : h.Ns mainGlobals mg
  b : ∃ mb, h.Ns builtinsNs mb ∧ ∀ x : Str, x ≠ "__name__" → mb x = bootBuiltins x
theorem Names.keeps {mg : Str → Option Value} {h h' : Heap} (n : Names mg h) (k : ∀ b o, h.get? b = some o → h'.get? b = some o) : Names mg h' := by
  obtain ⟨mb, h1, h2⟩ := n.b
  exact ⟨n.g.keeps k, mb, h1.keeps k, h2⟩
section
variable {prog : Program} {w : World} {A : Around} {E : Value → Shared → Prop} {R : Result → Shared → Prop} {s : Shared} {K : Frag} {mg : Str → Option Value} {C fI cc cda : Addr}
theorem text_len {v : Int} (hv : v.natAbs < 10 ^ 10) : (Str.empty ++ ("bad at place " : Str) ++ Str.ofString (toString v)).length ≤ sizeLine := by
  have h := int_text_length_le10 (a := v) (k := 10) (by decide) hv
  have e : (Str.empty ++ ("bad at place " : Str) ++ Str.ofString (toString v)).length = (Str.empty ++ ("bad at place " : Str)).length + (Str.ofString (toString v)).length := by
    exact PySem.Str.length_append _ _
  rw [e, PySem.ofString_length]
  have e2 : (Str.empty ++ ("bad at place " : Str)).length = 13 := by decide +kernel
  rw [e2, sizeLine_eq]
  omega
/-- the bound ValueError.__init__ at u, of the exception at e, called -/
theorem call_mw {h : Heap} {g : Array GenState} {d : Drawn} {t : Nat} {os : OsState} {nm q : Str} {N : Addr} {bs bm : List Value} {hdct : Bool} {sn : List Str} {sub : List Value} {ab : Bool} {col : Option Bool} {dd : Option Addr} {k0 k1 k2 k3 k5 : Option Value}
    {u e t0 : Addr} {rest : List Value} {Q : Value → Shared → Prop} (hC : h.get? C = some (excClassObj nm q C N bs bm hdct sn sub ab col dd k0 k1 k2 k3 k5 "ValueError.__new__")) (he : h.get? e = some (excO C t0)) (hu : h.get? u = some (kxs_mw "ValueError.__init__" e)) (hz : rest.length ≤ sizeLine)
    (hq : ∀ h' t1, (∀ b o, b ≠ e → h.get? b = some o → h'.get? b = some o) → h'.get? e = some (excO C t1) → Q .none ⟨h', g, d, t, os⟩) : wpAny (model prog w) A (call (.ref u) rest) Q E ⟨h, g, d, t, os⟩ := by
  refine wpAny_call (codeAny_of_tree ?_)
  refine (show wpAny _ A.in1 (callAny (.ref u) ⟨rest, []⟩) _ _ ⟨h, g, d, t, os⟩ from ?_)
  unfold callAny
  refine wpAny_bind (wpAny_load hu ?_)
  have e1 : (Value.type "method-wrapper" == Value.type "method" || Value.type "method-wrapper" == Value.type "builtin_function_or_method"
      || Value.type "method-wrapper" == Value.type "method-wrapper") = true := by decide
  simp only [kxs_mw, e1, if_true]
  refine KFB.if_so (by decide) (wpAny_bind (ESX.check_bound F.excBase_ValueError hC he rfl ?_))
  refine wpAny_bind (wpAny_pure (wpAny_pure ⟨plainId_quiet F.excBase_ValueError.init.plain _, codeAny_builtin F.excBase_ValueError.initEntry ?_⟩))
  refine exc_init_tree (cls := .ref C) (t0 := t0) (dv := none) (c2 := .none) (c3 := .none) (b4 := .bool false) he hz fun h' k1 k2 _ => ?_
  exact hq h' _ k1 k2
theorem br_init (T : BrTxt prog K mg C fI cc cda) {x t0 : Addr} {v : Int} {tv : Tok} (X : K.In s.heap) (hlim : s.heap.NoLimit) (NN : Names mg s.heap) (hx : s.heap.get? x = some (excO C t0)) (hnx : K.lookup x = none) (hroom : A.depth < recursionLimit) (hv : v.natAbs < 10 ^ 10)
    (hq : ∀ h' tk dx t1, InitEnd s.heap h' x C dx t1 (.int v tv) → R (.ok (.ret .none)) { s with heap := h', toks := tk }) :
    codeAny (model prog w) A (.call (.ref fI) ⟨[.ref x, .int v tv], []⟩) R s := by
  obtain ⟨oc, od, doc, pm, an, ct, osl, ho, hcd⟩ := T.fn
  obtain ⟨nm, q, N, bs, bm, sn, sub, ab, col, dd, k0, k1, k2, k3, k5, hC, hbm, hal⟩ := T.cls
  obtain ⟨ccl, cdd, vs, ccs, file, tf, hcode, hvs, hfile⟩ := T.code
  obtain ⟨cl, cld, csl, hcell⟩ := T.cell
  have hcl : clsIn K C = some { name := nm, bases := bs, mro := .ref C :: bm, ns := N, qualname := q, hasDict := true, slotNames := sn, subclasses := sub, abstract := ab, collection := col, hasDel := false } := by unfold clsIn; rw [hC] <;> rfl
  refine ks_codeAny_call_defAt (fd := ksFn "__init__" "BadRow.__init__" iA iB iS .none .none doc pm an (.ref cda) ct cc) (body := iB) (binds := [("self", .ref x), ("place", .int v tv)])
    hroom (X _ _ ho) rfl hlim (codeRec_of X hcd) rfl (BindsTo.of_eq (by first | rfl | with_unfolding_all rfl)) (show ∀ y ∈ iS.names, y.2 ≠ .cell by decide +kernel) (fun y hy => ?loc) (fun h₁ hns hk₁ => ?_) rfl rfl rfl
  case loc =>
    rcases List.mem_cons.mp hy with e | hy
    · rw [e]; rfl
    rcases List.mem_cons.mp hy with e | hy
    · rw [e]; rfl
    · cases hy
  have X₁ : K.In h₁ := X.keeps hk₁
  have N₁ := NN.keeps hk₁
  have hx₁ := hk₁ _ _ hx
  have hC₁ := X₁ _ _ hC
  -- super().__init__(f'bad at place {place}')
  refine ks_wpAt_execs_cons (ks_wpAt_Expr_any (ks_wpAt_MethodCall ?_))
  have hmC : mroIn K C (.ref C) = some true := by
    unfold mroIn
    rw [hcl]
    show some ((Value.ref C :: bm).contains (.ref C)) = some true
    rw [List.contains_cons, beq_self_eq_true]
    rfl
  obtain ⟨mb, hb₁, hbt⟩ := N₁.b
  refine ks_wpAt_super_base rfl rfl rfl rfl (X₁ _ _ ho) rfl rfl rfl (X₁ _ _ hcode) rfl hvs hfile T.top ?_
  refine ks_loadName_global rfl rfl (loadGlobal_builtin N₁.g T.gS hb₁ ((hbt _ (by decide +kernel)).trans (by decide +kernel : bootBuiltins "super" = some (.type "super"))) ⟨rfl, ?_⟩)
  refine wpAny_loadName_free rfl rfl rfl ⟨_, X₁ _ _ hcell, rfl⟩ ?_
  refine wpAny_loadName_local rfl rfl hns (v := .ref x) rfl ?_
  refine ks_wpAny_isType_cls hC₁ rfl ⟨rfl, ?_⟩
  refine ks_wpAny_call_super hC₁ rfl hx₁ rfl (fun c e => by cases e) (looks_mroIn X₁ hmC) (fun h₂ e₂ k₂ => ?_)
  have X₂ := X₁.keeps k₂
  have hx₂ := k₂ _ _ hx₁
  have hxC : x ≠ C := by
    intro z
    rw [z] at hx₁
    rw [hC₁] at hx₁
    cases hx₁
  have I₂ : InstAt h₂ x (excO C t0) C none := ⟨hx₂, rfl, rfl, trivial⟩
  refine kxs_getMethod kxs_ValueError e₂ (looks_opaque X₂ T.opq) (l₀ := .ref C :: bm) (fun A Q E s k q => wpAny_bind ((looks_clsIn X₂ hcl) A _ E s k (wpAny_pure q))) ?_ X₂ hal (I₂.type.andThen (looks_subIn X₂ T.subB)) hxC (by decide) ?_
  · rw [List.dropWhile_cons]
    have e : (Value.ref C != Value.ref C) = false := by simp
    rw [e]
    rfl
  -- the wrapper is called with the text
  refine kxs_callWith (i := "ValueError.__init__") (u := h₂.objs.size) (x := x) rfl (evalArgs_plain (spliced_cons ?_))
  refine wpAny_JoinedStr (pos := posJ) ?_
  refine Constant_str ⟨_, _, rfl, ?_, ?_⟩
  · decide +kernel
  have k₃ : ∀ b o, h₂.get? b = some o → (h₂.push (kxs_mw "ValueError.__init__" x)).get? b = some o := fun b o e => Heap.get?_push_of_some _ e
  have hn₃ := (hns.keeps k₂).keeps k₃
  have hlog : v.natAbs.log2 < 1920 := Nat.lt_trans (PySem.Flt.log2_lt_of (k := 40) (by decide) (Nat.lt_trans hv (by decide))) (by decide)
  refine wpAny_FormattedValue_plain (wpAny_Name (wpAny_loadName_local rfl rfl hn₃ (v := .int v tv) rfl ?_))
  have hlen := text_len hv
  refine wpAny_formatField_int hlog ⟨_, _, rfl, hlen, ?_⟩
  refine ⟨hlen, spliced_nil ⟨Heap.get?_push_at rfl rfl, ?_⟩⟩
  refine call_mw (k₃ _ _ (k₂ _ _ hC₁)) (k₃ _ _ hx₂) (Heap.get?_push_at rfl rfl) (one_size _) (fun h₄ t1 k₄ hx₄ => ?_)
  -- self.place = place
  have k₁₄ : ∀ b o, b ≠ x → h₁.get? b = some o → h₄.get? b = some o := fun b o hb e => k₄ b o hb (k₃ b o (k₂ b o e))
  have X₄ : K.In h₄ := kept_but (X₂.keeps k₃) hnx k₄
  have hxL : s.heap.objs.size ≠ x := Nat.ne_of_gt (Heap.lt_size hx)
  have hn₄ : h₄.Ns s.heap.objs.size (fun y => ([("self", Value.ref x), ("place", .int v tv)] : List (Str × Value)).reverse.lookup y) := hn₃.at fun o e => k₄ _ o hxL e
  refine ks_wpAt_execs_cons (ks_wpAt_Assign_Attr (wpAt_of_wpAny ?_))
  refine wpAny_Name (wpAny_loadName_local rfl rfl hn₄ (v := .int v tv) rfl (wpAny_Name (wpAny_loadName_local rfl rfl hn₄ (v := .ref x) rfl ?_)))
  refine set_plain X₄ (ox := excO C t1) (od := none) ⟨hx₄, rfl, rfl, trivial⟩ T.sa ?_
  refine exc_osa X₄ hx₄ hcl (show refsVE (.ref C :: bm) = true from hbm) rfl T.noN (fun h₅ tk₅ dx k₅ dn dne hx₅ hn₅ => ?_)
  refine wpAt_of_wpAny (wpAny_execs_nil ?_)
  refine hq h₅ tk₅ dx t1 ⟨fun b o hb e => k₅ b o hb (k₁₄ b o hb (hk₁ b o e)), hx₅, ?_, dne, hn₅⟩
  have z : s.heap.objs.size < h₄.objs.size := hn₄.lt
  exact Nat.le_of_lt (Nat.lt_of_lt_of_le z dn)
end
end CKX

/-! BadRow(place), made and raised; a caught error asked of its class. -/
namespace CKX
open PySem PySem.Spec PySem.W PySem.Calls PyProof.Rows PySem.HandSPX L2 CK
/-- a BadRow as it leaves its class: at e, its own dict at dx -/
structure BrMade (h h' : Heap) (e C dx : Addr) (v : Value) : Prop where
  keep : ∀ b o, h.get? b = some o → h'.get? b = some o
  new : h.objs.size ≤ e
  obj : ∃ t1, h'.get? e = some { cls := .ref C, dict := some dx, data := .fields #[.ref t1, .none, .none, .none, .bool false, .none] }
  dbig : h.objs.size ≤ dx
  dne : dx ≠ e
  ns : h'.Ns1 dx (fun y => if y = "place" then some v else none)
section
variable {prog : Program} {w : World} {A : Around} {E : Value → Shared → Prop} {R : Result → Shared → Prop} {s : Shared} {K : Frag} {mg : Str → Option Value} {C fI cc cda : Addr}
theorem br_made (T : BrTxt prog K mg C fI cc cda) {v : Int} {tv : Tok} (X : K.In s.heap) (hlim : s.heap.NoLimit) (NN : Names mg s.heap) (hroom : A.depth + 1 < recursionLimit) (hv : v.natAbs < 10 ^ 10)
    (hq : ∀ h' tk e d, BrMade s.heap h' e C d (.int v tv) → R (.ok (.ret (.ref e))) { s with heap := h', toks := tk }) :
    codeAny (model prog w) A (.call (.ref C) ⟨[.int v tv], []⟩) R s := by
  obtain ⟨nm, q, N, bs, bm, sn, sub, ab, col, dd, k0, k1, k2, k3, k5, hC, hbm, _⟩ := T.cls
  obtain ⟨hp, g, dr, tk, os⟩ := s
  have up : ∀ b o, hp.get? b = some o → ((hp.push (kdv_tup [.int v tv])).push (excO C hp.objs.size)).get? b = some o := fun b o e => Heap.get?_push_of_some _ (Heap.get?_push_of_some _ e)
  have hself : ((hp.push (kdv_tup [.int v tv])).push (excO C hp.objs.size)).get? (hp.objs.size + 1) = some (excO C hp.objs.size) := by heap_get
  have free : K.lookup (hp.objs.size + 1) = none := by
    refine Option.eq_none_iff_forall_ne_some.mpr fun o e => ?_
    have z2 : hp.objs.size + 1 < hp.objs.size := Heap.lt_size (X _ _ e)
    exact Nat.lt_irrefl _ (Nat.lt_of_succ_lt z2)
  refine call_own F.excBase_ValueError (fun Y => refsVE_contains Y bm hbm) (X _ _ hC) (looks_findIn X T.iC) (fun self => bind_fn X self T.tC) (one_size (.int v tv)) ?_
  refine br_init (s := ⟨(hp.push (kdv_tup [.int v tv])).push (excO C hp.objs.size), g, dr, tk, os⟩) T (X.keeps up) (hlim.keeps up) (NN.keeps up) hself free (show A.depth + 1 < recursionLimit from hroom) hv fun h' tk' dx t1 J => ?_
  have small : ∀ b o, hp.get? b = some o → b ≠ hp.objs.size + 1 := fun b o e z => by
    have y : b < hp.objs.size := Heap.lt_size e
    rw [z] at y
    exact Nat.lt_irrefl _ (Nat.lt_of_succ_lt y)
  have sz2 : hp.objs.size + 1 + 1 ≤ dx := by
    have q := J.dbig
    rw [Heap.size_push, Heap.size_push] at q
    exact q
  exact ⟨rfl, hq h' tk' (hp.objs.size + 1) dx ⟨fun b o e => J.keep b o (small b o e) (up b o e), Nat.le_succ _, ⟨t1, J.obj⟩, Nat.le_trans (Nat.le_add_right _ 2) sz2, J.dne, J.ns⟩⟩
end
end CKX
namespace CK
open PySem PySem.Spec PyProof.Rows L2 CKX
abbrev xdP (i : Int) : HO := .xd [(("place" : Str), .int i)]
theorem relO_place {v : V} {u : Value} (r : RelV v u) (f : Str) : RelO (List.lookup f [(("place" : Str), v)]) (if f = "place" then some u else none) := by
  by_cases e : f = "place"
  · subst e
    have q : List.lookup ("place" : Str) [(("place" : Str), v)] = some v := by simp [List.lookup]
    rw [if_pos rfl, q]
    exact r
  · have z : (f == ("place" : Str)) = false := by simpa using e
    have q : List.lookup f [(("place" : Str), v)] = none := by simp [List.lookup, z]
    rw [if_neg e, q]
    trivial
/-- BadRow(i) -/
def tMkBr (C : Addr) (ta : TA) : L2.St → Hp → XK → Prop := fun σ H Q => ta σ H fun vs H1 => ∃ i : Int, vs = [.int i] ∧ i.natAbs < 10 ^ 10 ∧ ∀ d, H1 d = none → Q (.ref C) (some d) (upd H1 d (xdP i))
section
variable {X : Cx} {C fI cc cda : Addr}
theorem pmk_br {a : Expr} {ta : TA} {p pos : Pos} (T : BrTxt X.prog X.K X.mg C fI cc cda) (hr : X.A.depth + 1 < recursionLimit) (ha : PA X [a] ta) (hg : Gl X "BadRow" := by rfl)
    (he : starEach (a :: []) X.env = (false, eval a X.env) :: starEach [] X.env := by rfl) (hpl : (backTo pos (starEach [] X.env)).any (·.1) = false := by rfl) :
    L2N.PMk X (.Call (.Name "BadRow" p) [a] [] pos) (tMkBr C ta) := by
  intro pins s σ H Q I h
  refine wpAny_Call_Name_kw (ld_glob I hg T.gC ?_)
  refine PySem.W.callWith_K (h₀ := X.base) I.ok.mod.kin T.kC (thn (ha.run pos pins s σ H _ I h) fun us s1 hh => ?_) he hpl
  obtain ⟨vs, H1, I1, rel, i, ev, small, go⟩ := hh
  subst ev
  refine ⟨I1.kIn, ?_⟩
  cases rel with
  | cons rv rest =>
    cases rest
    obtain ⟨ti, rfl⟩ := rv
    obtain ⟨hp, g, dr, tk, os⟩ := s1
    have nn : Names X.mg hp := by
      obtain ⟨mb, b1, b2⟩ := I1.mod.blt
      exact ⟨I1.mod.glob.keeps I1.bk, mb, b1.keeps I1.bk, b2⟩
    refine wpAny_call (br_made T I1.kIn I1.nolimit nn hr small fun h' tk' e d M => ?_)
    show L2N.MkP X pins σ Q (.ref e) ⟨h', g, dr, tk', os⟩
    obtain ⟨t1, made⟩ := M.obj
    -- the heap without the error's object
    obtain ⟨G, gIn, gOut⟩ := restrict h' fun b => decide (b ≠ e)
    have eqG : ∀ b, b ≠ e → G.get? b = h'.get? b := fun b hb => gIn b (decide_eq_true hb)
    have noE : G.get? e = none := gOut e (by simp)
    have ground : ∀ b o, hp.get? b = some o → G.get? b = some o := fun b o q => by
      have lt := Heap.lt_size q
      rw [eqG b (fun z => by rw [z] at lt; exact Nat.lt_irrefl _ (Nat.lt_of_lt_of_le lt M.new))]
      exact M.keep b o q
    have own : ObjOk X.prog X.w (upd H1 d (xdP i)) G d (xdP i) :=
      ⟨_, M.ns.at (fun o q => (eqG d M.dne).trans q), fun f => relO_place (v := V.int i) ⟨ti, rfl⟩ f⟩
    have J : Inv X pins σ (upd H1 d (xdP i)) ⟨G, g, dr, tk', os⟩ := I1.laid (t' := tk') ground M.dbig own
    refine ⟨e, _, _, ⟨G, g, dr, tk', os⟩, _, .ref C, some d, rfl, J, fun b o q => ?_, noE, made, ⟨rfl, rfl, fun vs ev => ?_⟩, rfl, rfl, ?_, rfl, I1.bare, raises_own T.exC T.tyC, go d (I1.hok.fresh M.dbig)⟩
    · have hb : b ≠ e := fun z => by
        have q' : G.get? b = some o := q
        rw [z, noE] at q'
        cases q'
      rw [← eqG b hb]
      exact q
    · cases ev
      rfl
    · rw [upd_ne (Ne.symm M.dne)]
      exact I1.hok.fresh M.new
end
end CK

/-! Own errors: what is known of their classes; asked of them in a suite, also in a def called there. -/
namespace CK
open PySem PySem.Spec PyProof.Rows L2 CKX
/-! ### the classes -/
/-- an error of the class at D is of these of the four classes, is a ValueError, is caught as a PageError -/
structure IsErr (K : PySem.W.Frag) (pe c0 c1 c2 c3 : Addr) (D : Addr) (i : Nat) : Prop where
  ec : ExcC K D
  k0 : PySem.W.kitOne K (.ref D) (.ref c0) = some (decide (i = 0))
  k1 : PySem.W.kitOne K (.ref D) (.ref c1) = some (decide (i = 1))
  k2 : PySem.W.kitOne K (.ref D) (.ref c2) = some (decide (i = 2))
  k3 : PySem.W.kitOne K (.ref D) (.ref c3) = some (decide (i = 3))
  kv : PySem.W.kitOne K (.ref D) (.type "ValueError") = some true
  xm : PySem.W.exmOne K (.ref D) (.ref pe) = some true
/-- an error's class without an own __init__ -/
structure PlainErr (K : PySem.W.Frag) (C : Addr) : Prop where
  q : PySem.W.excIn K C He.veBase "ValueError.__new__" = true
  k : PySem.W.keepIn K (.ref C) = true
  t : PySem.W.typeIn K (.ref C) = some (.type "type")
structure Errs (p : Program) (K : PySem.W.Frag) (mg : Str → Option Value) where
  pe : Addr
  rooms : Addr
  row : Addr
  rule : Addr
  many : Addr
  fI : Addr
  cc : Addr
  cda : Addr
  gPE : mg "PageError" = some (.ref pe)
  gRooms : mg "BadRooms" = some (.ref rooms)
  gRule : mg "BadRule" = some (.ref rule)
  gMany : mg "TooMany" = some (.ref many)
  vE : mg "ValueError" = none
  br : BrTxt p K mg row fI cc cda
  iRooms : IsErr K pe rooms row rule many rooms 0
  iRow : IsErr K pe rooms row rule many row 1
  iRule : IsErr K pe rooms row rule many rule 2
  iMany : IsErr K pe rooms row rule many many 3
  pRooms : PlainErr K rooms
  pRule : PlainErr K rule
  pMany : PlainErr K many
theorem Errs.xf {p : Program} {K : PySem.W.Frag} {mg : Str → Option Value} (E : Errs p K mg) : XfC K E.row := ⟨E.br.ga, E.br.gg, E.br.exC, E.br.hdC⟩
/-! ### isinstance -/
/-- an error's own dict is known -/
def DictOk (H : Hp) (d : Option Addr) : Prop := match d with
  | none => True
  | some dd => ∃ fs, H dd = some (.xd fs)
theorem DictOk.same {H H' : Hp} {d : Option Addr} (h : DictOk H d) (k : Same H H') : DictOk H' d := by
  cases d with
  | none => trivial
  | some dd =>
    obtain ⟨fs, e⟩ := h
    exact ⟨fs, k _ _ e⟩
def rIsX (K : PySem.W.Frag) (D a : Addr) (d : Option Addr) : List V → Hp → VK → Prop := fun xs H Q => ∃ (c : V) (cv : Value) (b : Bool), xs = [.ref a, c] ∧ (∀ u, RelV c u → u = cv) ∧ PySem.W.kitOne K (.ref D) cv = some b ∧ DictOk H d ∧ Q (.bl b) H
theorem rel_ref {a : Addr} : ∀ u, RelV (V.ref a) u → u = Value.ref a := fun _ r => r
theorem rel_ty {T : String} : ∀ u, RelV (V.ty T) u → u = Value.type T := fun _ r => r
theorem call_isX {X : Cx} {D : Addr} {d : Option Addr} {p : Addr × Obj} (C : ExcC X.K D) (hp : p ∈ X.pn) (hz : Zc (.ref D) d p.2) (hf : ∃ vs, p.2.data = .fields vs) : CallR X (.builtin "isinstance") (rIsX X.K D p.1 d) := by
  intro pins s σ H xs us Q I r h
  obtain ⟨c, cv, b, rfl, only, ans, hd, q⟩ := h
  obtain ⟨a, oe⟩ := p
  cases r with
  | cons r1 r2 =>
    cases r2 with
    | cons r3 r4 =>
      cases r4
      cases r1
      obtain rfl := only _ r3
      have here := (I.pin (a, oe) (List.mem_append_left _ hp)).1
      have J : ∃ od, PySem.W.InstAt s.heap a oe D od := by
        obtain ⟨vs, ev⟩ := hf
        have no : PySem.W.notCls oe = true := by
          have ev' : oe.data = .fields vs := ev
          unfold PySem.W.notCls
          rw [ev'] <;> rfl
        obtain ⟨z1, z2⟩ := hz
        cases d with
        | none => exact ⟨none, here, z1, no, by rw [show oe.dict = none from z2]; trivial⟩
        | some dd =>
          obtain ⟨fs, hx⟩ := hd
          have hx' : ObjOk X.prog X.w H s.heap dd (.xd fs) := I.hok dd _ hx
          obtain ⟨m, hns, _⟩ := hx'
          obtain ⟨od, ho, _⟩ := lookIn_ns hns
          exact ⟨some od, here, z1, no, by rw [show oe.dict = some dd from z2]; exact ho⟩
      obtain ⟨od, J⟩ := J
      have hcl : (PySem.W.clsIn X.K D).isSome = true := by
        obtain ⟨cd, e, _⟩ := PySem.W.any_some C.hd
        rw [e]
        rfl
      exact PySem.W.kia_one (PySem.W.kitx_exc hcl C.hg C.hk C.hs C.ha C.hn C.ht C.hm) I.kIn J ans (fun z => nomatch z) fun tk => ⟨.bl b, H, I.kept (t' := tk) fun _ _ z => z, rfl, q⟩
/-! ### list.count of flat things -/
def rCountV (K : PySem.W.Frag) : V → List V → Hp → VK → Prop := fun x xs H Q => ∃ (a : Addr) (ys : List V) (y : V), x = .ref a ∧ xs = [y] ∧ SqL K H a ys ∧ flatV y = true ∧ ys.all flatV = true ∧ Q (.int (ys.countP (fun z => eqV z y) : Nat)) H
theorem count_eqU {y : V} : ∀ {ys : List V} {us : List Value}, Vals ys us → ys.all flatV = true → us.countP (eqU y) = ys.countP fun z => eqV z y
  | _, _, .nil, _ => rfl
  | z :: ys, u :: us, .cons r t, f => by
    rw [List.all_cons, Bool.and_eq_true] at f
    rw [List.countP_cons, List.countP_cons, count_eqU t f.2, eqU_of r f.1]
theorem mt_countV {X : Cx} : MtR X "list.count" (rCountV X.K) := by
  intro pins s σ H x xs v us Q I rx rxs h
  obtain ⟨a, ys, y, rfl, rfl, hs, fy, fys, q⟩ := h
  cases rx
  obtain ⟨u, rfl, ru⟩ := rxs.one
  obtain ⟨its, rv, ⟨⟨cls, dd, data, slots⟩, n, ho, hc, _, hd⟩, _⟩ := I.list hs
  dsimp only at hc hd
  subst hc hd
  have ec : its.toArray.toList.countP (eqU y) = ys.countP fun z => eqV z y := count_eqU rv fys
  refine call_meets PySem.F.slot_list_count ⟨_, ho, rfl⟩ PySem.F.entry_list_count (PySem.F.args_list_count_2 _ _)
    (SeqAt.list_countAt a its.toArray n dd slots u (eqU y)) ⟨ho, fun w hw => mem_eqAt ru fy rv fys w (by simpa using hw), ?_⟩
  refine ⟨.int (ys.countP (fun z => eqV z y) : Nat), H, I.tok _, ⟨s.toks, ?_⟩, q⟩
  rw [← ec]
/-! ### a method called where what it lets out is wished by the slots -/
def tMethT (C : Addr) (m : Str) (sp : Sp) (E : L2.St → XK) (ta : TE) (t : TA) : TE := fun σ H Q => ta σ H fun x H1 => ∃ a dx fs, x = .ref a ∧ H1 a = some (.ins C dx fs) ∧ fs.lookup m = none ∧ t σ H1 fun vs H2 => sp (x :: vs) H2 Q (E σ)
theorem pe_methT {X : Cx} {CX : CXT} {k : Nat} {C f : Addr} {fd : FuncData} {ps : List Str} {sp : Sp} {E : L2.St → XK} {m : Str} {pos apos : Pos} {o e : Expr} {es : List Expr} {ta : TE} {t : TA} {pl : Sem Bool}
    (ho : PE X o ta) (c : Cls X.K C) (hm : Meth X.K C m f) (F : FnOk X.prog X.w X.K X.mg X.base CX k f fd ps sp) (hr : Room k X.A) (hb : Binds X.K fd ps []) (hx : ∀ σ, PassesAt CX X σ (E σ)) (ha : PA X (e :: es) t)
    (h1 : starEach (e :: es) X.env = (false, eval e X.env) :: starEach es X.env := by rfl) (h2 : (backTo pos (starEach es X.env)).any (·.1) = false := by rfl)
    (h3 : eval (.Call (.Attribute o m apos) (e :: es) [] pos) X.env = (do
      let ov ← eval o X.env
      standAt apos.atName
      let (f, first) ← holding [ov] (getMethod ov m pl)
      callWith pos f first (backTo pos (starEach (e :: es) X.env)) (backToKw pos (keywordEach [] X.env))) := by rfl) :
    PE X (.Call (.Attribute o m apos) (e :: es) [] pos) (tMethT C m sp E ta t) := by
  constructor
  intro pins s σ H Q I h
  refine PySem.W.methodCall_KW (pl := pl) (thn (ho.run pins s σ H _ I h) fun u s1 hu => ?_) h3
  obtain ⟨x, H1, I1, rx, a, dx, fs, ex, ea, l, q⟩ := hu
  subst ex
  obtain rfl : u = Value.ref a := rx
  refine getmeth_ok I1 ea c hm l ?_
  refine PySem.W.callWith_K (h₀ := X.base) (first := [.ref a]) I.ok.mod.kin hm.kp (thn (ha.run pos pins s1 σ H1 _ I1 q) fun us s2 hv => ?_) h1 h2
  obtain ⟨vs, H2, I2, r, q2⟩ := hv
  exact ⟨I2.kIn, run_fnS (us := .ref a :: us) (vs := .ref a :: vs) F hr hb (hx σ) I2 (.cons rfl r) q2⟩
/-! ### a def called in a suite, of the error that is handled -/
structure FnP (P : Program) (w : World) (K : PySem.W.Frag) (mg : Str → Option Value) (base : Heap) (CX : CXT) (k : Nat) (f : Addr) (fd : FuncData) (ps : List Str) (sp : Addr → Value → Option Addr → Sp) : Prop where
  len : ∀ a cls d vs H Q E, sp a cls d vs H Q E → vs.length = ps.length
  run : ∀ (A : Around) (outer : List Env) (s : Shared) (H : Hp) (args : Args) (us : List Value) (vs : List V) (Q : VK) (E : XK) (p : Addr × Obj) (cls : Value) (d : Option Addr), L2H.RoomH k A → L2H.Hot1 A p → Zc cls d p.2 → (∃ fs, p.2.data = .fields fs) → L2H.PinOk outer H s p → Env0 P w K mg base A outer s H →
    BindsTo s fd args (ps.zip us) → Vals vs us → sp p.1 cls d vs H Q E → codeAny (model P w) A (.call (.ref f) args) (CR CX outer P w H s Q E) s
section
variable {P : Program} {w : World} {K : PySem.W.Frag} {mg : Str → Option Value} {base : Heap} {CX : CXT} {name qual : Str} {params : Arguments} {body : List Stmt} {scope : Scope} {f : Addr} {fd : FuncData} {N ps : List Str} {k : Nat} {sp : Addr → Value → Option Addr → Sp}
theorem FunD.okP (F : FunD K name qual params body scope [] [] f fd) (S : FnScope N ps scope) (len : ∀ a cls d vs H Q E, sp a cls d vs H Q E → vs.length = ps.length)
    (hbody : ∀ (cdv : Value) (A : Around) (outer : List Env) (s : Shared) (H : Hp) (vs : List V) (Q : VK) (E : XK) (p : Addr × Obj) (cls : Value) (d : Option Addr), L2H.Hot1 A p → L2H.RoomH k (A.deeper (envOfC qual scope s.heap.objs.size f cdv)) → Zc cls d p.2 → (∃ fs, p.2.data = .fields fs) → sp p.1 cls d vs H Q E →
      ∃ t, PSs (L2H.cxH CX P w K mg base N qual scope f cdv A outer s H E p) body t ∧ t { nx := fun _ H' => Q .non H', rt := Q } (L2.start N vs) H) : FnP P w K mg base CX (k + 1) f fd ps sp := by
  obtain ⟨oc, od, dV, kV, doc, pm, an, cdv, ct, slots, rfl, look, code, _, _⟩ := F.ex
  refine ⟨len, ?_⟩
  intro A outer s H args us vs Q E p cls d room hot hz hf pin env0 binds vals hsp
  have long := len _ _ _ _ _ _ _ hsp
  have grown : ∀ b o, base.get? b = some o → s.heap.get? b = some o := fun b o e => (env0.bs b o e).1
  have KX := env0.mod.kin.keeps grown
  refine codeAny_call_function room.depth (KX _ _ look) rfl S.co S.gen rfl (PySem.W.codeRec_of KX code)
    (binds _ _ _ _ (wpAny_newFunctionEnv_cells S.kind (fun yv hy => ?_) fun env he s1 x => ?_))
  · obtain ⟨y, v⟩ := yv
    rcases S.par y (List.of_mem_zip hy).1 with z | z
    · exact .inl z
    · exact .inr ⟨z, PySem.W.cellsFrom_some _ _ _ (.inl z)⟩
  · subst he
    refine ⟨(env0.mod.nolimit.keeps grown).keeps x.toInCall.keep, codeAny_func ?_⟩
    obtain ⟨t, ht, hq⟩ := hbody cdv A outer s H vs Q E p cls d hot (room.deeper _) hz hf hsp
    have I := L2H.inv_startH (CX := CX) (E := E) S pin env0 long vals x
    refine wpAny_mono (ht.run [] s1 (L2.start N vs) H _ I hq) (fun way s' goes => ?_) fun _ _ z => z
    have done : ∀ {σ' : L2.St} {H' : Hp} {v : V} {u : Value}, Inv (L2H.cxH CX P w K mg base N qual scope f cdv A outer s H E p) [] σ' H' s' → RelV v u → Q v H' → CE outer P w H s Q u s' :=
      fun {σ' H' v u} J r q => ⟨v, H', J.os, J.bare, J.base, J.hok, r, q⟩
    match way, goes with
    | .ret u, ⟨v, _, _, J, r, q⟩ => exact done J r q
    | .next, ⟨_, _, J, q⟩ => exact done (v := V.non) (u := Value.none) J rfl q
    | .brk, ⟨_, _, _, q⟩ => exact q.elim
    | .cont, ⟨_, _, _, q⟩ => exact q.elim
end
def tCallP (sp : Addr → Value → Option Addr → Sp) (a : Addr) (cls : Value) (d : Option Addr) (t : TA) : TE := fun σ H Q => t σ H fun vs H1 => sp a cls d vs H1 Q (fun _ _ _ => False)
theorem pe_callP {X : Cx} {k : Nat} {f : Addr} {fd : FuncData} {ps : List Str} {sp : Addr → Value → Option Addr → Sp} {x : Str} {q pos : Pos} {e : Expr} {es : List Expr} {t : TA} {p : Addr × Obj} {cls : Value} {d : Option Addr}
    (F : FnP X.prog X.w X.K X.mg X.base CX0 k f fd ps sp) (hr : L2H.RoomH k X.A) (hot : L2H.Hot1 X.A p) (hp : p ∈ X.pn) (hz : Zc cls d p.2) (hf : ∃ fs, p.2.data = .fields fs) (hg : Gl X x) (hm : X.mg x = some (.ref f)) (hk : PySem.W.keepIn X.K (.ref f) = true) (hb : Binds X.K fd ps []) (ha : PA X (e :: es) t)
    (h0 : (x == ("__debug__" : Str)) = false := by decide) (h1 : starEach (e :: es) X.env = (false, eval e X.env) :: starEach es X.env := by rfl) (h2 : (backTo pos (starEach es X.env)).any (·.1) = false := by rfl) :
    PE X (.Call (.Name x q) (e :: es) [] pos) (tCallP sp p.1 cls d t) := by
  constructor
  intro pins s σ H Q I h
  refine wpAny_Call_Name_kw (ld_glob I hg hm ?_ h0)
  refine PySem.W.callWith_K (h₀ := X.base) I.ok.mod.kin hk (thn (ha.run pos pins s σ H _ I h) fun us s1 hv => ?_) h1 h2
  obtain ⟨vs, H1, I1, r, h⟩ := hv
  refine ⟨I1.kIn, ?_⟩
  have long : us.length = ps.length := by
    rw [← r.length]
    exact F.len _ _ _ _ _ _ _ h
  have b := hb s1 us I1.kIn (by rw [List.append_nil]; exact long)
  rw [List.append_nil] at b
  have Z := I1.pin p (List.mem_append_left _ hp)
  have pin : L2H.PinOk X.stack H1 s1 p := ⟨Z.1, Z.2.1, fun hm => (List.mem_cons.mp (I1.stkSub p.1 hm)).elim Z.2.2.1 Z.2.2.2.1, Z.2.2.2.2⟩
  refine wpAny_call (codeAny_mono (F.run X.A X.stack s1 H1 ⟨us, []⟩ us vs Q (fun _ _ _ => False) p cls d hr hot hz hf pin I1.env0 b r h) fun way s' goes => ?_)
  match way, goes with
  | .error e, z => exact z.elim
  | .ok (.ret u), z => exact I1.after z
  | .ok .next, z => exact z.elim
  | .ok .brk, z => exact z.elim
  | .ok .cont, z => exact z.elim
theorem dep1 {k : Nat} {A : Around} (r : Room k A) : A.depth + 1 < recursionLimit := by
  have := r.dp
  omega
end CK

/-! What refuses: check_page, ask; the law's look at an error's class. -/
namespace CK
open PySem PySem.Spec PyProof.Rows L2 CKX
/-- a page, or BadRow with place 0 -/
def spCheckPageX (C : Addr) : Sp := fun vs H Q E => ∃ p : Int, vs = [.int p] ∧ (0 ≤ p → p < 12 → Q .non H) ∧ (¬ (0 ≤ p ∧ p < 12) → ∀ d, H d = none → E (.ref C) (some d) (upd H d (xdP 0)))
/-- an ask, or, of what is no page, BadRow with place 0 and nothing changed -/
def spAskX (R C : Addr) : Sp := fun vs H Q E => ∃ (p a b : Addr) (s : DS) (n : Nat) (pg : Int), vs = [.ref p, .int pg] ∧ DialIs C H p a b s ∧ s.WF n ∧ n ≤ 8 ∧
  (¬ (0 ≤ pg ∧ pg < 12) → ∀ d, H d = none → E (.ref R) (some d) (upd H d (xdP 0))) ∧
  (0 ≤ pg → pg < 12 → ∀ (t l : Addr) (H' : Hp), H t = none → H l = none → t ≠ l → H' t = some (.tup [.bl (s.tells pg).1, pgV (s.tells pg).2.1, .ref l]) → H' l = some (.lst (NL (s.tells pg).2.2)) → DialIs C H' p a b (s.ask pg) → But [p, a, b] H H' → Q (.ref t) H')
/-- the word of the class number i -/
def wordE (i : Nat) : Str := if i = 0 then "BadRooms" else if i = 1 then "BadRow" else if i = 2 then "BadRule" else "TooMany"
def spClass (pe c0 c1 c2 c3 : Addr) (K : PySem.W.Frag) (a : Addr) (cls : Value) (d : Option Addr) : Sp := fun vs H Q _ => ∃ (D : Addr) (i : Nat), vs = [.ref a] ∧ cls = .ref D ∧ IsErr K pe c0 c1 c2 c3 D i ∧ i < 4 ∧ DictOk H d ∧
  ∀ H', Same H H' → Q (.str (wordE i)) H'
section
variable {P : Program} {w : World} {K : PySem.W.Frag} {mg : Str → Option Value} {base : Heap}
theorem ok_check_pageX (T : Prog K mg) (Z : Errs P K mg) : FnOk P w K mg base (L2N.CX P w) 2 T.check_page.f T.check_page.fd ["page"] (spCheckPageX Z.row) := by
  have G_is_page := ok_is_page (P := P) (w := w) (base := base) T
  refine T.check_page.fn.ok sc_check_page (fun vs H Q E h => ?len) (fun cdv A outer s H vs Q E hr h => ?body)
  case len =>
    obtain ⟨n, rfl, _⟩ := h
    rfl
  case body =>
    have hr_is_page : Room 1 _ := hr.mono (by decide)
    have hu := hu_of hr
    obtain ⟨p, rfl, kp, ke⟩ := h
    refine ⟨_, (pss_one (ps_if (pt_not (pt_val (pe_call G_is_page hr_is_page (by rfl) T.is_page.g T.is_page.fn.kp T.is_page.bd .nil pass0 (pa_cons (pv 0) pa_nil))))
        (pss_one (L2N.ps_raise rfl (L2N.takes_of rfl rfl rfl rfl) (pmk_br Z.br (dep1 hr) (pa_cons pe_int pa_nil))))
        pss_nil)), ?_⟩
    refine ⟨_, rfl, p, rfl, _, rfl, ?_⟩
    by_cases hp : 0 ≤ p ∧ p < 12
    · exact ifF (by rw [decide_eq_true hp]; rfl) (kp hp.1 hp.2)
    · exact ifT (by rw [decide_eq_false hp]; rfl) ⟨0, rfl, by decide, fun d hd => ke hp d hd⟩
theorem ok_Dial_askX (T : Prog K mg) (Z : Errs P K mg) : FnOk P w K mg base (L2N.CX P w) 3 T.Dial.ask.f T.Dial.ask.fd ["self", "page"] (spAskX Z.row T.Dial.C) := by
  have G_check_page := ok_check_pageX (P := P) (w := w) (base := base) T Z
  have G_pass_marked := ok_Dial_pass_marked (P := P) (w := w) (base := base) T
  have G_exchange := ok_Dial_exchange (P := P) (w := w) (base := base) T
  refine T.Dial.ask.fn.ok sc_Dial_ask (fun vs H Q E h => ?len) (fun cdv A outer s H vs Q E hr h => ?body)
  case len =>
    obtain ⟨p, a, b, s, n, pg, rfl, _⟩ := h
    rfl
  case body =>
    have hr_check_page : Room 2 _ := hr.mono (by decide)
    have hr_pass_marked : Room 2 _ := hr.mono (by decide)
    have hr_exchange : Room 2 _ := hr.mono (by decide)
    have hu := hu_of hr
    obtain ⟨p, a, b, s, n, pg, rfl, D, W, n8, ke, k⟩ := h
    refine ⟨_, (pss_cons (ps_expr (pe_call G_check_page hr_check_page (by rfl) T.check_page.g T.check_page.fn.kp T.check_page.bd .nil (L2N.passes_call (W := fun cls d _ H => E cls d H) (E := E) (L2N.takes_of rfl rfl rfl rfl) (fun _ _ _ _ h => h)) (pa_cons (pv 1) pa_nil)))
        (pss_cons (ps_if (pt_cmpR op_in_seq (pv 1) (pe_fld (pv 0) rfl) (by rfl))
        (pss_cons (ps_asg pe_bl (pg_sub (pe_fld (pv 0) rfl) (pe_bm PySem.F.plainAttrs_list PySem.F.slot_list_index PySem.F.type_list_index mt_index (pe_fld (pv 0) rfl) (pa_cons (pv 1) pa_nil)) set_list))
        (pss_one (ps_ret (pe_tup (pa_cons pe_bl (pa_cons pe_non (pa_cons (pe_lst pa_nil) pa_nil)))))))
        pss_nil)
        (pss_cons (ps_fldaug (pv 0) pe_int in_add)
        (pss_cons (ps_set (i := 2) sc_Dial_ask.nd rfl (Or.inl rfl) (pe_meth0 (pv 0) T.Dial.cl T.Dial.pass_marked.me G_pass_marked hr_pass_marked T.Dial.pass_marked.bd .nil pass0))
        (pss_cons (ps_set (i := 3) sc_Dial_ask.nd rfl (Or.inl rfl) (pe_meth (pv 0) T.Dial.cl T.Dial.exchange.me G_exchange hr_exchange T.Dial.exchange.bd .nil pass0 (pa_cons (pv 1) pa_nil)))
        (pss_one (ps_ret (pe_tup (pa_cons pe_bl (pa_cons (pv 3) (pa_cons (pv 2) pa_nil))))))))))), ?_⟩
    obtain ⟨dx, hp⟩ := D.ob
    have pb := D.pb
    have pa := D.pa
    refine ⟨_, rfl, pg, rfl, fun g0 g1 => ?_, ke⟩
    have k := k g0 g1
    -- if page in self._held
    refine ⟨_, rfl, _, rfl, p, _, dx, _, _, rfl, hp, T.Dial.cl, T.Dial.n_held, rfl, a, _, rfl, .inl (SqL.of D.he), rfl, flat_hl _, _, rfl, ?_⟩
    have e0 : (if false = true then !inV (V.int pg) (HL s.held) else inV (V.int pg) (HL s.held)) = decide (some pg ∈ s.held) := by
      rw [if_neg (by simp), inV_hl]
    by_cases hin : some pg ∈ s.held
    · refine ifT (by rw [e0]; exact decide_eq_true hin) ?_
      have eT : s.tells pg = (false, none, []) := by unfold DS.tells; rw [if_pos hin]
      have eA : s.ask pg = s.hit pg := by unfold DS.ask; rw [if_pos hin]
      rw [eT, eA] at k
      have hj : s.held.idxOf (some pg) < n := by rw [← W.h]; exact List.idxOf_lt_length_of_mem hin
      -- self._marks[self._held.index(page)] = True
      refine ⟨_, rfl, p, _, dx, _, _, rfl, hp, T.Dial.cl, T.Dial.n_marks, rfl, _, rfl, p, _, dx, _, _, rfl, hp, T.Dial.cl, T.Dial.n_held, rfl, .inl ⟨rfl, _, SqL.of D.he⟩, _, rfl, a, _, _, s.held.idxOf (some pg), _, rfl, rfl, SqL.of D.he, rfl, flat_hl _, hl_at (idx_at hin), ?_, ?_, ?_⟩
      · rw [eqV_pg]; exact decide_eq_true rfl
      · intro m z' hm hz
        rw [List.getElem?_map] at hz
        cases q : s.held[m]? with
        | none => rw [q] at hz; cases hz
        | some y =>
          rw [q] at hz
          have ez : pgV y = z' := Option.some.inj hz
          rw [← ez, eqV_pg]
          exact decide_eq_false (idx_no hm q)
      refine ⟨b, _, _, _, rfl, rfl, D.ma, ixn rfl (by simp [W.m]; exact hj), ?_⟩
      rw [bl_set]
      -- return False, None, []
      refine ⟨szd rfl, fun l hl => ⟨szd rfl, fun t ht => ?_⟩⟩
      have s1 : But [p, a, b] H (upd H b (.lst (BL (s.marks.set (s.held.idxOf (some pg)) true)))) := But.put (by simp)
      have lb : l ≠ b := by intro z; rw [z, upd_same] at hl; cases hl
      have tb : t ≠ b := by intro z; rw [z, upd_ne (Ne.symm lb), upd_same] at ht; cases ht
      have tl : t ≠ l := by intro z; rw [z, upd_same] at ht; cases ht
      have hl' : H l = none := by rw [upd_ne lb] at hl; exact hl
      have ht' : H t = none := by rw [upd_ne tl, upd_ne tb] at ht; exact ht
      have hit : DialIs T.Dial.C (upd H b (.lst (BL (s.marks.set (s.held.idxOf (some pg)) true)))) p a b (s.hit pg) :=
        ⟨D.ne, ⟨dx, by rw [upd_ne pb]; exact hp⟩, by rw [upd_ne D.ne]; exact D.he, upd_same⟩
      exact k t l _ ht' hl' tl upd_same (by rw [upd_ne (Ne.symm tl)]; exact upd_same) ((hit.same (Same.new hl)).same (Same.new ht)) ((s1.trans (But.new hl)).trans (But.new ht))
    · refine ifF (by rw [e0]; exact decide_eq_false hin) ?_
      have eT : s.tells pg = (true, (s.held[s.pass.2.1]?).getD none, s.pass.2.2) := by unfold DS.tells; rw [if_neg hin]
      have eA : s.ask pg = s.lack pg := by unfold DS.ask; rw [if_neg hin]
      rw [eT, eA] at k
      -- self._lacks += 1
      refine ⟨_, rfl, p, _, dx, _, _, rfl, hp, T.Dial.cl, T.Dial.n_lacks, rfl, _, _, rfl, rfl, dx, _, hp, by show 4 < 1000; decide, ?_⟩
      have D1 : DialIs T.Dial.C (upd H p (.ins T.Dial.C dx (putF "_lacks" (V.int ((s.lacks : Int) + 1)) (flD a b s.hand s.lacks)))) p a b { s with lacks := s.lacks + 1 } :=
        ⟨D.ne, ⟨dx, by rw [upd_same]; rfl⟩, by rw [upd_ne (Ne.symm pa)]; exact D.he, by rw [upd_ne (Ne.symm pb)]; exact D.ma⟩
      have k1 : But [p, a, b] H (upd H p (.ins T.Dial.C dx (putF "_lacks" (V.int ((s.lacks : Int) + 1)) (flD a b s.hand s.lacks)))) := But.put (by simp)
      have W1 : DS.WF { s with lacks := s.lacks + 1 } n := ⟨W.h, W.m, W.n⟩
      -- passed = self._pass_marked()
      obtain ⟨dx1, hp1⟩ := D1.ob
      refine ⟨_, rfl, p, dx1, _, rfl, hp1, rfl, p, a, b, _, n, rfl, D1, W1, n8, fun l H2 hl hl2 D2 k2 => ?_⟩
      have hlH : H l = none := k1.back hl (by
        obtain ⟨_, q⟩ := D1.ob
        have z1 := ne_fresh q hl
        have z2 := ne_fresh D1.he hl
        have z3 := ne_fresh D1.ma hl
        simp [Ne.symm z1, Ne.symm z2, Ne.symm z3])
      -- gone = self._exchange(page)
      obtain ⟨dx2, hp2⟩ := D2.ob
      have W2 : DS.WF { s with lacks := s.lacks + 1, marks := s.pass.1, hand := s.pass.2.1 } n := ⟨W.h, W.passm, W.passlt⟩
      refine ⟨_, rfl, p, dx2, _, rfl, hp2, rfl, _, rfl, p, a, b, _, n, pg, rfl, D2, W2, fun H3 D3 k3 => ?_⟩
      have lS : l ∉ [p, a, b] := by
        have z1 := ne_fresh hp hlH
        have z2 := ne_fresh D.he hlH
        have z3 := ne_fresh D.ma hlH
        simp [Ne.symm z1, Ne.symm z2, Ne.symm z3]
      have hl3 : H3 l = some (.lst (NL s.pass.2.2)) := k3 l _ hl2 lS
      have k03 : But [p, a, b] H H3 := (k1.trans (k2.mono (by simp))).trans k3
      -- return True, gone, passed
      refine ⟨_, rfl, _, rfl, szd rfl, fun t ht => ?_⟩
      have tl : t ≠ l := Ne.symm (ne_fresh hl3 ht)
      have htH : H t = none := k03.back ht (by
        obtain ⟨_, q⟩ := D3.ob
        have z1 := ne_fresh q ht
        have z2 := ne_fresh D3.he ht
        have z3 := ne_fresh D3.ma ht
        simp [Ne.symm z1, Ne.symm z2, Ne.symm z3])
      exact k t l _ htH hlH tl upd_same (by rw [upd_ne (Ne.symm tl)]; exact hl3) (D3.same (Same.new ht)) (k03.trans (But.new ht))
theorem sc_law_class : FnScope ["_law_e", "_law_kinds", "_law_words"] ["_law_e"] (defScope (top 56)) := ⟨rfl, rfl, rfl, by decide +kernel, rfl, by decide +kernel, by decide +kernel⟩
theorem ok_law_class (T : Prog K mg) (Z : Errs P K mg) : FnP P w K mg base CX0 1 T.law_class.f T.law_class.fd ["_law_e"] (spClass Z.pe Z.rooms Z.row Z.rule Z.many K) := by
  refine FunD.okP T.law_class.fn sc_law_class (fun a cls d vs H Q E h => ?len) (fun cdv A outer s H vs Q E p cls d hot hr hz hf h => ?body)
  case len =>
    obtain ⟨D, i, rfl, _⟩ := h
    rfl
  case body =>
    obtain ⟨D, i, rfl, rfl, ie, i4, hd, k⟩ := h
    refine ⟨_, (pss_cons (ps_set (i := 1) sc_law_class.nd rfl (Or.inl rfl) (pe_lst (pa_cons (pe_callB (call_isX ie.ec (p := p) (by exact List.mem_cons_self) hz hf) (by rfl) T.isinstance (by decide +kernel) (pa_cons (pv 0) (pa_cons (pe_glob (v := L2.V.ref Z.rooms) (by rfl) Z.gRooms rfl) pa_nil))) (pa_cons (pe_callB (call_isX ie.ec (p := p) (by exact List.mem_cons_self) hz hf) (by rfl) T.isinstance (by decide +kernel) (pa_cons (pv 0) (pa_cons (pe_glob (v := L2.V.ref Z.row) (by rfl) Z.br.gC rfl) pa_nil))) (pa_cons (pe_callB (call_isX ie.ec (p := p) (by exact List.mem_cons_self) hz hf) (by rfl) T.isinstance (by decide +kernel) (pa_cons (pv 0) (pa_cons (pe_glob (v := L2.V.ref Z.rule) (by rfl) Z.gRule rfl) pa_nil))) (pa_cons (pe_callB (call_isX ie.ec (p := p) (by exact List.mem_cons_self) hz hf) (by rfl) T.isinstance (by decide +kernel) (pa_cons (pv 0) (pa_cons (pe_glob (v := L2.V.ref Z.many) (by rfl) Z.gMany rfl) pa_nil))) pa_nil))))))
        (pss_cons (ps_set (i := 2) sc_law_class.nd rfl (Or.inl rfl) (pe_lst (pa_cons pe_str (pa_cons pe_str (pa_cons pe_str (pa_cons pe_str pa_nil))))))
        (pss_one (ps_ret (pe_ifExp (PW.pt (pw_and (pt_cmpR op_eq (pe_bm PySem.F.plainAttrs_list PySem.F.slot_list_count PySem.F.type_list_count mt_countV (pv 1) (pa_cons pe_bl pa_nil)) pe_int (nomark _)) (pw_and1 (pt_val (pe_callB (call_isX ie.ec (p := p) (by exact List.mem_cons_self) hz hf) (by rfl) T.isinstance (by decide +kernel) (pa_cons (pv 0) (pa_cons (pe_bltn (v := L2.V.ty "ValueError") (by rfl) Z.vE (by decide +kernel) rfl) pa_nil))))))) (pe_ix ix_list (pv 2) (pe_bm PySem.F.plainAttrs_list PySem.F.slot_list_index PySem.F.type_list_index mt_index (pv 1) (pa_cons pe_bl pa_nil)) (fun _ _ => rfl)) pe_str))))), ?_⟩
    refine ⟨_, rfl, _, _, _, rfl, rel_ref, ie.k0, hd, ?_⟩
    refine ⟨_, rfl, _, _, _, rfl, rel_ref, ie.k1, hd, ?_⟩
    refine ⟨_, rfl, _, _, _, rfl, rel_ref, ie.k2, hd, ?_⟩
    refine ⟨_, rfl, _, _, _, rfl, rel_ref, ie.k3, hd, ?_⟩
    refine ⟨szd rfl, fun l hl => ?_⟩
    refine ⟨szd rfl, fun l2 hl2 => ?_⟩
    have s1 : Same H (upd H l (.lst [.bl (decide (i = 0)), .bl (decide (i = 1)), .bl (decide (i = 2)), .bl (decide (i = 3))])) := Same.new hl
    have e1 := Same.new (o := .lst [.str "BadRooms", .str "BadRow", .str "BadRule", .str "TooMany"]) hl2 l _ upd_same
    have s2 := s1.trans (Same.new (o := .lst [.str "BadRooms", .str "BadRow", .str "BadRule", .str "TooMany"]) hl2)
    have hw : ∀ v, wordE i = v → Q (V.str v) (upd (upd H l (.lst [.bl (decide (i = 0)), .bl (decide (i = 1)), .bl (decide (i = 2)), .bl (decide (i = 3))])) l2 (.lst [.str "BadRooms", .str "BadRow", .str "BadRule", .str "TooMany"])) := fun v e => by
      rw [← e]
      exact k _ s2
    refine ⟨_, rfl, .inl ⟨rfl, _, SqL.of e1⟩, l, _, _, rfl, rfl, SqL.of e1, rfl, rfl, rfl, _, rfl, ?_⟩
    have four : i = 0 ∨ i = 1 ∨ i = 2 ∨ i = 3 := by omega
    rcases four with rfl | rfl | rfl | rfl
    all_goals refine ifT (by rfl) ⟨_, rfl, _, _, _, rfl, rel_ty, ie.kv, hd.same s2, ?_⟩
    · refine ⟨_, rfl, ?_⟩
      refine ⟨_, rfl, _, rfl, .inl ⟨rfl, _, SqL.of e1⟩, l, _, _, 0, _, rfl, rfl, SqL.of e1, rfl, rfl, rfl, rfl, (fun m z hm _ => by omega), ?_⟩
      exact ⟨l2, _, _, _, rfl, rfl, SqL.of upd_same, rfl, hw _ rfl⟩
    · refine ⟨_, rfl, ?_⟩
      refine ⟨_, rfl, _, rfl, .inl ⟨rfl, _, SqL.of e1⟩, l, _, _, 1, _, rfl, rfl, SqL.of e1, rfl, rfl, rfl, rfl, (fun m z hm hz => by
        rcases (by omega : m = 0) with rfl
        all_goals
          cases hz
          rfl), ?_⟩
      exact ⟨l2, _, _, _, rfl, rfl, SqL.of upd_same, rfl, hw _ rfl⟩
    · refine ⟨_, rfl, ?_⟩
      refine ⟨_, rfl, _, rfl, .inl ⟨rfl, _, SqL.of e1⟩, l, _, _, 2, _, rfl, rfl, SqL.of e1, rfl, rfl, rfl, rfl, (fun m z hm hz => by
        rcases (by omega : m = 0 ∨ m = 1) with rfl | rfl
        all_goals
          cases hz
          rfl), ?_⟩
      exact ⟨l2, _, _, _, rfl, rfl, SqL.of upd_same, rfl, hw _ rfl⟩
    · refine ⟨_, rfl, ?_⟩
      refine ⟨_, rfl, _, rfl, .inl ⟨rfl, _, SqL.of e1⟩, l, _, _, 3, _, rfl, rfl, SqL.of e1, rfl, rfl, rfl, rfl, (fun m z hm hz => by
        rcases (by omega : m = 0 ∨ m = 1 ∨ m = 2) with rfl | rfl | rfl
        all_goals
          cases hz
          rfl), ?_⟩
      exact ⟨l2, _, _, _, rfl, rfl, SqL.of upd_same, rfl, hw _ rfl⟩
end
end CK

/-! Lambdas as values: made, kept in lists, called when the frame that made them runs no more. -/
namespace CKL
open PySem PySem.Spec PyProof.Rows L2 LamX NdefX
/-! ### what stands, but for the tables -/
def Grow (H H' : Hp) : Prop := ExtN H H' ∧ ∀ b, H' b = none → H b = none
theorem Grow.refl (H : Hp) : Grow H H := ⟨ExtN.refl H, fun _ h => h⟩
theorem Grow.trans {H H1 H2 : Hp} (a : Grow H H1) (b : Grow H1 H2) : Grow H H2 := ⟨a.1.trans b.1, fun c h => a.2 c (b.2 c h)⟩
theorem Grow.of {H H' : Hp} (s : Same H H') : Grow H H' := ⟨ExtN.of s, fun b h => by
  cases e : H b with
  | none => rfl
  | some o => rw [s b o e] at h; cases h⟩
theorem Grow.at {H H' : Hp} (g : Grow H H') {b : Addr} {o : HO} (e : H b = some o) (n : ∀ ps, o ≠ .tbl ps := by intro ps z; cases z) : H' b = some o := g.1 b o e n
theorem Grow.seq {K : PySem.W.Frag} {H H' : Hp} (g : Grow H H') {a : Addr} {xs : List V} (h : SqL K H a xs) : SqL K H' a xs := by
  rcases h with h | h
  · rcases h with h | ⟨o, h⟩
    · exact .inl (.inl (g.at h))
    · exact .inl (.inr ⟨o, g.at h⟩)
  · exact .inr h
/-! ### the made lambda -/
structure LF where
  qual : Str
  params : Arguments
  body : Expr
  scope : Scope
  cl : List (Str × Addr)
  c : Addr
  dV : Value
abbrev LF.nf (F : LF) : NF := ⟨"<lambda>", F.qual, F.params, [], F.scope, F.cl, F.c⟩
abbrev LF.fd (F : LF) (doc pm ctv : Value) : FuncData := PySem.W.kdv_fn "<lambda>" F.qual F.params (.expr F.body) F.scope F.cl F.dV doc pm (.ref F.c) ctv
def LamO (f : Addr) (F : LF) : HO := .ext fun h => ∃ (od : Option Addr) (sl : Array (Option Value)) (doc pm ctv : Value), h.get? f = some (⟨.type "function", od, .func (F.fd doc pm ctv), sl⟩ : Obj)
theorem lamO_ne {f : Addr} {F : LF} (ps : Array Value) : LamO f F ≠ .tbl ps := fun z => by
  unfold LamO at z
  cases z
theorem lamO_at {P : Program} {w : World} {H : Hp} {h : Heap} {f : Addr} {F : LF} (hok : HOk P w H h) (e : H f = some (LamO f F)) : ∃ (od : Option Addr) (sl : Array (Option Value)) (doc pm ctv : Value), h.get? f = some (⟨.type "function", od, .func (F.fd doc pm ctv), sl⟩ : Obj) := by
  obtain ⟨z, _, _⟩ := hok f _ e
  exact z
/-- a table that grows by a new code object: all else stands -/
theorem grow_tab {H : Hp} {P c : Addr} {q : Str} {old new : Array Value} (tab : H P = some (.tbl old)) (fresh : H c = none) : Grow H (upd (upd H P (.tbl new)) c (CodeO c q)) := by
  constructor
  · intro x o hx plain
    have x1 : x ≠ c := ne_of_none hx fresh
    have x2 : x ≠ P := by
      rintro rfl
      exact plain old (Option.some.inj (hx.symm.trans tab))
    rw [upd_ne x1, upd_ne x2, hx]
  · exact fun x hx => upd_none (upd_none hx)
theorem tabs_tab {T : List (Addr × Str)} {H : Hp} {P c : Addr} {q : Str} {old : Array Value} {pos : Pos} (all : Tabs T H) (tab : H P = some (.tbl old)) (fresh : H c = none) (only : ∀ p ∈ T, p.1 = P → p.2 = q) (three : TriplesOk old.toList)
    (named : ∀ (at_ : Pos) (v : Value), codeAmong at_ old.toList = some v → ∃ d, v = .ref d ∧ H d = some (CodeO d q)) :
    Tabs T (upd (upd H P (.tbl (old ++ #[rawInt pos.line, rawInt pos.col, .ref c]))) c (CodeO c q)) := by
  have up := grow_tab (q := q) (new := old ++ #[rawInt pos.line, rawInt pos.col, .ref c]) tab fresh
  intro p hp
  by_cases same : p.1 = P
  · rw [only p hp same, same]
    have shape : (old ++ #[rawInt pos.line, rawInt pos.col, Value.ref c]).toList = old.toList ++ [rawInt pos.line, rawInt pos.col, .ref c] := Array.toList_append
    refine ⟨old ++ #[rawInt pos.line, rawInt pos.col, .ref c], ?_, ?_, ?_⟩
    · rw [upd_ne (ne_of_none tab fresh)]
      exact upd_same
    · rw [shape]
      exact TriplesOk_snoc _ _ _ _ three
    · intro at_ v hv
      rw [shape] at hv
      cases among_app _ three hv with
      | inl z => exact (named at_ v z).elim fun d hd => ⟨d, hd.1, up.at hd.2 codeO_ne⟩
      | inr z => exact ⟨c, z, upd_same⟩
  · obtain ⟨other, o1, o2, o3⟩ := all p hp
    refine ⟨other, ?_, o2, fun at_ v hv => (o3 at_ v hv).elim fun d hd => ⟨d, hd.1, up.at hd.2 codeO_ne⟩⟩
    rw [upd_ne (ne_of_none o1 fresh), upd_ne same]
    exact o1
section
variable {s : Shared} {X : Cx} {σ : L2.St} {pins : List (Addr × Obj)} {H : Hp}
/-- the lambda's object is laid, behind its code object -/
theorem lam_laid {F : LF} {T : List (Addr × Str)} {Hn : Hp} {hn : Heap} {tk : Nat} {doc pm ctv : Value} {Q : Value → Shared → Prop} (J : Inv X pins σ Hn { s with heap := hn, toks := tk }) (up : Grow H Hn) (tabs : Tabs T Hn) (code : Hn F.c = some (CodeO F.c F.qual))
    (done : ∀ (f : Addr) (H1 : Hp) (s' : Shared), Inv X pins σ H1 s' → Grow H H1 → Tabs T H1 → H f = none → H1 f = some (LamO f F) → H1 F.c = some (CodeO F.c F.qual) → Q (.ref f) s') :
    Q (.ref hn.objs.size) { s with heap := hn.push { cls := .type "function", data := .func (F.fd doc pm ctv) }, toks := tk } := by
  have free : Hn hn.objs.size = none := J.hok.fresh (Nat.le_refl hn.objs.size)
  have here := Heap.get?_push_size hn (o := { cls := .type "function", data := .func (F.fd doc pm ctv) }) rfl
  have stands : Same Hn (upd Hn hn.objs.size (LamO hn.objs.size F)) := fun x o hx => by
    rw [upd_ne (ne_of_none hx free)]
    exact hx
  refine done _ _ _ (J.laid (o := LamO hn.objs.size F) (fun x o => Heap.get?_push_of_some _) (Nat.le_refl _) ?_) (up.trans (Grow.of stands)) (tabs.ext stands) (up.2 _ free) upd_same (stands _ _ code)
  refine ⟨⟨none, _, doc, pm, ctv, here⟩, ⟨_, here⟩, ?_⟩
  rintro h1 h2 ⟨od, sl, d, p, t, z⟩ keep
  exact ⟨od, sl, d, p, t, keep _ z⟩
theorem lam_tail {T : List (Addr × Str)} {c P : Addr} {q : Str} {params : Arguments} {body : Expr} {scope : Scope} {pos : Pos} {dV : Value} {E Q : Value → Shared → Prop} (I : Inv X pins σ H s) (TB : TabB X.base X.mg c P) (hcode : X.env.code = .ref c)
    (hm : (P, q) ∈ T) (hu : ∀ p ∈ T, p.1 = P → p.2 = q) (hT : Tabs T H) (hfree : ∀ y ∈ scope.names, y.2 = .free → ∃ c, X.env.cells.lookup y.1 = some c)
    (h : ∀ (f c' : Addr) (H1 : Hp) (s' : Shared), Inv X pins σ H1 s' → Grow H H1 → Tabs T H1 → H f = none → H1 f = some (LamO f ⟨q, params, body, scope, cloFrom X.env.cells scope.names [], c', dV⟩) → H1 c' = some (CodeO c' q) → Q (.ref f) s') :
    wpAny (model X.prog X.w) X.A (makeTail "<lambda>" q params (.expr body) scope X.env dV .none none pos pos.line) Q E s := by
  obtain ⟨old, tab, three, named⟩ := hT (P, q) hm
  have globs := I.mod.glob.keeps I.bk
  have head := TB.code.keeps I.bk
  have mods := TB.bm.keeps I.bk
  have here := I.hok _ _ tab
  have fin : ∀ (c' : Addr) (Hn : Hp) (hn : Heap) (tk : Nat) (doc pm ctv : Value), Inv X pins σ Hn { s with heap := hn, toks := tk } → Grow H Hn → Tabs T Hn → Hn c' = some (CodeO c' q) →
      Q (.ref hn.objs.size) { s with heap := hn.push (PySem.W.kdv_obj "<lambda>" q params (.expr body) scope (cloFrom X.env.cells scope.names []) dV doc pm c' ctv), toks := tk } := fun c' Hn hn tk doc pm ctv J up tabs code =>
    lam_laid (F := ⟨q, params, body, scope, cloFrom X.env.cells scope.names [], c', dV⟩) J up tabs code fun f H1 s' => h f c' H1 s'
  match found : codeAmong pos old.toList with
  | some v =>
    obtain ⟨c', rfl, code⟩ := named pos v found
    exact PySem.W.kdv_makeTailHit (closure_ok hfree) I.ok.glob globs hcode head here three found mods fun ctv doc hn tk keep _ => fin c' H hn tk doc _ ctv (I.kept keep) (Grow.refl H) hT code
  | none =>
    refine PySem.W.kdv_makeTail (closure_ok hfree) I.ok.glob globs hcode head here three found TB.gP mods fun c' ctv doc hn tk keep above _ rec_ longer => ?_
    obtain ⟨x, oc, vs, t, ex, r1, r2, r3⟩ := rec_
    cases ex
    have fresh := I.hok.fresh above
    exact fin _ _ hn tk doc _ ctv (inv_table I tab (fun x o hx e => keep x o hx e) longer above ⟨oc, vs, t, r1, r2, r3⟩) (grow_tab tab fresh) (tabs_tab hT tab fresh hu three named) upd_same
end
/-! ### the expression -/
def lamArgs : Expr → Arguments
  | .Lambda a _ _ _ => a
  | _ => C8.fnArgs (.Pass ⟨0, 0, 0, 0⟩)
def lamBody : Expr → Expr
  | .Lambda _ b _ _ => b
  | e => e
def lamScope : Expr → Scope
  | .Lambda _ _ sc _ => sc
  | _ => C8.fnScope (.Pass ⟨0, 0, 0, 0⟩)
/-- at f a function made of the lambda L, its captured cells cl -/
def LamAt (H : Hp) (q : Str) (L : Expr) (cl : List (Str × Addr)) (f : Addr) : Prop :=
  ∃ (c' : Addr) (dV : Value), H f = some (LamO f ⟨q, lamArgs L, lamBody L, lamScope L, cl, c', dV⟩) ∧ H c' = some (CodeO c' q) ∧
    (((lamArgs L).defaults = [] ∧ dV = .none) ∨ ((lamArgs L).defaults ≠ [] ∧ ∃ t, dV = .ref t ∧ H t = some (.tup [.int 0])))
theorem LamAt.grow {H H' : Hp} {q : Str} {L : Expr} {cl : List (Str × Addr)} {f : Addr} (l : LamAt H q L cl f) (g : Grow H H') : LamAt H' q L cl f := by
  obtain ⟨c', dV, h1, h2, h3⟩ := l
  refine ⟨c', dV, g.at h1 (lamO_ne), g.at h2 codeO_ne, ?_⟩
  rcases h3 with h3 | ⟨h3, t, e, ht⟩
  · exact .inl h3
  · exact .inr ⟨h3, t, e, g.at ht⟩
/-- the reading of a lambda: a new function -/
def tLamE (T : List (Addr × Str)) (q : Str) (L : Expr) (cl : List (Str × Addr)) : TE := fun σ H Q => Tabs T H ∧ ∀ (f : Addr) (H1 : Hp), Grow H H1 → Tabs T H1 → H f = none → LamAt H1 q L cl f → Q (.ref f) H1
section
variable {X : Cx}
theorem lam_free {scope : Scope} (ok : X.Ok) (hfree : ∀ y ∈ scope.names, y.2 = .free → X.env.scope.names.lookup y.1 = some .cell ∨ X.env.scope.names.lookup y.1 = some .free) : ∀ y ∈ scope.names, y.2 = .free → ∃ c, X.env.cells.lookup y.1 = some c := fun y hy e => (hfree y hy e).elim (fun z => ok.has _ (.inl z)) fun z => ok.has _ (.inr z)
/-- lambda: e -/
theorem pe_lam0 {T : List (Addr × Str)} {c P : Addr} {params : Arguments} {body : Expr} {scope : Scope} {pos : Pos} (TB : TabB X.base X.mg c P) (hcode : X.env.code = .ref c) (hm : (P, X.env.qual ++ "<lambda>") ∈ T) (hu : ∀ p ∈ T, p.1 = P → p.2 = X.env.qual ++ "<lambda>")
    (hd0 : params.defaults = []) (hdef : defaultsOf params X.env = ([], [])) (hfree : ∀ y ∈ scope.names, y.2 = .free → X.env.scope.names.lookup y.1 = some .cell ∨ X.env.scope.names.lookup y.1 = some .free) :
    PE X (.Lambda params body scope pos) (tLamE T (X.env.qual ++ "<lambda>") (.Lambda params body scope pos) (cloFrom X.env.cells scope.names [])) := by
  constructor
  rintro pins s σ H Q I ⟨hT, h⟩
  apply PySem.W.kla_eval hdef
  rw [makeFunction_eq]
  simp only [List.isEmpty_nil, List.filterMap_nil, List.zip_nil_right, pure_bind, if_true]
  exact lam_tail I TB hcode hm hu hT (lam_free I.ok hfree) fun f c' H1 s' I1 g T1 f0 f1 c1 => ⟨.ref f, H1, I1, rfl, h f H1 g T1 f0 ⟨c', .none, f1, c1, .inl ⟨hd0, rfl⟩⟩⟩
/-- lambda x=0: e -/
theorem pe_lam1 {T : List (Addr × Str)} {c P : Addr} {params : Arguments} {body : Expr} {scope : Scope} {pos p0 : Pos} {j : Nat} (TB : TabB X.base X.mg c P) (hcode : X.env.code = .ref c) (hm : (P, X.env.qual ++ "<lambda>") ∈ T) (hu : ∀ p ∈ T, p.1 = P → p.2 = X.env.qual ++ "<lambda>")
    (hd1 : params.defaults = [.Constant (.int 0) j p0]) (hk0 : params.kw_defaults = []) (hfree : ∀ y ∈ scope.names, y.2 = .free → X.env.scope.names.lookup y.1 = some .cell ∨ X.env.scope.names.lookup y.1 = some .free) :
    PE X (.Lambda params body scope pos) (tLamE T (X.env.qual ++ "<lambda>") (.Lambda params body scope pos) (cloFrom X.env.cells scope.names [])) := by
  constructor
  rintro pins s σ H Q I ⟨hT, h⟩
  refine PySem.W.kdv_lam (by rw [hd1]; rfl) hk0 ?_
  rw [hd1]
  refine PySem.W.kdv_all1 (wpAny_Constant_int (PySem.W.kdv_all0 ?_))
  rw [makeFunction_eq]
  simp only [List.zip_nil_right, List.filterMap_nil, List.isEmpty_nil, if_true, pure_bind, List.isEmpty_cons, Bool.false_eq_true, if_false]
  apply wpAny_bind
  apply wpAny_newTextTuple
  have I0 := I.tok (s.toks + 1)
  have nt : H s.heap.objs.size = none := I.hok.fresh (Nat.le_refl _)
  have et : (s.heap.push (PySem.W.kdv_tup [Value.int 0 s.toks])).get? s.heap.objs.size = some (PySem.W.kdv_tup [Value.int 0 s.toks]) := Heap.get?_push_size _ rfl
  have I1 := I0.laid (a := s.heap.objs.size) (o := .tup [.int 0]) (h' := s.heap.push (PySem.W.kdv_tup [Value.int 0 s.toks])) (t' := s.toks + 1) (fun b u e => Heap.get?_push_of_some _ e) (Nat.le_refl _) ⟨by decide, [Value.int 0 s.toks], .cons ⟨_, rfl⟩ .nil, _, et, rfl, _, rfl⟩
  have g1 : Same H (upd H s.heap.objs.size (.tup [.int 0])) := fun b u e => by
    rw [upd_ne (ne_of_none e nt)]
    exact e
  exact lam_tail I1 TB hcode hm hu (hT.ext g1) (lam_free I.ok hfree) fun f c' H1 s' I2 g T1 f0 f1 c1 => ⟨.ref f, H1, I2, rfl, h f H1 ((Grow.of g1).trans g) T1 ((Grow.of g1).2 f f0) ⟨c', _, f1, c1, .inr ⟨by rw [show lamArgs (.Lambda params body scope pos) = params from rfl, hd1]; simp, _, rfl, g.at upd_same⟩⟩⟩
end
end CKL

/-! Cells that are written no more; a lambda's call. -/
namespace CKL
open PySem PySem.Spec PyProof.Rows L2 LamX NdefX
/-- the cell at c holds v, and is written no more -/
def CellF (H : Hp) (c : Addr) (v : V) : Prop := ∃ (o : Obj) (u : Value), H c = some (.frz o (.own c)) ∧ o.data = .cell (some u) ∧ RelV v u
/-- captured cells, written no more: of the names fr, holding ws -/
structure CellsF (H : Hp) (cl : List (Str × Addr)) (fr : List Str) (ws : List V) : Prop where
  len : ws.length = fr.length
  all : ∀ y c, cl.lookup y = some c → ∃ (o : Obj) (v : Option Value), H c = some (.frz o (.own c)) ∧ o.data = .cell v
  inj : ∀ (u v : Str) (c : Addr), cl.lookup u = some c → cl.lookup v = some c → u = v
  has : ∀ (i : Nat) (y : Str) (v : V), fr[i]? = some y → ws[i]? = some v → ∃ c, cl.lookup y = some c ∧ CellF H c v
theorem CellsF.grow {H H' : Hp} {cl : List (Str × Addr)} {fr : List Str} {ws : List V} (C : CellsF H cl fr ws) (g : Grow H H') : CellsF H' cl fr ws :=
  ⟨C.len, fun y c e => (let ⟨o, v, h1, h2⟩ := C.all y c e; ⟨o, v, g.at h1, h2⟩), C.inj, fun i y v e1 e2 => (let ⟨c, h1, o, u, h2, h3, h4⟩ := C.has i y v e1 e2; ⟨c, h1, o, u, g.at h2, h3, h4⟩)⟩
/-- the addresses that the names stand for -/
def addrs (cl : List (Str × Addr)) : List Addr := cl.filterMap fun p => cl.lookup p.1
theorem of_addrs {cl : List (Str × Addr)} {c : Addr} (h : c ∈ addrs cl) : ∃ y, cl.lookup y = some c := by
  obtain ⟨p, _, e⟩ := List.mem_filterMap.mp h
  exact ⟨p.1, e⟩
theorem mem_addrs {cl : List (Str × Addr)} {y : Str} {c : Addr} (h : cl.lookup y = some c) : c ∈ addrs cl := List.mem_filterMap.mpr ⟨(y, c), PySem.mem_of_lookup h, h⟩
def hid (H : Hp) (C : List Addr) : Hp := fun b => if b ∈ C then none else H b
def unh (H : Hp) (C : List Addr) (H' : Hp) : Hp := fun b => if b ∈ C then H b else H' b
theorem hid_in {H : Hp} {C : List Addr} {b : Addr} (h : b ∈ C) : hid H C b = none := if_pos h
theorem hid_out {H : Hp} {C : List Addr} {b : Addr} (h : b ∉ C) : hid H C b = H b := if_neg h
theorem unh_in {H H' : Hp} {C : List Addr} {b : Addr} (h : b ∈ C) : unh H C H' b = H b := if_pos h
theorem unh_out {H H' : Hp} {C : List Addr} {b : Addr} (h : b ∉ C) : unh H C H' b = H' b := if_neg h
/-- all at C are written no more -/
def Frz (H : Hp) (C : List Addr) : Prop := ∀ b ∈ C, ∃ o, H b = some (.frz o (.own b))
theorem Frz.out {H : Hp} {C : List Addr} (F : Frz H C) {b : Addr} (h : ∀ o u, H b ≠ some (.frz o u)) : b ∉ C := fun z => by
  obtain ⟨o, e⟩ := F b z
  exact h _ _ e
theorem Frz.hid {H : Hp} {C : List Addr} (F : Frz H C) {b : Addr} {u : HO} (e : H b = some u) (n : ∀ o z, u ≠ .frz o z) : hid H C b = some u := by
  rw [hid_out (F.out fun o z q => n o z (Option.some.inj (e.symm.trans q)))]
  exact e
section
variable {P : Program} {w : World} {K : PySem.W.Frag} {mg : Str → Option Value} {base : Heap} {A : Around} {outer : List Env} {s s' : Shared} {H H' : Hp} {C : List Addr}
theorem hok_hid {h : Heap} (F : Frz H C) (x : HOk P w H h) : HOk P w (hid H C) h := fun a o e => by
  by_cases ha : a ∈ C
  · rw [hid_in ha] at e; cases e
  · rw [hid_out ha] at e
    refine (x a o e).stay (fun _ _ _ q => q) (fun b q => F.hid q fun _ _ z => by cases z) fun b xs q => F.hid q fun _ _ z => by cases z
theorem env0_hid (F : Frz H C) (e : Env0 P w K mg base A outer s H) : Env0 P w K mg base A outer s (hid H C) :=
  ⟨e.frames, e.mod, fun b o q => ⟨(e.bs b o q).1, by
    by_cases hb : b ∈ C
    · exact hid_in hb
    · rw [hid_out hb]; exact (e.bs b o q).2⟩, e.bsz, e.funs, fun b q => by
    by_cases hb : b ∈ C
    · exact hid_in hb
    · rw [hid_out hb]; exact e.frf b q, hok_hid F e.hok, e.bare⟩
theorem hok_unh {h h' : Heap} (F : Frz H C) (k : ∀ b o, b ∈ C → h.get? b = some o → h'.get? b = some o) (gone : ∀ b ∈ C, H' b = none) (x : HOk P w H h) (y : HOk P w H' h') : HOk P w (unh H C H') h' := fun a o e => by
  by_cases ha : a ∈ C
  · rw [unh_in ha] at e
    obtain ⟨u, q⟩ := F a ha
    rw [q] at e
    cases e
    obtain ⟨z1, _⟩ := x a _ q
    exact ⟨k a u ha z1, ⟨u, k a u ha z1⟩⟩
  · rw [unh_out ha] at e
    have out : ∀ b u, H' b = some u → b ∉ C := fun b u q z => by rw [gone b z] at q; cases q
    refine (y a o e).stay (fun _ _ _ q => q) (fun b q => by rw [unh_out (out b _ q)]; exact q) fun b xs q => by rw [unh_out (out b _ q)]; exact q
theorem ce_unh {Q : VK} {u : Value} (F : Frz H C) (e0 : Env0 P w K mg base A outer s H) (x : CE outer P w (hid H C) s (fun v H' => (∀ b ∈ C, H' b = none) → Q v (unh H C H')) u s') : CE outer P w H s Q u s' := by
  obtain ⟨v, H', os, bare, un, hok, r, q⟩ := x
  have get : ∀ b ∈ C, ∃ o, s.heap.get? b = some o := fun b hb => by
    obtain ⟨o, e⟩ := F b hb
    obtain ⟨z, _⟩ := e0.hok b _ e
    exact ⟨o, z⟩
  have nf : ∀ b ∈ C, b ∉ frs outer := fun b hb z => by
    obtain ⟨o, e⟩ := F b hb
    rw [e0.frf b z] at e
    cases e
  have gone : ∀ b ∈ C, H' b = none := fun b hb => by
    obtain ⟨o, e⟩ := get b hb
    exact un.free b o e (hid_in hb) (by simp)
  have hn : ∀ b, H b = none → hid H C b = none := fun b e => by
    by_cases hb : b ∈ C
    · exact hid_in hb
    · rw [hid_out hb]; exact e
  have no : ∀ b, H b = none → b ∉ C := fun b e z => by
    obtain ⟨o, q⟩ := F b z
    rw [e] at q; cases q
  refine ⟨v, unh H C H', os, bare, ⟨fun b o e n => un.keep b o e (hn b n), fun b o e n => un.slot b o e (hn b n), fun b o e n hx => ?_, un.there, fun b xs e => ?_, fun b o z e => ?_, fun b ps e => ?_⟩, hok_unh F (fun b o hb e => un.keep b o e (hid_in hb) (nf b hb) (by simp)) gone e0.hok hok, r, q gone⟩
  · rw [unh_out (no b n)]
    exact un.free b o e (hn b n) hx
  · have hb := F.out (b := b) fun _ _ z => by rw [e] at z; cases z
    rw [unh_out hb]
    exact un.tups b xs (by rw [hid_out hb]; exact e)
  · by_cases hb : b ∈ C
    · rw [unh_in hb]; exact e
    · rw [unh_out hb]
      exact un.frzs b o z (by rw [hid_out hb]; exact e)
  · have hb := F.out (b := b) fun _ _ z => by rw [e] at z; cases z
    rw [unh_out hb]
    exact un.tbls b ps (by rw [hid_out hb]; exact e)
theorem cx_unh {E : XK} {u : Value} (F : Frz H C) (e0 : Env0 P w K mg base A outer s H) (x : L2N.CX P w outer (hid H C) s (fun cls d H' => (∀ b ∈ C, H' b = none) → E cls d (unh H C H')) u s') : L2N.CX P w outer H s E u s' := by
  obtain ⟨a, B, H', cls, d, eu, fl, hok, ub, na, os, bare, q⟩ := x
  have get : ∀ b ∈ C, ∃ o, s.heap.get? b = some o := fun b hb => by
    obtain ⟨o, e⟩ := F b hb
    obtain ⟨z, _⟩ := e0.hok b _ e
    exact ⟨o, z⟩
  have nf : ∀ b ∈ C, b ∉ frs outer := fun b hb z => by
    obtain ⟨o, e⟩ := F b hb
    rw [e0.frf b z] at e
    cases e
  have gone : ∀ b ∈ C, H' b = none := fun b hb => by
    obtain ⟨o, e⟩ := get b hb
    exact ub.free b o e (hid_in hb)
  have hn : ∀ b, H b = none → hid H C b = none := fun b e => by
    by_cases hb : b ∈ C
    · exact hid_in hb
    · rw [hid_out hb]; exact e
  have no : ∀ b, H b = none → b ∉ C := fun b e z => by
    obtain ⟨o, q⟩ := F b z
    rw [e] at q; cases q
  have aC : a ∉ C := fun z => by
    obtain ⟨o, e⟩ := get a z
    have e2 := ub.keep a o e (hid_in z) (nf a z)
    rw [fl.2.1] at e2
    cases e2
  refine ⟨a, B, unh H C H', cls, d, eu, fl, hok_unh F (fun b o hb e => ub.keep b o e (hid_in hb) (nf b hb)) gone e0.hok hok, ⟨fun b o e n => ub.keep b o e (hn b n), fun b o e => ub.slot b o e, fun b o e n => ?_, ub.there, fun b xs e => ?_, fun b o z e => ?_, fun b ps e => ?_⟩, by rw [unh_out aC]; exact na, os, bare, q gone⟩
  · rw [unh_out (no b n)]
    exact ub.free b o e (hn b n)
  · have hb := F.out (b := b) fun _ _ z => by rw [e] at z; cases z
    rw [unh_out hb]
    exact ub.tups b xs (by rw [hid_out hb]; exact e)
  · by_cases hb : b ∈ C
    · rw [unh_in hb]; exact e
    · rw [unh_out hb]
      exact ub.frzs b o z (by rw [hid_out hb]; exact e)
  · have hb := F.out (b := b) fun _ _ z => by rw [e] at z; cases z
    rw [unh_out hb]
    exact ub.tbls b ps (by rw [hid_out hb]; exact e)
end
/-! ### what a call of a lambda gives -/
/-- f() at the heap H: an answer as Q says, or an error as E says -/
def Gives (P : Program) (w : World) (K : PySem.W.Frag) (mg : Str → Option Value) (base : Heap) (k : Nat) (f : Addr) (H : Hp) (Q : VK) (E : XK) : Prop :=
  ∀ (A : Around) (outer : List Env) (s : Shared), Room k A → Env0 P w K mg base A outer s H → codeAny (model P w) A (.call (.ref f) ⟨[], []⟩) (CR (L2N.CX P w) outer P w H s Q E) s
theorem cellsAt_of {cl : List (Str × Addr)} {fr : List Str} {ws : List V} {P : Program} {w : World} {H : Hp} {h : Heap} (C : CellsF H cl fr ws) (x : HOk P w H h) : CellsAt cl fr (ws.map some) h (hid H (addrs cl)) := by
  refine ⟨by rw [List.length_map]; exact C.len, fun y c e => ⟨hid_in (mem_addrs e), ?_⟩, C.inj, fun i y e => ?_⟩
  · obtain ⟨o, v, h1, h2⟩ := C.all y c e
    obtain ⟨z, _⟩ := x c _ h1
    exact ⟨v, o, z, h2⟩
  · have hi : i < ws.length := by rw [C.len]; exact (List.getElem?_eq_some_iff.mp e).1
    obtain ⟨c, h1, o, u, h2, h3, h4⟩ := C.has i y ws[i] e (List.getElem?_eq_getElem hi)
    refine ⟨c, h1, fun v ev => ⟨u, ?_, ?_⟩⟩
    · rw [List.getElem?_map, List.getElem?_eq_getElem hi] at ev
      have ev' := Option.some.inj (Option.some.inj ev)
      rw [← ev']
      exact h4
    · obtain ⟨z, _⟩ := x c _ h2
      exact ⟨o, z, h3⟩
theorem cellsF_frz {cl : List (Str × Addr)} {fr : List Str} {ws : List V} {H : Hp} (C : CellsF H cl fr ws) : Frz H (addrs cl) := fun b hb => by
  obtain ⟨y, e⟩ := of_addrs hb
  obtain ⟨o, v, h1, _⟩ := C.all y b e
  exact ⟨o, h1⟩
section
variable {P : Program} {w : World} {K : PySem.W.Frag} {mg : Str → Option Value} {base : Heap} {N ps fr : List Str} {F : LF} {f : Addr} {k : Nat} {H : Hp} {Q : VK} {E : XK} {vs ws : List V}
/-- THE RULE: a lambda by its body -/
theorem lam_gives (S : NScope N ps fr F.scope) (hf : H f = some (LamO f F)) (hc : H F.c = some (CodeO F.c F.qual)) (hl : vs.length = ps.length)
    (hb : ∀ (s : Shared) (doc pm ctv : Value), HOk P w H s.heap → ∃ us, Vals vs us ∧ BindsTo s (F.fd doc pm ctv) ⟨[], []⟩ (ps.zip us)) (C : CellsF H F.cl fr ws)
    (hbody : ∀ (A : Around) (outer : List Env) (s : Shared), Room k (A.deeper (envF F.nf f s.heap.objs.size)) →
      ∃ t, PE (ncx (L2N.CX P w) P w K mg base N F.nf f A outer s (hid H (addrs F.cl)) (fun cls d H' => (∀ b ∈ addrs F.cl, H' b = none) → E cls d (unh H (addrs F.cl) H'))) F.body t ∧ t (startF N vs (ws.map some)) (hid H (addrs F.cl)) (fun v H' => (∀ b ∈ addrs F.cl, H' b = none) → Q v (unh H (addrs F.cl) H'))) :
    Gives P w K mg base (k + 1) f H Q E := by
  intro A outer s hr e0
  have FZ := cellsF_frz C
  have e1 := env0_hid FZ e0
  have lim := e0.mod.nolimit.keeps fun b o z => (e0.bs b o z).1
  obtain ⟨od, sl, doc, pm, ctv, ho⟩ := lamO_at e0.hok hf
  obtain ⟨us, r, bt⟩ := hb s doc pm ctv e0.hok
  refine PySem.W.kla_callFunE hr.depth ho rfl S.co S.gen rfl (codeO_at e0.hok hc) (bt _ _ _ _ ?_)
  refine wpAny_newFunctionEnv S.nocell (fun ⟨n, _⟩ hy => S.par n (List.of_mem_zip hy).1) (fun h₁ hns hsb => ⟨lim.fresh _ hsb, ?_⟩) S.kind
  show codeAny _ _ (.expr F.body (envF F.nf f s.heap.objs.size)) _ _
  have kp : ∀ b o, s.heap.get? b = some o → h₁.get? b = some o := by
    intro x o hx
    exact hsb.extBut x o (Nat.ne_of_lt (Heap.lt_size hx)) (Heap.get?_push_of_some _ hx)
  obtain ⟨t, ht, hq⟩ := hbody A outer s (hr.deeper _)
  have I := inv_startN (CX := L2N.CX P w) (F := F.nf) (f := f) (E := fun cls d H' => (∀ b ∈ addrs F.cl, H' b = none) → E cls d (unh H (addrs F.cl) H')) (us := us) (vs := vs) (ws := ws.map some) (tk := s.toks + (ps.zip us).length) S hr.hd e1 hl r (cellsAt_of C e0.hok) hns kp
  refine PySem.W.kla_codeExpr (wpAny_mono (ht.run [] _ _ _ _ I hq) (fun v s' hv => ?_) fun e s' he => wpAny_mono he (fun _ s'' z => cx_unh FZ e0 z) fun e' s'' z => cx_unh FZ e0 z)
  obtain ⟨x, H', J, rv, q⟩ := hv
  exact ce_unh FZ e0 ⟨x, H', J.os, J.bare, J.base, J.hok, rv, q⟩
end
/-! ### the cells of a running def, frozen -/
structure Frozen (X : Cx) (σ : L2.St) (H Hz : Hp) : Prop where
  same : Same H Hz
  has : ∀ y, X.env.scope.names.lookup y = some .cell → ∃ c, X.env.cells.lookup y = some c
  inj : ∀ (u v : Str) (c : Addr), X.env.cells.lookup u = some c → X.env.cells.lookup v = some c → u = v
  all : ∀ y c, X.env.cells.lookup y = some c → ∃ (o : Obj) (v : Option Value), Hz c = some (.frz o (.own c)) ∧ o.data = .cell v
  cell : ∀ (j : Nat) (y : Str) (v : V), X.N[j]? = some y → X.env.scope.names.lookup y = some .cell → σ[j]? = some (some v) → ∃ c, X.env.cells.lookup y = some c ∧ CellF Hz c v
/-- Hz is H with the cells at C frozen -/
structure FrzTo (h : Heap) (C : List Addr) (H Hz : Hp) : Prop where
  at_ : ∀ b ∈ C, H b = none ∧ ∃ o, h.get? b = some o ∧ Hz b = some (.frz o (.own b))
  out : ∀ b, b ∉ C → Hz b = H b
theorem FrzTo.same {h : Heap} {C : List Addr} {H Hz : Hp} (x : FrzTo h C H Hz) : Same H Hz := fun b o e => by
  by_cases hb : b ∈ C
  · rw [(x.at_ b hb).1] at e; cases e
  · rw [x.out b hb]; exact e
theorem FrzTo.hok {P : Program} {w : World} {h : Heap} {C : List Addr} {H Hz : Hp} (x : FrzTo h C H Hz) (y : HOk P w H h) : HOk P w Hz h := fun a o e => by
  by_cases ha : a ∈ C
  · obtain ⟨_, u, h1, h2⟩ := x.at_ a ha
    rw [h2] at e
    cases e
    exact ⟨h1, ⟨u, h1⟩⟩
  · rw [x.out a ha] at e
    exact (y a o e).stay (fun _ _ _ q => q) (fun b q => x.same _ _ q) fun b xs q => x.same _ _ q
theorem frozen_of {X : Cx} {pins : List (Addr × Obj)} {σ : L2.St} {H : Hp} {s : Shared} (I : Inv X pins σ H s) (hfn : ∀ x, X.fn x = true) :
    ∃ Hz, Frozen X σ H Hz ∧ FrzTo s.heap (addrs X.env.cells) H Hz ∧ ∀ b ∈ addrs X.env.cells, X.s_0.heap.objs.size ≤ b ∧ b ∉ frs X.stack := by
  have cellAt : ∀ y c, X.env.cells.lookup y = some c → ∃ (o : Obj) (v : Option Value), s.heap.get? c = some o ∧ o.data = .cell v := fun y c e => by
    obtain ⟨v, o, ho, hd⟩ := I.cell y c e
    exact ⟨o, v, ho, hd⟩
  have Z : FrzTo s.heap (addrs X.env.cells) H fun b => if b ∈ addrs X.env.cells then (s.heap.get? b).map (fun o => HO.frz o (.own b)) else H b := by
    refine ⟨fun b hb => ?_, fun b hb => if_neg hb⟩
    obtain ⟨y, e⟩ := of_addrs hb
    obtain ⟨o, v, ho, _⟩ := cellAt y b e
    exact ⟨I.freeC y b e, o, ho, by rw [if_pos hb, ho]; rfl⟩
  have fz : ∀ y c o, X.env.cells.lookup y = some c → s.heap.get? c = some o → (fun b => if b ∈ addrs X.env.cells then (s.heap.get? b).map (fun o => HO.frz o (.own b)) else H b) c = some (.frz o (.own c)) := fun y c o e ho => by
    show (if c ∈ addrs X.env.cells then (s.heap.get? c).map (fun o => HO.frz o (.own c)) else H c) = _
    rw [if_pos (mem_addrs e), ho]; rfl
  refine ⟨_, ⟨Z.same, fun y hy => I.ok.has y (.inl hy), I.ok.inj, fun y c e => ?_, fun j y v h1 h2 h3 => ?_⟩, Z, fun b hb => ?_⟩
  · obtain ⟨o, v, ho, hd⟩ := cellAt y c e
    exact ⟨o, v, fz y c o e ho, hd⟩
  · obtain ⟨m, hn, hl⟩ := I.loc
    obtain ⟨u, r, l⟩ := hl j y v h1 h3 (.inr (.inl h2))
    rcases l with ⟨z, _⟩ | ⟨_, c, e, o, ho, hd⟩
    · have z : X.env.scope.names.lookup y = some .local := z
      rw [h2] at z
      cases z
    · exact ⟨c, e, o, u, fz y c o e ho, hd, r⟩
  · obtain ⟨y, e⟩ := of_addrs hb
    have ab := I.ok.cab y b (hfn y) e
    refine ⟨ab, fun z => ?_⟩
    rcases List.mem_cons.mp (I.stkSub b z) with q | q
    · exact I.cne y b e q
    · obtain ⟨_, o, ho, _⟩ := I.ok.funs.mem q
      exact Nat.lt_irrefl _ (Nat.lt_of_lt_of_le (Heap.lt_size ho) ab)
/-- the captured cells of a lambda made here -/
theorem Frozen.caps {X : Cx} {σ : L2.St} {H Hz : Hp} (Z : Frozen X σ H Hz) {scope : Scope} {fr : List Str} {js : List Nat} {ws : List V} (hfree : ∀ y ∈ scope.names, y.2 = .free → X.env.scope.names.lookup y.1 = some .cell) (hfr : ∀ y ∈ fr, (y, NameKind.free) ∈ scope.names)
    (hjs : js.map (fun j => X.N[j]?) = fr.map some) (hw : js.map (fun j => σ[j]?) = ws.map fun v => some (some v)) : CellsF Hz (cloFrom X.env.cells scope.names []) fr ws := by
  have hf : ∀ y ∈ scope.names, y.2 = .free → ∃ c, X.env.cells.lookup y.1 = some c := fun y hy e => Z.has _ (hfree y hy e)
  have l1 := congrArg List.length hjs
  have l2 := congrArg List.length hw
  simp only [List.length_map] at l1 l2
  refine ⟨by omega, fun y c e => Z.all y c (clo_cm hf e), fun x y c e1 e2 => Z.inj x y c (clo_cm hf e1) (clo_cm hf e2), fun i y v e1 e2 => ?_⟩
  have q1 : (js.map fun j => X.N[j]?)[i]? = some (some y) := by rw [hjs, List.getElem?_map, e1]; rfl
  have q2 : (js.map fun j => σ[j]?)[i]? = some (some (some v)) := by rw [hw, List.getElem?_map, e2]; rfl
  rw [List.getElem?_map] at q1 q2
  cases ej : js[i]? with
  | none => rw [ej] at q1; cases q1
  | some j =>
    rw [ej] at q1 q2
    have hj : X.N[j]? = some y := Option.some.inj q1
    have hs : σ[j]? = some (some v) := Option.some.inj q2
    have hm := hfr y (List.mem_of_getElem? e1)
    obtain ⟨c, ec, F⟩ := Z.cell j y v hj (hfree _ hm rfl) hs
    exact ⟨c, clo_has hf hm ec, F⟩
def capB (sc scope : Scope) (fr : List Str) : Bool := (scope.names.all fun y => !decide (y.2 = .free) || decide (sc.names.lookup y.1 = some .cell)) && fr.all fun y => decide ((y, NameKind.free) ∈ scope.names)
theorem Frozen.capsB {X : Cx} {σ : L2.St} {H Hz : Hp} (Z : Frozen X σ H Hz) {sc scope : Scope} {fr : List Str} {js : List Nat} {ws : List V} (hsc : X.env.scope = sc) (hB : capB sc scope fr = true)
    (hjs : js.map (fun j => X.N[j]?) = fr.map some) (hw : js.map (fun j => σ[j]?) = ws.map fun v => some (some v)) : CellsF Hz (cloFrom X.env.cells scope.names []) fr ws := by
  unfold capB at hB
  simp only [Bool.and_eq_true, Bool.or_eq_true, Bool.not_eq_true', decide_eq_true_eq, decide_eq_false_iff_not, List.all_eq_true] at hB
  refine Z.caps (fun y hy e => ?_) hB.2 hjs hw
  rw [hsc]
  exact (hB.1 y hy).elim (fun z => absurd e z) id
/-! ### a call with the caller's cells frozen -/
/-- what was known ahead and is known behind is known when the cells are the caller's again -/
structure Thaw (H H' H2 : Hp) : Prop where
  old : ∀ b o, H b = some o → H' b = some o → H2 b = some o
  new : ∀ b o, H' b = some o → (∀ u, o ≠ .frz u (.own b)) → H2 b = some o
theorem Thaw.same {H Hz H' H2 : Hp} (t : Thaw H H' H2) (a : Same H Hz) (b : Same Hz H') : Same H H2 := fun c o e => t.old c o e (b c o (a c o e))
def tCallZ (X : Cx) (sp : Sp) (t : TA) : TE := fun σ H Q => t σ H fun vs H1 => ∀ Hz, Frozen X σ H1 Hz → sp vs Hz (fun v H' => ∀ H2, Thaw H1 H' H2 → Q v H2) fun _ _ _ => False
section
variable {X : Cx} {k : Nat} {f : Addr} {fd : FuncData} {ps : List Str} {sp : Sp} {x : Str} {p pos : Pos} {e : Expr} {es : List Expr} {t : TA}
theorem pe_callZ (F : FnOk X.prog X.w X.K X.mg X.base CX0 k f fd ps sp) (hr : Room k X.A) (hfn : ∀ x, X.fn x = true) (hg : Gl X x) (hm : X.mg x = some (.ref f)) (hk : PySem.W.keepIn X.K (.ref f) = true) (hb : Binds X.K fd ps [])
    (ha : PA X (e :: es) t) (d1 : (x == ("__debug__" : Str)) = false := by decide) (d2 : starEach (e :: es) X.env = (false, eval e X.env) :: starEach es X.env := by rfl)
    (d3 : (backTo pos (starEach es X.env)).any (·.1) = false := by rfl) : PE X (.Call (.Name x p) (e :: es) [] pos) (tCallZ X sp t) := by
  constructor
  intro pins s σ H Q I ht
  apply wpAny_Call_Name_kw
  apply ld_glob I hg hm _ d1
  apply PySem.W.callWith_K (h₀ := X.base) I.ok.mod.kin hk _ d2 d3
  apply thn (ha.run pos pins s σ H _ I ht)
  rintro us s1 ⟨vs, H1, I1, r, q⟩
  refine ⟨I1.kIn, ?_⟩
  obtain ⟨Hz, Z, ZT, out⟩ := frozen_of I1 hfn
  have h := q Hz Z
  have e0 := I1.env0
  have nb : ∀ b o, X.base.get? b = some o → b ∉ addrs X.env.cells := fun b o eb z => Nat.lt_irrefl _ (Nat.lt_of_lt_of_le (Heap.lt_size (I1.ok.bs b o eb).1) (out b z).1)
  have ez : Env0 X.prog X.w X.K X.mg X.base X.A X.stack s1 Hz := ⟨e0.frames, e0.mod, fun b o eb => ⟨(e0.bs b o eb).1, by rw [ZT.out b (nb b o eb)]; exact (e0.bs b o eb).2⟩, e0.bsz, e0.funs, fun b hb => by
    rw [ZT.out b (fun z => (out b z).2 hb)]
    exact e0.frf b hb, ZT.hok e0.hok, e0.bare⟩
  have hl : us.length = ps.length := r.length.symm.trans (F.len vs _ _ _ h)
  have bd := hb s1 us I1.kIn (by rw [List.append_nil]; exact hl)
  rw [List.append_nil] at bd
  refine wpAny_call (codeAny_mono (F.run X.A X.stack s1 Hz ⟨us, []⟩ us vs _ _ hr ez bd r h) fun r s' hq => ?_)
  cases r with
  | error e => exact hq.elim
  | ok fl =>
    cases fl with
    | next => exact False.elim hq
    | brk => exact False.elim hq
    | cont => exact False.elim hq
    | ret u =>
      obtain ⟨v, H', os, bare, un, hok, rv, q⟩ := hq
      have atC : ∀ b ∈ addrs X.env.cells, ∃ o, s1.heap.get? b = some o ∧ H' b = some (.frz o (.own b)) ∧ s'.heap.get? b = some o := fun b hb => by
        obtain ⟨_, o, h1, h2⟩ := ZT.at_ b hb
        have h3 := un.frzs b o _ h2
        obtain ⟨h4, _⟩ := hok b _ h3
        exact ⟨o, h1, h3, h4⟩
      have nz : ∀ b, b ∉ addrs X.env.cells → H1 b = none → Hz b = none := fun b hb n => by rw [ZT.out b hb]; exact n
      have ins : ∀ b u, H1 b = some u → b ∉ addrs X.env.cells := fun b u e z => by rw [(ZT.at_ b z).1] at e; cases e
      refine I1.after (Q := Q) ⟨v, fun b => if b ∈ addrs X.env.cells then none else H' b, os, bare, ⟨fun b o e n hb hx => ?_, fun b o e n hb hx => ?_, fun b o e n hx => ?_, un.there, fun b xs e => ?_, fun b o z e => ?_, fun b ps e => ?_⟩, fun a o e => ?_, rv, q _ ⟨fun b o h1 h2 => ?_, fun b o h n => ?_⟩⟩
      · by_cases hc : b ∈ addrs X.env.cells
        · obtain ⟨o', h1, _, h3⟩ := atC b hc
          rw [e] at h1
          rw [← Option.some.inj h1] at h3
          exact h3
        · exact un.keep b o e (nz b hc n) hb hx
      · by_cases hc : b ∈ addrs X.env.cells
        · exact ((out b hc).2 hb).elim
        · exact un.slot b o e (nz b hc n) hb hx
      · by_cases hc : b ∈ addrs X.env.cells
        · exact if_pos hc
        · exact (if_neg hc).trans (un.free b o e (nz b hc n) hx)
      · have hc := ins b _ e
        exact (if_neg hc).trans (un.tups b xs (by rw [ZT.out b hc]; exact e))
      · have hc := ins b _ e
        exact (if_neg hc).trans (un.frzs b o z (by rw [ZT.out b hc]; exact e))
      · have hc := ins b _ e
        obtain ⟨more, z⟩ := un.tbls b ps (by rw [ZT.out b hc]; exact e)
        exact ⟨more, (if_neg hc).trans z⟩
      · by_cases hc : a ∈ addrs X.env.cells
        · have e : (if a ∈ addrs X.env.cells then none else H' a) = some o := e
          rw [if_pos hc] at e
          cases e
        · have e : (if a ∈ addrs X.env.cells then none else H' a) = some o := e
          rw [if_neg hc] at e
          have o2 : ∀ b u, H' b = some u → (∀ o z, u ≠ .frz o z) → (if b ∈ addrs X.env.cells then none else H' b) = some u := fun b u e n => by
            rw [if_neg (fun z => by
              obtain ⟨o, _, h2, _⟩ := atC b z
              rw [e] at h2
              exact n _ _ (Option.some.inj h2))]
            exact e
          exact (hok a o e).stay (fun _ _ _ q => q) (fun b q => o2 b _ q fun _ _ z => by cases z) fun b xs q => o2 b _ q fun _ _ z => by cases z
      · exact (if_neg (ins b o h1)).trans h2
      · refine (if_neg fun z => ?_).trans h
        obtain ⟨u, _, h2, _⟩ := atC b z
        rw [h] at h2
        exact n u (Option.some.inj h2)
end
/-! ### a def whose cells outlive it -/
def SPF (X : Cx) (pins : List (Addr × Obj)) (R : V → L2.St → Hp → Prop) (f : Flow) (s' : Shared) : Prop := match f with
  | .ret u => ∃ v σ' H', Inv X pins σ' H' s' ∧ RelV v u ∧ R v σ' H'
  | _ => False
structure PSF (X : Cx) (b : List Stmt) (t : (V → L2.St → Hp → Prop) → L2.St → Hp → Prop) : Prop where
  run : ∀ (pins : List (Addr × Obj)) (s : Shared) (σ : L2.St) (H : Hp) (R : V → L2.St → Hp → Prop), Inv X pins σ H s → t R σ H → wpAny (model X.prog X.w) X.A (execs b X.env) (SPF X pins R) X.xe s
section
variable {X : Cx} {st : Stmt} {rest : List Stmt} {e : Expr} {te : TE} {t1 : TS} {t2 : (V → L2.St → Hp → Prop) → L2.St → Hp → Prop} {pos : Pos}
theorem psf_ret (he : PE X e te) : PSF X [.Return (some e) pos] (fun R σ H => te σ H fun v H1 => R v σ H1) := by
  constructor
  intro pins s σ H R I h
  apply wpAny_execs_cons
  apply wpAny_Return_some
  refine thn (he.run pins s σ H _ I h) ?_
  rintro u s1 ⟨x, H1, I1, rx, qx⟩
  exact ⟨x, σ, H1, I1, rx, qx⟩
theorem psf_cons (h1 : PS X st t1) (h2 : PSF X rest t2) : PSF X (st :: rest) (fun R σ H => t1 { nx := fun σ H => t2 R σ H, rt := fun _ _ => False } σ H) := by
  constructor
  intro pins s σ H R I h
  apply wpAny_execs_cons
  refine thn (h1.run pins s σ H _ I h) fun f s1 q => ?_
  cases f with
  | next =>
    obtain ⟨σ', H', I', q⟩ := q
    exact h2.run pins s1 σ' H' R I' q
  | ret v =>
    obtain ⟨_, _, _, _, _, q⟩ := q
    exact False.elim q
  | brk =>
    obtain ⟨_, _, _, q⟩ := q
    exact False.elim q
  | cont =>
    obtain ⟨_, _, _, q⟩ := q
    exact False.elim q
end
section
variable {P : Program} {w : World} {K : PySem.W.Frag} {mg : Str → Option Value} {base : Heap} {x qual : Str} {params : Arguments} {body : List Stmt} {scope : Scope} {f : Addr} {fd : FuncData}
theorem okF {N ps : List Str} {k : Nat} {sp : Sp} (F : FunD K x qual params body scope [] [] f fd) (S : FnScope N ps scope) (len : ∀ vs H Q E, sp vs H Q E → vs.length = ps.length)
    (hbody : ∀ (cdv : Value) (A : Around) (outer : List Env) (s : Shared) (H : Hp) (vs : List V) (Q : VK) (E : XK), fd.code = cdv → Room k (A.deeper (envOfC qual scope s.heap.objs.size f cdv)) → sp vs H Q E →
      ∃ t, PSF (cxOf CX0 P w K mg base N qual scope f cdv A outer s H E).nox body t ∧ t (fun v σ H1 => ∀ Hz, Frozen (cxOf CX0 P w K mg base N qual scope f cdv A outer s H E).nox σ H1 Hz → Q v Hz) (L2.start N vs) H) : FnOk P w K mg base CX0 (k + 1) f fd ps sp := by
  obtain ⟨oc, od, dV, kV, doc, pm, an, cdv, ct, osl, fdE, look, code, -⟩ := F.ex
  subst fdE
  refine ⟨len, ?_⟩
  intro A outer s H args us vs Q E hr e0 binds r hsp
  have hl := len vs H Q E hsp
  have stays : ∀ b o, base.get? b = some o → s.heap.get? b = some o := fun b o z => (e0.bs b o z).1
  have inK := e0.mod.kin.keeps stays
  have lim := e0.mod.nolimit.keeps stays
  have kinds : ∀ y ∈ ps.zip us, scope.names.lookup y.1 = some .local ∨ (scope.names.lookup y.1 = some .cell ∧ ((cellsFrom (s.heap.objs.size + 1) scope.names []).lookup y.1).isSome = true) := by
    rintro ⟨nm, u⟩ hy
    exact (S.par nm (List.of_mem_zip hy).1).imp id fun z => ⟨z, PySem.W.cellsFrom_some _ _ _ (Or.inl z)⟩
  apply codeAny_call_function hr.depth (inK f _ look) rfl S.co S.gen rfl (PySem.W.codeRec_of inK code)
  apply binds
  refine wpAny_newFunctionEnv_cells S.kind kinds fun env he s1 y => ?_
  subst he
  refine ⟨lim.keeps y.toInCall.keep, codeAny_func ?_⟩
  obtain ⟨t, ht, hq⟩ := hbody cdv A outer s H vs Q E rfl (hr.deeper _) hsp
  have I : Inv (cxOf CX0 P w K mg base N qual scope f cdv A outer s H E) [] (L2.start N vs) H s1 := inv_start S hr.hd e0 hl r y
  refine wpAny_mono (ht.run [] s1 (L2.start N vs) H _ (I.wish _) hq) (fun fl s' hs => ?_) fun e s' hs => hs.elim
  cases fl with
  | next => exact False.elim hs
  | brk => exact False.elim hs
  | cont => exact False.elim hs
  | ret u =>
    obtain ⟨v, σ', H1, J, rv, q⟩ := hs
    obtain ⟨Hz, Z, ZT, out⟩ := frozen_of J (fun _ => rfl)
    have old : ∀ b o, s.heap.get? b = some o → b ∉ addrs (cellsFrom (s.heap.objs.size + 1) scope.names []) := fun b o e z => Nat.lt_irrefl _ (Nat.lt_of_lt_of_le (Heap.lt_size e) (out b z).1)
    have ins : ∀ b u, H1 b = some u → b ∉ addrs (cellsFrom (s.heap.objs.size + 1) scope.names []) := fun b u e z => by rw [(ZT.at_ b z).1] at e; cases e
    have B : Un (frs outer) [] H H1 s.heap s'.heap := J.base
    exact ⟨v, Hz, J.os, J.bare, ⟨B.keep, B.slot, fun b o e n hx => by rw [ZT.out b (old b o e)]; exact B.free b o e n hx, B.there, fun b xs e => ZT.same _ _ (B.tups b xs e), fun b o z e => ZT.same _ _ (B.frzs b o z e), fun b ps e => (let ⟨m, z⟩ := B.tbls b ps e; ⟨m, ZT.same _ _ z⟩)⟩, ZT.hok J.hok, rv, q Hz Z⟩
end
end CKL

/-! Rooms and rows that are none: refused, by the checks and by what is handed such. -/
namespace CK
open PySem PySem.Spec PyProof.Rows L2 CKX
theorem pmk_plain {X : Cx} {x m : Str} {C : Addr} {j : Nat} {p p2 pos : Pos} (e : PlainErr X.K C) (hs : PySem.W.subIn X.K (.ref C) (.type "BaseException") = some true) (gC : X.mg x = some (.ref C)) (hg : Gl X x) (hdb : (x == ("__debug__" : Str)) = false := by decide) :
    L2N.PMk X (.Call (.Name x p) [.Constant (.str m) j p2] [] pos) (fun _ H Q => Q (.ref C) none H) := L2N.pmk_own F.excBase_ValueError e.q gC e.k (raises_own hs e.t) hg hdb
def spCheckRoomsX (C : Addr) : Sp := fun vs H Q E => ∃ n : Int, vs = [.int n] ∧ (1 ≤ n → n ≤ 8 → Q .non H) ∧ (¬ (1 ≤ n ∧ n ≤ 8) → E (.ref C) none H)
/-- the place at which a row first goes wrong, if it does -/
def badAt : List Int → Nat → Option Nat
  | [], _ => none
  | p :: r, i => if i = 100 ∨ ¬ (0 ≤ p ∧ p < 12) then some i else badAt r (i + 1)
theorem badAt_cons (p : Int) (r : List Int) (i : Nat) : badAt (p :: r) i = if i = 100 ∨ ¬ (0 ≤ p ∧ p < 12) then some i else badAt r (i + 1) := rfl
def spCheckRowX (K : PySem.W.Frag) (C : Addr) : Sp := fun vs H Q E => ∃ (r : Addr) (row : List Int), vs = [.ref r] ∧ SqL K H r (il row) ∧ (badAt row 0 = none → ∀ H', Same H H' → Q .non H') ∧
  (∀ i, badAt row 0 = some i → ∀ (H' : Hp) (d : Addr), Same H H' → H' d = some (xdP i) → H d = none → E (.ref C) (some d) H')
section
variable {P : Program} {w : World} {K : PySem.W.Frag} {mg : Str → Option Value} {base : Heap}
theorem ok_check_roomsX (T : Prog K mg) (Z : Errs P K mg) : FnOk P w K mg base (L2N.CX P w) 1 T.check_rooms.f T.check_rooms.fd ["rooms"] (spCheckRoomsX Z.rooms) := by
  refine T.check_rooms.fn.ok sc_check_rooms (fun vs H Q E h => ?len) (fun cdv A outer s H vs Q E hr h => ?body)
  case len =>
    obtain ⟨n, rfl, _⟩ := h
    rfl
  case body =>
    have hu := hu_of hr
    obtain ⟨n, rfl, k, ke⟩ := h
    refine ⟨_, (pss_one (ps_if (pt_not (pt_chain op_le op_le pe_int (pv 0) (pe_glob (v := L2.V.int 8) rfl T.g_MOST_ROOMS ⟨_, rfl⟩)))
        (pss_one (L2N.ps_raise rfl (L2N.takes_of rfl rfl rfl rfl) (pmk_plain Z.pRooms Z.iRooms.ec.hs Z.gRooms (by rfl))))
        pss_nil)), ?_⟩
    refine ⟨_, rfl, _, _, rfl, rfl, _, rfl, ?_⟩
    by_cases h1 : 1 ≤ n
    · refine ifT (decide_eq_true h1) ⟨_, _, rfl, rfl, _, rfl, ?_⟩
      by_cases h2 : n ≤ 8
      · exact ifF (by rw [decide_eq_true h2]; rfl) (k h1 h2)
      · exact ifT (by rw [decide_eq_false h2]; rfl) (ke fun z => h2 z.2)
    · refine ifF (decide_eq_false h1) ⟨_, rfl, ?_⟩
      exact ifT (by rfl) (ke fun z => h1 z.1)
theorem ok_check_rowX (T : Prog K mg) (Z : Errs P K mg) : FnOk P w K mg base (L2N.CX P w) 2 T.check_row.f T.check_row.fd ["row"] (spCheckRowX K Z.row) := by
  have G_is_page := ok_is_page (P := P) (w := w) (base := base) T
  refine T.check_row.fn.ok sc_check_row (fun vs H Q E h => ?len) (fun cdv A outer s H vs Q E hr h => ?body)
  case len =>
    obtain ⟨r, row, rfl, _⟩ := h
    rfl
  case body =>
    have hr_is_page : Room 1 _ := hr.mono (by decide)
    have hu := hu_of hr
    obtain ⟨r, row, rfl, hS, k, ke⟩ := h
    refine ⟨_, (pss_one (ps_for (by exact PassesOwn.leaving) rfl (pi_enum (by rfl) T.enumerate (pa_cons (pv 0) pa_nil)) (pg_tup rfl (pgs_cons (pg_name (i := 1) sc_check_row.nd rfl (Or.inl rfl)) (pgs_cons (pg_name (i := 2) sc_check_row.nd rfl (Or.inl rfl)) pgs_nil)))
        (pss_one (ps_if (PW.pt (pw_or (pt_cmpR op_eq (pv 1) (pe_glob (v := L2.V.int 100) rfl T.g_MOST_ASKS ⟨_, rfl⟩) (nomark _)) (pw_or1 (pt_not (pt_val (pe_call G_is_page hr_is_page (by rfl) T.is_page.g T.is_page.fn.kp T.is_page.bd .nil pass0 (pa_cons (pv 2) pa_nil)))))))
        (pss_one (L2N.ps_raise rfl (L2N.takes_of rfl rfl rfl rfl) (pmk_br Z.br (dep1 hr) (pa_cons (pv 1) pa_nil))))
        pss_nil)))), ?_⟩
    refine ⟨_, rfl, r, _, rfl, hS, for_it (walk_enum (K := K) (a := r) (xs := il row)) (fun i σ H' => (∃ v1 v2, σ = [some (.ref r), v1, v2]) ∧ Same H H' ∧ badAt row 0 = badAt (row.drop i) i ∧ i ≤ 100) ⟨⟨_, _, rfl⟩, Same.refl H, rfl, by omega⟩ (fun i σ H' _ h => h.2.1.seq hS) ?_ ?_⟩
    · rintro i x σ H1 H2 hi ⟨⟨v1, v2, rfl⟩, s1, eb, i100⟩ ⟨t, a, b, rfl, ht, rfl, ha, hb⟩
      have ea : V.int (i : Nat) = a := Option.some.inj ha
      subst ea
      obtain ⟨p, hp, rfl⟩ := il_get hb
      rw [il_len] at hi
      have e1 : row.drop i = p :: row.drop (i + 1) := by
        rw [List.drop_eq_getElem_cons hi]
        have e2 := (List.getElem?_eq_some_iff.mp hp).2
        rw [e2]
      rw [e1] at eb
      have s2 := s1.trans (Same.new (o := .tup [.int (i : Nat), .int p]) ht)
      have out : (i = 100 ∨ ¬ (0 ≤ p ∧ p < 12)) → ∀ d, upd H1 t (.tup [.int (i : Nat), .int p]) d = none → E (.ref Z.row) (some d) (upd (upd H1 t (.tup [.int (i : Nat), .int p])) d (xdP i)) := fun hbad d hd =>
        ke i (by rw [eb, badAt_cons, if_pos hbad]) _ d (s2.trans (Same.new hd)) upd_same (Same.back s2 hd)
      have small : ((i : Nat) : Int).natAbs < 10 ^ 10 := by
        rw [Int.natAbs_natCast]
        exact Nat.lt_of_le_of_lt i100 (by decide)
      refine ⟨t, _, rfl, SqT.of upd_same, rfl, _, _, rfl, _, _, rfl, rfl, ?_⟩
      refine ⟨_, rfl, rfl, _, rfl, ?_⟩
      by_cases h100 : i = 100
      · exact ifT (decide_eq_true (by rw [h100]; rfl)) ⟨_, rfl, _, rfl, small, out (.inl h100)⟩
      · refine ifF (decide_eq_false (by intro z; injection z with z; omega)) ⟨_, rfl, p, rfl, _, rfl, ?_⟩
        by_cases hpg : 0 ≤ p ∧ p < 12
        · refine ifF (by rw [decide_eq_true hpg]; rfl) ⟨⟨_, _, rfl⟩, s2, ?_, by omega⟩
          rw [eb, badAt_cons, if_neg (fun z => z.elim h100 fun y => y hpg)]
        · exact ifT (by rw [decide_eq_false hpg]; rfl) ⟨_, rfl, _, rfl, small, out (.inr hpg)⟩
    · rintro σ H' ⟨⟨v1, v2, rfl⟩, s1, eb, _⟩
      refine k ?_ H' s1
      rw [eb, List.drop_of_length_le (by simp)]
      rfl
theorem badAt_none : ∀ {row : List Int} {i : Nat}, badAt row i = none → i ≤ 100 → row.length + i ≤ 100 ∧ ∀ p ∈ row, 0 ≤ p ∧ p < 12
  | [], i, _, hi => ⟨by simpa using hi, fun p h => by cases h⟩
  | p :: r, i, h, hi => by
    rw [badAt_cons] at h
    by_cases c : i = 100 ∨ ¬ (0 ≤ p ∧ p < 12)
    · rw [if_pos c] at h
      cases h
    · rw [if_neg c] at h
      have c1 : i ≠ 100 := fun z => c (.inl z)
      have c2 : 0 ≤ p ∧ p < 12 := Decidable.byContradiction fun z => c (.inr z)
      obtain ⟨h1, h2⟩ := badAt_none h (by omega)
      refine ⟨by rw [List.length_cons]; omega, fun q hq => ?_⟩
      rcases List.mem_cons.mp hq with rfl | hq
      · exact c2
      · exact h2 q hq
theorem rowOk_of {row : List Int} (h : badAt row 0 = none) : RowOk row := by
  obtain ⟨h1, h2⟩ := badAt_none h (by omega)
  exact ⟨by omega, h2⟩
/-- told: BadRooms, then BadRow, else all that a new dial tells -/
def spToldX (K : PySem.W.Frag) (c0 c1 : Addr) : Sp := fun vs H Q E => ∃ (n : Int) (r : Addr) (row : List Int), vs = [.int n, .ref r] ∧ SqL K H r (il row) ∧ (¬ (1 ≤ n ∧ n ≤ 8) → E (.ref c0) none H) ∧
  (1 ≤ n → n ≤ 8 → ∀ i, badAt row 0 = some i → ∀ (H' : Hp) (d : Addr), Same H H' → H' d = some (xdP i) → H d = none → E (.ref c1) (some d) H') ∧
  (1 ≤ n → n ≤ 8 → RowOk row → ∀ (d : Addr) (as : List Addr) (H' : Hp), H d = none → Same H H' → H' d = some (.lst (as.map V.ref)) → TellsAt [d] H H' as (tellsL (DS.new n.toNat) row) → Q (.ref d) H')
theorem ok_toldX (T : Prog K mg) (Z : Errs P K mg) : FnOk P w K mg base (L2N.CX P w) 4 T.told.f T.told.fd ["rooms", "row"] (spToldX K Z.rooms Z.row) := by
  have G_check_rooms := ok_check_roomsX (P := P) (w := w) (base := base) T Z
  have G_check_row := ok_check_rowX (P := P) (w := w) (base := base) T Z
  have G_Dial := ok_Dial_init (P := P) (w := w) (base := base) T
  have G_ask := ok_Dial_ask (P := P) (w := w) (base := base) T
  refine T.told.fn.ok sc_told (fun vs H Q E h => ?len) (fun cdv A outer s H vs Q E hr h => ?body)
  case len =>
    obtain ⟨n, r, row, rfl, _⟩ := h
    rfl
  case body =>
    have hr_check_rooms : Room 1 _ := hr.mono (by decide)
    have hr_check_row : Room 2 _ := hr.mono (by decide)
    have hr_ask : Room 3 _ := hr.mono (by decide)
    have hu := hu_of hr
    obtain ⟨n, r, row, rfl, hS, kr, kb, k⟩ := h
    refine ⟨_, (pss_cons (ps_expr (pe_call G_check_rooms hr_check_rooms (by rfl) T.check_rooms.g T.check_rooms.fn.kp T.check_rooms.bd .nil (L2N.passes_call (W := fun cls d _ H => E cls d H) (E := E) (L2N.takes_of rfl rfl rfl rfl) (fun _ _ _ _ h => h)) (pa_cons (pv 0) pa_nil)))
        (pss_cons (ps_expr (pe_call G_check_row hr_check_row (by rfl) T.check_row.g T.check_row.fn.kp T.check_row.bd .nil (L2N.passes_call (W := fun cls d _ H => E cls d H) (E := E) (L2N.takes_of rfl rfl rfl rfl) (fun _ _ _ _ h => h)) (pa_cons (pv 1) pa_nil)))
        (pss_cons (ps_set (i := 2) sc_told.nd rfl (Or.inr rfl) (pe_make T.Dial.mkr G_Dial (hr.mono (by decide)) (by rfl) T.Dial.g T.Dial.bI .nil pass0 (pa_cons (pv 0) pa_nil)))
        (pss_one (ps_ret (pe_lc (own := [("page", 3)]) (g := gName 3) rfl sc_told.nd ((pi_list (pv 1))) (blkOk_by (own := [("page", 3)]) (N := ["rooms", "row", "dial", "page"]) (sc := defScope (top 17)) (by decide +kernel)) (fun _ _ _ _ _ => (by exact (pg_name (i := 3) sc_told.nd rfl (Or.inl rfl)))) (fun _ _ _ _ _ => (by exact pts_nil)) (fun _ _ _ _ _ => (by exact (pe_meth (pv 2) T.Dial.cl T.Dial.ask.me G_ask hr_ask T.Dial.ask.bd .nil pass0 (pa_cons (pv 3) pa_nil)))))))))), ?_⟩
    refine ⟨_, rfl, n, rfl, fun n1 n8 => ?_, kr⟩
    refine ⟨_, rfl, r, row, rfl, hS, fun hgood H1 s1 => ?_, fun i hi H' d s hd dn => kb n1 n8 i hi H' d s hd dn⟩
    have hR := rowOk_of hgood
    have k := k n1 n8 hR
    -- dial = Dial(rooms)
    refine ⟨_, rfl, fun p dx np ndx nex => ?_⟩
    refine ⟨p, dx, n, rfl, upd_same, n1, n8, fun a b H2 ha hb D2 k2 => ⟨rfl, ?_⟩⟩
    have s0 : Same H1 (upd (upd H1 dx (.own p)) p (.ins T.Dial.C dx [])) := fun c o e => by
      rw [upd_ne (ne_fresh e np), upd_ne (ne_fresh e ndx)]
      exact e
    have s2 : Same H1 H2 := fun c o e => k2 c o (s0 c o e) (by simpa using ne_fresh e np)
    have s02 : Same H H2 := s1.trans s2
    have pH : H p = none := Same.back s1 np
    have aH : H a = none := Same.back (s1.trans s0) ha
    have bH : H b = none := Same.back (s1.trans s0) hb
    have W0 : (DS.new n.toNat).WF n.toNat := DS.new_wf (by omega)
    -- [dial.ask(page) for page in row]
    refine ⟨_, rfl, r, rfl, ⟨_, s02.seq hS⟩, fun d hd => ?_⟩
    have dH : H d = none := Same.back s02 hd
    have dp : d ≠ p := by obtain ⟨_, q⟩ := D2.ob; exact Ne.symm (ne_fresh q hd)
    have da : d ≠ a := Ne.symm (ne_fresh D2.he hd)
    have db : d ≠ b := Ne.symm (ne_fresh D2.ma hd)
    have dS : d ∉ [p, a, b] := by simp [dp, da, db]
    refine lc_list (K := K) (a := r) (xs := il row) (fun i H' => ∃ as : List Addr, H' d = some (.lst (as.map V.ref)) ∧ DialIs T.Dial.C H' p a b (afterL (DS.new n.toNat) (row.take i)) ∧ Same H H' ∧ TellsAt [d, p, a, b] H H' as (tellsL (DS.new n.toNat) (row.take i)) ∧ as.length = i) ?_ ?_ ?_ ?_
    · exact ⟨[], upd_same, D2.same (Same.new hd), s02.trans (Same.new hd), ⟨rfl, fun i a x h => by simp at h⟩, rfl⟩
    · rintro i H' _ ⟨as, _, _, q, _⟩
      exact q.seq hS
    · rintro i x H3 hx ⟨as, hd3, D3, s3, t3, hl3⟩
      obtain ⟨pg, hpg, rfl⟩ := il_get hx
      have hpl := hR.2 pg (List.mem_of_getElem? hpg)
      have hi : i < row.length := (List.getElem?_eq_some_iff.mp hpg).1
      have hR1 := hR.1
      obtain ⟨dx3, hp3⟩ := D3.ob
      refine ⟨rfl, _, rfl, p, dx3, _, rfl, hp3, rfl, _, rfl, p, a, b, _, n.toNat, pg, rfl, D3, afterL_wf W0 _, by omega, hpl.1, hpl.2, fun t l H4 ht hl tl ht4 hl4 D4 k4 => ?_⟩
      have hd4 : H4 d = some (.lst (as.map V.ref)) := k4 _ _ hd3 dS
      have s4 : Same H H4 := fun c o e => k4 _ _ (s3 _ _ e) (by
        have z1 := ne_fresh e pH
        have z2 := ne_fresh e aH
        have z3 := ne_fresh e bH
        simp [z1, z2, z3])
      have td : t ≠ d := Ne.symm (ne_fresh hd3 ht)
      have ld : l ≠ d := Ne.symm (ne_fresh hd3 hl)
      refine ⟨_, hd4, szl (by simp; omega), as ++ [t], ?_, ?_, ?_, ?_, by simp [hl3]⟩
      · rw [upd_same, List.map_append]
        rfl
      · rw [take_snoc hpg, afterL_snoc]
        exact D4.but (S := [d]) (But.put (by simp)) (by simp [Ne.symm dp]) (by simp [Ne.symm da]) (by simp [Ne.symm db])
      · exact Same.put s4 dH
      · rw [take_snoc hpg, tellsL_snoc]
        have tS : t ∉ [d, p, a, b] := by
          have q1 : t ≠ p := by obtain ⟨_, q⟩ := D3.ob; exact Ne.symm (ne_fresh q ht)
          have q2 : t ≠ a := Ne.symm (ne_fresh D3.he ht)
          have q3 : t ≠ b := Ne.symm (ne_fresh D3.ma ht)
          simp [td, q1, q2, q3]
        have lS : l ∉ [d, p, a, b] := by
          have q1 : l ≠ p := by obtain ⟨_, q⟩ := D3.ob; exact Ne.symm (ne_fresh q hl)
          have q2 : l ≠ a := Ne.symm (ne_fresh D3.he hl)
          have q3 : l ≠ b := Ne.symm (ne_fresh D3.ma hl)
          simp [ld, q1, q2, q3]
        exact ((t3.but k4 (by simp)).snoc (Same.back s3 ht) tS (Same.back s3 hl) lS tl ht4 hl4).but (S' := [d]) (But.put (by simp)) (by simp)
    · rintro H' ⟨as, z1, z2, z3, z4, z5⟩
      rw [List.take_of_length_le (by simp)] at z4
      exact k d as H' dH z3 z1 ⟨z4.len, fun i c x hc hx => by
        obtain ⟨y1, y2, l, y3, y4, y5⟩ := z4.at_ i c x hc hx
        simp at y2 y4
        exact ⟨y1, by simp [y2.1], l, y3, by simp [y4.1], y5⟩⟩
end
end CK

/-! Spells as plain data. -/
namespace CK
open PySem PySem.Spec PyProof.Rows L2
/-- where p was asked for last, ahead of i -/
def lastB (row : List Int) (p : Int) : Nat → Option Nat
  | 0 => none
  | i + 1 => if row[i]? = some p then some i else lastB row p i
theorem lastB_lt {row : List Int} {p : Int} : ∀ {i b : Nat}, lastB row p i = some b → b < i ∧ row[b]? = some p
  | 0, b, h => by cases h
  | i + 1, b, h => by
    unfold lastB at h
    by_cases q : row[i]? = some p
    · rw [if_pos q] at h
      have e := Option.some.inj h
      subst e
      exact ⟨Nat.lt_succ_self _, q⟩
    · rw [if_neg q] at h
      have ⟨z1, z2⟩ := lastB_lt h
      exact ⟨Nat.lt_succ_of_lt z1, z2⟩
def spOf : Option Nat → Nat → List (Nat × Nat)
  | some b, i => [(b, i)]
  | none, _ => []
/-- the spell that ends at i -/
def spellAt (row : List Int) (i : Nat) : List (Nat × Nat) :=
  match row[i]? with
  | some p => spOf (lastB row p i) i
  | none => []
theorem spellAt_eq {row : List Int} {i : Nat} {p : Int} (hp : row[i]? = some p) : spellAt row i = spOf (lastB row p i) i := by
  unfold spellAt
  rw [hp]
def spellsTo (row : List Int) : Nat → List (Nat × Nat)
  | 0 => []
  | i + 1 => spellsTo row i ++ spellAt row i
def spellsL (row : List Int) : List (Nat × Nat) := spellsTo row row.length
theorem spellAt_one (row : List Int) (i : Nat) : (spellAt row i).length ≤ 1 := by
  cases hp : row[i]? with
  | none => unfold spellAt; rw [hp]; exact Nat.zero_le _
  | some p =>
    rw [spellAt_eq hp]
    cases lastB row p i with
    | none => exact Nat.zero_le _
    | some b => exact Nat.le_refl _
theorem spellsTo_le (row : List Int) : ∀ i, (spellsTo row i).length ≤ i
  | 0 => Nat.le_refl _
  | i + 1 => by
    have h1 := spellsTo_le row i
    have h2 := spellAt_one row i
    show (spellsTo row i ++ spellAt row i).length ≤ i + 1
    rw [List.length_append]
    omega
theorem spellsL_le (row : List Int) : (spellsL row).length ≤ row.length := spellsTo_le row _
theorem spellAt_lt {row : List Int} {i : Nat} {x : Nat × Nat} (h : x ∈ spellAt row i) : x.1 < x.2 ∧ x.2 = i := by
  cases hp : row[i]? with
  | none => unfold spellAt at h; rw [hp] at h; simp at h
  | some p =>
    rw [spellAt_eq hp] at h
    cases hb : lastB row p i with
    | none => rw [hb] at h; simp [spOf] at h
    | some b =>
      rw [hb] at h
      have e : x = (b, i) := by simpa [spOf] using h
      rw [e]
      exact ⟨(lastB_lt hb).1, rfl⟩
/-! ### lists of pairs -/
/-- the tuples at as are the pairs xs -/
structure PairsAt (H : Hp) (as : List Addr) (xs : List (Nat × Nat)) : Prop where
  len : as.length = xs.length
  at_ : ∀ (i : Nat) (a : Addr) (x : Nat × Nat), as[i]? = some a → xs[i]? = some x → H a = some (.tup [.int (x.1 : Nat), .int (x.2 : Nat)])
theorem PairsAt.nil {H : Hp} : PairsAt H [] [] := ⟨rfl, fun i a x h => by simp at h⟩
theorem PairsAt.mem {H : Hp} {as : List Addr} {xs : List (Nat × Nat)} (h : PairsAt H as xs) {a : Addr} (ha : a ∈ as) : ∃ u, H a = some (.tup u) := by
  obtain ⟨i, hi, e⟩ := List.mem_iff_getElem.mp ha
  have hx : i < xs.length := by rw [← h.len]; exact hi
  exact ⟨_, h.at_ i a _ (by rw [List.getElem?_eq_getElem hi, e]) (List.getElem?_eq_getElem hx)⟩
theorem PairsAt.same {H H' : Hp} {as : List Addr} {xs : List (Nat × Nat)} (h : PairsAt H as xs) (k : Same H H') : PairsAt H' as xs :=
  ⟨h.len, fun i a x ha hx => k _ _ (h.at_ i a x ha hx)⟩
/-- a list that is written is none of the tuples -/
theorem PairsAt.put {H : Hp} {as : List Addr} {xs : List (Nat × Nat)} (h : PairsAt H as xs) {d : Addr} {o o' : HO} (e : H d = some o) (ne : ∀ u, o ≠ .tup u) : PairsAt (upd H d o') as xs :=
  ⟨h.len, fun i a x ha hx => by
    have q := h.at_ i a x ha hx
    rw [upd_ne (ne_of q e fun z => ne _ z.symm)]
    exact q⟩
theorem PairsAt.but {S : List Addr} {H H' : Hp} {as : List Addr} {xs : List (Nat × Nat)} (h : PairsAt H as xs) (k : But S H H') (n : ∀ d ∈ S, ∀ u, H d ≠ some (.tup u)) : PairsAt H' as xs :=
  ⟨h.len, fun i a x ha hx => by
    have q := h.at_ i a x ha hx
    exact k _ _ q fun z => n _ z _ q⟩
theorem PairsAt.snoc {H : Hp} {as : List Addr} {xs : List (Nat × Nat)} (h : PairsAt H as xs) {t : Addr} {x : Nat × Nat} (e : H t = some (.tup [.int (x.1 : Nat), .int (x.2 : Nat)])) : PairsAt H (as ++ [t]) (xs ++ [x]) := by
  refine ⟨by simp [h.len], fun j c y hc hy => ?_⟩
  by_cases hj : j < as.length
  · rw [List.getElem?_append_left hj] at hc
    rw [List.getElem?_append_left (by rw [← h.len]; exact hj)] at hy
    exact h.at_ j c y hc hy
  · have ej : j = as.length := by
      have := (List.getElem?_eq_some_iff.mp hc).1
      simp at this
      omega
    subst ej
    rw [List.getElem?_append_right (Nat.le_refl _), Nat.sub_self] at hc
    rw [List.getElem?_append_right (by rw [h.len]; exact Nat.le_refl _), h.len, Nat.sub_self] at hy
    have ec : t = c := Option.some.inj hc
    have ex : x = y := Option.some.inj hy
    rw [← ec, ← ex]
    exact e
theorem PairsAt.tail {H : Hp} {a : Addr} {x : Nat × Nat} {as : List Addr} {xs : List (Nat × Nat)} (h : PairsAt H (a :: as) (x :: xs)) : H a = some (.tup [.int (x.1 : Nat), .int (x.2 : Nat)]) ∧ PairsAt H as xs :=
  ⟨h.at_ 0 a x rfl rfl, Nat.succ.inj h.len, fun i c y hc hy => h.at_ (i + 1) c y hc hy⟩
theorem PairsAt.app {H : Hp} : ∀ {as bs : List Addr} {xs ys : List (Nat × Nat)}, PairsAt H as xs → PairsAt H bs ys → PairsAt H (as ++ bs) (xs ++ ys) := by
  intro as bs
  induction bs generalizing as with
  | nil =>
    intro xs ys h1 h2
    cases ys with
    | nil => rw [List.append_nil, List.append_nil]; exact h1
    | cons y ys => exact absurd h2.len (by simp)
  | cons b bs ih =>
    intro xs ys h1 h2
    cases ys with
    | nil => exact absurd h2.len (by simp)
    | cons y ys =>
      have q := ih (h1.snoc h2.tail.1) h2.tail.2
      rw [List.append_assoc, List.append_assoc] at q
      exact q
/-! ### pairs as data -/
def pdp (x : Nat × Nat) : PyData := .tuple [.int (x.1 : Nat), .int (x.2 : Nat)]
def pds (xs : List (Nat × Nat)) : PyData := .list (xs.map pdp)
theorem dp_pairsAll {K : PySem.W.Frag} {H : Hp} : ∀ {as : List Addr} {xs : List (Nat × Nat)}, PairsAt H as xs → DpAll K H (as.map V.ref) (xs.map pdp)
  | [], [], _ => .nil
  | [], _ :: _, h => absurd h.len (by simp)
  | _ :: _, [], h => absurd h.len (by simp)
  | a :: as, x :: xs, h => .cons (.tup (SqT.of h.tail.1) (.cons (.int _) (.cons (.int _) .nil))) (dp_pairsAll h.tail.2)
theorem dp_pairs {K : PySem.W.Frag} {H : Hp} {d : Addr} {as : List Addr} {xs : List (Nat × Nat)} (e : SqL K H d (as.map V.ref)) (h : PairsAt H as xs) : Dp K H (.ref d) (pds xs) := .lst e (dp_pairsAll h)
theorem depAll_pairs : ∀ xs : List (Nat × Nat), PyData.depthAll (xs.map pdp) ≤ 1
  | [] => Nat.zero_le _
  | x :: xs => Nat.max_le.mpr ⟨Nat.le_refl _, depAll_pairs xs⟩
theorem depth_pds (xs : List (Nat × Nat)) : (pds xs).depth ≤ 2 := Nat.succ_le_succ (depAll_pairs xs)
theorem small_pairsAll : ∀ xs : List (Nat × Nat), smallAll (xs.map pdp)
  | [] => trivial
  | _ :: xs => ⟨⟨by show 2 ≤ 1000; decide, trivial, trivial, trivial⟩, small_pairsAll xs⟩
theorem small_pds {xs : List (Nat × Nat)} (h : xs.length ≤ 1000) : smallD (pds xs) := ⟨by rw [List.length_map]; exact h, small_pairsAll xs⟩
end CK

/-! The best, as plain data. -/
namespace CK
open PySem PySem.Spec PyProof.Rows L2
theorem lastB_max {row : List Int} {p : Int} : ∀ {e b : Nat}, lastB row p e = some b → ∀ j, b < j → j < e → row[j]? ≠ some p
  | 0, b, h, _, _, _ => by cases h
  | e + 1, b, h, j, hj, hl => by
    unfold lastB at h
    by_cases q : row[e]? = some p
    · rw [if_pos q] at h
      have e1 := Option.some.inj h
      omega
    · rw [if_neg q] at h
      by_cases z : j = e
      · rw [z]; exact q
      · exact lastB_max h j hj (by omega)
theorem lastB_some {row : List Int} {p : Int} {i : Nat} (hi : row[i]? = some p) : ∀ {e : Nat}, i < e → ∃ b, lastB row p e = some b ∧ i ≤ b
  | 0, h => absurd h (Nat.not_lt_zero _)
  | e + 1, h => by
    unfold lastB
    by_cases q : row[e]? = some p
    · rw [if_pos q]
      exact ⟨e, rfl, by omega⟩
    · rw [if_neg q]
      have z : i ≠ e := fun z => q (by rw [← z]; exact hi)
      exact lastB_some hi (by omega)
/-- the place of the next ask for y, from i on; the number of asks where there is none -/
def nxt (row : List Int) (y : Int) (i : Nat) : Nat := i + (row.drop i).idxOf y
theorem drop_at {row : List Int} {i : Nat} {p : Int} (h : row[i]? = some p) : row.drop i = p :: row.drop (i + 1) := by
  have hi := (List.getElem?_eq_some_iff.mp h).1
  rw [List.drop_eq_getElem_cons hi, (List.getElem?_eq_some_iff.mp h).2]
theorem nxt_ge (row : List Int) (y : Int) (i : Nat) : i ≤ nxt row y i := Nat.le_add_right _ _
theorem nxt_le {row : List Int} {y : Int} {i : Nat} (h : i ≤ row.length) : nxt row y i ≤ row.length := by
  have := List.idxOf_le_length (a := y) (l := row.drop i)
  rw [List.length_drop] at this
  unfold nxt
  omega
theorem nxt_hit {row : List Int} {i : Nat} {p : Int} (h : row[i]? = some p) : nxt row p i = i := by
  unfold nxt
  rw [drop_at h, List.idxOf_cons_self]
  rfl
theorem nxt_on {row : List Int} {i : Nat} {p y : Int} (h : row[i]? = some p) (ne : y ≠ p) : nxt row y i = nxt row y (i + 1) := by
  unfold nxt
  rw [drop_at h, List.idxOf_cons]
  have e : (p == y) = false := by simpa using fun z => ne z.symm
  rw [e]
  show i + ((row.drop (i + 1)).idxOf y + 1) = _
  omega
theorem nxt_at {row : List Int} {y : Int} {i : Nat} (h : nxt row y i < row.length) : row[nxt row y i]? = some y := by
  unfold nxt at h ⊢
  have hl : (row.drop i).idxOf y < (row.drop i).length := by
    rw [List.length_drop]
    omega
  have q := List.getElem_idxOf hl
  rw [← List.getElem?_drop, List.getElem?_eq_getElem hl, q]
theorem idx_before {xs : List Int} {y : Int} {k : Nat} (h : k < xs.idxOf y) : xs[k]? ≠ some y := by
  induction xs generalizing k with
  | nil => simp
  | cons a r ih =>
    by_cases e : a = y
    · rw [e, List.idxOf_cons_self] at h
      exact absurd h (Nat.not_lt_zero _)
    · rw [List.idxOf_cons] at h
      have e1 : (a == y) = false := by simpa using e
      rw [e1] at h
      cases k with
      | zero =>
        intro z
        exact e (Option.some.inj z)
      | succ k => exact ih (k := k) (Nat.lt_of_succ_lt_succ h)
theorem nxt_before {row : List Int} {y : Int} {i j : Nat} (h1 : i ≤ j) (h2 : j < nxt row y i) : row[j]? ≠ some y := by
  unfold nxt at h2
  have q := idx_before (xs := row.drop i) (y := y) (k := j - i) (by omega)
  rw [List.getElem?_drop] at q
  have e : i + (j - i) = j := by omega
  rw [e] at q
  exact q
/-! ### the dict of the next asks -/
def kvS (xs : List (Nat × Nat)) : List (Key × V) := xs.map fun x => (Sum.inl (x.1 : Int), V.int (x.2 : Nat))
theorem merge_snoc (a more : List (Key × V)) (x : Key × V) : mergeK a (more ++ [x]) = putK (mergeK a more) x.1 x.2 := by
  unfold mergeK
  rw [List.foldl_append]
  rfl
theorem next_asks {row : List Int} {i : Nat} {p : Int} (hi : row[i]? = some p) : ∀ e, e ≤ row.length → valV (mergeK [] (kvS (spellsTo row e))) (Sum.inl (i : Int)) = if nxt row p (i + 1) < e then some (V.int (nxt row p (i + 1) : Nat)) else none
  | 0, _ => by rw [if_neg (Nat.not_lt_zero _)]; rfl
  | e + 1, he => by
    have ih := next_asks hi e (by omega)
    have he' : e < row.length := by omega
    have eq : row[e]? = some (row[e]'he') := List.getElem?_eq_getElem he'
    have e0 : spellsTo row (e + 1) = spellsTo row e ++ spellAt row e := rfl
    rw [e0, spellAt_eq eq]
    generalize row[e]'he' = q at *
    have ge := nxt_ge row p (i + 1)
    -- where the page's next ask is e, the spell that ends there begins at i
    have back : nxt row p (i + 1) = e → lastB row q e = some i := by
      intro h
      have hp : row[e]? = some p := by
        rw [← h]
        exact nxt_at (by omega)
      have eqp : q = p := Option.some.inj (eq.symm.trans hp)
      rw [eqp]
      obtain ⟨b, hb, hib⟩ := lastB_some hi (show i < e by omega)
      have hb2 := lastB_lt hb
      by_cases z : b = i
      · rw [← z]; exact hb
      · exact absurd hb2.2 (nxt_before (i := i + 1) (by omega) (by omega))
    cases hb : lastB row q e with
    | none =>
      show valV (mergeK [] (kvS (spellsTo row e ++ []))) _ = _
      rw [List.append_nil, ih]
      by_cases h : nxt row p (i + 1) < e
      · rw [if_pos h, if_pos (by omega)]
      · rw [if_neg h, if_neg (fun z => by
          have := back (by omega)
          rw [hb] at this
          cases this)]
    | some b =>
      have ek : kvS (spellsTo row e ++ spOf (some b) e) = kvS (spellsTo row e) ++ [(Sum.inl (b : Int), V.int (e : Nat))] := by
        unfold kvS
        rw [List.map_append]
        rfl
      rw [ek, merge_snoc, valV_put]
      have hb2 := lastB_lt hb
      by_cases z : b = i
      · subst z
        rw [if_pos rfl]
        have eqp : q = p := Option.some.inj (hb2.2.symm.trans hi)
        have h1 : nxt row p (b + 1) = e := by
          have a1 : ¬ e < nxt row p (b + 1) := fun a1 => nxt_before (i := b + 1) (by omega) a1 (by rw [eq, eqp])
          have a2 : ¬ nxt row p (b + 1) < e := fun a2 => by
            have := nxt_at (row := row) (y := p) (i := b + 1) (by omega)
            rw [← eqp] at this
            rw [eqp] at hb this
            exact lastB_max hb _ (by omega) a2 this
          omega
        rw [if_pos (by omega), h1]
      · rw [if_neg (by intro h; injection h with h; omega), ih]
        by_cases h : nxt row p (i + 1) < e
        · rw [if_pos h, if_pos (by omega)]
        · rw [if_neg h, if_neg (fun h2 => by
            have := back (by omega)
            rw [hb] at this
            exact z (Option.some.inj this))]
theorem next_get {row : List Int} {i : Nat} {p : Int} (hi : row[i]? = some p) : ((valV (mergeK [] (kvS (spellsL row))) (Sum.inl (i : Int))).getD (V.int (row.length : Nat))) = V.int (nxt row p (i + 1) : Nat) := by
  have h := next_asks hi row.length (Nat.le_refl _)
  unfold spellsL
  rw [h]
  have hl := (List.getElem?_eq_some_iff.mp hi).1
  have le := nxt_le (row := row) (y := p) (i := i + 1) (by omega)
  by_cases z : nxt row p (i + 1) < row.length
  · rw [if_pos z]; rfl
  · rw [if_neg z]
    have e : nxt row p (i + 1) = row.length := by omega
    rw [e]; rfl
/-! ### who is let go -/
/-- f is the one of C whose next ask is farthest, of several the least -/
structure IsFar (row : List Int) (i : Nat) (C : List Int) (f : Int) : Prop where
  mem : f ∈ C
  far : ∀ y ∈ C, nxt row y i ≤ nxt row f i
  least : ∀ y ∈ C, nxt row y i = nxt row f i → f ≤ y
theorem IsFar.one {row : List Int} {i : Nat} {C : List Int} {f g : Int} (h : IsFar row i C f) (k : IsFar row i C g) : f = g := by
  have h1 := h.far g k.mem
  have h2 := k.far f h.mem
  have e : nxt row f i = nxt row g i := by omega
  have h3 := h.least g k.mem e.symm
  have h4 := k.least f h.mem e
  omega
theorem far_is {row : List Int} {i : Nat} : ∀ {C : List Int}, C ≠ [] → ∃ f, IsFar row i C f
  | [], h => absurd rfl h
  | [a], _ => ⟨a, by simp, fun y hy => by rw [List.mem_singleton.mp hy]; exact Nat.le_refl _, fun y hy _ => by rw [List.mem_singleton.mp hy]; exact Int.le_refl _⟩
  | a :: b :: C, _ => by
    obtain ⟨f, hf⟩ := far_is (row := row) (i := i) (C := b :: C) (by simp)
    by_cases h : nxt row a i < nxt row f i ∨ (nxt row a i = nxt row f i ∧ f ≤ a)
    · refine ⟨f, List.mem_cons_of_mem _ hf.mem, fun y hy => ?_, fun y hy e => ?_⟩
      · rcases List.mem_cons.mp hy with z | z
        · rw [z]; omega
        · exact hf.far y z
      · rcases List.mem_cons.mp hy with z | z
        · rw [z] at e ⊢; omega
        · exact hf.least y z e
    · refine ⟨a, List.mem_cons_self, fun y hy => ?_, fun y hy e => ?_⟩
      · rcases List.mem_cons.mp hy with z | z
        · rw [z]; exact Nat.le_refl _
        · have := hf.far y z; omega
      · rcases List.mem_cons.mp hy with z | z
        · rw [z]; exact Int.le_refl _
        · have q := hf.far y z
          have e2 : nxt row y i = nxt row f i := by omega
          have := hf.least y z e2
          omega
noncomputable def far (row : List Int) (i : Nat) (C : List Int) : Int := if h : C ≠ [] then Classical.choose (far_is (row := row) (i := i) h) else 0
theorem far_ok {row : List Int} {i : Nat} {C : List Int} (h : C ≠ []) : IsFar row i C (far row i C) := by
  unfold far
  rw [dif_pos h]
  exact Classical.choose_spec (far_is h)
/-- the pages there, the places of the lacks, what was let go -/
structure BS where
  C : List Int
  lacks : List Nat
  gone : List (Nat × Int)
noncomputable def BS.step (n : Nat) (row : List Int) (i : Nat) (p : Int) (s : BS) : BS :=
  if p ∈ s.C then s else if s.C.length = n then ⟨s.C.filter (· != far row i s.C) ++ [p], s.lacks ++ [i], s.gone ++ [(i, far row i s.C)]⟩ else ⟨s.C ++ [p], s.lacks ++ [i], s.gone⟩
noncomputable def bestTo (n : Nat) (row : List Int) : Nat → BS
  | 0 => ⟨[], [], []⟩
  | i + 1 => match row[i]? with
    | some p => (bestTo n row i).step n row i p
    | none => bestTo n row i
theorem bestTo_succ {n : Nat} {row : List Int} {i : Nat} {p : Int} (h : row[i]? = some p) : bestTo n row (i + 1) = (bestTo n row i).step n row i p := by
  show (match row[i]? with | some p => (bestTo n row i).step n row i p | none => bestTo n row i) = _
  rw [h]
noncomputable def bestS (n : Nat) (row : List Int) : BS := bestTo n row row.length
structure BS.Ok (n i : Nat) (s : BS) : Prop where
  nd : s.C.Nodup
  le : s.C.length ≤ n
  lk : s.lacks.length ≤ i
  gn : s.gone.length ≤ i
theorem filter_less {C : List Int} {f : Int} (h : f ∈ C) : (C.filter (· != f)).length < C.length := by
  rcases Nat.lt_or_ge (C.filter (· != f)).length C.length with z | z
  · exact z
  · have e := List.length_filter_eq_length_iff.mp (Nat.le_antisymm (List.length_filter_le _ _) z)
    have := e f h
    simp at this
theorem nodup_snoc {C : List Int} {p : Int} (h : C.Nodup) (hp : p ∉ C) : (C ++ [p]).Nodup := by
  rw [List.nodup_append]
  refine ⟨h, by simp, fun a ha b hb => ?_⟩
  rw [List.mem_singleton.mp hb]
  intro z
  exact hp (by rw [← z]; exact ha)
theorem bestTo_ok {n : Nat} (hn : 0 < n) (row : List Int) : ∀ i, (bestTo n row i).Ok n i
  | 0 => ⟨List.nodup_nil, Nat.zero_le _, Nat.le_refl _, Nat.le_refl _⟩
  | i + 1 => by
    have ih := bestTo_ok hn row i
    cases hp : row[i]? with
    | none =>
      have e : bestTo n row (i + 1) = bestTo n row i := by
        show (match row[i]? with | some p => (bestTo n row i).step n row i p | none => bestTo n row i) = _
        rw [hp]
      rw [e]
      exact ⟨ih.nd, ih.le, Nat.le_succ_of_le ih.lk, Nat.le_succ_of_le ih.gn⟩
    | some p =>
      rw [bestTo_succ hp]
      unfold BS.step
      have h1 := ih.lk
      have h2 := ih.gn
      have h3 := ih.le
      split
      · exact ⟨ih.nd, ih.le, Nat.le_succ_of_le ih.lk, Nat.le_succ_of_le ih.gn⟩
      · rename_i hC
        split
        · rename_i hl
          have hne : (bestTo n row i).C ≠ [] := by intro z; rw [z] at hl; simp at hl; omega
          have hf := filter_less (far_ok (row := row) (i := i) hne).mem
          refine ⟨nodup_snoc (ih.nd.filter _) (fun z => hC (List.mem_filter.mp z).1), ?_, ?_, ?_⟩
          · show (_ ++ [p]).length ≤ n
            rw [List.length_append]; simp; omega
          · show (_ ++ [i]).length ≤ i + 1
            rw [List.length_append]; simp; omega
          · show (_ ++ [_]).length ≤ i + 1
            rw [List.length_append]; simp; omega
        · rename_i hl
          refine ⟨nodup_snoc ih.nd hC, ?_, ?_, Nat.le_succ_of_le ih.gn⟩
          · show (_ ++ [p]).length ≤ n
            rw [List.length_append]; simp; omega
          · show (_ ++ [i]).length ≤ i + 1
            rw [List.length_append]; simp; omega
/-! ### the dict of the pages there -/
def kvN (row : List Int) (i : Nat) (C : List Int) : List (Key × V) := C.map fun y => (Sum.inl y, V.int (nxt row y i : Nat))
theorem kvN_val (row : List Int) (i : Nat) : ∀ (C : List Int) (p : Int), valV (kvN row i C) (Sum.inl p) = if p ∈ C then some (V.int (nxt row p i : Nat)) else none
  | [], p => rfl
  | a :: C, p => by
    by_cases h : a = p
    · subst h
      rw [if_pos List.mem_cons_self]
      exact valV_pos rfl
    · have e : valV (kvN row i (a :: C)) (Sum.inl p) = valV (kvN row i C) (Sum.inl p) := valV_neg (by intro z; injection z with z; exact h z)
      rw [e, kvN_val row i C p]
      by_cases h2 : p ∈ C
      · rw [if_pos h2, if_pos (List.mem_cons_of_mem _ h2)]
      · rw [if_neg h2, if_neg (by intro z; rcases List.mem_cons.mp z with z | z; · exact h z.symm
                                  · exact h2 z)]
theorem kvN_drop (row : List Int) (i : Nat) (f : Int) : ∀ C : List Int, dropK (kvN row i C) (Sum.inl f) = kvN row i (C.filter (· != f))
  | [] => rfl
  | a :: C => by
    by_cases h : a = f
    · subst h
      have e : dropK (kvN row i (a :: C)) (Sum.inl a) = dropK (kvN row i C) (Sum.inl a) := dropK_pos rfl
      rw [e, kvN_drop row i a C]
      simp
    · have e : dropK (kvN row i (a :: C)) (Sum.inl f) = (Sum.inl a, V.int (nxt row a i : Nat)) :: dropK (kvN row i C) (Sum.inl f) := dropK_neg (by intro z; injection z with z; exact h z)
      have e2 : (a :: C).filter (· != f) = a :: C.filter (· != f) := by simp [h]
      rw [e, kvN_drop row i f C, e2]
      rfl
/-- the asked page's next ask is written; all others' stay -/
theorem kvN_put {row : List Int} {i : Nat} {p : Int} (hp : row[i]? = some p) {C : List Int} (h : p ∈ C) : putK (kvN row i C) (Sum.inl p) (V.int (nxt row p (i + 1) : Nat)) = kvN row (i + 1) C := by
  have ha : ((kvN row i C).any fun kv => decide (kv.1 = Sum.inl p)) = true := by
    rw [valV_any, kvN_val, if_pos h]
    rfl
  unfold putK
  rw [if_pos ha]
  unfold kvN
  rw [List.map_map]
  refine List.map_congr_left fun y hy => ?_
  show (if (Sum.inl y : Key) = Sum.inl p then _ else _) = _
  by_cases e : y = p
  · subst e
    rw [if_pos rfl]
  · rw [if_neg (by intro z; injection z with z; exact e z), nxt_on hp e]
theorem kvN_new {row : List Int} {i : Nat} {p : Int} (hp : row[i]? = some p) {C : List Int} (h : p ∉ C) : putK (kvN row i C) (Sum.inl p) (V.int (nxt row p (i + 1) : Nat)) = kvN row (i + 1) (C ++ [p]) := by
  rw [putK_new _ (by rw [kvN_val, if_neg h])]
  unfold kvN
  rw [List.map_append]
  congr 1
  refine List.map_congr_left fun y hy => ?_
  rw [nxt_on hp (by intro z; rw [z] at hy; exact h hy)]
/-! ### lists of tuples -/
structure TupsAt (H : Hp) (as : List Addr) (xs : List (List V)) : Prop where
  len : as.length = xs.length
  at_ : ∀ (i : Nat) (a : Addr) (x : List V), as[i]? = some a → xs[i]? = some x → H a = some (.tup x)
theorem TupsAt.nil {H : Hp} : TupsAt H [] [] := ⟨rfl, fun i a x h => by simp at h⟩
theorem TupsAt.but {S : List Addr} {H H' : Hp} {as : List Addr} {xs : List (List V)} (h : TupsAt H as xs) (k : But S H H') (n : ∀ d ∈ S, ∀ u, H d ≠ some (.tup u)) : TupsAt H' as xs :=
  ⟨h.len, fun i a x ha hx => by
    have q := h.at_ i a x ha hx
    exact k _ _ q fun z => n _ z _ q⟩
theorem TupsAt.same {H H' : Hp} {as : List Addr} {xs : List (List V)} (h : TupsAt H as xs) (k : Same H H') : TupsAt H' as xs := h.but (S := []) (But.of k) (fun d hd => by simp at hd)
theorem TupsAt.put {H : Hp} {as : List Addr} {xs : List (List V)} (h : TupsAt H as xs) {d : Addr} {o o' : HO} (e : H d = some o) (ne : ∀ u, o ≠ .tup u) : TupsAt (upd H d o') as xs :=
  h.but (S := [d]) (But.put (by simp)) (fun c hc u z => by rw [List.mem_singleton.mp hc, e] at z; exact ne u (Option.some.inj z))
theorem TupsAt.snoc {H : Hp} {as : List Addr} {xs : List (List V)} (h : TupsAt H as xs) {t : Addr} {x : List V} (e : H t = some (.tup x)) : TupsAt H (as ++ [t]) (xs ++ [x]) := by
  refine ⟨by simp [h.len], fun j c y hc hy => ?_⟩
  by_cases hj : j < as.length
  · rw [List.getElem?_append_left hj] at hc
    rw [List.getElem?_append_left (by rw [← h.len]; exact hj)] at hy
    exact h.at_ j c y hc hy
  · have ej : j = as.length := by
      have := (List.getElem?_eq_some_iff.mp hc).1
      simp at this
      omega
    subst ej
    rw [List.getElem?_append_right (Nat.le_refl _), Nat.sub_self] at hc
    rw [List.getElem?_append_right (by rw [h.len]; exact Nat.le_refl _), h.len, Nat.sub_self] at hy
    have ec : t = c := Option.some.inj hc
    have ex : x = y := Option.some.inj hy
    rw [← ec, ← ex]
    exact e
theorem TupsAt.tail {H : Hp} {a : Addr} {x : List V} {as : List Addr} {xs : List (List V)} (h : TupsAt H (a :: as) (x :: xs)) : H a = some (.tup x) ∧ TupsAt H as xs :=
  ⟨h.at_ 0 a x rfl rfl, Nat.succ.inj h.len, fun i c y hc hy => h.at_ (i + 1) c y hc hy⟩
abbrev gV (xs : List (Nat × Int)) : List (List V) := xs.map fun x => [V.int (x.1 : Nat), V.int x.2]
theorem gV_snoc {xs : List (Nat × Int)} {x : Nat × Int} : gV (xs ++ [x]) = gV xs ++ [[V.int (x.1 : Nat), V.int x.2]] := by
  show (xs ++ [x]).map _ = _
  rw [List.map_append]
  rfl
end CK

/-! Plain mathematics: who lets go of the page whose next ask is farthest lacks most seldom. -/
namespace CK
/-- from the kept pages C, n rooms, the row is gone through with k lacks -/
inductive Way (n : Nat) : List Int → List Int → Nat → Prop
  | nil (C : List Int) : Way n C [] 0
  | hit {C : List Int} {p : Int} {r : List Int} {k : Nat} : p ∈ C → Way n C r k → Way n C (p :: r) k
  | room {C : List Int} {p : Int} {r : List Int} {k : Nat} : p ∉ C → C.length < n → Way n (p :: C) r k → Way n C (p :: r) (k + 1)
  | out {C : List Int} {p q : Int} {r : List Int} {k : Nat} : p ∉ C → n ≤ C.length → q ∈ C → Way n (p :: C.erase q) r k → Way n C (p :: r) (k + 1)
theorem Way.perm {n : Nat} : ∀ {C : List Int} {row : List Int} {k : Nat}, Way n C row k → ∀ {C' : List Int}, C.Perm C' → Way n C' row k := by
  intro C row k w
  induction w with
  | nil C => intro C' _; exact .nil C'
  | hit h _ ih => intro C' p; exact .hit (p.mem_iff.mp h) (ih p)
  | room h l _ ih => intro C' p; exact .room (fun z => h (p.mem_iff.mpr z)) (by rw [← p.length_eq]; exact l) (ih (p.cons _))
  | out h l m _ ih => intro C' p; exact .out (fun z => h (p.mem_iff.mpr z)) (by rw [← p.length_eq]; exact l) (p.mem_iff.mp m) (ih ((p.erase _).cons _))
/-- the one page instead of the other costs at most one lack more -/
theorem swap_one {n : Nat} : ∀ {row : List Int} {E : List Int} {x f : Int} {k : Nat}, E.length + 1 = n → (x :: f :: E).Nodup → Way n (f :: E) row k → ∃ k', k' ≤ k + 1 ∧ Way n (x :: E) row k'
  | [], E, x, f, k, _, _, w => ⟨0, by omega, .nil _⟩
  | r :: rest, E, x, f, k, hl, nd, w => by
    have ndx : x ≠ f ∧ x ∉ E := by simpa using (List.nodup_cons.mp nd).1
    have ndf : f ∉ E := (List.nodup_cons.mp (List.nodup_cons.mp nd).2).1
    have ndE : E.Nodup := (List.nodup_cons.mp (List.nodup_cons.mp nd).2).2
    cases w with
    | hit hm w =>
      by_cases hf : r = f
      · subst hf
        refine ⟨k + 1, Nat.le_refl _, .out (q := x) (by simp [Ne.symm ndx.1, ndf]) (by simp; omega) (by simp) ?_⟩
        rw [List.erase_cons_head]
        exact w
      · have hE : r ∈ E := by simpa [hf] using hm
        obtain ⟨k', h1, h2⟩ := swap_one hl nd w
        exact ⟨k', h1, .hit (List.mem_cons_of_mem _ hE) h2⟩
    | room hm hlt w => simp at hlt; omega
    | @out _ _ q _ k hm hge hq w =>
      have hr : r ≠ f ∧ r ∉ E := by simpa using hm
      by_cases hqf : q = f
      · subst hqf
        rw [List.erase_cons_head] at w
        by_cases hrx : r = x
        · subst hrx
          exact ⟨k, by omega, .hit (by simp) w⟩
        · refine ⟨k + 1, by omega, .out (q := x) (by simp [hrx, hr.2]) (by simp; omega) (by simp) ?_⟩
          rw [List.erase_cons_head]
          exact w
      · have hqE : q ∈ E := by simpa [hqf] using hq
        rw [List.erase_cons_tail (by simpa using fun z => hqf z.symm)] at w
        have hqx : x ≠ q := fun z => ndx.2 (z ▸ hqE)
        have le : (E.erase q).length + 1 = E.length := by
          have := List.length_erase_of_mem hqE
          have := List.length_pos_of_mem hqE
          omega
        have nde : (E.erase q).Nodup := ndE.erase q
        have fe : f ∉ E.erase q := fun z => ndf (List.mem_of_mem_erase z)
        have xe : x ∉ E.erase q := fun z => ndx.2 (List.mem_of_mem_erase z)
        have re : r ∉ E.erase q := fun z => hr.2 (List.mem_of_mem_erase z)
        by_cases hrx : r = x
        · -- left has it: (x :: E) ~ q :: (x :: E.erase q); right is f :: (x :: E.erase q)
          subst hrx
          have w' : Way n (f :: r :: E.erase q) rest k := w.perm (.swap _ _ _)
          have nd' : (q :: f :: r :: E.erase q).Nodup := by
            have q1 : q ∉ E.erase q := by
              rw [ndE.mem_erase_iff]
              exact fun z => z.1 rfl
            simp [hqf, Ne.symm hqx, q1, Ne.symm ndx.1, nde, fe, xe]
          obtain ⟨k', h1, h2⟩ := swap_one (by simp; omega) nd' w'
          refine ⟨k', by omega, .hit (by simp) (h2.perm ?_)⟩
          exact (List.Perm.swap _ _ _).trans ((List.perm_cons_erase hqE).symm.cons _)
        · have w' : Way n (f :: r :: E.erase q) rest k := w.perm (.swap _ _ _)
          have nd' : (x :: f :: r :: E.erase q).Nodup := by
            simp [ndx.1, Ne.symm hrx, Ne.symm hr.1, nde, fe, xe, re]
          obtain ⟨k', h1, h2⟩ := swap_one (by simp; omega) nd' w'
          refine ⟨k' + 1, by omega, .out (q := q) (by simp [hrx, hr.2]) (by simp; omega) (List.mem_cons_of_mem _ hqE) ?_⟩
          rw [List.erase_cons_tail (by simpa using hqx)]
          exact h2.perm (.swap _ _ _)
theorem idx_ne {a b : Int} {l : List Int} (h : a ≠ b) : (a :: l).idxOf b = l.idxOf b + 1 := by
  have e : (a == b) = false := by simpa using h
  rw [List.idxOf_cons, e]
  rfl
/-- a page whose next ask is nearer instead of one whose next ask is farther: no lack more -/
theorem swap_near {n : Nat} : ∀ {row : List Int} {E : List Int} {x f : Int} {k : Nat}, E.length + 1 = n → (x :: f :: E).Nodup → row.idxOf x ≤ row.idxOf f → Way n (f :: E) row k → ∃ k', k' ≤ k ∧ Way n (x :: E) row k'
  | [], E, x, f, k, _, _, _, w => ⟨0, by omega, .nil _⟩
  | r :: rest, E, x, f, k, hl, nd, hi, w => by
    have ndx : x ≠ f ∧ x ∉ E := by simpa using (List.nodup_cons.mp nd).1
    have ndf : f ∉ E := (List.nodup_cons.mp (List.nodup_cons.mp nd).2).1
    have ndE : E.Nodup := (List.nodup_cons.mp (List.nodup_cons.mp nd).2).2
    have hrf : r ≠ f := by
      intro z
      subst z
      rw [List.idxOf_cons_self] at hi
      rw [idx_ne (Ne.symm ndx.1)] at hi
      omega
    have step : r ≠ x → rest.idxOf x ≤ rest.idxOf f := fun z => by
      rw [idx_ne z, idx_ne hrf] at hi
      omega
    cases w with
    | hit hm w =>
      have hE : r ∈ E := by simpa [hrf] using hm
      have hrx : r ≠ x := fun z => ndx.2 (z ▸ hE)
      obtain ⟨k', h1, h2⟩ := swap_near hl nd (step hrx) w
      exact ⟨k', h1, .hit (List.mem_cons_of_mem _ hE) h2⟩
    | room hm hlt w => simp at hlt; omega
    | @out _ _ q _ k hm hge hq w =>
      have hr : r ≠ f ∧ r ∉ E := by simpa using hm
      by_cases hqf : q = f
      · subst hqf
        rw [List.erase_cons_head] at w
        by_cases hrx : r = x
        · subst hrx
          exact ⟨k, by omega, .hit (by simp) w⟩
        · refine ⟨k + 1, by omega, .out (q := x) (by simp [hrx, hr.2]) (by simp; omega) (by simp) ?_⟩
          rw [List.erase_cons_head]
          exact w
      · have hqE : q ∈ E := by simpa [hqf] using hq
        rw [List.erase_cons_tail (by simpa using fun z => hqf z.symm)] at w
        have hqx : x ≠ q := fun z => ndx.2 (z ▸ hqE)
        have le : (E.erase q).length + 1 = E.length := by
          have := List.length_erase_of_mem hqE
          have := List.length_pos_of_mem hqE
          omega
        have nde : (E.erase q).Nodup := ndE.erase q
        have fe : f ∉ E.erase q := fun z => ndf (List.mem_of_mem_erase z)
        have xe : x ∉ E.erase q := fun z => ndx.2 (List.mem_of_mem_erase z)
        have re : r ∉ E.erase q := fun z => hr.2 (List.mem_of_mem_erase z)
        by_cases hrx : r = x
        · subst hrx
          have w' : Way n (f :: r :: E.erase q) rest k := w.perm (.swap _ _ _)
          have nd' : (q :: f :: r :: E.erase q).Nodup := by
            have q1 : q ∉ E.erase q := by
              rw [ndE.mem_erase_iff]
              exact fun z => z.1 rfl
            simp [hqf, Ne.symm hqx, q1, Ne.symm ndx.1, nde, fe, xe]
          obtain ⟨k', h1, h2⟩ := swap_one (by simp; omega) nd' w'
          refine ⟨k', by omega, .hit (by simp) (h2.perm ?_)⟩
          exact (List.Perm.swap _ _ _).trans ((List.perm_cons_erase hqE).symm.cons _)
        · have w' : Way n (f :: r :: E.erase q) rest k := w.perm (.swap _ _ _)
          have nd' : (x :: f :: r :: E.erase q).Nodup := by
            simp [ndx.1, Ne.symm hrx, Ne.symm hr.1, nde, fe, xe, re]
          obtain ⟨k', h1, h2⟩ := swap_near (by simp; omega) nd' (step hrx) w'
          refine ⟨k' + 1, by omega, .out (q := q) (by simp [hrx, hr.2]) (by simp; omega) (List.mem_cons_of_mem _ hqE) ?_⟩
          rw [List.erase_cons_tail (by simpa using hqx)]
          exact h2.perm (.swap _ _ _)
/-- gone through so that, where one must be let go, one goes whose next ask is farthest -/
inductive Bel (n : Nat) : List Int → List Int → Nat → Prop
  | nil (C : List Int) : Bel n C [] 0
  | hit {C : List Int} {p : Int} {r : List Int} {k : Nat} : p ∈ C → Bel n C r k → Bel n C (p :: r) k
  | room {C : List Int} {p : Int} {r : List Int} {k : Nat} : p ∉ C → C.length < n → Bel n (p :: C) r k → Bel n C (p :: r) (k + 1)
  | out {C : List Int} {p f : Int} {r : List Int} {k : Nat} : p ∉ C → n ≤ C.length → f ∈ C → (∀ y ∈ C, r.idxOf y ≤ r.idxOf f) → Bel n (p :: C.erase f) r k → Bel n C (p :: r) (k + 1)
theorem Bel.perm {n : Nat} {C : List Int} {row : List Int} {k : Nat} (w : Bel n C row k) : ∀ {C' : List Int}, C.Perm C' → Bel n C' row k := by
  induction w with
  | nil C => intro C' _; exact .nil C'
  | hit h _ ih => intro C' p; exact .hit (p.mem_iff.mp h) (ih p)
  | room h l _ ih => intro C' p; exact .room (fun z => h (p.mem_iff.mpr z)) (by rw [← p.length_eq]; exact l) (ih (p.cons _))
  | out h l m far _ ih => intro C' p; exact .out (fun z => h (p.mem_iff.mpr z)) (by rw [← p.length_eq]; exact l) (p.mem_iff.mp m) (fun y hy => far y (p.mem_iff.mpr hy)) (ih ((p.erase _).cons _))
theorem Bel.way {n : Nat} {C : List Int} {row : List Int} {k : Nat} (w : Bel n C row k) : Way n C row k := by
  induction w with
  | nil C => exact .nil C
  | hit h _ ih => exact .hit h ih
  | room h l _ ih => exact .room h l ih
  | out h l m _ _ ih => exact .out h l m ih
/-- no way has fewer lacks -/
theorem Bel.least {n : Nat} {C : List Int} {row : List Int} {k : Nat} (b : Bel n C row k) : C.Nodup → C.length ≤ n → ∀ {j : Nat}, Way n C row j → k ≤ j := by
  induction b with
  | nil C => intro _ _ j _; exact Nat.zero_le _
  | @hit C p r k h _ ih =>
    intro nd hl j w
    cases w with
    | hit _ w => exact ih nd hl w
    | room h' _ _ => exact absurd h h'
    | out h' _ _ _ => exact absurd h h'
  | @room C p r k h l _ ih =>
    intro nd hl j w
    cases w with
    | hit h' _ => exact absurd h' h
    | room _ _ w => exact Nat.succ_le_succ (ih (List.nodup_cons.mpr ⟨h, nd⟩) l w)
    | out _ h' _ _ => omega
  | @out C p f r k h l m far _ ih =>
    intro nd hl j w
    have lf := List.length_erase_of_mem m
    have lp := List.length_pos_of_mem m
    have ndf : (p :: C.erase f).Nodup := List.nodup_cons.mpr ⟨fun z => h (List.mem_of_mem_erase z), nd.erase f⟩
    have lenf : (p :: C.erase f).length ≤ n := by rw [List.length_cons]; omega
    cases w with
    | hit h' _ => exact absurd h' h
    | room _ h' _ => omega
    | @out _ _ q _ j _ _ mq w =>
      by_cases hqf : q = f
      · subst hqf
        exact Nat.succ_le_succ (ih ndf lenf w)
      · have mf : f ∈ C.erase q := (List.mem_erase_of_ne (Ne.symm hqf)).mpr m
        have mq' : q ∈ C.erase f := (List.mem_erase_of_ne hqf).mpr mq
        have w1 : Way n (f :: p :: (C.erase q).erase f) r j := w.perm (((List.perm_cons_erase mf).cons _).trans (.swap _ _ _))
        have pq : p ≠ q := fun z => h (z ▸ mq)
        have pf : p ≠ f := fun z => h (z ▸ m)
        have l2 : ((C.erase q).erase f).length + 2 = C.length := by
          have a1 := List.length_erase_of_mem mf
          have a2 := List.length_erase_of_mem mq
          have a3 := List.length_pos_of_mem mf
          omega
        have nd1 : (q :: f :: p :: (C.erase q).erase f).Nodup := by
          have n1 : q ∉ (C.erase q).erase f := fun z => (nd.mem_erase_iff.mp (List.mem_of_mem_erase z)).1 rfl
          have n2 : f ∉ (C.erase q).erase f := fun z => ((nd.erase q).mem_erase_iff.mp z).1 rfl
          have n3 : p ∉ (C.erase q).erase f := fun z => h (List.mem_of_mem_erase (List.mem_of_mem_erase z))
          simp [hqf, Ne.symm pq, Ne.symm pf, n1, n2, n3, (nd.erase q).erase f]
        obtain ⟨j', h1, h2⟩ := swap_near (by rw [List.length_cons]; omega) nd1 (far q mq) w1
        have w2 : Way n (p :: C.erase f) r j' := by
          refine h2.perm ((List.Perm.swap _ _ _).trans ?_)
          rw [List.erase_comm]
          exact (List.perm_cons_erase mq').symm.cons _
        exact Nat.succ_le_succ (Nat.le_trans (ih ndf lenf w2) h1)
end CK

/-! Plain mathematics: a room more. -/
namespace CK
/-- a list of unlike things within another is no longer -/
theorem len_sub : ∀ {xs ys : List Int}, xs.Nodup → (∀ x ∈ xs, x ∈ ys) → xs.length ≤ ys.length
  | [], _, _, _ => Nat.zero_le _
  | x :: xs, ys, nd, h => by
    have hx := h x List.mem_cons_self
    have n2 := List.nodup_cons.mp nd
    have ih := len_sub (ys := ys.erase x) n2.2 fun y hy => (List.mem_erase_of_ne (by intro z; rw [z] at hy; exact n2.1 hy)).mpr (h y (List.mem_cons_of_mem _ hy))
    have l1 := List.length_erase_of_mem hx
    have l2 := List.length_pos_of_mem hx
    rw [List.length_cons]
    omega
/-- a longer list of unlike things has one that the other has not -/
theorem one_more {xs ys : List Int} (nd : ys.Nodup) (h : xs.length < ys.length) : ∃ y ∈ ys, y ∉ xs := by
  refine Classical.byContradiction fun c => ?_
  have all : ∀ y ∈ ys, y ∈ xs := fun y hy => Decidable.byContradiction fun z => c ⟨y, hy, z⟩
  have := len_sub nd all
  omega
theorem Way.more {n m : Nat} {C : List Int} {row : List Int} {k : Nat} (w : Way n C row k) (hn : 0 < n) (hm : n ≤ m) : C.length ≤ n → ∀ {C' : List Int}, C'.Nodup → (∀ y ∈ C, y ∈ C') → C'.length ≤ m → ∃ k', k' ≤ k ∧ Way m C' row k' := by
  induction w with
  | nil C => intro _ C' _ _ _; exact ⟨0, Nat.le_refl _, .nil _⟩
  | hit h _ ih =>
    intro l C' nd sub l'
    obtain ⟨k', h1, h2⟩ := ih l nd sub l'
    exact ⟨k', h1, .hit (sub _ h) h2⟩
  | @room C p r k h lt _ ih =>
    intro l C' nd sub l'
    by_cases hp : p ∈ C'
    · obtain ⟨k', h1, h2⟩ := ih (by rw [List.length_cons]; omega) nd (fun y hy => (List.mem_cons.mp hy).elim (fun e => e ▸ hp) (sub y)) l'
      exact ⟨k', by omega, .hit hp h2⟩
    · by_cases hl : C'.length < m
      · obtain ⟨k', h1, h2⟩ := ih (by rw [List.length_cons]; omega) (List.nodup_cons.mpr ⟨hp, nd⟩) (fun y hy => (List.mem_cons.mp hy).elim (fun e => e ▸ List.mem_cons_self) fun z => List.mem_cons_of_mem _ (sub y z)) hl
        exact ⟨k' + 1, by omega, .room hp hl h2⟩
      · obtain ⟨q, hq, hqC⟩ := one_more (xs := C) nd (by omega)
        have l1 := List.length_erase_of_mem hq
        have l2 := List.length_pos_of_mem hq
        obtain ⟨k', h1, h2⟩ := ih (by rw [List.length_cons]; omega) (C' := p :: C'.erase q) (List.nodup_cons.mpr ⟨fun z => hp (List.mem_of_mem_erase z), nd.erase q⟩)
          (fun y hy => (List.mem_cons.mp hy).elim (fun e => e ▸ List.mem_cons_self) fun z => List.mem_cons_of_mem _ ((List.mem_erase_of_ne (by intro e; rw [e] at z; exact hqC z)).mpr (sub y z))) (by rw [List.length_cons]; omega)
        exact ⟨k' + 1, by omega, .out hp (by omega) hq h2⟩
  | @out C p f r k h le mf _ ih =>
    intro l C' nd sub l'
    have f1 := List.length_erase_of_mem mf
    have f2 := List.length_pos_of_mem mf
    have lc : (p :: C.erase f).length ≤ n := by rw [List.length_cons]; omega
    by_cases hp : p ∈ C'
    · obtain ⟨k', h1, h2⟩ := ih lc nd (fun y hy => (List.mem_cons.mp hy).elim (fun e => e ▸ hp) fun z => sub y (List.mem_of_mem_erase z)) l'
      exact ⟨k', by omega, .hit hp h2⟩
    · by_cases hl : C'.length < m
      · obtain ⟨k', h1, h2⟩ := ih lc (List.nodup_cons.mpr ⟨hp, nd⟩) (fun y hy => (List.mem_cons.mp hy).elim (fun e => e ▸ List.mem_cons_self) fun z => List.mem_cons_of_mem _ (sub y (List.mem_of_mem_erase z))) hl
        exact ⟨k' + 1, by omega, .room hp hl h2⟩
      · obtain ⟨q, hq, hqC⟩ := one_more (xs := C.erase f) nd (by omega)
        have l1 := List.length_erase_of_mem hq
        have l2 := List.length_pos_of_mem hq
        obtain ⟨k', h1, h2⟩ := ih lc (C' := p :: C'.erase q) (List.nodup_cons.mpr ⟨fun z => hp (List.mem_of_mem_erase z), nd.erase q⟩)
          (fun y hy => (List.mem_cons.mp hy).elim (fun e => e ▸ List.mem_cons_self) fun z => List.mem_cons_of_mem _ ((List.mem_erase_of_ne (by intro e; rw [e] at z; exact hqC z)).mpr (sub y (List.mem_of_mem_erase z)))) (by rw [List.length_cons]; omega)
        exact ⟨k' + 1, by omega, .out hp (by omega) hq h2⟩
/-- best: with more rooms no more lacks -/
theorem Bel.more {n m : Nat} {row : List Int} {k j : Nat} (b : Bel n [] row k) (b' : Bel m [] row j) (hn : 0 < n) (hm : n ≤ m) : j ≤ k := by
  obtain ⟨k', h1, h2⟩ := b.way.more hn hm (Nat.zero_le _) (C' := []) List.nodup_nil (fun _ h => h) (Nat.zero_le _)
  exact Nat.le_trans (b'.least List.nodup_nil (Nat.zero_le _) h2) h1
end CK

/-! Each rule is a way of letting go. -/
namespace CK
theorem lineStep_nodup {n : Nat} {re : Bool} {l : List Int} {p : Int} (nd : l.Nodup) : (lineStep n re l p).Nodup := by
  unfold lineStep
  by_cases h : p ∈ l
  · rw [if_pos h]
    by_cases hr : re = true
    · rw [if_pos hr]
      have e : l.eraseIdx (l.idxOf p) = l.erase p := (List.erase_eq_eraseIdx_of_idxOf rfl).symm
      rw [e]
      refine List.nodup_append.mpr ⟨nd.erase p, by simp, fun a ha b hb => ?_⟩
      have eb : b = p := by simpa using hb
      intro z
      rw [z, eb] at ha
      exact (nd.mem_erase_iff.mp ha).1 rfl
    · rw [if_neg hr]
      exact nd
  · rw [if_neg h]
    refine List.nodup_append.mpr ⟨?_, by simp, fun a ha b hb => ?_⟩
    · split
      · exact nd.sublist (List.eraseIdx_sublist _ _)
      · exact nd
    · have eb : b = p := by simpa using hb
      intro z
      have ha' : a ∈ l := by
        split at ha
        · exact List.mem_of_mem_eraseIdx ha
        · exact ha
      exact h (by rw [← eb, ← z]; exact ha')
theorem lineStep_len {n : Nat} {re : Bool} {l : List Int} {p : Int} (hn : 0 < n) (hl : l.length ≤ n) : (lineStep n re l p).length ≤ n := by
  unfold lineStep
  by_cases h : p ∈ l
  · rw [if_pos h]
    have lp := List.length_pos_of_mem h
    have li := List.idxOf_lt_length_of_mem h
    split
    · rw [List.length_append, List.length_eraseIdx, if_pos li]
      show l.length - 1 + 1 ≤ n
      omega
    · exact hl
  · rw [if_neg h, List.length_append]
    show _ + 1 ≤ n
    split
    · rw [List.length_eraseIdx, if_pos (by omega)]
      omega
    · omega
theorem way_line {n : Nat} {re : Bool} (hn : 0 < n) : ∀ (row l : List Int), l.Nodup → l.length ≤ n → Way n l row ((lineL n re l row).count true)
  | [], l, _, _ => .nil l
  | p :: r, l, nd, hl => by
    have ih := way_line (re := re) hn r (lineStep n re l p) (lineStep_nodup nd) (lineStep_len hn hl)
    show Way n l (p :: r) (List.count true ((!decide (p ∈ l)) :: lineL n re (lineStep n re l p) r))
    by_cases h : p ∈ l
    · have e : (!decide (p ∈ l)) = false := by simp [h]
      rw [e, List.count_cons_of_ne (by decide)]
      refine .hit h (ih.perm ?_)
      unfold lineStep
      rw [if_pos h]
      split
      · have e2 : l.eraseIdx (l.idxOf p) = l.erase p := (List.erase_eq_eraseIdx_of_idxOf rfl).symm
        rw [e2]
        exact (List.perm_append_comm.trans (List.perm_cons_erase h).symm)
      · exact .refl _
    · have e : (!decide (p ∈ l)) = true := by simp [h]
      rw [e, List.count_cons_self]
      by_cases hf : l.length = n
      · cases l with
        | nil => simp at hf; omega
        | cons x t =>
          refine .out (q := x) h (by omega) List.mem_cons_self ?_
          rw [List.erase_cons_head]
          have es : lineStep n re (x :: t) p = t ++ [p] := by
            unfold lineStep
            rw [if_neg h, if_pos hf]
            rfl
          refine ih.perm ?_
          rw [es]
          exact List.perm_append_comm
      · have es : lineStep n re l p = l ++ [p] := by
          unfold lineStep
          rw [if_neg h, if_neg hf]
        refine .room h (by omega) (ih.perm ?_)
        rw [es]
        exact List.perm_append_comm
end CK

/-! The line of the longest unasked: with more rooms no more lacks. -/
namespace CK
theorem step_hit {n : Nat} {l : List Int} {p : Int} (h : p ∈ l) : lineStep n true l p = l.erase p ++ [p] := by
  unfold lineStep
  rw [if_pos h, if_pos rfl, ← List.erase_eq_eraseIdx_of_idxOf rfl]
theorem step_out {n : Nat} {re : Bool} {x : Int} {t : List Int} {p : Int} (h : p ∉ x :: t) (hl : (x :: t).length = n) : lineStep n re (x :: t) p = t ++ [p] := by
  unfold lineStep
  rw [if_neg h, if_pos hl]
  rfl
theorem step_in {n : Nat} {re : Bool} {l : List Int} {p : Int} (h : p ∉ l) (hl : l.length ≠ n) : lineStep n re l p = l ++ [p] := by
  unfold lineStep
  rw [if_neg h, if_neg hl]
/-- the longer line ends with the shorter one -/
theorem line_more {n m : Nat} (hn : 0 < n) (hm : n ≤ m) : ∀ (row pre l : List Int), (pre ++ l).Nodup → (pre ++ l).length ≤ m → l.length ≤ n → (pre = [] ∨ l.length = n) → (lineL m true (pre ++ l) row).count true ≤ (lineL n true l row).count true
  | [], _, _, _, _, _, _ => Nat.le_refl _
  | p :: r, pre, l, nd, hL, hl, hp => by
    show List.count true ((!decide (p ∈ pre ++ l)) :: lineL m true (lineStep m true (pre ++ l) p) r) ≤ List.count true ((!decide (p ∈ l)) :: lineL n true (lineStep n true l p) r)
    have ndL : (lineStep m true (pre ++ l) p).Nodup := lineStep_nodup nd
    have lenL : (lineStep m true (pre ++ l) p).length ≤ m := lineStep_len (by omega) hL
    have lenl : (lineStep n true l p).length ≤ n := lineStep_len hn hl
    have go : ∀ pre', lineStep m true (pre ++ l) p = pre' ++ lineStep n true l p → (pre' = [] ∨ (lineStep n true l p).length = n) →
        (lineL m true (lineStep m true (pre ++ l) p) r).count true ≤ (lineL n true (lineStep n true l p) r).count true := fun pre' e c => by
      rw [e] at ndL lenL ⊢
      exact line_more hn hm r pre' _ ndL lenL lenl c
    by_cases h1 : p ∈ l
    · have h2 : p ∈ pre ++ l := List.mem_append_right _ h1
      have h3 : p ∉ pre := fun z => (List.nodup_append.mp nd).2.2 p z p h1 rfl
      have e1 : (!decide (p ∈ pre ++ l)) = false := by simp [h1]
      have e2 : (!decide (p ∈ l)) = false := by simp [h1]
      rw [e1, e2, List.count_cons_of_ne (by decide), List.count_cons_of_ne (by decide)]
      refine go pre ?_ ?_
      · rw [step_hit h2, step_hit h1, List.erase_append_right _ h3, List.append_assoc]
      · rcases hp with hp | hp
        · exact .inl hp
        · refine .inr ?_
          rw [step_hit h1, List.length_append, List.length_erase_of_mem h1]
          have := List.length_pos_of_mem h1
          show l.length - 1 + 1 = n
          omega
    · have e2 : (!decide (p ∈ l)) = true := by simp [h1]
      rw [e2, List.count_cons_self]
      by_cases hf : l.length = n
      · cases l with
        | nil => simp at hf; omega
        | cons x t =>
          have lt : (t ++ [p]).length = n := by
            rw [List.length_append]
            simpa using hf
          have sn := step_out (re := true) h1 hf
          by_cases h2 : p ∈ pre
          · have e1 : (!decide (p ∈ pre ++ x :: t)) = false := by simp [h2]
            rw [e1, List.count_cons_of_ne (by decide)]
            refine Nat.le_succ_of_le (go (pre.erase p ++ [x]) ?_ (.inr (by rw [sn]; exact lt)))
            rw [step_hit (List.mem_append_left _ h2), sn, List.erase_append_left _ h2]
            simp
          · have h3 : p ∉ pre ++ x :: t := fun z => (List.mem_append.mp z).elim h2 h1
            have e1 : (!decide (p ∈ pre ++ x :: t)) = true := by simp only [h3, decide_false, Bool.not_false]
            rw [e1, List.count_cons_self]
            refine Nat.succ_le_succ ?_
            by_cases hLm : (pre ++ x :: t).length = m
            · cases pre with
              | nil =>
                refine go [] ?_ (.inl rfl)
                rw [sn]
                exact step_out h3 hLm
              | cons y ys =>
                refine go (ys ++ [x]) ?_ (.inr (by rw [sn]; exact lt))
                rw [sn]
                have q : lineStep m true (y :: (ys ++ x :: t)) p = (ys ++ x :: t) ++ [p] := step_out h3 hLm
                show lineStep m true (y :: (ys ++ x :: t)) p = _
                rw [q]
                simp
            · refine go (pre ++ [x]) ?_ (.inr (by rw [sn]; exact lt))
              rw [sn, step_in h3 hLm]
              simp
      · have hpre : pre = [] := hp.resolve_right hf
        subst hpre
        have e1 : (!decide (p ∈ [] ++ l)) = true := by simp [h1]
        rw [e1, List.count_cons_self]
        refine Nat.succ_le_succ (go [] ?_ (.inl rfl))
        rw [step_in h1 hf]
        exact step_in h1 (by simp; omega)
end CK

/-! In a part of a row with no more unlike pages than rooms no page lacks twice: the two lines. -/
namespace CK
/-- the pages that lack, in turn -/
def lackP : List Int → List Bool → List Int
  | p :: r, b :: bs => if b = true then p :: lackP r bs else lackP r bs
  | _, _ => []
theorem lineStep_mem {n : Nat} {re : Bool} {l : List Int} {x y : Int} (h : y ∈ lineStep n re l x) : y ∈ l ∨ y = x := by
  unfold lineStep at h
  split at h
  · split at h
    · rcases List.mem_append.mp h with h | h
      · exact .inl (List.mem_of_mem_eraseIdx h)
      · exact .inr (by simpa using h)
    · exact .inl h
  · rcases List.mem_append.mp h with h | h
    · split at h
      · exact .inl (List.mem_of_mem_eraseIdx h)
      · exact .inl h
    · exact .inr (by simpa using h)
/-- what came behind p was asked for since: p stays -/
theorem line_stays {n : Nat} {re : Bool} (hn : 0 < n) {U : List Int} {p : Int} (hU : U.Nodup) (hUn : U.length ≤ n) (pU : p ∈ U) : ∀ (seg A B : List Int), (A ++ p :: B).Nodup → (A ++ p :: B).length ≤ n → (∀ b ∈ B, b ∈ U) → (∀ x ∈ seg, x ∈ U) →
    p ∉ lackP seg (lineL n re (A ++ p :: B) seg)
  | [], _, _, _, _, _, _ => by
    intro z
    cases z
  | x :: r, A, B, nd, hl, hB, hs => by
    have xU := hs x List.mem_cons_self
    have hr : ∀ y ∈ r, y ∈ U := fun y hy => hs y (List.mem_cons_of_mem _ hy)
    have nd' : (lineStep n re (A ++ p :: B) x).Nodup := lineStep_nodup nd
    have hl' : (lineStep n re (A ++ p :: B) x).length ≤ n := lineStep_len hn hl
    have go : ∀ A' B', lineStep n re (A ++ p :: B) x = A' ++ p :: B' → (∀ b ∈ B', b ∈ U) → p ∉ lackP r (lineL n re (lineStep n re (A ++ p :: B) x) r) := fun A' B' e hB' => by
      rw [e] at nd' hl' ⊢
      exact line_stays hn hU hUn pU r A' B' nd' hl' hB' hr
    have pA : p ∉ A := fun z => (List.nodup_append.mp nd).2.2 p z p (by simp) rfl
    have pB : p ∉ B := (List.nodup_cons.mp (List.nodup_append.mp nd).2.1).1
    have Bx : ∀ b ∈ B ++ [x], b ∈ U := fun b hb => (List.mem_append.mp hb).elim (hB b) fun z => by
      have e : b = x := by simpa using z
      rw [e]
      exact xU
    show p ∉ lackP (x :: r) ((!decide (x ∈ A ++ p :: B)) :: lineL n re (lineStep n re (A ++ p :: B) x) r)
    by_cases hx : x ∈ A ++ p :: B
    · have e : (!decide (x ∈ A ++ p :: B)) = false := by simp only [hx, decide_true, Bool.not_true]
      rw [e]
      show p ∉ lackP r _
      by_cases hre : re = true
      · subst hre
        have es := step_hit (n := n) hx
        by_cases hxp : x = p
        · subst hxp
          refine go (A ++ B) [] ?_ (fun b hb => by cases hb)
          rw [es, List.erase_append_right _ pA, List.erase_cons_head]
        · rcases List.mem_append.mp hx with h | h
          · refine go (A.erase x) (B ++ [x]) ?_ Bx
            rw [es, List.erase_append_left _ h]
            simp
          · have hxB : x ∈ B := by simpa [hxp] using h
            have hxA : x ∉ A := fun z => (List.nodup_append.mp nd).2.2 x z x h rfl
            refine go A (B.erase x ++ [x]) ?_ (fun b hb => (List.mem_append.mp hb).elim (fun z => hB b (List.mem_of_mem_erase z)) fun z => Bx b (List.mem_append_right _ z))
            rw [es, List.erase_append_right _ hxA, List.erase_cons_tail (by simpa using fun z => hxp z.symm)]
            simp
      · refine go A B ?_ hB
        unfold lineStep
        rw [if_pos hx, if_neg hre]
    · have hxp : p ≠ x := fun z => hx (by rw [← z]; simp)
      have tail : p ∉ lackP r (lineL n re (lineStep n re (A ++ p :: B) x) r) := by
        by_cases hf : (A ++ p :: B).length = n
        · cases A with
          | nil =>
            -- p and all behind it, and x: more than U has
            exfalso
            have nd2 : (x :: p :: B).Nodup := List.nodup_cons.mpr ⟨hx, nd⟩
            have len := len_sub nd2 (ys := U) fun y hy => by
              rcases List.mem_cons.mp hy with rfl | hy
              · exact xU
              · rcases List.mem_cons.mp hy with rfl | hy
                · exact pU
                · exact hB y hy
            have f2 : (p :: B).length = n := hf
            rw [List.length_cons] at len
            omega
          | cons y ys =>
            refine go ys (B ++ [x]) ?_ Bx
            have q : lineStep n re (y :: (ys ++ p :: B)) x = (ys ++ p :: B) ++ [x] := step_out hx hf
            show lineStep n re (y :: (ys ++ p :: B)) x = _
            rw [q]
            simp
        · refine go A (B ++ [x]) ?_ Bx
          rw [step_in hx hf]
          simp
      have e : (!decide (x ∈ A ++ p :: B)) = true := by simp only [hx, decide_false, Bool.not_false]
      rw [e]
      show p ∉ x :: lackP r _
      intro z
      rcases List.mem_cons.mp z with z | z
      · exact hxp z
      · exact tail z
theorem line_once {n : Nat} {re : Bool} (hn : 0 < n) {U : List Int} (hU : U.Nodup) (hUn : U.length ≤ n) : ∀ (seg l : List Int), l.Nodup → l.length ≤ n → (∀ x ∈ seg, x ∈ U) → (lackP seg (lineL n re l seg)).Nodup
  | [], _, _, _, _ => List.nodup_nil
  | p :: r, l, nd, hl, hs => by
    have ih := line_once (re := re) hn hU hUn r (lineStep n re l p) (lineStep_nodup nd) (lineStep_len hn hl) fun x hx => hs x (List.mem_cons_of_mem _ hx)
    show (lackP (p :: r) ((!decide (p ∈ l)) :: lineL n re (lineStep n re l p) r)).Nodup
    by_cases h : p ∈ l
    · have e : (!decide (p ∈ l)) = false := by simp [h]
      rw [e]
      exact ih
    · have e : (!decide (p ∈ l)) = true := by simp [h]
      rw [e]
      refine List.nodup_cons.mpr ⟨?_, ih⟩
      have nd' : (lineStep n re l p).Nodup := lineStep_nodup nd
      have hl' : (lineStep n re l p).length ≤ n := lineStep_len hn hl
      obtain ⟨A, eA⟩ : ∃ A, lineStep n re l p = A ++ p :: [] := by
        unfold lineStep
        rw [if_neg h]
        exact ⟨_, rfl⟩
      rw [eA] at nd' hl' ⊢
      exact line_stays hn hU hUn (hs p List.mem_cons_self) r A [] nd' hl' (fun b hb => by cases hb) fun x hx => hs x (List.mem_cons_of_mem _ hx)
end CK

/-! No way has fewer lacks than there are stretches. -/
namespace CK
/-- a way, cut behind an ask -/
theorem Way.cut {n : Nat} (hn : 0 < n) {q : Int} {Y : List Int} : ∀ {X C : List Int} {k : Nat}, C.Nodup → C.length ≤ n → Way n C (X ++ q :: Y) k →
    ∃ C1 k1 k2, k = k1 + k2 ∧ Way n C1 Y k2 ∧ C1.Nodup ∧ C1.length ≤ n ∧ q ∈ C1 ∧ (k1 = 0 → ∀ x ∈ X ++ [q], x ∈ C)
  | [], C, k, nd, hl, w => by
    cases w with
    | @hit _ _ _ k h w => exact ⟨C, 0, k, by omega, w, nd, hl, h, fun _ x hx => by
        have e : x = q := by simpa using hx
        rw [e]
        exact h⟩
    | @room _ _ _ k h lt w => exact ⟨_, 1, k, by omega, w, List.nodup_cons.mpr ⟨h, nd⟩, by rw [List.length_cons]; omega, List.mem_cons_self, fun z => by omega⟩
    | @out _ _ f _ k h ge hf w =>
      have l1 := List.length_erase_of_mem hf
      have l2 := List.length_pos_of_mem hf
      exact ⟨_, 1, k, by omega, w, List.nodup_cons.mpr ⟨fun z => h (List.mem_of_mem_erase z), nd.erase f⟩, by rw [List.length_cons]; omega, List.mem_cons_self, fun z => by omega⟩
  | x :: X, C, k, nd, hl, w0 => by
    have w' : Way n C (x :: (X ++ q :: Y)) k := w0
    clear w0
    cases w' with
    | @hit _ _ _ k h w =>
      obtain ⟨C1, k1, k2, e, w1, n1, l1, m1, z⟩ := Way.cut hn nd hl w
      refine ⟨C1, k1, k2, e, w1, n1, l1, m1, fun e0 y hy => ?_⟩
      rcases List.mem_cons.mp hy with rfl | hy
      · exact h
      · exact z e0 y hy
    | @room _ _ _ k h lt w =>
      obtain ⟨C1, k1, k2, e, w1, n1, l1, m1, _⟩ := Way.cut hn (List.nodup_cons.mpr ⟨h, nd⟩) (by rw [List.length_cons]; omega) w
      exact ⟨C1, k1 + 1, k2, by omega, w1, n1, l1, m1, fun z => by omega⟩
    | @out _ _ f _ k h ge hf w =>
      have g1 := List.length_erase_of_mem hf
      have g2 := List.length_pos_of_mem hf
      obtain ⟨C1, k1, k2, e, w1, n1, l1, m1, _⟩ := Way.cut hn (List.nodup_cons.mpr ⟨fun z => h (List.mem_of_mem_erase z), nd.erase f⟩) (by rw [List.length_cons]; omega) w
      exact ⟨C1, k1 + 1, k2, by omega, w1, n1, l1, m1, fun z => by omega⟩
/-- more than n unlike pages are asked for -/
def Many (n : Nat) (xs : List Int) : Prop := ∃ U : List Int, U.Nodup ∧ n < U.length ∧ ∀ u ∈ U, u ∈ xs
/-- each part goes on as far as can be: with the next ask it has too many unlike pages -/
def Far (n : Nat) : List (List Int) → Prop
  | [] => True
  | a :: rest => (∀ q w r, rest = (q :: w) :: r → Many n (a ++ [q])) ∧ Far n rest
theorem parts_way {n : Nat} (hn : 0 < n) : ∀ (rest : List (List Int)) (p : Int) (W C : List Int) (k : Nat), (∀ a ∈ rest, a ≠ []) → Far n ((p :: W) :: rest) → C.Nodup → C.length ≤ n → p ∈ C → Way n C (W ++ rest.flatten) k → rest.length ≤ k
  | [], _, _, _, _, _, _, _, _, _, _ => Nat.zero_le _
  | [] :: _, _, _, _, _, ne, _, _, _, _, _ => absurd rfl (ne [] List.mem_cons_self)
  | (q :: W') :: rest, p, W, C, k, ne, far, nd, hl, hp, w => by
    have e : W ++ ((q :: W') :: rest).flatten = W ++ q :: (W' ++ rest.flatten) := by simp
    rw [e] at w
    obtain ⟨C1, k1, k2, ek, w1, n1, l1, m1, z⟩ := Way.cut hn nd hl w
    have ih := parts_way hn rest q W' C1 k2 (fun a ha => ne a (List.mem_cons_of_mem _ ha)) far.2 n1 l1 m1 w1
    obtain ⟨U, u1, u2, u3⟩ := far.1 q W' rest rfl
    have k1p : k1 ≠ 0 := fun k0 => by
      have sub := len_sub u1 (ys := C) fun u hu => by
        have m := u3 u hu
        rcases List.mem_cons.mp (show u ∈ p :: (W ++ [q]) from m) with rfl | m
        · exact hp
        · exact z k0 u m
      omega
    rw [List.length_cons]
    omega
/-- a row that is cut into so many parts -/
theorem parts_least {n : Nat} (hn : 0 < n) {parts : List (List Int)} {k : Nat} (ne : ∀ a ∈ parts, a ≠ []) (far : Far n parts) (w : Way n [] parts.flatten k) : parts.length ≤ k := by
  cases parts with
  | nil => exact Nat.zero_le _
  | cons a rest =>
    cases a with
    | nil => exact absurd rfl (ne [] List.mem_cons_self)
    | cons p W =>
      have e : ((p :: W) :: rest).flatten = [] ++ p :: (W ++ rest.flatten) := by simp
      rw [e] at w
      obtain ⟨C1, k1, k2, ek, w1, n1, l1, m1, z⟩ := Way.cut hn List.nodup_nil (Nat.zero_le _) w
      have q := parts_way hn rest p W C1 k2 (fun a ha => ne a (List.mem_cons_of_mem _ ha)) far n1 l1 m1 w1
      have k1p : k1 ≠ 0 := fun k0 => by
        have := z k0 p (by simp)
        cases this
      rw [List.length_cons]
      omega
end CK

/-! The hand is a way of letting go. -/
namespace CK
def keepD (s : DS) : List Int := s.held.filterMap id
theorem mem_keep {l : List (Option Int)} {p : Int} : p ∈ l.filterMap id ↔ some p ∈ l := by
  rw [List.mem_filterMap]
  exact ⟨fun ⟨a, h, e⟩ => by rw [← show a = some p from e]; exact h, fun h => ⟨some p, h, rfl⟩⟩
theorem keep_new : ∀ {l : List (Option Int)} {i : Nat} {p : Int}, l[i]? = some none → ((l.set i (some p)).filterMap id).Perm (p :: l.filterMap id)
  | [], i, p, h => by simp at h
  | a :: l, 0, p, h => by
    have e : a = none := Option.some.inj h
    subst e
    exact .refl _
  | a :: l, i + 1, p, h => by
    have ih := keep_new (l := l) (i := i) (p := p) h
    cases a with
    | none => exact ih
    | some x => exact (ih.cons x).trans (.swap _ _ _)
theorem keep_put : ∀ {l : List (Option Int)} {i : Nat} {p q : Int}, (l.filterMap id).Nodup → l[i]? = some (some q) → ((l.set i (some p)).filterMap id).Perm (p :: (l.filterMap id).erase q)
  | [], i, p, q, _, h => by simp at h
  | a :: l, 0, p, q, nd, h => by
    have e : a = some q := Option.some.inj h
    subst e
    show (p :: l.filterMap id).Perm (p :: (q :: l.filterMap id).erase q)
    rw [List.erase_cons_head]
  | a :: l, i + 1, p, q, nd, h => by
    cases a with
    | none => exact keep_put (l := l) (i := i) nd h
    | some x =>
      have nd2 : (x :: l.filterMap id).Nodup := nd
      have ih := keep_put (l := l) (i := i) (p := p) (List.nodup_cons.mp nd2).2 h
      have hq : q ∈ l.filterMap id := mem_keep.mpr (List.mem_of_getElem? h)
      have xq : x ≠ q := fun z => (List.nodup_cons.mp nd2).1 (z ▸ hq)
      show (x :: (l.set i (some p)).filterMap id).Perm (p :: (x :: l.filterMap id).erase q)
      rw [List.erase_cons_tail (by simpa using xq)]
      exact (ih.cons x).trans (.swap _ _ _)
theorem keep_less : ∀ {l : List (Option Int)}, none ∈ l → (l.filterMap id).length < l.length
  | [], h => by cases h
  | none :: l, _ => by
    show (l.filterMap id).length < l.length + 1
    exact Nat.lt_succ_of_le (List.length_filterMap_le _ _)
  | some x :: l, h => by
    have h2 : none ∈ l := by simpa using h
    exact Nat.succ_lt_succ (keep_less h2)
theorem keep_full : ∀ {l : List (Option Int)}, none ∉ l → (l.filterMap id).length = l.length
  | [], _ => rfl
  | none :: l, h => absurd List.mem_cons_self h
  | some x :: l, h => congrArg Nat.succ (keep_full (l := l) fun z => h (List.mem_cons_of_mem _ z))
/-- the rooms fill up in turn; then all stay full -/
def Filled (n : Nat) (s : DS) : Prop := none ∉ s.held ∨ (s.hand < n ∧ (∀ i, i < s.hand → s.held[i]? ≠ some none) ∧ ∀ i, s.hand ≤ i → i < n → s.held[i]? = some none ∧ s.marks[i]? = some false)
theorem filled_new {n : Nat} (hn : 0 < n) : Filled n (DS.new n) := by
  refine .inr ⟨hn, fun i hi => absurd hi (Nat.not_lt_zero i), fun i _ hi => ?_⟩
  show (List.replicate n none)[i]? = some none ∧ (List.replicate n false)[i]? = some false
  rw [List.getElem?_replicate, if_pos hi, List.getElem?_replicate, if_pos hi]
  exact ⟨rfl, rfl⟩
theorem pass_stop {s : DS} (h : s.marks[s.hand]? = some false) : s.pass = (s.marks, s.hand, []) := by
  unfold DS.pass
  cases s.marks.count true with
  | zero => rfl
  | succ k =>
    show (if s.marks[s.hand]? = some true then _ else (s.marks, s.hand, [])) = _
    rw [if_neg (by rw [h]; simp)]
theorem way_hand {n : Nat} (hn : 0 < n) : ∀ (row : List Int) (s : DS), s.WF n → (keepD s).Nodup → Filled n s → Way n (keepD s) row (((tellsL s row).map (·.1)).count true)
  | [], s, _, _, _ => .nil _
  | p :: r, s, W, nd, F => by
    have W' : (s.ask p).WF n := DS.ask_wf W
    show Way n (keepD s) (p :: r) (List.count true ((s.tells p).1 :: (tellsL (s.ask p) r).map (·.1)))
    by_cases hp : some p ∈ s.held
    · have e1 : (s.tells p).1 = false := by unfold DS.tells; rw [if_pos hp]
      have e2 : s.ask p = s.hit p := by unfold DS.ask; rw [if_pos hp]
      rw [e1, List.count_cons_of_ne (by decide), e2]
      rw [e2] at W'
      refine .hit (mem_keep.mpr hp) (way_hand hn r (s.hit p) W' nd ?_)
      rcases F with F | ⟨f1, f2, f3⟩
      · exact .inl F
      · refine .inr ⟨f1, f2, fun i h1 h2 => ⟨(f3 i h1 h2).1, ?_⟩⟩
        show (s.marks.set (s.held.idxOf (some p)) true)[i]? = some false
        have ne : s.held.idxOf (some p) ≠ i := fun z => by
          have g := idx_at hp
          rw [z, (f3 i h1 h2).1] at g
          cases g
        rw [List.getElem?_set_ne ne]
        exact (f3 i h1 h2).2
    · have e1 : (s.tells p).1 = true := by unfold DS.tells; rw [if_neg hp]
      have e2 : s.ask p = s.lack p := by unfold DS.ask; rw [if_neg hp]
      rw [e1, List.count_cons_self, e2]
      rw [e2] at W'
      have hpk : p ∉ keepD s := fun z => hp (mem_keep.mp z)
      have hlt := W.passlt
      rcases F with F | ⟨f1, f2, f3⟩
      · have hi : s.pass.2.1 < s.held.length := by rw [W.h]; exact hlt
        obtain ⟨q, hq⟩ : ∃ q, s.held[s.pass.2.1]? = some (some q) := by
          cases g : s.held[s.pass.2.1]'hi with
          | none => exact absurd (g ▸ List.getElem_mem hi) F
          | some q => exact ⟨q, by rw [List.getElem?_eq_getElem hi, g]⟩
        have pm : (keepD (s.lack p)).Perm (p :: (keepD s).erase q) := keep_put nd hq
        have nd' : (keepD (s.lack p)).Nodup := pm.nodup_iff.mpr (List.nodup_cons.mpr ⟨fun z => hpk (List.mem_of_mem_erase z), nd.erase q⟩)
        have F' : Filled n (s.lack p) := .inl fun z => by
          have z' : none ∈ s.held.set s.pass.2.1 (some p) := z
          rcases List.mem_or_eq_of_mem_set z' with z' | z'
          · exact F z'
          · cases z'
        refine .out hpk (by rw [show (keepD s).length = s.held.length from keep_full F, W.h]; exact Nat.le_refl _) (mem_keep.mpr (List.mem_of_getElem? hq)) ?_
        exact (way_hand hn r (s.lack p) W' nd' F').perm pm
      · have g := f3 s.hand (Nat.le_refl _) f1
        have st := pass_stop g.2
        have pm : (keepD (s.lack p)).Perm (p :: keepD s) := by
          show ((s.held.set s.pass.2.1 (some p)).filterMap id).Perm _
          rw [st]
          exact keep_new g.1
        have nd' : (keepD (s.lack p)).Nodup := pm.nodup_iff.mpr (List.nodup_cons.mpr ⟨hpk, nd⟩)
        have eh : (s.lack p).held = s.held.set s.hand (some p) := by
          show s.held.set s.pass.2.1 (some p) = _
          rw [st]
        have em : (s.lack p).marks = s.marks.set s.hand true := by
          show s.pass.1.set s.pass.2.1 true = _
          rw [st]
        have en : (s.lack p).hand = (s.hand + 1) % n := by
          show (s.pass.2.1 + 1) % s.held.length = _
          rw [st, W.h]
        have hset : ∀ i, i ≠ s.hand → (s.lack p).held[i]? = s.held[i]? := fun i hi => by
          rw [eh, List.getElem?_set_ne (Ne.symm hi)]
        have hat : (s.lack p).held[s.hand]? = some (some p) := by
          rw [eh, List.getElem?_set_self (by rw [W.h]; exact f1)]
        have F' : Filled n (s.lack p) := by
          by_cases hl : s.hand + 1 = n
          · refine .inl fun z => ?_
            obtain ⟨i, hi, gi⟩ := List.mem_iff_getElem.mp z
            have gi' : (s.lack p).held[i]? = some none := by rw [List.getElem?_eq_getElem hi, gi]
            have hin : i < n := by rw [← W'.h]; exact hi
            by_cases hc : i = s.hand
            · rw [hc, hat] at gi'
              cases gi'
            · rw [hset i hc] at gi'
              exact f2 i (by omega) gi'
          · have en' : (s.lack p).hand = s.hand + 1 := by
              rw [en]
              exact Nat.mod_eq_of_lt (by omega)
            refine .inr ⟨by omega, fun i hi => ?_, fun i h1 h2 => ?_⟩
            · by_cases hc : i = s.hand
              · rw [hc, hat]
                intro z
                cases z
              · rw [hset i hc]
                exact f2 i (by omega)
            · have hc : i ≠ s.hand := by omega
              refine ⟨?_, ?_⟩
              · rw [hset i hc]
                exact (f3 i (by omega) h2).1
              · rw [em, List.getElem?_set_ne (Ne.symm hc)]
                exact (f3 i (by omega) h2).2
        have mem : none ∈ s.held := List.mem_of_getElem? g.1
        refine .room hpk (by rw [← W.h]; exact keep_less mem) ?_
        exact (way_hand hn r (s.lack p) W' nd' F').perm pm
/-- each rule is a way of letting go, from no page on -/
theorem way_rule {n : Nat} (hn : 0 < n) (rule : Rl) (row : List Int) : Way n [] row ((lackB n rule row).count true) := by
  cases rule with
  | hand =>
    have e : keepD (DS.new n) = [] := by
      show (List.replicate n none).filterMap id = []
      rw [List.filterMap_replicate]
      rfl
    have w := way_hand hn row (DS.new n) (DS.new_wf hn) (by rw [e]; exact List.nodup_nil) (filled_new hn)
    rw [e] at w
    exact w
  | unseen => exact way_line hn row [] List.nodup_nil (Nat.zero_le _)
  | first => exact way_line hn row [] List.nodup_nil (Nat.zero_le _)
end CK

/-! Who lets the farthest go is the best: as a way. -/
namespace CK
theorem snoc_perm (C : List Int) (p : Int) : (C ++ [p]).Perm (p :: C) := by
  have q := List.perm_append_comm (l₁ := C) (l₂ := [p])
  exact q
theorem best_bel_at {n : Nat} (hn : 0 < n) (row : List Int) : ∀ (m i : Nat), row.length - i = m → i ≤ row.length → (bestTo n row i).lacks.length ≤ (bestS n row).lacks.length ∧ Bel n (bestTo n row i).C (row.drop i) ((bestS n row).lacks.length - (bestTo n row i).lacks.length)
  | 0, i, hm, hi => by
    have e : i = row.length := by omega
    subst e
    rw [List.drop_length]
    have e2 : (bestS n row).lacks.length - (bestTo n row row.length).lacks.length = 0 := Nat.sub_self _
    rw [e2]
    exact ⟨Nat.le_refl _, .nil _⟩
  | m + 1, i, hm, hi => by
    have hi' : i < row.length := by omega
    have ei : row[i]? = some (row[i]'hi') := List.getElem?_eq_getElem hi'
    obtain ⟨ih1, ih2⟩ := best_bel_at hn row m (i + 1) (by omega) (by omega)
    have Ok := bestTo_ok hn row i
    rw [drop_at ei]
    rw [bestTo_succ ei] at ih1 ih2
    unfold BS.step at ih1 ih2
    generalize row[i]'hi' = p at *
    by_cases hin : p ∈ (bestTo n row i).C
    · rw [if_pos hin] at ih1 ih2
      exact ⟨ih1, .hit hin ih2⟩
    · rw [if_neg hin] at ih1 ih2
      by_cases hf : (bestTo n row i).C.length = n
      · rw [if_pos hf] at ih1 ih2
        have hne : (bestTo n row i).C ≠ [] := by intro z; rw [z] at hf; simp at hf; omega
        have F := far_ok (row := row) (i := i) hne
        generalize far row i (bestTo n row i).C = f at *
        have l1 : (bestTo n row i).lacks.length + 1 ≤ (bestS n row).lacks.length := by
          have := ih1
          rw [List.length_append] at this
          exact this
        refine ⟨by omega, ?_⟩
        have e3 : (bestS n row).lacks.length - (bestTo n row i).lacks.length = ((bestS n row).lacks.length - ((bestTo n row i).lacks ++ [i]).length) + 1 := by
          rw [List.length_append]
          simp
          omega
        rw [e3]
        refine .out hin (by omega) F.mem (fun y hy => ?_) (ih2.perm ?_)
        · have h1 := F.far y hy
          have hy2 : y ≠ p := by intro z; rw [z] at hy; exact hin hy
          have hf2 : f ≠ p := by intro z; rw [← z] at hin; exact hin F.mem
          rw [nxt_on ei hy2, nxt_on ei hf2] at h1
          unfold nxt at h1
          omega
        · rw [Ok.nd.erase_eq_filter]
          exact snoc_perm _ _
      · rw [if_neg hf] at ih1 ih2
        have l1 : (bestTo n row i).lacks.length + 1 ≤ (bestS n row).lacks.length := by
          have := ih1
          rw [List.length_append] at this
          exact this
        refine ⟨by omega, ?_⟩
        have e3 : (bestS n row).lacks.length - (bestTo n row i).lacks.length = ((bestS n row).lacks.length - ((bestTo n row i).lacks ++ [i]).length) + 1 := by
          rw [List.length_append]
          simp
          omega
        rw [e3]
        have := Ok.le
        exact .room hin (by omega) (ih2.perm (snoc_perm _ _))
theorem best_bel {n : Nat} (hn : 0 < n) (row : List Int) : Bel n [] row (bestS n row).lacks.length := by
  have q := (best_bel_at hn row row.length 0 (by omega) (Nat.zero_le _)).2
  exact q
theorem best_least {n : Nat} (hn : 0 < n) {row : List Int} {k : Nat} (w : Way n [] row k) : (bestS n row).lacks.length ≤ k := (best_bel hn row).least List.nodup_nil (Nat.zero_le _) w
theorem placesT_len : ∀ (i : Nat) (xs : List Bool), (placesT i xs).length = xs.count true
  | _, [] => rfl
  | i, b :: r => by
    unfold placesT
    cases b with
    | true => simp [placesT_len (i + 1) r]
    | false => simp [placesT_len (i + 1) r]
/-- no rule lacks more seldom -/
theorem best_rule {n : Nat} (hn : 0 < n) (rule : Rl) (row : List Int) : (bestS n row).lacks.length ≤ (lacksR n rule row).length := by
  unfold lacksR
  rw [placesT_len]
  exact best_least hn (way_rule hn rule row)
end CK

/-! In a part of a row with no more unlike pages than rooms no page lacks twice: the hand. -/
namespace CK
/-- the room k behind the one that follows i, round the dial -/
def rnd (n i k : Nat) : Nat := (i + 1 + k) % n
theorem rnd_eq {n i k : Nat} (hi : i < n) (hk : k < n) : rnd n i k = if i + 1 + k < n then i + 1 + k else i + 1 + k - n := by
  unfold rnd
  split
  · exact Nat.mod_eq_of_lt (by omega)
  · rw [Nat.mod_eq_sub_mod (by omega)]
    exact Nat.mod_eq_of_lt (by omega)
theorem rnd_lt {n i k : Nat} (hi : i < n) : rnd n i k < n := Nat.mod_lt _ (by omega)
theorem rnd_inj {n i k j : Nat} (hi : i < n) (hk : k < n) (hj : j < n) (e : rnd n i k = rnd n i j) : k = j := by
  rw [rnd_eq hi hk, rnd_eq hi hj] at e
  split at e <;> split at e <;> omega
theorem rnd_last {n i : Nat} (hi : i < n) : rnd n i (n - 1) = i := by
  rw [rnd_eq hi (by omega)]
  split <;> omega
theorem rnd_ne {n i k : Nat} (hi : i < n) (hk : k < n - 1) : rnd n i k ≠ i := fun e => by
  have := rnd_inj hi (by omega) (by omega) (e.trans (rnd_last hi).symm)
  omega
theorem rnd_sur {n i j : Nat} (hi : i < n) (hj : j < n) (ne : j ≠ i) : ∃ k, k < n - 1 ∧ rnd n i k = j := by
  by_cases h : i < j
  · refine ⟨j - i - 1, by omega, ?_⟩
    rw [rnd_eq hi (by omega)]
    split <;> omega
  · refine ⟨j + n - i - 1, by omega, ?_⟩
    rw [rnd_eq hi (by omega)]
    split <;> omega
theorem rnd_next {n i k : Nat} (hi : i < n) (hk : k + 1 < n) : (rnd n i k + 1) % n = rnd n i (k + 1) := by
  have e := rnd_eq hi (show k < n by omega)
  have e2 := rnd_eq hi hk
  rw [e2, e]
  split
  · split
    · exact Nat.mod_eq_of_lt (by omega)
    · have : i + 1 + k + 1 = n := by omega
      rw [this, Nat.mod_self]
      omega
  · split
    · omega
    · rw [Nat.mod_eq_of_lt (by omega)]
      omega
/-- the page of the room j is one of U -/
def InU (held : List (Option Int)) (U : List Int) (j : Nat) : Prop := ∃ x ∈ U, held[j]? = some (some x)
/-- the hand came to h since i was asked for: what it passed by -/
structure HInv (n : Nat) (U : List Int) (held : List (Option Int)) (i hp : Nat) (m : List Bool) (h : Nat) : Prop where
  hh : h = rnd n i hp
  lt : hp < n
  a : m[i]? = some true → ∀ k, k < n - 1 → k < hp → m[rnd n i k]? = some true → InU held U (rnd n i k)
  b : m[i]? = some false → ∀ k, k < n - 1 → (k < hp → InU held U (rnd n i k)) ∧ (hp ≤ k → m[rnd n i k]? = some true → InU held U (rnd n i k))
section
variable {n : Nat} {U : List Int} {held : List (Option Int)} {i : Nat}
theorem HInv.pass1 {m : List Bool} {h hp : Nat} (I : HInv n U held i hp m h) (hi : i < n) (hm : m.length = n) (ht : m[h]? = some true) : ∃ hp', HInv n U held i hp' (m.set h false) ((h + 1) % n) := by
  have hln : h < m.length := (List.getElem?_eq_some_iff.mp ht).1
  have self : (m.set h false)[h]? = some false := by rw [List.getElem?_set_self hln]
  by_cases hl : hp = n - 1
  · have hhi : h = i := by rw [I.hh, hl]; exact rnd_last hi
    subst hhi
    refine ⟨0, by rfl, by omega, fun z => ?_, fun _ k hk => ⟨fun z => absurd z (Nat.not_lt_zero k), fun _ z => ?_⟩⟩
    · rw [self] at z
      cases z
    · rw [List.getElem?_set_ne (Ne.symm (rnd_ne hi hk))] at z
      exact I.a ht k hk (by omega) z
  · have lt := I.lt
    have hne : h ≠ i := by rw [I.hh]; exact rnd_ne hi (by omega)
    have mi : (m.set h false)[i]? = m[i]? := List.getElem?_set_ne hne
    refine ⟨hp + 1, by rw [I.hh]; exact rnd_next hi (by omega), by omega, fun z k hk hlt z2 => ?_, fun z k hk => ⟨fun hlt => ?_, fun hle z2 => ?_⟩⟩
    · rw [mi] at z
      by_cases e : k = hp
      · rw [e, ← I.hh, self] at z2
        cases z2
      · have ne : h ≠ rnd n i k := fun q => e (rnd_inj hi (by omega) lt (q.symm.trans I.hh))
        rw [List.getElem?_set_ne ne] at z2
        exact I.a z k hk (by omega) z2
    · rw [mi] at z
      by_cases e : k = hp
      · rw [e]
        exact (I.b z hp (by omega)).2 (Nat.le_refl _) (by rw [← I.hh]; exact ht)
      · exact (I.b z k hk).1 (by omega)
    · rw [mi] at z
      have ne : h ≠ rnd n i k := fun q => by
        have := rnd_inj hi (by omega) lt (q.symm.trans I.hh)
        omega
      rw [List.getElem?_set_ne ne] at z2
      exact (I.b z k hk).2 (by omega) z2
theorem HInv.pass (hi : i < n) : ∀ (fuel : Nat) (m : List Bool) (h hp : Nat), m.length = n → HInv n U held i hp m h → ∃ hp', HInv n U held i hp' (passF fuel m h).1 (passF fuel m h).2.1
  | 0, m, h, hp, _, I => ⟨hp, I⟩
  | k + 1, m, h, hp, hm, I => by
    unfold passF
    by_cases ht : m[h]? = some true
    · rw [if_pos ht]
      obtain ⟨hp', J⟩ := I.pass1 hi hm ht
      have q := HInv.pass hi k (m.set h false) ((h + 1) % m.length) hp' (by rw [List.length_set]; exact hm) (by rw [hm]; exact J)
      exact q
    · rw [if_neg ht]
      exact ⟨hp, I⟩
theorem pass_ends : ∀ (k : Nat) (m : List Bool) (h : Nat), m.count true ≤ k → h < m.length → (passF k m h).1[(passF k m h).2.1]? = some false
  | 0, m, h, hc, hl => by
    show m[h]? = some false
    cases g : m[h]'hl with
    | false => rw [List.getElem?_eq_getElem hl, g]
    | true =>
      have mem : true ∈ m := g ▸ List.getElem_mem hl
      have := List.count_pos_iff.mpr mem
      omega
  | k + 1, m, h, hc, hl => by
    unfold passF
    by_cases ht : m[h]? = some true
    · rw [if_pos ht]
      have cs := count_set ht
      exact pass_ends k (m.set h false) ((h + 1) % m.length) (by omega) (by rw [List.length_set]; exact Nat.mod_lt _ (by omega))
    · rw [if_neg ht]
      show m[h]? = some false
      cases g : m[h]'hl with
      | false => rw [List.getElem?_eq_getElem hl, g]
      | true => exact absurd (by rw [List.getElem?_eq_getElem hl, g]) ht
end
theorem InU.set {U : List Int} {held : List (Option Int)} {j h : Nat} {x : Int} (xU : x ∈ U) (hl : h < held.length) (I : j = h ∨ InU held U j) : InU (held.set h (some x)) U j := by
  by_cases e : j = h
  · exact ⟨x, xU, by rw [e, List.getElem?_set_self hl]⟩
  · obtain ⟨y, yU, g⟩ := I.resolve_left e
    exact ⟨y, yU, by rw [List.getElem?_set_ne (Ne.symm e)]; exact g⟩
/-- an ask for a page of U, another one than p's that lacks: p stays where it is -/
theorem hand_step {n : Nat} {U : List Int} {s : DS} {i hp : Nat} {p x : Int} (hU : U.Nodup) (hUn : U.length ≤ n) (W : s.WF n) (nd : (keepD s).Nodup) (hi : i < n) (pU : p ∈ U) (hp_ : s.held[i]? = some (some p)) (I : HInv n U s.held i hp s.marks s.hand) (xU : x ∈ U) :
    ∃ hp', (s.ask x).held[i]? = some (some p) ∧ HInv n U (s.ask x).held i hp' (s.ask x).marks (s.ask x).hand := by
  by_cases hx : some x ∈ s.held
  · have e : s.ask x = s.hit x := by unfold DS.ask; rw [if_pos hx]
    rw [e]
    have gx : s.held[s.held.idxOf (some x)]? = some (some x) := idx_at hx
    have jl : s.held.idxOf (some x) < s.marks.length := by rw [W.m, ← W.h]; exact (List.getElem?_eq_some_iff.mp gx).1
    have inj : InU s.held U (s.held.idxOf (some x)) := ⟨x, xU, gx⟩
    refine ⟨hp, hp_, I.hh, I.lt, fun z k hk hlt z2 => ?_, fun z k hk => ⟨fun hlt => ?_, fun hle z2 => ?_⟩⟩
    · have z : (s.marks.set (s.held.idxOf (some x)) true)[i]? = some true := z
      have z2 : (s.marks.set (s.held.idxOf (some x)) true)[rnd n i k]? = some true := z2
      by_cases e2 : rnd n i k = s.held.idxOf (some x)
      · rw [e2]
        exact inj
      · rw [List.getElem?_set_ne (Ne.symm e2)] at z2
        by_cases e3 : s.held.idxOf (some x) = i
        · have il : i < s.marks.length := by rw [W.m]; exact hi
          cases g : s.marks[i]'il with
          | true => exact I.a (by rw [List.getElem?_eq_getElem il, g]) k hk hlt z2
          | false => exact (I.b (by rw [List.getElem?_eq_getElem il, g]) k hk).1 hlt
        · rw [List.getElem?_set_ne e3] at z
          exact I.a z k hk hlt z2
    · have z : (s.marks.set (s.held.idxOf (some x)) true)[i]? = some false := z
      have e3 : s.held.idxOf (some x) ≠ i := fun q => by
        rw [q, List.getElem?_set_self (by rw [W.m]; exact hi)] at z
        cases z
      rw [List.getElem?_set_ne e3] at z
      exact (I.b z k hk).1 hlt
    · have z : (s.marks.set (s.held.idxOf (some x)) true)[i]? = some false := z
      have z2 : (s.marks.set (s.held.idxOf (some x)) true)[rnd n i k]? = some true := z2
      have e3 : s.held.idxOf (some x) ≠ i := fun q => by
        rw [q, List.getElem?_set_self (by rw [W.m]; exact hi)] at z
        cases z
      rw [List.getElem?_set_ne e3] at z
      by_cases e2 : rnd n i k = s.held.idxOf (some x)
      · rw [e2]
        exact inj
      · rw [List.getElem?_set_ne (Ne.symm e2)] at z2
        exact (I.b z k hk).2 hle z2
  · have e : s.ask x = s.lack x := by unfold DS.ask; rw [if_neg hx]
    rw [e]
    obtain ⟨hp', J⟩ := HInv.pass hi (s.marks.count true) s.marks s.hand hp W.m I
    have J : HInv n U s.held i hp' s.pass.1 s.pass.2.1 := J
    have un : s.pass.1[s.pass.2.1]? = some false := pass_ends _ _ _ (Nat.le_refl _) (by rw [W.m]; exact W.n)
    have hlt := W.passlt
    have hml := W.passm
    have hne : s.pass.2.1 ≠ i := fun q => by
      -- all other rooms hold pages of U: with x there are too many
      have hlast : hp' = n - 1 := rnd_inj hi J.lt (by omega) (by rw [← J.hh, q, rnd_last hi])
      rw [q] at un
      have all : ∀ j, j < n → InU s.held U j := fun j hj => by
        by_cases ej : j = i
        · rw [ej]
          exact ⟨p, pU, hp_⟩
        · obtain ⟨k, hk, ek⟩ := rnd_sur hi hj ej
          rw [← ek]
          exact (J.b un k hk).1 (by omega)
      have noN : none ∉ s.held := fun z => by
        obtain ⟨j, hj, g⟩ := List.mem_iff_getElem.mp z
        obtain ⟨y, _, g2⟩ := all j (by rw [← W.h]; exact hj)
        rw [List.getElem?_eq_getElem hj, g] at g2
        cases g2
      have lk : (keepD s).length = n := by
        rw [show (keepD s).length = s.held.length from keep_full noN, W.h]
      have sub := len_sub (xs := x :: keepD s) (ys := U) (List.nodup_cons.mpr ⟨fun z => hx (mem_keep.mp z), nd⟩) fun y hy => by
        rcases List.mem_cons.mp hy with rfl | hy
        · exact xU
        · obtain ⟨j, hj, g⟩ := List.mem_iff_getElem.mp (mem_keep.mp hy)
          obtain ⟨z, zU, g2⟩ := all j (by rw [← W.h]; exact hj)
          rw [List.getElem?_eq_getElem hj, g] at g2
          injection g2 with g2
          injection g2 with g2
          rw [g2]
          exact zU
      rw [List.length_cons] at sub
      omega
    have hl' : s.pass.2.1 < s.held.length := by rw [W.h]; exact hlt
    have hn1 : hp' < n - 1 := by
      have l0 := J.lt
      have : hp' ≠ n - 1 := fun q => hne (by rw [J.hh, q]; exact rnd_last hi)
      omega
    have hd : (s.pass.2.1 + 1) % s.held.length = rnd n i (hp' + 1) := by
      rw [W.h, J.hh]
      exact rnd_next hi (by omega)
    have mi : (s.pass.1.set s.pass.2.1 true)[i]? = s.pass.1[i]? := List.getElem?_set_ne hne
    refine ⟨hp' + 1, ?_, hd, by omega, fun z k hk hlt2 z2 => ?_, fun z k hk => ⟨fun hlt2 => ?_, fun hle z2 => ?_⟩⟩
    · show (s.held.set s.pass.2.1 (some x))[i]? = _
      rw [List.getElem?_set_ne hne]
      exact hp_
    · have z : (s.pass.1.set s.pass.2.1 true)[i]? = some true := z
      have z2 : (s.pass.1.set s.pass.2.1 true)[rnd n i k]? = some true := z2
      rw [mi] at z
      refine InU.set xU hl' ?_
      by_cases ek : rnd n i k = s.pass.2.1
      · exact .inl ek
      · rw [List.getElem?_set_ne (Ne.symm ek)] at z2
        have : k ≠ hp' := fun q => ek (by rw [q, ← J.hh])
        exact .inr (J.a z k hk (by omega) z2)
    · have z : (s.pass.1.set s.pass.2.1 true)[i]? = some false := z
      rw [mi] at z
      refine InU.set xU hl' ?_
      by_cases ek : k = hp'
      · exact .inl (by rw [ek, ← J.hh])
      · exact .inr ((J.b z k hk).1 (by omega))
    · have z : (s.pass.1.set s.pass.2.1 true)[i]? = some false := z
      have z2 : (s.pass.1.set s.pass.2.1 true)[rnd n i k]? = some true := z2
      rw [mi] at z
      refine InU.set xU hl' (.inr ?_)
      have ek : s.pass.2.1 ≠ rnd n i k := fun q => by
        have := rnd_inj hi (by omega) J.lt (q.symm.trans J.hh)
        omega
      rw [List.getElem?_set_ne ek] at z2
      exact (J.b z k hk).2 (by omega) z2
end CK

/-! In a part of a row with no more unlike pages than rooms no page lacks twice: by each rule. -/
namespace CK
theorem ask_nodup {n : Nat} {s : DS} {x : Int} (W : s.WF n) (nd : (keepD s).Nodup) : (keepD (s.ask x)).Nodup := by
  unfold DS.ask
  by_cases hx : some x ∈ s.held
  · rw [if_pos hx]
    exact nd
  · rw [if_neg hx]
    have hi : s.pass.2.1 < s.held.length := by rw [W.h]; exact W.passlt
    have hk : x ∉ keepD s := fun z => hx (mem_keep.mp z)
    show ((s.held.set s.pass.2.1 (some x)).filterMap id).Nodup
    cases g : s.held[s.pass.2.1]'hi with
    | none => exact (keep_new (by rw [List.getElem?_eq_getElem hi, g])).nodup_iff.mpr (List.nodup_cons.mpr ⟨hk, nd⟩)
    | some q => exact (keep_put nd (by rw [List.getElem?_eq_getElem hi, g])).nodup_iff.mpr (List.nodup_cons.mpr ⟨fun z => hk (List.mem_of_mem_erase z), nd.erase q⟩)
theorem hand_stays {n : Nat} {U : List Int} (hU : U.Nodup) (hUn : U.length ≤ n) {i : Nat} (hi : i < n) {p : Int} (pU : p ∈ U) : ∀ (seg : List Int) (s : DS) (hp : Nat), s.WF n → (keepD s).Nodup → s.held[i]? = some (some p) → HInv n U s.held i hp s.marks s.hand → (∀ x ∈ seg, x ∈ U) →
    p ∉ lackP seg ((tellsL s seg).map (·.1))
  | [], _, _, _, _, _, _, _ => by
    intro z
    cases z
  | x :: r, s, hp, W, nd, hp_, I, hs => by
    have xU := hs x List.mem_cons_self
    obtain ⟨hp', g, J⟩ := hand_step hU hUn W nd hi pU hp_ I xU
    have ih := hand_stays hU hUn hi pU r (s.ask x) hp' (DS.ask_wf W) (ask_nodup W nd) g J fun y hy => hs y (List.mem_cons_of_mem _ hy)
    show p ∉ lackP (x :: r) ((s.tells x).1 :: (tellsL (s.ask x) r).map (·.1))
    by_cases hx : some x ∈ s.held
    · have e : (s.tells x).1 = false := by unfold DS.tells; rw [if_pos hx]
      rw [e]
      exact ih
    · have e : (s.tells x).1 = true := by unfold DS.tells; rw [if_neg hx]
      rw [e]
      intro z
      rcases List.mem_cons.mp z with z | z
      · exact hx (z ▸ List.mem_of_getElem? hp_)
      · exact ih z
theorem hand_once {n : Nat} {U : List Int} (hU : U.Nodup) (hUn : U.length ≤ n) : ∀ (seg : List Int) (s : DS), s.WF n → (keepD s).Nodup → (∀ x ∈ seg, x ∈ U) → (lackP seg ((tellsL s seg).map (·.1))).Nodup
  | [], _, _, _, _ => List.nodup_nil
  | p :: r, s, W, nd, hs => by
    have hr : ∀ y ∈ r, y ∈ U := fun y hy => hs y (List.mem_cons_of_mem _ hy)
    have ih := hand_once hU hUn r (s.ask p) (DS.ask_wf W) (ask_nodup W nd) hr
    show (lackP (p :: r) ((s.tells p).1 :: (tellsL (s.ask p) r).map (·.1))).Nodup
    by_cases hx : some p ∈ s.held
    · have e : (s.tells p).1 = false := by unfold DS.tells; rw [if_pos hx]
      rw [e]
      exact ih
    · have e : (s.tells p).1 = true := by unfold DS.tells; rw [if_neg hx]
      have ea : s.ask p = s.lack p := by unfold DS.ask; rw [if_neg hx]
      rw [e]
      refine List.nodup_cons.mpr ⟨?_, ih⟩
      have hi : s.pass.2.1 < n := W.passlt
      have hl : s.pass.2.1 < s.held.length := by rw [W.h]; exact hi
      refine hand_stays hU hUn hi (hs p List.mem_cons_self) r (s.ask p) 0 (DS.ask_wf W) (ask_nodup W nd) ?_ ?_ hr
      · rw [ea]
        show (s.held.set s.pass.2.1 (some p))[s.pass.2.1]? = _
        rw [List.getElem?_set_self hl]
      · rw [ea]
        refine ⟨?_, by omega, fun _ k _ hk => absurd hk (Nat.not_lt_zero k), fun z => ?_⟩
        · show (s.pass.2.1 + 1) % s.held.length = (s.pass.2.1 + 1 + 0) % n
          rw [W.h, Nat.add_zero]
        · have z : (s.pass.1.set s.pass.2.1 true)[s.pass.2.1]? = some false := z
          rw [List.getElem?_set_self (by rw [W.passm]; exact hi)] at z
          cases z
/-! ### a part of the row: what lacks in it -/
/-- the flags behind some asks -/
theorem lineL_app {n : Nat} {re : Bool} : ∀ (xs ys l : List Int), lineL n re l (xs ++ ys) = lineL n re l xs ++ lineL n re (xs.foldl (lineStep n re) l) ys
  | [], _, _ => rfl
  | x :: xs, ys, l => congrArg ((!decide (x ∈ l)) :: ·) (lineL_app xs ys (lineStep n re l x))
theorem tellsL_app : ∀ (xs ys : List Int) (s : DS), tellsL s (xs ++ ys) = tellsL s xs ++ tellsL (afterL s xs) ys
  | [], _, _ => rfl
  | x :: xs, ys, s => congrArg (s.tells x :: ·) (tellsL_app xs ys (s.ask x))
theorem lineF_ok {n : Nat} {re : Bool} (hn : 0 < n) : ∀ (xs l : List Int), l.Nodup → l.length ≤ n → (xs.foldl (lineStep n re) l).Nodup ∧ (xs.foldl (lineStep n re) l).length ≤ n
  | [], _, h1, h2 => ⟨h1, h2⟩
  | x :: xs, l, h1, h2 => lineF_ok hn xs _ (lineStep_nodup h1) (lineStep_len hn h2)
theorem afterL_ok {n : Nat} : ∀ (xs : List Int) (s : DS), s.WF n → (keepD s).Nodup → (afterL s xs).WF n ∧ (keepD (afterL s xs)).Nodup
  | [], _, h1, h2 => ⟨h1, h2⟩
  | x :: xs, s, h1, h2 => afterL_ok xs (s.ask x) (DS.ask_wf h1) (ask_nodup h1 h2)
/-- by each rule: behind pre, in seg, no page lacks twice -/
theorem rule_once {n : Nat} (hn : 0 < n) (rule : Rl) {U : List Int} (hU : U.Nodup) (hUn : U.length ≤ n) (pre seg : List Int) (hs : ∀ x ∈ seg, x ∈ U) : ∃ fl : List Bool, lackB n rule (pre ++ seg) = lackB n rule pre ++ fl ∧ fl.length = seg.length ∧ (lackP seg fl).Nodup := by
  have len : ∀ (l : List Int) (re : Bool) (ys : List Int), (lineL n re l ys).length = ys.length := fun l re ys => by
    induction ys generalizing l with
    | nil => rfl
    | cons y ys ih => exact congrArg Nat.succ (ih (lineStep n re l y))
  cases rule with
  | hand =>
    have e : keepD (DS.new n) = [] := by
      show (List.replicate n none).filterMap id = []
      rw [List.filterMap_replicate]
      rfl
    obtain ⟨h1, h2⟩ := afterL_ok pre (DS.new n) (DS.new_wf hn) (by rw [e]; exact List.nodup_nil)
    refine ⟨(tellsL (afterL (DS.new n) pre) seg).map (·.1), ?_, by rw [List.length_map, tellsL_len], hand_once hU hUn seg _ h1 h2 hs⟩
    show (tellsL (DS.new n) (pre ++ seg)).map (·.1) = _
    rw [tellsL_app, List.map_append]
    rfl
  | unseen =>
    obtain ⟨h1, h2⟩ := lineF_ok (re := true) hn pre [] List.nodup_nil (Nat.zero_le _)
    exact ⟨_, lineL_app pre seg [], len _ _ _, line_once hn hU hUn seg _ h1 h2 hs⟩
  | first =>
    obtain ⟨h1, h2⟩ := lineF_ok (re := false) hn pre [] List.nodup_nil (Nat.zero_le _)
    exact ⟨_, lineL_app pre seg [], len _ _ _, line_once hn hU hUn seg _ h1 h2 hs⟩
end CK

/-! Papers: no way has fewer lacks than a paper shows. -/
namespace CK
/-- the spells that end in the row and have none of the marked places within; F: the pages asked for before with no marked place since -/
def freeC : List Int → List Int → List Bool → Nat
  | F, p :: r, y :: ys => (if p ∈ F then 1 else 0) + freeC (if y = true then [p] else p :: F) r ys
  | _, _, _ => 0
theorem paper_most {n : Nat} (hn : 0 < n) : ∀ {row : List Int} {C : List Int} {k : Nat}, Way n C row k → C.Nodup → C.length ≤ n → ∀ {F D : List Int} {ys : List Bool}, ys.length = row.length → (∀ c ∈ C, c ∈ F ∨ c ∈ D) →
    row.length ≤ k + freeC F row ys + D.length + (n - 1) * ys.count true
  | [], _, _, _, _, _, _, _, _, _, _ => Nat.zero_le _
  | p :: r, C, k, w, nd, hl, F, D, [], hy, _ => by simp at hy
  | p :: r, C, k, w, nd, hl, F, D, y :: ys, hy, hc => by
    have hy' : ys.length = r.length := by simpa using hy
    have ef : freeC F (p :: r) (y :: ys) = (if p ∈ F then 1 else 0) + freeC (if y = true then [p] else p :: F) r ys := rfl
    rw [ef, List.length_cons]
    -- behind a marked place all but the page asked for are of the one kind
    have fin : ∀ {C' : List Int} {k' : Nat}, Way n (p :: C') r k' → (p :: C').Nodup → (p :: C').length ≤ n → y = true → r.length ≤ k' + freeC (if y = true then [p] else p :: F) r ys + (n - 1) + (n - 1) * ys.count true := fun {C' k'} w' nd' hl' e => by
      have q := paper_most hn w' nd' hl' (F := [p]) (D := C') hy' fun c h => (List.mem_cons.mp h).elim (fun z => .inl (by simp [z])) .inr
      rw [if_pos e]
      rw [List.length_cons] at hl'
      omega
    have cnt : y = true → (n - 1) * (y :: ys).count true = (n - 1) + (n - 1) * ys.count true := fun e => by
      rw [e, List.count_cons_self, Nat.mul_add, Nat.mul_one, Nat.add_comm]
    have cnt0 : y ≠ true → (y :: ys).count true = ys.count true := fun e => List.count_cons_of_ne e
    cases w with
    | hit h w =>
      have fp : y = true → r.length ≤ k + freeC (if y = true then [p] else p :: F) r ys + (n - 1) + (n - 1) * ys.count true := fun e => by
        have l1 := List.length_erase_of_mem h
        have l2 := List.length_pos_of_mem h
        exact fin (C' := C.erase p) (w.perm (List.perm_cons_erase h)) (List.nodup_cons.mpr ⟨fun z => (nd.mem_erase_iff.mp z).1 rfl, nd.erase p⟩) (by rw [List.length_cons]; omega) e
      by_cases hF : p ∈ F
      · rw [if_pos hF]
        by_cases e : y = true
        · have q := fp e
          rw [cnt e]
          omega
        · rw [cnt0 e, if_neg e]
          have q := paper_most hn w nd hl (F := p :: F) (D := D) hy' fun c h => (hc c h).elim (fun z => .inl (List.mem_cons_of_mem _ z)) .inr
          omega
      · have hD : p ∈ D := (hc p h).resolve_left hF
        have d1 := List.length_erase_of_mem hD
        have d2 := List.length_pos_of_mem hD
        by_cases e : y = true
        · have q := fp e
          rw [cnt e]
          omega
        · rw [cnt0 e, if_neg e]
          have q := paper_most hn w nd hl (F := p :: F) (D := D.erase p) hy' fun c h => by
            by_cases ec : c = p
            · exact .inl (by simp [ec])
            · exact (hc c h).elim (fun z => .inl (List.mem_cons_of_mem _ z)) fun z => .inr ((List.mem_erase_of_ne ec).mpr z)
          omega
    | room h lt w =>
      by_cases e : y = true
      · have q := fin w (List.nodup_cons.mpr ⟨h, nd⟩) (by rw [List.length_cons]; omega) e
        rw [cnt e]
        omega
      · rw [cnt0 e, if_neg e]
        have q := paper_most hn w (List.nodup_cons.mpr ⟨h, nd⟩) (by rw [List.length_cons]; omega) (F := p :: F) (D := D) hy' fun c h => (List.mem_cons.mp h).elim (fun z => .inl (by simp [z])) fun z => (hc c z).elim (fun z => .inl (List.mem_cons_of_mem _ z)) .inr
        omega
    | @out _ _ f _ k h ge hf w =>
      have l1 := List.length_erase_of_mem hf
      have l2 := List.length_pos_of_mem hf
      have nd' : (p :: C.erase f).Nodup := List.nodup_cons.mpr ⟨fun z => h (List.mem_of_mem_erase z), nd.erase f⟩
      have hl' : (p :: C.erase f).length ≤ n := by rw [List.length_cons]; omega
      by_cases e : y = true
      · have q := fin w nd' hl' e
        rw [cnt e]
        omega
      · rw [cnt0 e, if_neg e]
        have q := paper_most hn w nd' hl' (F := p :: F) (D := D) hy' fun c h => (List.mem_cons.mp h).elim (fun z => .inl (by simp [z])) fun z => (hc c (List.mem_of_mem_erase z)).elim (fun z => .inl (List.mem_cons_of_mem _ z)) .inr
        omega
/-- from no page on: what the marked places show is no more than the lacks of any way -/
theorem paper_shows {n : Nat} (hn : 0 < n) {row : List Int} {k : Nat} (w : Way n [] row k) {ys : List Bool} (hy : ys.length = row.length) : row.length ≤ k + freeC [] row ys + (n - 1) * ys.count true := by
  have q := paper_most hn w List.nodup_nil (Nat.zero_le _) (F := []) (D := []) hy (fun c h => by cases h)
  simpa using q
end CK

/-! Papers as plain data. -/
namespace CK
open PySem PySem.Spec PyProof.Rows L2
/-- a paper: a rising list of places, all below n -/
def PaperOk (n : Nat) (ps : List Nat) : Prop := ps.Pairwise (· < ·) ∧ ∀ p ∈ ps, p < n
theorem PaperOk.le {n : Nat} : ∀ {ps : List Nat}, PaperOk n ps → ps.length ≤ n := by
  have q : ∀ (ps : List Nat) (m : Nat), ps.Pairwise (· < ·) → (∀ p ∈ ps, m ≤ p ∧ p < n) → m ≤ n → ps.length ≤ n - m := by
    intro ps
    induction ps with
    | nil => intro m _ _ _; exact Nat.zero_le _
    | cons a r ih =>
      intro m h1 h2 h3
      have ha := h2 a (by simp)
      have hr := List.pairwise_cons.mp h1
      have q := ih (a + 1) hr.2 (fun p hp => ⟨hr.1 p hp, (h2 p (by simp [hp])).2⟩) (by omega)
      show r.length + 1 ≤ n - m
      omega
  intro ps h
  have := q ps 0 h.1 (fun p hp => ⟨Nat.zero_le _, h.2 p hp⟩) (Nat.zero_le _)
  omega
/-- whether a place lies within a spell -/
def within (x : Nat × Nat) (ps : List Nat) : Bool := ps.any fun q => decide (x.1 < q) && decide (q < x.2)
/-- how many lacks a paper shows -/
def shownN (n : Int) (row : List Int) (ps : List Nat) : Int :=
  (row.length : Int) - (((spellsL row).filter fun x => !within x ps).length : Int) - (n - 1) * (ps.length : Int)
end CK

/-! Papers: one shows as many as the best lacks; none shows more. -/
namespace CK
/-- where the page that is asked for at b is asked for next -/
def nx (row : List Int) (b : Nat) : Nat := nxt row (row.getD b 0) (b + 1)
theorem nx_at {row : List Int} {b : Nat} {p : Int} (h : row[b]? = some p) : nx row b = nxt row p (b + 1) := by
  unfold nx
  rw [List.getD_eq_getElem?_getD, h]
  rfl
theorem nx_gt (row : List Int) (b : Nat) : b < nx row b := nxt_ge row _ (b + 1)
/-- a page whose next ask is e stays free of the marked places P -/
def okP (row : List Int) (P : List Nat) (e : Nat) : Bool := decide (e < row.length) && P.all fun p => decide (e ≤ p)
/-- the spell from b has none of P within -/
def fr (row : List Int) (P : List Nat) (b : Nat) : Bool := decide (nx row b < row.length) && P.all fun p => !(decide (b < p) && decide (p < nx row b))
theorem all_eq {α : Type} {f g : α → Bool} : ∀ {xs : List α}, (∀ x ∈ xs, f x = g x) → xs.all f = xs.all g
  | [], _ => rfl
  | a :: xs, h => by
    rw [List.all_cons, List.all_cons, h a List.mem_cons_self, all_eq fun x hx => h x (List.mem_cons_of_mem _ hx)]
theorem swap_count {f g : Int → Bool} {p : Int} : ∀ {C : List Int}, C.Nodup → p ∈ C → (∀ y ∈ C, y ≠ p → f y = g y) → C.countP f + (g p).toNat = C.countP g + (f p).toNat
  | a :: C, nd, hp, h => by
    have n2 := List.nodup_cons.mp nd
    by_cases e : a = p
    · subst e
      have q : C.countP f = C.countP g := List.countP_congr fun y hy => by rw [h y (List.mem_cons_of_mem _ hy) (fun z => n2.1 (by rw [← z]; exact hy))]
      rw [List.countP_cons, List.countP_cons, q]
      cases f a <;> cases g a <;> simp
    · have hp' : p ∈ C := (List.mem_cons.mp hp).resolve_left fun z => e z.symm
      have ih := swap_count n2.2 hp' fun y hy => h y (List.mem_cons_of_mem _ hy)
      have q := h a List.mem_cons_self e
      rw [List.countP_cons, List.countP_cons, q]
      omega
theorem count_one {α : Type} [DecidableEq α] {f : α → Bool} {x : α} : ∀ {xs : List α}, xs.Nodup → x ∈ xs → (xs.filter (· != x)).countP f + (f x).toNat = xs.countP f
  | a :: xs, nd, hx => by
    have n2 := List.nodup_cons.mp nd
    by_cases e : a = x
    · subst e
      have q : xs.filter (· != a) = xs := List.filter_eq_self.mpr fun y hy => by simpa using fun z => n2.1 (by rw [← z]; exact hy)
      have q2 : (a :: xs).filter (· != a) = xs.filter (· != a) := by simp
      rw [q2, q, List.countP_cons]
      cases f a <;> simp
    · have hx' : x ∈ xs := (List.mem_cons.mp hx).resolve_left fun z => e z.symm
      have ih := count_one (f := f) n2.2 hx'
      have q2 : (a :: xs).filter (· != x) = a :: xs.filter (· != x) := by simp [e]
      rw [q2, List.countP_cons, List.countP_cons]
      omega
theorem lacks_mono {n : Nat} {row : List Int} {i : Nat} {p : Int} (h : row[i]? = some p) : (bestTo n row (i + 1)).lacks.length = (bestTo n row i).lacks.length + (if p ∈ (bestTo n row i).C then 0 else 1) := by
  rw [bestTo_succ h]
  unfold BS.step
  by_cases hin : p ∈ (bestTo n row i).C
  · rw [if_pos hin, if_pos hin]; rfl
  · rw [if_neg hin, if_neg hin]
    split
    · exact List.length_append
    · exact List.length_append
/-- marked places, chosen from the row's end: so many spells stay free -/
theorem dual_at {n : Nat} (hn : 0 < n) (row : List Int) : ∀ (m i : Nat), row.length - i = m → i ≤ row.length → ∃ P : List Nat, P.Pairwise (· < ·) ∧ (∀ p ∈ P, i ≤ p ∧ p < row.length ∧ 0 < p) ∧ (bestTo n row i).lacks.length ≤ (bestS n row).lacks.length ∧
    (List.range' i m).countP (fr row P) + (bestTo n row i).C.countP (fun y => okP row P (nxt row y i)) + (n - 1) * P.length + ((bestS n row).lacks.length - (bestTo n row i).lacks.length) = m
  | 0, i, hm, hi => by
    have e : i = row.length := by omega
    subst e
    refine ⟨[], List.Pairwise.nil, (fun p hp => nomatch hp), Nat.le_refl _, ?_⟩
    have z : (bestTo n row row.length).C.countP (fun y => okP row [] (nxt row y row.length)) = 0 := by
      rw [List.countP_eq_zero]
      intro y _ q
      have := nxt_ge row y row.length
      unfold okP at q
      rw [Bool.and_eq_true] at q
      have := of_decide_eq_true q.1
      omega
    rw [z]
    show 0 + 0 + 0 + ((bestTo n row row.length).lacks.length - (bestTo n row row.length).lacks.length) = 0
    omega
  | m + 1, i, hm, hi => by
    have hi' : i < row.length := by omega
    have ei : row[i]? = some (row[i]'hi') := List.getElem?_eq_getElem hi'
    obtain ⟨P, pw, pin, le, eq⟩ := dual_at hn row m (i + 1) (by omega) (by omega)
    have Ok := bestTo_ok hn row i
    have enx := nx_at ei
    have lm := lacks_mono (n := n) ei
    have hstep := bestTo_succ (n := n) ei
    unfold BS.step at hstep
    have hit_i := nxt_hit ei
    have on_i : ∀ y, y ≠ row[i]'hi' → nxt row y i = nxt row y (i + 1) := fun y ne => nxt_on ei ne
    generalize row[i]'hi' = p at *
    -- the spell that begins at i
    have fr_i : fr row P i = okP row P (nxt row p (i + 1)) := by
      unfold fr okP
      rw [enx]
      congr 1
      refine all_eq fun q hq => ?_
      have := (pin q hq).1
      have e1 : decide (i < q) = true := decide_eq_true (by omega)
      rw [e1, Bool.true_and]
      by_cases z : q < nxt row p (i + 1)
      · rw [decide_eq_true z, decide_eq_false (by omega)]; rfl
      · rw [decide_eq_false z, decide_eq_true (by omega)]; rfl
    have rng : ∀ Q : List Nat, (List.range' i (m + 1)).countP (fr row Q) = (List.range' (i + 1) m).countP (fr row Q) + (fr row Q i).toNat := fun Q => by
      rw [List.range'_succ, List.countP_cons]
      cases fr row Q i <;> simp
    by_cases hin : p ∈ (bestTo n row i).C
    · -- it is there
      rw [if_pos hin] at hstep lm
      rw [hstep] at eq
      refine ⟨P, pw, fun q hq => ⟨by have := (pin q hq).1; omega, (pin q hq).2⟩, by omega, ?_⟩
      have sw := swap_count (f := fun y => okP row P (nxt row y i)) (g := fun y => okP row P (nxt row y (i + 1))) Ok.nd hin fun y _ ne => by
        show okP row P (nxt row y i) = okP row P (nxt row y (i + 1))
        rw [on_i y ne]
      have one : okP row P (nxt row p i) = true := by
        rw [hit_i]
        unfold okP
        rw [decide_eq_true hi', Bool.true_and, List.all_eq_true]
        intro q hq
        have := (pin q hq).1
        exact decide_eq_true (by omega)
      have sw : (bestTo n row i).C.countP (fun y => okP row P (nxt row y i)) + (okP row P (nxt row p (i + 1))).toNat = (bestTo n row i).C.countP (fun y => okP row P (nxt row y (i + 1))) + (okP row P (nxt row p i)).toNat := sw
      rw [one] at sw
      have t1 : true.toNat = 1 := rfl
      rw [t1] at sw
      rw [rng, fr_i]
      omega
    · rw [if_neg hin] at hstep lm
      have le2 : (bestTo n row i).lacks.length + 1 ≤ (bestS n row).lacks.length := by omega
      have ne : ∀ y ∈ (bestTo n row i).C, y ≠ p := fun y hy z => hin (by rw [← z]; exact hy)
      by_cases hf : (bestTo n row i).C.length = n
      · rw [if_pos hf] at hstep
        have hne : (bestTo n row i).C ≠ [] := by intro z; rw [z] at hf; simp at hf; omega
        have F := far_ok (row := row) (i := i) hne
        generalize far row i (bestTo n row i).C = f at *
        rw [hstep] at eq
        have cnt : (List.filter (fun x => x != f) (bestTo n row i).C ++ [p]).countP (fun y => okP row P (nxt row y (i + 1))) = ((bestTo n row i).C.filter (· != f)).countP (fun y => okP row P (nxt row y i)) + (okP row P (nxt row p (i + 1))).toNat := by
          rw [List.countP_append, List.countP_singleton]
          congr 1
          · refine List.countP_congr fun y hy => ?_
            show okP row P (nxt row y (i + 1)) = true ↔ okP row P (nxt row y i) = true
            rw [on_i y (ne y (List.mem_filter.mp hy).1)]
          · cases okP row P (nxt row p (i + 1)) <;> rfl
        have c1 := count_one (f := fun y => okP row P (nxt row y i)) Ok.nd F.mem
        have c1 : ((bestTo n row i).C.filter (· != f)).countP (fun y => okP row P (nxt row y i)) + (okP row P (nxt row f i)).toNat = (bestTo n row i).C.countP (fun y => okP row P (nxt row y i)) := c1
        have ll : (List.filter (fun x => x != f) (bestTo n row i).C ++ [p]).length = 0 + (List.filter (fun x => x != f) (bestTo n row i).C ++ [p]).length := by omega
        have eq : (List.range' (i + 1) m).countP (fr row P) + (List.filter (fun x => x != f) (bestTo n row i).C ++ [p]).countP (fun y => okP row P (nxt row y (i + 1))) + (n - 1) * P.length + ((bestS n row).lacks.length - ((bestTo n row i).lacks ++ [i]).length) = m := eq
        rw [cnt, List.length_append] at eq
        have e5 : [i].length = 1 := rfl
        rw [e5] at eq
        by_cases hg : okP row P (nxt row f i) = true
        · -- i is marked
          have hg' := hg
          unfold okP at hg'
          rw [Bool.and_eq_true] at hg'
          have hgl := of_decide_eq_true hg'.1
          have hga : ∀ q ∈ P, nxt row f i ≤ q := fun q hq => of_decide_eq_true (List.all_eq_true.mp hg'.2 q hq)
          have gt : ∀ y ∈ (bestTo n row i).C, i < nxt row y i := fun y hy => by
            have h1 := nxt_ge row y (i + 1)
            rw [on_i y (ne y hy)]
            omega
          refine ⟨i :: P, List.pairwise_cons.mpr ⟨fun q hq => by have := (pin q hq).1; omega, pw⟩, fun q hq => ?_, by omega, ?_⟩
          · rcases List.mem_cons.mp hq with z | z
            · rw [z]
              refine ⟨Nat.le_refl _, hi', ?_⟩
              refine Nat.pos_of_ne_zero fun z0 => ?_
              rw [z0] at hf
              have : (bestTo n row 0).C.length = 0 := rfl
              omega
            · exact ⟨by have := (pin q z).1; omega, (pin q z).2⟩
          · have z0 : (bestTo n row i).C.countP (fun y => okP row (i :: P) (nxt row y i)) = 0 := by
              rw [List.countP_eq_zero]
              intro y hy q
              have := gt y hy
              unfold okP at q
              rw [Bool.and_eq_true] at q
              have := of_decide_eq_true (List.all_eq_true.mp q.2 i List.mem_cons_self)
              omega
            have frs : ∀ b, i ≤ b → fr row (i :: P) b = fr row P b := fun b hb => by
              unfold fr
              rw [List.all_cons]
              have e1 : decide (b < i) = false := decide_eq_false (by omega)
              rw [e1]
              simp
            have frc : (List.range' (i + 1) m).countP (fr row (i :: P)) = (List.range' (i + 1) m).countP (fr row P) := List.countP_congr fun b hb => by
              rw [frs b (by have := List.mem_range'_1.mp hb; omega)]
            have all : ((bestTo n row i).C.filter (· != f)).countP (fun y => okP row P (nxt row y i)) = ((bestTo n row i).C.filter (· != f)).length := by
              rw [List.countP_eq_length]
              intro y hy
              have hy1 := (List.mem_filter.mp hy).1
              have hfar := F.far y hy1
              show okP row P (nxt row y i) = true
              unfold okP
              rw [Bool.and_eq_true, List.all_eq_true]
              exact ⟨decide_eq_true (by omega), fun q hq => decide_eq_true (by have := hga q hq; omega)⟩
            have lf : ((bestTo n row i).C.filter (· != f)).length + 1 = n := by
              have q := count_one (f := fun _ => true) Ok.nd F.mem
              rw [List.countP_true] at q
              have q : ((bestTo n row i).C.filter (· != f)).length + 1 = (bestTo n row i).C.length := q
              omega
            rw [rng, frc, frs i (Nat.le_refl _), fr_i, z0, List.length_cons, Nat.mul_add, Nat.mul_one]
            rw [all] at eq
            omega
        · have hg0 : okP row P (nxt row f i) = false := by simpa using hg
          rw [hg0] at c1
          have t0 : false.toNat = 0 := rfl
          rw [t0] at c1
          refine ⟨P, pw, fun q hq => ⟨by have := (pin q hq).1; omega, (pin q hq).2⟩, by omega, ?_⟩
          rw [rng, fr_i]
          omega
      · rw [if_neg hf] at hstep
        rw [hstep] at eq
        have cnt : ((bestTo n row i).C ++ [p]).countP (fun y => okP row P (nxt row y (i + 1))) = (bestTo n row i).C.countP (fun y => okP row P (nxt row y i)) + (okP row P (nxt row p (i + 1))).toNat := by
          rw [List.countP_append, List.countP_singleton]
          congr 1
          · refine List.countP_congr fun y hy => ?_
            show okP row P (nxt row y (i + 1)) = true ↔ okP row P (nxt row y i) = true
            rw [on_i y (ne y hy)]
          · cases okP row P (nxt row p (i + 1)) <;> rfl
        have eq : (List.range' (i + 1) m).countP (fr row P) + ((bestTo n row i).C ++ [p]).countP (fun y => okP row P (nxt row y (i + 1))) + (n - 1) * P.length + ((bestS n row).lacks.length - ((bestTo n row i).lacks ++ [i]).length) = m := eq
        rw [cnt, List.length_append] at eq
        have e5 : [i].length = 1 := rfl
        rw [e5] at eq
        refine ⟨P, pw, fun q hq => ⟨by have := (pin q hq).1; omega, (pin q hq).2⟩, by omega, ?_⟩
        rw [rng, fr_i]
        omega
/-! ### free spells, counted by their begins -/
theorem nx_last {row : List Int} {b e : Nat} {p : Int} (hb : b < row.length) (he : row[e]? = some p) : nx row b = e ↔ lastB row p e = some b := by
  have eb : row[b]? = some (row[b]'hb) := List.getElem?_eq_getElem hb
  have hel := (List.getElem?_eq_some_iff.mp he).1
  rw [nx_at eb]
  generalize row[b]'hb = q at *
  constructor
  · intro h
    have hq : row[e]? = some q := by
      rw [← h]
      exact nxt_at (by omega)
    have eqp : p = q := Option.some.inj (he.symm.trans hq)
    rw [eqp]
    have ge := nxt_ge row q (b + 1)
    obtain ⟨c, hc, hbc⟩ := lastB_some eb (show b < e by omega)
    have hc2 := lastB_lt hc
    by_cases z : c = b
    · rw [← z]; exact hc
    · exact absurd hc2.2 (nxt_before (i := b + 1) (by omega) (by omega))
  · intro h
    have h2 := lastB_lt h
    have eqp : p = q := Option.some.inj (h2.2.symm.trans eb)
    have ge := nxt_ge row q (b + 1)
    have a1 : ¬ e < nxt row q (b + 1) := fun a1 => nxt_before (i := b + 1) (by omega) a1 (by rw [he, eqp])
    have a2 : ¬ nxt row q (b + 1) < e := fun a2 => by
      have := nxt_at (row := row) (y := q) (i := b + 1) (by omega)
      rw [← eqp] at this
      rw [← eqp] at a2
      exact lastB_max h _ (by rw [eqp]; omega) a2 this
    omega
theorem free_to (row : List Int) (f : Nat × Nat → Bool) : ∀ e, e ≤ row.length → ((spellsTo row e).filter f).length = (List.range row.length).countP fun b => decide (nx row b < e) && f (b, nx row b)
  | 0, _ => by
    have q : ((List.range row.length).countP fun b => decide (nx row b < 0) && f (b, nx row b)) = 0 := by
      rw [List.countP_eq_zero]
      intro b _ z
      rw [decide_eq_false (Nat.not_lt_zero _)] at z
      cases z
    rw [q]
    rfl
  | e + 1, he => by
    have ih := free_to row f e (by omega)
    have he' : e < row.length := by omega
    have ee : row[e]? = some (row[e]'he') := List.getElem?_eq_getElem he'
    have e0 : spellsTo row (e + 1) = spellsTo row e ++ spellAt row e := rfl
    have iff0 : ∀ b, b < row.length → (nx row b = e ↔ lastB row (row[e]'he') e = some b) := fun b hb => nx_last hb ee
    rw [e0, spellAt_eq ee, List.filter_append, List.length_append, ih]
    cases hlb : lastB row (row[e]'he') e with
    | none =>
      have iff : ∀ b, b < row.length → (nx row b = e ↔ none = some b) := fun b hb => by rw [← hlb]; exact iff0 b hb
      show _ + 0 = _
      rw [Nat.add_zero]
      refine List.countP_congr fun b hb => ?_
      have hb := List.mem_range.mp hb
      have ne : nx row b ≠ e := fun z => by
        have := (iff b hb).mp z
        cases this
      have e1 : decide (nx row b < e) = decide (nx row b < e + 1) := decide_eq_decide.mpr (by omega)
      rw [e1]
    | some b0 =>
      have h0 : b0 < row.length := by
        have := (lastB_lt hlb).1
        omega
      have iff : ∀ b, b < row.length → (nx row b = e ↔ some b0 = some b) := fun b hb => by rw [← hlb]; exact iff0 b hb
      have n0 := (iff b0 h0).mpr rfl
      have nb : ∀ b, b < row.length → b ≠ b0 → nx row b ≠ e := fun b hb ne z => ne (Option.some.inj ((iff b hb).mp z)).symm
      have mem0 : b0 ∈ List.range row.length := List.mem_range.mpr h0
      have c1 := count_one (f := fun b => decide (nx row b < e) && f (b, nx row b)) List.nodup_range mem0
      have c2 := count_one (f := fun b => decide (nx row b < e + 1) && f (b, nx row b)) List.nodup_range mem0
      have cc : ((List.range row.length).filter (· != b0)).countP (fun b => decide (nx row b < e) && f (b, nx row b)) = ((List.range row.length).filter (· != b0)).countP (fun b => decide (nx row b < e + 1) && f (b, nx row b)) := List.countP_congr fun b hb => by
        have hb2 := List.mem_filter.mp hb
        have ne := nb b (List.mem_range.mp hb2.1) (by simpa using hb2.2)
        have e1 : decide (nx row b < e) = decide (nx row b < e + 1) := decide_eq_decide.mpr (by omega)
        show (decide (nx row b < e) && f (b, nx row b)) = true ↔ (decide (nx row b < e + 1) && f (b, nx row b)) = true
        rw [e1]
      have k1 : (decide (nx row b0 < e) && f (b0, nx row b0)) = false := by rw [decide_eq_false (by omega)]; rfl
      have k2 : (decide (nx row b0 < e + 1) && f (b0, nx row b0)) = f (b0, e) := by rw [decide_eq_true (by omega), n0]; rfl
      have c1 : ((List.range row.length).filter (· != b0)).countP (fun b => decide (nx row b < e) && f (b, nx row b)) + (decide (nx row b0 < e) && f (b0, nx row b0)).toNat = (List.range row.length).countP (fun b => decide (nx row b < e) && f (b, nx row b)) := c1
      have c2 : ((List.range row.length).filter (· != b0)).countP (fun b => decide (nx row b < e + 1) && f (b, nx row b)) + (decide (nx row b0 < e + 1) && f (b0, nx row b0)).toNat = (List.range row.length).countP (fun b => decide (nx row b < e + 1) && f (b, nx row b)) := c2
      rw [k1] at c1
      rw [k2] at c2
      have t0 : false.toNat = 0 := rfl
      rw [t0] at c1
      rw [← c2, ← c1, cc]
      have sl : ([(b0, e)].filter f).length = (f (b0, e)).toNat := by
        cases hfe : f (b0, e) <;> simp [hfe]
      have e3 : spOf (some b0) e = [(b0, e)] := rfl
      rw [e3, sl, Nat.add_zero]
theorem free_count (row : List Int) (P : List Nat) : ((spellsL row).filter fun x => !within x P).length = (List.range' 0 row.length).countP (fr row P) := by
  unfold spellsL
  rw [free_to row (fun x => !within x P) row.length (Nat.le_refl _), List.range_eq_range']
  refine List.countP_congr fun b hb => ?_
  have e : (decide (nx row b < row.length) && !within (b, nx row b) P) = fr row P b := by
    unfold fr within
    congr 1
    rw [List.not_any_eq_all_not]
  rw [e]
/-- a paper that shows as many as the best lacks -/
theorem dual {n : Nat} (hn : 0 < n) (row : List Int) : ∃ P : List Nat, P.Pairwise (· < ·) ∧ (∀ p ∈ P, 0 < p ∧ p < row.length) ∧ (List.range' 0 row.length).countP (fr row P) + (n - 1) * P.length + (bestS n row).lacks.length = row.length := by
  obtain ⟨P, pw, pin, _, eq⟩ := dual_at hn row row.length 0 (by omega) (Nat.zero_le _)
  refine ⟨P, pw, fun p hp => ⟨(pin p hp).2.2, (pin p hp).2.1⟩, ?_⟩
  have e : (bestTo n row 0).C.countP (fun y => okP row P (nxt row y 0)) = 0 := rfl
  have e2 : (bestTo n row 0).lacks.length = 0 := rfl
  omega
end CK

/-! The paper that is found step by step. -/
namespace CK
/-- the spells that lie between a and b -/
def freeB (row : List Int) (a b : Nat) : Nat := (List.range' a (b - a)).countP fun x => decide (nx row x < row.length) && decide (nx row x ≤ b)
theorem freeB_back {row : List Int} {a b : Nat} (h : a < b) : freeB row a b = freeB row (a + 1) b + (if nx row a < row.length ∧ nx row a ≤ b then 1 else 0) := by
  unfold freeB
  have e : b - a = (b - (a + 1)) + 1 := by omega
  rw [e, List.range'_succ, List.countP_cons]
  congr 1
  by_cases q : nx row a < row.length ∧ nx row a ≤ b
  · rw [if_pos q, decide_eq_true q.1, decide_eq_true q.2]; rfl
  · rw [if_neg q, if_neg]
    intro z
    rw [Bool.and_eq_true] at z
    exact q ⟨of_decide_eq_true z.1, of_decide_eq_true z.2⟩
/-- what a paper takes off, from a on -/
def cst (row : List Int) (n : Nat) : Nat → List Nat → Nat
  | a, [] => freeB row a row.length
  | a, p :: r => freeB row a p + (n - 1) + cst row n p r
theorem cst_eq (row : List Int) (n : Nat) : ∀ (ps : List Nat) (a : Nat), ps.Pairwise (· < ·) → (∀ p ∈ ps, a ≤ p ∧ p ≤ row.length) → a ≤ row.length → cst row n a ps = (List.range' a (row.length - a)).countP (fr row ps) + (n - 1) * ps.length
  | [], a, _, _, _ => by
    show freeB row a row.length = _
    unfold freeB
    rw [List.length_nil, Nat.mul_zero, Nat.add_zero]
    refine List.countP_congr fun x _ => ?_
    have e : (decide (nx row x < row.length) && decide (nx row x ≤ row.length)) = fr row [] x := by
      unfold fr
      rw [List.all_nil]
      by_cases z : nx row x < row.length
      · rw [decide_eq_true z, decide_eq_true (by omega)]
      · rw [decide_eq_false z]; rfl
    rw [e]
  | p :: r, a, pw, pin, ha => by
    have pw2 := List.pairwise_cons.mp pw
    have hp := pin p List.mem_cons_self
    have ih := cst_eq row n r p pw2.2 (fun q hq => ⟨Nat.le_of_lt (pw2.1 q hq), (pin q (List.mem_cons_of_mem _ hq)).2⟩) hp.2
    show freeB row a p + (n - 1) + cst row n p r = _
    rw [ih]
    have e1 : row.length - a = (p - a) + (row.length - p) := by omega
    have e2 : List.range' a (row.length - a) = List.range' a (p - a) ++ List.range' p (row.length - p) := by
      rw [e1, ← List.range'_append_1]
      congr 2
      omega
    rw [e2, List.countP_append]
    have c1 : (List.range' a (p - a)).countP (fr row (p :: r)) = freeB row a p := by
      unfold freeB
      refine List.countP_congr fun x hx => ?_
      have hx2 := List.mem_range'_1.mp hx
      have e : fr row (p :: r) x = (decide (nx row x < row.length) && decide (nx row x ≤ p)) := by
        unfold fr
        rw [List.all_cons]
        have ex : decide (x < p) = true := decide_eq_true (by omega)
        rw [ex, Bool.true_and]
        by_cases z : nx row x ≤ p
        · have e3 : decide (p < nx row x) = false := decide_eq_false (by omega)
          have e4 : (r.all fun q => !(decide (x < q) && decide (q < nx row x))) = true := by
            rw [List.all_eq_true]
            intro q hq
            have := pw2.1 q hq
            have e5 : decide (q < nx row x) = false := decide_eq_false (by omega)
            rw [e5, Bool.and_false]; rfl
          rw [e3, e4, decide_eq_true z]; rfl
        · have e3 : decide (p < nx row x) = true := decide_eq_true (by omega)
          rw [e3, decide_eq_false z]; rfl
      rw [e]
    have c2 : (List.range' p (row.length - p)).countP (fr row (p :: r)) = (List.range' p (row.length - p)).countP (fr row r) := by
      refine List.countP_congr fun x hx => ?_
      have hx2 := List.mem_range'_1.mp hx
      have e : fr row (p :: r) x = fr row r x := by
        unfold fr
        rw [List.all_cons]
        have ex : decide (x < p) = false := decide_eq_false (by omega)
        rw [ex]
        simp
      rw [e]
    rw [c1, c2, List.length_cons, Nat.mul_add, Nat.mul_one]
    omega
/-- the tables of the steps, up to t -/
structure DP (row : List Int) (n : Nat) (L A : List Nat) (t : Nat) : Prop where
  ll : L.length = t + 1
  la : A.length = t + 1
  l0 : L.getD 0 0 = 0
  a0 : A.getD 0 0 = 0
  st : ∀ s, 0 < s → s ≤ t → A.getD s 0 < s ∧ L.getD s 0 = L.getD (A.getD s 0) 0 + freeB row (A.getD s 0) s + (n - 1) ∧ ∀ a, a < s → L.getD s 0 ≤ L.getD a 0 + freeB row a s + (n - 1)
theorem DP.start (row : List Int) (n : Nat) : DP row n [0] [0] 0 := ⟨rfl, rfl, rfl, rfl, fun s h1 h2 => by omega⟩
theorem getD_old {L : List Nat} {x : Nat} {i : Nat} (h : i < L.length) : (L ++ [x]).getD i 0 = L.getD i 0 := by
  rw [List.getD_eq_getElem?_getD, List.getD_eq_getElem?_getD, List.getElem?_append_left h]
theorem getD_new {L : List Nat} {x : Nat} {i : Nat} (h : i = L.length) : (L ++ [x]).getD i 0 = x := by
  rw [List.getD_eq_getElem?_getD, h, List.getElem?_append_right (Nat.le_refl _), Nat.sub_self]
  rfl
theorem DP.next {row : List Int} {n : Nat} {L A : List Nat} {t a : Nat} (D : DP row n L A t) (ha : a < t + 1) (hl : ∀ b, b < t + 1 → L.getD a 0 + freeB row a (t + 1) ≤ L.getD b 0 + freeB row b (t + 1)) : DP row n (L ++ [L.getD a 0 + freeB row a (t + 1) + (n - 1)]) (A ++ [a]) (t + 1) := by
  refine ⟨by rw [List.length_append, D.ll]; rfl, by rw [List.length_append, D.la]; rfl, ?_, ?_, fun s h1 h2 => ?_⟩
  · rw [getD_old (by rw [D.ll]; omega)]; exact D.l0
  · rw [getD_old (by rw [D.la]; omega)]; exact D.a0
  · by_cases e : s = t + 1
    · subst e
      rw [getD_new D.la.symm, getD_new D.ll.symm, getD_old (by rw [D.ll]; exact ha)]
      refine ⟨ha, rfl, fun b hb => ?_⟩
      rw [getD_old (by rw [D.ll]; exact hb)]
      have := hl b hb
      omega
    · have hs : s < t + 1 := by omega
      obtain ⟨q1, q2, q3⟩ := D.st s h1 (by omega)
      rw [getD_old (L := A) (by rw [D.la]; exact hs), getD_old (by rw [D.ll]; exact hs), getD_old (by rw [D.ll]; omega)]
      refine ⟨q1, q2, fun b hb => ?_⟩
      rw [getD_old (by rw [D.ll]; omega)]
      exact q3 b hb
/-- the way back from t -/
def back (A : List Nat) : Nat → Nat → List Nat
  | 0, _ => []
  | k + 1, t => if t = 0 then [] else t :: back A k (A.getD t 0)
section
variable {row : List Int} {n : Nat} {L A : List Nat}
theorem back_ok (D : DP row n L A row.length) : ∀ (k t : Nat), t ≤ k → t ≤ row.length → ((back A k t).reverse).Pairwise (· < ·) ∧ (∀ p ∈ back A k t, 0 < p ∧ p ≤ t) ∧ ∀ ps, cst row n 0 ((back A k t).reverse ++ ps) = L.getD t 0 + cst row n t ps
  | 0, t, h, _ => by
    have e : t = 0 := by omega
    subst e
    refine ⟨List.Pairwise.nil, (fun p hp => nomatch hp), fun ps => ?_⟩
    rw [D.l0, Nat.zero_add]
    rfl
  | k + 1, t, h, hl => by
    by_cases e : t = 0
    · subst e
      have q : back A (k + 1) 0 = [] := if_pos rfl
      rw [q]
      refine ⟨List.Pairwise.nil, (fun p hp => nomatch hp), fun ps => ?_⟩
      rw [D.l0, Nat.zero_add]
      rfl
    · have q : back A (k + 1) t = t :: back A k (A.getD t 0) := if_neg e
      rw [q]
      obtain ⟨s1, s2, _⟩ := D.st t (by omega) hl
      obtain ⟨i1, i2, i3⟩ := back_ok D k (A.getD t 0) (by omega) (by omega)
      refine ⟨?_, fun p hp => ?_, fun ps => ?_⟩
      · rw [List.reverse_cons, List.pairwise_append]
        refine ⟨i1, List.pairwise_singleton _ _, fun x hx y hy => ?_⟩
        rw [List.mem_singleton.mp hy]
        have := (i2 x (List.mem_reverse.mp hx)).2
        omega
      · rcases List.mem_cons.mp hp with z | z
        · rw [z]; omega
        · have := i2 p z; omega
      · rw [List.reverse_cons, List.append_assoc, i3]
        show _ + (freeB row (A.getD t 0) t + (n - 1) + cst row n t ps) = _
        omega
theorem dp_least (D : DP row n L A row.length) : ∀ (ps : List Nat) (a : Nat), ps.Pairwise (· < ·) → (∀ p ∈ ps, a < p ∧ p < row.length) → a < row.length → L.getD row.length 0 ≤ L.getD a 0 + cst row n a ps + (n - 1)
  | [], a, _, _, ha => (D.st row.length (by omega) (Nat.le_refl _)).2.2 a ha
  | p :: r, a, pw, pin, ha => by
    have pw2 := List.pairwise_cons.mp pw
    have hp := pin p List.mem_cons_self
    have ih := dp_least D r p pw2.2 (fun q hq => ⟨pw2.1 q hq, (pin q (List.mem_cons_of_mem _ hq)).2⟩) hp.2
    have s := (D.st p (by omega) (by omega)).2.2 a hp.1
    show _ ≤ _ + (freeB row a p + (n - 1) + cst row n p r) + (n - 1)
    omega
/-- the paper on the way back -/
def theWay (row : List Int) (A : List Nat) : List Nat := (back A row.length (A.getD row.length 0)).reverse
theorem way_paper (hn : 0 < n) (D : DP row n L A row.length) : PaperOk row.length (theWay row A) ∧ (List.range' 0 row.length).countP (fr row (theWay row A)) + (n - 1) * (theWay row A).length + (bestS n row).lacks.length ≤ row.length := by
  by_cases h0 : row.length = 0
  · have e : theWay row A = [] := by
      unfold theWay
      rw [h0]
      rfl
    have er : row = [] := List.length_eq_zero_iff.mp h0
    rw [e]
    refine ⟨⟨List.Pairwise.nil, fun p hp => nomatch hp⟩, ?_⟩
    rw [er]
    exact Nat.le_refl _
  · have hp : 0 < row.length := by omega
    obtain ⟨s1, s2, s3⟩ := D.st row.length hp (Nat.le_refl _)
    obtain ⟨i1, i2, i3⟩ := back_ok D row.length (A.getD row.length 0) (by omega) (by omega)
    have ok : PaperOk row.length (theWay row A) := ⟨i1, fun p hp => by have := i2 p (List.mem_reverse.mp hp); omega⟩
    refine ⟨ok, ?_⟩
    have e1 := i3 []
    rw [List.append_nil] at e1
    have e2 : cst row n (A.getD row.length 0) [] = freeB row (A.getD row.length 0) row.length := rfl
    have e3 := cst_eq row n (theWay row A) 0 i1 (fun p hp => ⟨Nat.zero_le _, Nat.le_of_lt (ok.2 p hp)⟩) (Nat.zero_le _)
    obtain ⟨P, pw, pin, eq⟩ := dual hn row
    have e4 := cst_eq row n P 0 pw (fun p hp => ⟨Nat.zero_le _, Nat.le_of_lt (pin p hp).2⟩) (Nat.zero_le _)
    have e5 := dp_least D P 0 pw pin hp
    rw [D.l0] at e5
    have e6 : cst row n 0 (theWay row A) = _ := e1
    rw [Nat.sub_zero] at e3 e4
    omega
end
/-! ### no paper shows more than any way lacks -/
theorem marks_count {m : Nat} {ps : List Nat} (nd : ps.Pairwise (· < ·)) (h : ∀ p ∈ ps, p < m) : ((List.range m).map fun i => decide (i ∈ ps)).count true = ps.length := by
  have e : ((List.range m).map fun i => decide (i ∈ ps)).count true = ((List.range m).filter fun i => decide (i ∈ ps)).length := by
    rw [List.count_eq_countP, List.countP_map, ← List.countP_eq_length_filter]
    refine List.countP_congr fun x _ => ?_
    simp
  rw [e]
  have n1 : ((List.range m).filter fun i => decide (i ∈ ps)).Nodup := List.nodup_range.filter _
  have n2 : ps.Nodup := List.Pairwise.imp (fun {a b} (q : a < b) => Nat.ne_of_lt q) nd
  have mem : ∀ k, k ∈ ((List.range m).filter fun i => decide (i ∈ ps)) ↔ k ∈ ps := fun k => by
    rw [List.mem_filter, List.mem_range]
    constructor
    · intro z; simpa using z.2
    · intro z; exact ⟨h k z, by simpa using z⟩
  exact ((List.perm_ext_iff_of_nodup n1 n2).mpr mem).length_eq
theorem within_snoc_no {b i : Nat} {ps : List Nat} : within (b, i + 1) ps = false ↔ within (b, i) ps = false ∧ (b < i → i ∉ ps) := by
  unfold within
  constructor
  · intro h
    rw [List.any_eq_false] at h
    refine ⟨?_, fun hb hi => ?_⟩
    · rw [List.any_eq_false]
      intro q hq z
      refine h q hq ?_
      rw [Bool.and_eq_true] at z ⊢
      exact ⟨z.1, decide_eq_true (by have := of_decide_eq_true z.2; omega)⟩
    · refine h i hi ?_
      rw [Bool.and_eq_true]
      exact ⟨decide_eq_true hb, decide_eq_true (Nat.lt_succ_self _)⟩
  · rintro ⟨h1, h2⟩
    rw [List.any_eq_false] at h1 ⊢
    intro q hq z
    rw [Bool.and_eq_true] at z
    have z1 : b < q := of_decide_eq_true z.1
    have z2 : q < i + 1 := of_decide_eq_true z.2
    by_cases e : q = i
    · rw [e] at hq z1
      exact h2 z1 hq
    · refine h1 q hq ?_
      rw [Bool.and_eq_true]
      exact ⟨z.1, decide_eq_true (by show q < i; omega)⟩
theorem free_marks {row : List Int} {ps : List Nat} (m : Nat) : ∀ (k i : Nat) (F : List Int), row.length - i = k → i ≤ row.length → (∀ q, q ∈ F ↔ ∃ b, lastB row q i = some b ∧ within (b, i) ps = false) →
    freeC F (row.drop i) (((List.range row.length).map fun i => decide (i ∈ ps)).drop i) + ((spellsTo row i).filter fun x => !within x ps).length = ((spellsL row).filter fun x => !within x ps).length
  | 0, i, F, hk, hi, hF => by
    have e : i = row.length := by omega
    subst e
    rw [List.drop_length]
    have e2 : freeC F [] (((List.range row.length).map fun i => decide (i ∈ ps)).drop row.length) = 0 := by
      unfold freeC
      rfl
    rw [e2, Nat.zero_add]
    rfl
  | k + 1, i, F, hk, hi, hF => by
    have hi' : i < row.length := by omega
    have ei : row[i]? = some (row[i]'hi') := List.getElem?_eq_getElem hi'
    have eD : ((List.range row.length).map fun i => decide (i ∈ ps)).drop i = decide (i ∈ ps) :: ((List.range row.length).map fun i => decide (i ∈ ps)).drop (i + 1) := by
      rw [List.drop_eq_getElem_cons (by simpa using hi')]
      simp
    rw [drop_at ei, eD]
    have e0 : spellsTo row (i + 1) = spellsTo row i ++ spellAt row i := rfl
    have ih := fun F' => free_marks (row := row) (ps := ps) m k (i + 1) F' (by omega) (by omega)
    rw [e0, spellAt_eq ei] at ih
    have l2 : ∀ q, q ≠ row[i]'hi' → lastB row q (i + 1) = lastB row q i := fun q ne => by
      show (if row[i]? = some q then some i else lastB row q i) = _
      rw [if_neg]
      rw [ei]
      intro z
      exact ne (Option.some.inj z).symm
    have l1 : lastB row (row[i]'hi') (i + 1) = some i := by
      show (if row[i]? = some (row[i]'hi') then some i else _) = _
      rw [if_pos ei]
    generalize row[i]'hi' = p at *
    have st : freeC F (p :: row.drop (i + 1)) (decide (i ∈ ps) :: ((List.range row.length).map fun i => decide (i ∈ ps)).drop (i + 1)) = (if p ∈ F then 1 else 0) + freeC (if decide (i ∈ ps) = true then [p] else p :: F) (row.drop (i + 1)) (((List.range row.length).map fun i => decide (i ∈ ps)).drop (i + 1)) := rfl
    rw [st]
    have hF' : ∀ q, q ∈ (if decide (i ∈ ps) = true then [p] else p :: F) ↔ ∃ b, lastB row q (i + 1) = some b ∧ within (b, i + 1) ps = false := fun q => by
      have self : within (i, i + 1) ps = false := by
        unfold within
        rw [List.any_eq_false]
        intro r _ z
        rw [Bool.and_eq_true] at z
        have z1 : i < r := of_decide_eq_true z.1
        have z2 : r < i + 1 := of_decide_eq_true z.2
        omega
      by_cases e : q = p
      · subst e
        constructor
        · intro _
          exact ⟨i, l1, self⟩
        · intro _
          split <;> simp
      · rw [l2 q e]
        by_cases hm : i ∈ ps
        · rw [decide_eq_true hm, if_pos rfl]
          constructor
          · intro z; exact absurd (List.mem_singleton.mp z) e
          · rintro ⟨b, hb, hw⟩
            exact absurd hm ((within_snoc_no.mp hw).2 (lastB_lt hb).1)
        · rw [decide_eq_false hm, if_neg (by simp)]
          constructor
          · intro z
            obtain ⟨b, hb, hw⟩ := (hF q).mp ((List.mem_cons.mp z).resolve_left e)
            exact ⟨b, hb, within_snoc_no.mpr ⟨hw, fun _ => hm⟩⟩
          · rintro ⟨b, hb, hw⟩
            exact List.mem_cons_of_mem _ ((hF q).mpr ⟨b, hb, (within_snoc_no.mp hw).1⟩)
    have q := ih _ hF'
    rw [List.filter_append, List.length_append] at q
    have one : ((spOf (lastB row p i) i).filter fun x => !within x ps).length = if p ∈ F then 1 else 0 := by
      by_cases hp : p ∈ F
      · obtain ⟨b, hb, hw⟩ := (hF p).mp hp
        rw [if_pos hp, hb]
        show ([(b, i)].filter fun x => !within x ps).length = 1
        simp [hw]
      · rw [if_neg hp]
        cases hl : lastB row p i with
        | none => rfl
        | some b =>
          have hw : within (b, i) ps = true := by
            cases hw : within (b, i) ps with
            | true => rfl
            | false => exact absurd ((hF p).mpr ⟨b, hl, hw⟩) hp
          show ([(b, i)].filter fun x => !within x ps).length = 0
          simp [hw]
    rw [one] at q
    omega
theorem shown_le {n : Nat} (hn : 0 < n) {row : List Int} {ps : List Nat} (ok : PaperOk row.length ps) {k : Nat} (w : Way n [] row k) : row.length ≤ k + ((spellsL row).filter fun x => !within x ps).length + (n - 1) * ps.length := by
  have q := paper_shows hn w (ys := (List.range row.length).map fun i => decide (i ∈ ps)) (by simp)
  have f := free_marks (row := row) (ps := ps) 0 row.length 0 [] (by omega) (Nat.zero_le _) (fun q => by
    constructor
    · intro z; cases z
    · rintro ⟨b, hb, _⟩; cases hb)
  rw [List.drop_zero, List.drop_zero] at f
  have f0 : ((spellsTo row 0).filter fun x => !within x ps).length = 0 := rfl
  rw [marks_count ok.1 ok.2] at q
  omega
/-- what is shown, of a paper, is at most what any way lacks -/
theorem shownN_le {n : Int} (h1 : 1 ≤ n) {row : List Int} {ps : List Nat} (ok : PaperOk row.length ps) {k : Nat} (w : Way n.toNat [] row k) : shownN n row ps ≤ (k : Int) := by
  have q := shown_le (by omega) ok w
  unfold shownN
  have e : (((n.toNat - 1) * ps.length : Nat) : Int) = (n - 1) * (ps.length : Int) := by
    rw [Int.natCast_mul]
    congr 1
    omega
  omega
theorem shownN_way {n : Int} (h1 : 1 ≤ n) {row : List Int} {L A : List Nat} (D : DP row n.toNat L A row.length) : shownN n row (theWay row A) = ((bestS n.toNat row).lacks.length : Int) := by
  obtain ⟨ok, q⟩ := way_paper (by omega) D
  have le := shownN_le h1 ok (best_bel (by omega : 0 < n.toNat) row).way
  have e : (((n.toNat - 1) * (theWay row A).length : Nat) : Int) = (n - 1) * ((theWay row A).length : Int) := by
    rw [Int.natCast_mul]
    congr 1
    omega
  rw [← free_count] at q
  unfold shownN at le ⊢
  omega
end CK

/-! The program's spells. -/
namespace CK
open PySem PySem.Spec PyProof.Rows L2
/-- a new list of the spells of a row -/
def spFind (K : PySem.W.Frag) : Sp := fun vs H Q _ => ∃ (r : Addr) (row : List Int), vs = [.ref r] ∧ SqL K H r (il row) ∧ row.length ≤ 1000 ∧
  ∀ (d : Addr) (as : List Addr) (H' : Hp), H d = none → Same H H' → H' d = some (.lst (as.map V.ref)) → PairsAt H' as (spellsL row) → Q (.ref d) H'
def lastV (row : List Int) (i : Nat) (p : Int) : Option V := (lastB row p i).map fun n => V.int (n : Nat)
section
variable {P : Program} {w : World} {K : PySem.W.Frag} {mg : Str → Option Value} {base : Heap}
theorem sc_find_spells : FnScope ["row", "latest", "found", "place", "page"] ["row"] (defScope (top 22)) := ⟨rfl, rfl, rfl, by decide +kernel, rfl, by decide +kernel, by decide +kernel⟩
theorem ok_find_spells (T : Prog K mg) : FnOk P w K mg base CX0 1 T.find_spells.f T.find_spells.fd ["row"] (spFind K) := by
  refine T.find_spells.fn.ok sc_find_spells (fun vs H Q E h => ?len) (fun cdv A outer s H vs Q E hr h => ?body)
  case len =>
    obtain ⟨r, row, rfl, _⟩ := h
    rfl
  case body =>
    have hu := hu_of hr
    obtain ⟨r, row, rfl, hS, hlen, k⟩ := h
    refine ⟨_, PSs.nox (pss_cons (ps_set (i := 1) sc_find_spells.nd rfl (Or.inl rfl) pe_dnewK)
        (pss_cons (ps_set (i := 2) sc_find_spells.nd rfl (Or.inl rfl) (pe_lst pa_nil))
        (pss_cons (ps_for PassesOwn.never rfl (pi_enum (by rfl) T.enumerate (pa_cons (pv 0) pa_nil)) (pg_tup rfl (pgs_cons (pg_name (i := 3) sc_find_spells.nd rfl (Or.inl rfl)) (pgs_cons (pg_name (i := 4) sc_find_spells.nd rfl (Or.inl rfl)) pgs_nil)))
        (C8.pss_cut (ps_if (pt_cmp (pc_din hu (pv 4) (pv 1)))
        (pss_one (ps_expr (pe_bm PySem.F.plainAttrs_list PySem.F.slot_list_append PySem.F.type_list_append mt_append (pv 2) (pa_cons (pe_tup (pa_cons (pe_dget hu (pv 1) (pv 4) (fun _ _ => rfl)) (pa_cons (pv 3) pa_nil))) pa_nil))))
        pss_nil)
        (pss_one (ps_dput hu (pv 1) (pv 4) (pv 3) rfl))))
        (pss_one (ps_ret (pv 2)))))), ?_⟩
    refine fun l hl => ⟨szd rfl, fun c hc => ?_⟩
    have s1 : Same H (upd (upd H l (.dK [])) c (.lst [])) := (Same.new hl).trans (Same.new hc)
    have lc : l ≠ c := ne_fresh (H := upd H l (.dK [])) upd_same hc
    have cH : H c = none := Same.back (Same.new hl) hc
    refine ⟨_, rfl, r, _, rfl, s1.seq hS, for_it (walk_enum (K := K) (a := r) (xs := il row)) (fun i σ H' => (∃ v3 v4, σ = [some (.ref r), some (.ref l), some (.ref c), v3, v4]) ∧ Same H H' ∧ (∃ kvs : List (Key × V), H' l = some (.dK kvs) ∧ kvs.length ≤ i ∧ ∀ p, valV kvs (Sum.inl p) = lastV row i p) ∧
      ∃ as : List Addr, H' c = some (.lst (as.map V.ref)) ∧ PairsAt H' as (spellsTo row i))
      ⟨⟨_, _, rfl⟩, s1, ⟨[], by rw [upd_ne lc]; exact upd_same, Nat.le_refl _, fun p => rfl⟩, [], upd_same, PairsAt.nil⟩ (fun i σ H' _ h => h.2.1.seq hS) ?_ ?_⟩
    · rintro i x σ H1 H2 hi ⟨⟨v3, v4, rfl⟩, s2, ⟨kvs, hl1, hkl, hkv⟩, as, hc1, hp1⟩ ⟨t, x1, x2, rfl, ht, rfl, ha, hb⟩
      have ea : V.int (i : Nat) = x1 := Option.some.inj ha
      subst ea
      obtain ⟨p, hp, rfl⟩ := il_get hb
      rw [il_len] at hi
      have sT := Same.new (o := .tup [V.int (i : Nat), V.int p]) ht
      have hl2 := sT _ _ hl1
      have hc2 := sT _ _ hc1
      have hp2 := hp1.same sT
      have hal : as.length ≤ i := by rw [hp1.len]; exact spellsTo_le row i
      refine ⟨t, _, rfl, SqT.of upd_same, rfl, _, _, rfl, _, _, rfl, rfl, ?_⟩
      refine ⟨fun σ' H' => σ' = [some (.ref r), some (.ref l), some (.ref c), some (.int (i : Nat)), some (.int p)] ∧ Same H H' ∧ H' l = some (.dK kvs) ∧ ∃ as : List Addr, H' c = some (.lst (as.map V.ref)) ∧ PairsAt H' as (spellsTo row (i + 1)), ?_, ?_⟩
      · refine ⟨_, rfl, _, rfl, l, _, rfl, DGet.k (k := Sum.inl p) hl2, _, rfl, ?_⟩
        have e0 : spellsTo row (i + 1) = spellsTo row i ++ spellAt row i := rfl
        have e1 := spellAt_eq hp
        rw [e0, e1]
        have ev := hkv p
        unfold lastV at ev
        cases eb : lastB row p i with
        | none =>
          rw [eb] at ev
          refine ifF (by rw [ev]; rfl) ?_
          refine ⟨rfl, s2.trans sT, hl2, as, hc2, ?_⟩
          show PairsAt _ as (spellsTo row i ++ [])
          rw [List.append_nil]
          exact hp2
        | some b =>
          rw [eb] at ev
          refine ifT (by rw [ev]; rfl) ?_
          refine ⟨_, rfl, .inl ⟨rfl, _, SqL.of hc2⟩, _, rfl, _, rfl, l, V.int (b : Nat), rfl, (by have q := DGet.k (k := Sum.inl p) hl2; rw [ev] at q; exact q), _, rfl, szd rfl, fun q hq => ?_⟩
          have sQ := Same.new (o := .tup [V.int (b : Nat), V.int (i : Nat)]) hq
          have hc3 := sQ _ _ hc2
          refine ⟨c, _, _, rfl, rfl, hc3, szl (by rw [List.length_map]; omega), ?_⟩
          refine ⟨rfl, Same.put ((s2.trans sT).trans sQ) cH, ?_, as ++ [q], ?_, ?_⟩
          · rw [upd_ne lc]; exact sQ _ _ hl2
          · rw [upd_same, List.map_append]; rfl
          · exact ((hp2.same sQ).snoc (x := (b, i)) upd_same).put hc3 (by intro u z; cases z)
      · rintro σ' H' ⟨rfl, s3, hl3, as', hc3, hp3⟩
        refine ⟨_, rfl, _, rfl, _, rfl, l, _, rfl, DPut.k (k := Sum.inl p) hl3 (szl (by omega)), ?_⟩
        refine ⟨⟨_, _, rfl⟩, Same.put s3 hl, ⟨_, upd_same, ?_, fun q => ?_⟩, as', ?_, hp3.put hl3 (by intro u z; cases z)⟩
        · have := length_putK kvs (Sum.inl p) (V.int (i : Nat))
          omega
        · rw [valV_put]
          unfold lastV lastB
          by_cases e : p = q
          · subst e
            rw [if_pos rfl, if_pos hp]
            rfl
          · rw [if_neg (by intro z; injection z with z; exact e z.symm), if_neg (by intro z; rw [hp] at z; exact e (Option.some.inj z))]
            exact hkv q
        · rw [upd_ne (Ne.symm lc)]; exact hc3
    · rintro σ H' ⟨⟨v3, v4, rfl⟩, s2, _, as, hc1, hp1⟩
      rw [il_len] at hp1
      exact ⟨_, rfl, k c as H' cH s2 hc1 hp1⟩
end
end CK

/-! max(d.values()). -/
namespace CKZ
open PySem PySem.Spec PyProof.Rows L2
open PySem.Sem (wp)
variable {X : Cx}
/-- a dict of ints, one at least: the greatest -/
def tMaxVals (td : TE) : TE := fun σ H Q => td σ H fun x H1 => ∃ (a : Addr) (ds : List (Key × V)) (ns : List Int), x = V.ref a ∧ H1 a = some (.dK ds) ∧ ds.map (·.2) = ns.map V.int ∧ ns ≠ [] ∧ ∀ m, m ∈ ns → (∀ j ∈ ns, j ≤ m) → Q (.int m) H1
theorem pe_maxVals {o : Expr} {p pos apos mpos : Pos} {td : TE} (hc : X.calm = true) (hg : Gl X "max") (hm : X.mg "max" = none) (hd : PE X o td) (hb : attributeBase o "values" X.env (eval o X.env) = eval o X.env := by rfl) (hl : (apos.endLine == mpos.line) = true := by rfl)
    (hs : starEach [Expr.Call (.Attribute o "values" apos) [] [] mpos] X.env = [(false, eval (Expr.Call (.Attribute o "values" apos) [] [] mpos) X.env)] := by rfl) :
    PE X (.Call (.Name "max" p) [.Call (.Attribute o "values" apos) [] [] mpos] [] pos) (tMaxVals td) := by
  constructor; intro pins s σ H Q I h
  refine wpAny_Call_Name_kw (ld_blt I hg hm (u := .builtin "max") (by first | rfl | decide +kernel) ?_ (by first | decide +kernel | decide) (by first | decide +kernel | decide)); rw [hs]
  refine PySem.callWith_builtin1 (wpAny_Call_method0_late hb hl (thn (hd.run pins s σ H _ I h) fun v s1 ⟨x, H1, I1, r1, a, ds, ns, ex, ha, hv, hne, q⟩ => ?_))
  subst ex; obtain rfl : v = Value.ref a := r1
  obtain ⟨_, hsys, vs, rel, dof⟩ := dk_of I1.hok ha
  obtain ⟨ep, dat⟩ := dof.dictAt
  obtain ⟨ob, es, ho, ex, hdat, hko, hpr, hnd⟩ := id dat
  refine ⟨"dict", "dict.values", F.plainAttrs_dict, F.slot_dict_values, F.type_dict_values, ⟨ob, ho, ex.1⟩, fun b e => ?_, Calls.callWith_builtin rfl (PySem.evalArgs_none ?_)⟩
  · cases e; exact ⟨ob, ho, ex.2.1⟩
  refine call_meetsIn F.slot_dict_values ⟨ob, ho, ex.1⟩ F.entry_dict_values (F.args_dict_values_1 _) (meets_dict_values (mixKind X.prog X.w) a hsys) ⟨⟨vs, dof⟩, ?_⟩
  generalize eo : ({ cls := .type "dict_values", data := .fields #[.ref a] } : Obj) = vo
  have k1 : ∀ b u, s1.heap.get? b = some u → (s1.heap.push vo).get? b = some u := fun b u e => Heap.get?_push_of_some _ e
  have dat1 : (s1.heap.push vo).DictAt (mixKind X.prog X.w) a vs ep := dat.keep k1
  have hlv : vs.length = ns.length := by
    have e1 := congrArg List.length hv
    rw [List.length_map, List.length_map] at e1
    exact (KV.length rel).symm.trans e1
  have hpos : 0 < vs.length := by rw [hlv]; exact List.length_pos_iff.mpr hne
  have hval : ∀ (i : Nat) (v : Value), (∃ k, vs[i]? = some (k, v)) → ∃ t, v = Value.int (ns.getD i 0) t := fun i v ⟨k, hk⟩ => by
    obtain ⟨x, f1, f2⟩ := KV.at' rel hk
    have e1 : (ds.map (·.2))[i]? = some x := by rw [List.getElem?_map, f1] <;> rfl
    rw [hv, List.getElem?_map] at e1
    obtain ⟨j, hj, e2⟩ := Option.map_eq_some_iff.mp e1
    subst e2
    obtain ⟨t, e3⟩ := f2
    exact ⟨t, by rw [e3, List.getD_eq_getElem?_getD, hj] <;> rfl⟩
  have hlt : a < s1.heap.objs.size := Heap.lt_size ho
  have hsz : (s1.heap.push vo).objs.size = s1.heap.objs.size + 1 := Heap.size_push _ _
  refine call_max_walk (wpAny_pyIter_values (v := s1.heap.objs.size) (d := a) ⟨_, Heap.get?_push_size _ (by rw [← eo] <;> rfl), by rw [← eo], by rw [← eo]⟩ dat1 ?_)
  refine ⟨_, _, _, _, _, _, _, rfl, Walks.dictValues (knd := mixKind X.prog X.w) (A := X.A.in1) (I.ok.hd hc) (s1.heap.push vo).objs.size a (by rw [hsz]; exact Nat.ne_of_lt (Nat.lt_succ_of_lt hlt)) vs ep,
    ⟨⟨_, Heap.get?_push_size _ rfl, rfl, rfl⟩, dat1.keep fun b u e => Heap.get?_push_of_some _ e⟩, fun b hb => ?_, hpos, CmpOf.ints_gt (fun i => ns.getD i 0) hval, fun v h' tk hP hk => ?_⟩
  · show b < ((s1.heap.push _).push _).objs.size
    rw [Heap.size_push, Heap.size_push]
    rw [hsz] at hb
    rcases List.mem_cons.mp hb with e | hb
    · rw [e]; exact Nat.lt_succ_self _
    · rw [List.mem_singleton.mp hb]; exact Nat.lt_succ_of_lt (Nat.lt_succ_of_lt hlt)
  · obtain ⟨t, rfl⟩ := hval _ v hP
    obtain ⟨b1, b2⟩ := argBest_gt (fun i => ns.getD i 0) (vs.length - 1)
    refine ⟨.int _, H1, I1.kept (t' := tk) fun b u e => hk b u (fun hmem => ?_) (Heap.get?_push_of_some _ (k1 b u e)), ⟨t, rfl⟩, q _ ?_ fun j hj => ?_⟩
    · have e1 : b = (s1.heap.push vo).objs.size := List.mem_singleton.mp hmem
      have e2 := Heap.lt_size e
      rw [e1, hsz] at e2
      exact absurd e2 (Nat.not_lt.mpr (Nat.le_succ _))
    · have hb : argBest (fun i j => decide (ns.getD i 0 > ns.getD j 0)) (vs.length - 1) < ns.length := by omega
      rw [List.getD_eq_getElem?_getD, List.getElem?_eq_getElem hb]; exact List.getElem_mem hb
    · obtain ⟨i, hi, e⟩ := List.mem_iff_getElem.mp hj
      have e2 : ns.getD i 0 = j := by rw [List.getD_eq_getElem?_getD, List.getElem?_eq_getElem hi, ← e] <;> rfl
      rw [← e2]
      exact b2 i (by omega)
end CKZ

/-! The program's best. -/
namespace CK
open PySem PySem.Spec PyProof.Rows L2
def spFarthest : Sp := fun vs H Q _ => ∃ (d : Addr) (row : List Int) (i : Nat) (C : List Int), vs = [.ref d] ∧ H d = some (.dK (kvN row i C)) ∧ C ≠ [] ∧ C.length ≤ 1000 ∧
  ∀ H' : Hp, Same H H' → Q (.int (far row i C)) H'
/-- a new tuple of the places of the lacks, and of what was let go -/
def spFindBest (K : PySem.W.Frag) : Sp := fun vs H Q _ => ∃ (n : Int) (r : Addr) (row : List Int), vs = [.int n, .ref r] ∧ 1 ≤ n ∧ n ≤ 8 ∧ SqL K H r (il row) ∧ row.length ≤ 1000 ∧
  ∀ (t l g : Addr) (as : List Addr) (H' : Hp), H t = none → H l = none → H g = none → l ≠ g → Same H H' → H' t = some (.tup [.ref l, .ref g]) → H' l = some (.lst (NL (bestS n.toNat row).lacks)) → H' g = some (.lst (as.map V.ref)) → TupsAt H' as (gV (bestS n.toNat row).gone) → Q (.ref t) H'
def spBest (K : PySem.W.Frag) : Sp := fun vs H Q _ => ∃ (n : Int) (r : Addr) (row : List Int), vs = [.int n, .ref r] ∧ 1 ≤ n ∧ n ≤ 8 ∧ SqL K H r (il row) ∧ RowOk row ∧
  ∀ (t l g : Addr) (as : List Addr) (H' : Hp), H t = none → H l = none → H g = none → l ≠ g → Same H H' → H' t = some (.tup [.ref l, .ref g]) → H' l = some (.lst (NL (bestS n.toNat row).lacks)) → H' g = some (.lst (as.map V.ref)) → TupsAt H' as (gV (bestS n.toNat row).gone) → Q (.ref t) H'
theorem kvN_vals (row : List Int) (i : Nat) (C : List Int) : (kvN row i C).map (·.2) = (C.map fun y => ((nxt row y i : Nat) : Int)).map V.int := by
  unfold kvN
  rw [List.map_map, List.map_map]
  rfl
theorem pairs_kv {K : PySem.W.Frag} {H : Hp} : ∀ {as : List Addr} {xs : List (Nat × Nat)}, PairsAt H as xs → Paired (fun p kv => SqT K H p [kV kv.1, kv.2]) as (kvS xs)
  | [], [], _ => .nil
  | [], _ :: _, h => absurd h.len (by simp)
  | _ :: _, [], h => absurd h.len (by simp)
  | a :: as, x :: xs, h => .cons (SqT.of h.tail.1) (pairs_kv h.tail.2)
section
variable {P : Program} {w : World} {K : PySem.W.Frag} {mg : Str → Option Value} {base : Heap}
theorem sc_farthest : FnScope ["there", "farthest", "page"] ["there"] (defScope (top 30)) := ⟨rfl, rfl, rfl, by decide +kernel, rfl, by decide +kernel, by decide +kernel⟩
theorem ok_farthest (T : Prog K mg) : FnOk P w K mg base CX0 1 T.farthest.f T.farthest.fd ["there"] spFarthest := by
  refine T.farthest.fn.ok sc_farthest (fun vs H Q E h => ?len) (fun cdv A outer s H vs Q E hr h => ?body)
  case len =>
    obtain ⟨d, row, i, C, rfl, _⟩ := h
    rfl
  case body =>
    have hu := hu_of hr
    obtain ⟨d, row, i, C, rfl, hd, hC, hl, k⟩ := h
    refine ⟨_, PSs.nox (pss_cons (ps_set (i := 1) sc_farthest.nd rfl (Or.inr rfl) (CKZ.pe_maxVals rfl (by rfl) T.max (pv 0)))
        (pss_one (ps_ret (pe_callB (cr_min rfl) (by rfl) T.min (by decide +kernel) (pa_cons (pe_lock (pe_lc (own := [("page", 2)]) (g := gName 2) (tt := (tTest (tOp _ (tDGet (tVar 0) (tVar 2)) (tVar 1)))) (te := (tVar 2)) rfl sc_farthest.nd ((pi_keys (pv 0))) (blkOk_by (own := [("page", 2)]) (N := ["there", "farthest", "page"]) (sc := defScope (top 30)) (by decide +kernel)) (fun _ _ _ _ _ => (by exact (pg_name (i := 2) sc_farthest.nd rfl (Or.inl rfl)))) (fun _ _ _ _ _ => (by exact (pts_one (pt_cmpR op_eq (pe_dget hu (pv 0) (pv 2) (fun _ _ => rfl)) (pv 1) (nomark _))))) (fun _ _ _ _ _ => (by exact (pv 2))))) pa_nil))))), ?_⟩
    have F := far_ok (row := row) (i := i) hC
    have hmem : ((nxt row (far row i C) i : Nat) : Int) ∈ C.map fun y => ((nxt row y i : Nat) : Int) := List.mem_map.mpr ⟨_, F.mem, rfl⟩
    refine ⟨_, rfl, d, _, _, rfl, hd, kvN_vals row i C, by simpa using hC, fun m hm hmax => ?_⟩
    have em : m = ((nxt row (far row i C) i : Nat) : Int) := by
      obtain ⟨y, hy, e⟩ := List.mem_map.mp hm
      have h1 := hmax _ hmem
      have h2 := F.far y hy
      omega
    subst em
    -- [page for page in there if there[page] == farthest], the dict locked
    refine ⟨d, _, hd, trivial, fun od => ?_⟩
    have hd1 : upd H d (.frz od (.dK (kvN row i C))) d = some (.frz od (.dK (kvN row i C))) := upd_same
    refine ⟨_, rfl, d, od, rfl, .inl ⟨_, hd1, fun D hD => ?_⟩⟩
    have Dd : D ≠ d := by intro z; rw [z, upd_same] at hD; cases hD
    have hDH : H D = none := by rw [upd_ne Dd] at hD; exact hD
    have hlk : (kvN row i C).length = C.length := List.length_map _
    refine lc_it (walk_keys (d := d) (o := od) (kvs := kvN row i C)) (fun j H' => H' D = some (.lst (il ((C.take j).filter fun y => decide (nxt row y i = nxt row (far row i C) i)))) ∧ H' d = some (.frz od (.dK (kvN row i C))) ∧ ∀ c o, c ≠ d → H c = some o → H' c = some o) ?_ (fun j H' _ h => h.2.1) ?_ ?_
    · refine ⟨upd_same, by rw [upd_ne (Ne.symm Dd)]; exact hd1, fun c o h1 h2 => ?_⟩
      rw [upd_ne (ne_fresh h2 hDH), upd_ne h1]
      exact h2
    · rintro j x H1 H2 hj ⟨hD1, hd1, hk⟩ ⟨rfl, k0, v0, hkv, rfl⟩
      rw [hlk] at hj
      have ej : C[j]? = some (C[j]'hj) := List.getElem?_eq_getElem hj
      have ekv : (kvN row i C)[j]? = some (Sum.inl (C[j]'hj), V.int (nxt row (C[j]'hj) i : Nat)) := by
        unfold kvN
        rw [List.getElem?_map, ej]
        rfl
      have e1 := Option.some.inj (hkv.symm.trans ekv)
      have e2 : k0 = Sum.inl (C[j]'hj) := congrArg Prod.fst e1
      subst e2
      have hm := List.getElem_mem hj
      rw [take_snoc ej, List.filter_append]
      have hle := List.length_filter_le (fun y => decide (nxt row y i = nxt row (far row i C) i)) (C.take j)
      rw [List.length_take] at hle
      have hv : valV (kvN row i C) (Sum.inl (C[j]'hj)) = some (V.int (nxt row (C[j]'hj) i : Nat)) := by rw [kvN_val, if_pos hm]
      generalize C[j]'hj = y at *
      refine ⟨rfl, _, rfl, _, rfl, d, _, rfl, .inl ⟨_, Sum.inl y, .inr ⟨_, hd1⟩, rfl, hv.symm⟩, _, rfl, rfl, _, rfl, ?_⟩
      by_cases q : nxt row y i = nxt row (far row i C) i
      · refine ifT (decide_eq_true (by rw [q])) ⟨_, rfl, _, hD1, szl (by rw [il_len]; omega), ?_, ?_, fun c o h1 h2 => ?_⟩
        · rw [upd_same]
          show some (HO.lst (il _ ++ [V.int y])) = _
          rw [il_snoc]
          simp [q]
        · rw [upd_ne (Ne.symm Dd)]; exact hd1
        · rw [upd_ne (ne_fresh h2 hDH)]; exact hk c o h1 h2
      · refine ifF (decide_eq_false (by intro z; injection z with z; omega)) ⟨?_, hd1, hk⟩
        simpa [q] using hD1
    · rintro H1 ⟨hD1, hd1, hk⟩
      rw [hlk, List.take_length] at hD1
      refine ⟨hd1, ?_⟩
      have hDm : upd H1 d (.dK (kvN row i C)) D = some (.lst (il (C.filter fun y => decide (nxt row y i = nxt row (far row i C) i)))) := by rw [upd_ne Dd]; exact hD1
      have fm : far row i C ∈ C.filter fun y => decide (nxt row y i = nxt row (far row i C) i) := List.mem_filter.mpr ⟨F.mem, by simp⟩
      refine ⟨D, _, rfl, SqL.of hDm, List.length_pos_of_mem fm, fun m hm hmin => ?_⟩
      have e : m = far row i C := by
        have h1 := hmin _ fm
        have h2 := List.mem_filter.mp hm
        have h3 := F.least m h2.1 (by simpa using h2.2)
        omega
      rw [e]
      refine k _ fun c o hc => ?_
      by_cases z : c = d
      · rw [z] at hc ⊢
        rw [hd] at hc
        rw [upd_same]
        exact hc
      · rw [upd_ne z]
        exact hk c o z hc
theorem sc_find_best : FnScope ["rooms", "row", "next_asks", "there", "lacks", "gone", "place", "page", "leaving"] ["rooms", "row"] (defScope (top 29)) := ⟨rfl, rfl, rfl, by decide +kernel, rfl, by decide +kernel, by decide +kernel⟩
theorem ok_find_best (T : Prog K mg) : FnOk P w K mg base CX0 2 T.find_best.f T.find_best.fd ["rooms", "row"] (spFindBest K) := by
  have G_find_spells := ok_find_spells (P := P) (w := w) (base := base) T
  have G_farthest := ok_farthest (P := P) (w := w) (base := base) T
  refine T.find_best.fn.ok sc_find_best (fun vs H Q E h => ?len) (fun cdv A outer s H vs Q E hr h => ?body)
  case len =>
    obtain ⟨n, r, row, rfl, _⟩ := h
    rfl
  case body =>
    have hr_find_spells : Room 1 _ := hr.mono (by decide)
    have hr_farthest : Room 1 _ := hr.mono (by decide)
    have hu := hu_of hr
    obtain ⟨n, r, row, rfl, n1, n8, hS, hl, k⟩ := h
    refine ⟨_, PSs.nox (pss_cons (ps_set (i := 2) sc_find_best.nd rfl (Or.inl rfl) (pe_callTy (call_dictP rfl) (by rfl) T.dict_ (by decide +kernel) (pa_cons (pe_call G_find_spells hr_find_spells (by rfl) T.find_spells.g T.find_spells.fn.kp T.find_spells.bd .nil pass0 (pa_cons (pv 1) pa_nil)) pa_nil)))
        (pss_cons (ps_set (i := 3) sc_find_best.nd rfl (Or.inl rfl) pe_dnewK)
        (pss_cons (ps_set (i := 4) sc_find_best.nd rfl (Or.inl rfl) (pe_lst pa_nil))
        (pss_cons (ps_set (i := 5) sc_find_best.nd rfl (Or.inl rfl) (pe_lst pa_nil))
        (pss_cons (ps_for PassesOwn.never rfl (pi_enum (by rfl) T.enumerate (pa_cons (pv 1) pa_nil)) (pg_tup rfl (pgs_cons (pg_name (i := 6) sc_find_best.nd rfl (Or.inl rfl)) (pgs_cons (pg_name (i := 7) sc_find_best.nd rfl (Or.inl rfl)) pgs_nil)))
        (pss_cons (ps_if (pt_cmp (pc_dnotin hu (pv 7) (pv 3)))
        (pss_cons (ps_expr (pe_bm PySem.F.plainAttrs_list PySem.F.slot_list_append PySem.F.type_list_append mt_append (pv 4) (pa_cons (pv 6) pa_nil)))
        (pss_one (ps_if (pt_cmpR op_eq (pe_callB call_lenD (by rfl) T.len PySem.boot_len (pa_cons (pv 3) pa_nil)) (pv 0) (nomark _))
        (pss_cons (ps_set (i := 8) sc_find_best.nd rfl (Or.inl rfl) (pe_call G_farthest hr_farthest (by rfl) T.farthest.g T.farthest.fn.kp T.farthest.bd .nil pass0 (pa_cons (pv 3) pa_nil)))
        (pss_cons (ps_expr (pe_bm PySem.F.plainAttrs_list PySem.F.slot_list_append PySem.F.type_list_append mt_append (pv 5) (pa_cons (pe_tup (pa_cons (pv 6) (pa_cons (pv 8) pa_nil))) pa_nil)))
        (pss_one (ps_ddel (pv 3) (pv 8)))))
        pss_nil)))
        pss_nil)
        (pss_one (ps_dput hu (pv 3) (pv 7) (pe_dget2 hu (pv 2) (pv 6) (pe_callB call_len_seq (by rfl) T.len PySem.boot_len (pa_cons (pv 1) pa_nil)) ⟨rfl, rfl, rfl, rfl⟩) rfl))))
        (pss_one (ps_ret (pe_tup (pa_cons (pv 4) (pa_cons (pv 5) pa_nil)))))))))), ?_⟩
    have hn0 : 0 < n.toNat := by omega
    -- next_asks = dict(find_spells(row))
    refine ⟨_, rfl, r, row, rfl, hS, hl, fun s as0 H1 hs1 s1 hs hp0 => ?_⟩
    refine ⟨s, as0, kvS (spellsL row), rfl, SqL.of hs, pairs_kv hp0, fun nd hnd => ?_⟩
    have s2 := Same.new (o := .dK (mergeK [] (kvS (spellsL row)))) hnd
    -- there = {}; lacks = []; gone = []
    refine fun th hth => ?_
    have s3 := Same.new (o := .dK []) hth
    refine ⟨szd rfl, fun la hla => ?_⟩
    have s4 := Same.new (o := .lst []) hla
    refine ⟨szd rfl, fun go hgo => ?_⟩
    have s5 := Same.new (o := .lst []) hgo
    have s15 := (((s1.trans s2).trans s3).trans s4).trans s5
    have thH : H th = none := Same.back (s1.trans s2) hth
    have laH : H la = none := Same.back ((s1.trans s2).trans s3) hla
    have goH : H go = none := Same.back (((s1.trans s2).trans s3).trans s4) hgo
    have ndth : nd ≠ th := ne_fresh (H := upd H1 nd _) upd_same hth
    have ndla : nd ≠ la := ne_fresh (s3 _ _ (upd_same (H := H1) (a := nd))) hla
    have ndgo : nd ≠ go := ne_fresh (s4 _ _ (s3 _ _ (upd_same (H := H1) (a := nd)))) hgo
    have thla : th ≠ la := ne_fresh (H := upd _ th _) upd_same hla
    have thgo : th ≠ go := ne_fresh (s4 _ _ upd_same) hgo
    have lago : la ≠ go := ne_fresh (H := upd _ la _) upd_same hgo
    refine ⟨_, rfl, r, _, rfl, s15.seq hS, for_it (walk_enum (K := K) (a := r) (xs := il row)) (fun i σ H' => (∃ v6 v7 v8, σ = [some (.int n), some (.ref r), some (.ref nd), some (.ref th), some (.ref la), some (.ref go), v6, v7, v8]) ∧ Same H H' ∧ H' nd = some (.dK (mergeK [] (kvS (spellsL row)))) ∧ H' th = some (.dK (kvN row i (bestTo n.toNat row i).C)) ∧
      H' la = some (.lst (NL (bestTo n.toNat row i).lacks)) ∧ ∃ as : List Addr, H' go = some (.lst (as.map V.ref)) ∧ TupsAt H' as (gV (bestTo n.toNat row i).gone)) ?_ (fun i σ H' _ h => h.2.1.seq hS) ?_ ?_⟩
    · refine ⟨⟨_, _, _, rfl⟩, s15, ?_, ?_, ?_, [], upd_same, TupsAt.nil⟩
      · rw [upd_ne ndgo, upd_ne ndla, upd_ne ndth, upd_same]
      · rw [upd_ne thgo, upd_ne thla, upd_same]; rfl
      · rw [upd_ne lago, upd_same]; rfl
    · rintro i x σ H2 H3 hi ⟨⟨v6, v7, v8, rfl⟩, s6, hnd2, hth2, hla2, as, hgo2, hg2⟩ ⟨t, x1, x2, rfl, ht, rfl, ha, hb⟩
      have ea : V.int (i : Nat) = x1 := Option.some.inj ha
      subst ea
      obtain ⟨p, hp, rfl⟩ := il_get hb
      rw [il_len] at hi
      have sT := Same.new (o := .tup [V.int (i : Nat), V.int p]) ht
      have Ok := bestTo_ok hn0 row i
      rw [bestTo_succ hp]
      unfold BS.step
      generalize hB : bestTo n.toNat row i = B at *
      have o1 := Ok.le
      have o2 := Ok.lk
      have o3 := Ok.gn
      have s7 := s6.trans sT
      have hnd3 := sT _ _ hnd2
      have hth3 := sT _ _ hth2
      have hla3 := sT _ _ hla2
      have hgo3 := sT _ _ hgo2
      have hg3 := hg2.same sT
      have hal : as.length ≤ i := by rw [hg2.len, List.length_map]; exact o3
      generalize hH3 : upd H2 t (.tup [V.int (i : Nat), V.int p]) = H3 at *
      refine ⟨t, _, rfl, SqT.of (by rw [← hH3]; exact upd_same), rfl, _, _, rfl, _, _, rfl, rfl, ?_⟩
      -- there[page] = next_asks.get(place, len(row))
      have ge := next_get hp
      refine ⟨_, rfl, _, rfl, th, _, rfl, DGet.k (k := Sum.inl p) hth3, _, rfl, ?_⟩
      rw [kvN_val]
      by_cases hin : p ∈ B.C
      · refine ifF (by rw [if_pos hin]; rfl) ?_
        rw [if_pos hin]
        refine ⟨_, rfl, nd, rfl, .inl ⟨_, .inl hnd3⟩, _, rfl, _, rfl, r, _, rfl, .inl (s7.seq hS), _, DGet.k (k := Sum.inl (i : Int)) hnd3, ?_⟩
        rw [il_len, ge]
        refine ⟨_, rfl, _, rfl, th, _, rfl, DPut.k (k := Sum.inl p) hth3 (szl (by unfold kvN; rw [List.length_map]; omega)), ?_⟩
        rw [kvN_put hp hin]
        refine ⟨⟨_, _, _, rfl⟩, Same.put s7 thH, by rw [upd_ne ndth]; exact hnd3, upd_same, by rw [upd_ne (Ne.symm thla)]; exact hla3, as, by rw [upd_ne (Ne.symm thgo)]; exact hgo3, hg3.put hth3 (by intro u z; cases z)⟩
      · refine ifT (by rw [if_neg hin]; rfl) ?_
        rw [if_neg hin]
        -- lacks.append(place)
        refine ⟨_, rfl, .inl ⟨rfl, _, SqL.of hla3⟩, _, rfl, la, _, _, rfl, rfl, hla3, szl (by rw [List.length_map]; omega), ?_⟩
        rw [NL_snoc]
        have s8 : Same H (upd H3 la (.lst (NL (B.lacks ++ [i])))) := Same.put s7 laH
        have hth4 : upd H3 la (.lst (NL (B.lacks ++ [i]))) th = some (.dK (kvN row i B.C)) := by rw [upd_ne thla]; exact hth3
        have hnd4 : upd H3 la (.lst (NL (B.lacks ++ [i]))) nd = some (.dK (mergeK [] (kvS (spellsL row)))) := by rw [upd_ne ndla]; exact hnd3
        have hgo4 : upd H3 la (.lst (NL (B.lacks ++ [i]))) go = some (.lst (as.map V.ref)) := by rw [upd_ne (Ne.symm lago)]; exact hgo3
        have hg4 : TupsAt (upd H3 la (.lst (NL (B.lacks ++ [i])))) as (gV B.gone) := hg3.put hla3 (by intro u z; cases z)
        have hla4 : upd H3 la (.lst (NL (B.lacks ++ [i]))) la = some (.lst (NL (B.lacks ++ [i]))) := upd_same
        generalize hH4 : upd H3 la (.lst (NL (B.lacks ++ [i]))) = H4 at *
        -- if len(there) == rooms
        refine ⟨_, rfl, th, _, rfl, hth4, _, rfl, rfl, _, rfl, ?_⟩
        have elen : (kvN row i B.C).length = B.C.length := List.length_map _
        by_cases hfull : B.C.length = n.toNat
        · refine ifT (decide_eq_true (by rw [elen]; exact congrArg V.int (by omega))) ?_
          rw [if_pos hfull]
          have hne : B.C ≠ [] := by intro z; rw [z] at hfull; simp at hfull; omega
          have F := far_ok (row := row) (i := i) hne
          -- leaving = _farthest(there)
          refine ⟨_, rfl, th, row, i, B.C, rfl, hth4, hne, by omega, fun H5 s9 => ?_⟩
          generalize hfar : far row i B.C = f at *
          have hgo5 := s9 _ _ hgo4
          -- gone.append((place, leaving))
          refine ⟨_, rfl, .inl ⟨rfl, _, SqL.of hgo5⟩, _, rfl, _, rfl, szd rfl, fun u hu' => ?_⟩
          have sU := Same.new (o := .tup [V.int (i : Nat), V.int f]) hu'
          have hgo6 := sU _ _ hgo5
          refine ⟨go, _, _, rfl, rfl, hgo6, szl (by rw [List.length_map]; omega), ?_⟩
          have s10 : Same H (upd (upd H5 u (.tup [V.int (i : Nat), V.int f])) go (.lst (as.map V.ref ++ [V.ref u]))) := Same.put ((s8.trans s9).trans sU) goH
          have hth6 : upd (upd H5 u (.tup [V.int (i : Nat), V.int f])) go (.lst (as.map V.ref ++ [V.ref u])) th = some (.dK (kvN row i B.C)) := by rw [upd_ne thgo]; exact (s9.trans sU) _ _ hth4
          have hnd6 : upd (upd H5 u (.tup [V.int (i : Nat), V.int f])) go (.lst (as.map V.ref ++ [V.ref u])) nd = some (.dK (mergeK [] (kvS (spellsL row)))) := by rw [upd_ne ndgo]; exact (s9.trans sU) _ _ hnd4
          have hla6 : upd (upd H5 u (.tup [V.int (i : Nat), V.int f])) go (.lst (as.map V.ref ++ [V.ref u])) la = some (.lst (NL (B.lacks ++ [i]))) := by rw [upd_ne lago]; exact (s9.trans sU) _ _ hla4
          have hgo7 : upd (upd H5 u (.tup [V.int (i : Nat), V.int f])) go (.lst (as.map V.ref ++ [V.ref u])) go = some (.lst ((as ++ [u]).map V.ref)) := by rw [upd_same, List.map_append]; rfl
          have hg6 : TupsAt (upd (upd H5 u (.tup [V.int (i : Nat), V.int f])) go (.lst (as.map V.ref ++ [V.ref u]))) (as ++ [u]) (gV (B.gone ++ [(i, f)])) := by
            rw [gV_snoc]
            exact ((hg4.same (s9.trans sU)).snoc (t := u) upd_same).put hgo6 (by intro u z; cases z)
          generalize hH6 : upd (upd H5 u (.tup [V.int (i : Nat), V.int f])) go (.lst (as.map V.ref ++ [V.ref u])) = H6 at *
          -- del there[leaving]
          refine ⟨_, rfl, _, rfl, th, _, Sum.inl f, rfl, hth6, rfl, by rw [kvN_val, if_pos F.mem]; rfl, ?_⟩
          rw [kvN_drop]
          have s11 : Same H (upd H6 th (.dK (kvN row i (B.C.filter (· != f))))) := Same.put s10 thH
          have hnd7 : upd H6 th (.dK (kvN row i (B.C.filter (· != f)))) nd = some (.dK (mergeK [] (kvS (spellsL row)))) := by rw [upd_ne ndth]; exact hnd6
          have hin2 : p ∉ B.C.filter (· != f) := fun z => hin (List.mem_filter.mp z).1
          have hfl := List.length_filter_le (· != f) B.C
          refine ⟨_, rfl, nd, rfl, .inl ⟨_, .inl hnd7⟩, _, rfl, _, rfl, r, _, rfl, .inl (s11.seq hS), _, DGet.k (k := Sum.inl (i : Int)) hnd7, ?_⟩
          rw [il_len, ge]
          refine ⟨_, rfl, _, rfl, th, _, rfl, DPut.k (k := Sum.inl p) upd_same (szl (by unfold kvN; rw [List.length_map]; omega)), ?_⟩
          rw [kvN_new hp hin2, upd_upd]
          exact ⟨⟨_, _, _, rfl⟩, Same.put s10 thH, by rw [upd_ne ndth]; exact hnd6, upd_same, by rw [upd_ne (Ne.symm thla)]; exact hla6, as ++ [u], by rw [upd_ne (Ne.symm thgo)]; exact hgo7, hg6.put hth6 (by intro u z; cases z)⟩
        · refine ifF (decide_eq_false (by intro z; injection z with z; rw [elen] at z; omega)) ?_
          rw [if_neg hfull]
          refine ⟨_, rfl, nd, rfl, .inl ⟨_, .inl hnd4⟩, _, rfl, _, rfl, r, _, rfl, .inl (s8.seq hS), _, DGet.k (k := Sum.inl (i : Int)) hnd4, ?_⟩
          rw [il_len, ge]
          refine ⟨_, rfl, _, rfl, th, _, rfl, DPut.k (k := Sum.inl p) hth4 (szl (by unfold kvN; rw [List.length_map]; omega)), ?_⟩
          rw [kvN_new hp hin]
          exact ⟨⟨_, _, _, rfl⟩, Same.put s8 thH, by rw [upd_ne ndth]; exact hnd4, upd_same, by rw [upd_ne (Ne.symm thla)]; exact hla4, as, by rw [upd_ne (Ne.symm thgo)]; exact hgo4, hg4.put hth4 (by intro u z; cases z)⟩
    · rintro σ H2 ⟨⟨v6, v7, v8, rfl⟩, s6, hnd2, hth2, hla2, as, hgo2, hg2⟩
      rw [il_len] at hla2 hg2
      refine ⟨_, rfl, _, rfl, szd rfl, fun t ht => ?_⟩
      have sT := Same.new (o := .tup [V.ref la, V.ref go]) ht
      exact k t la go as _ (Same.back s6 ht) laH goH lago (s6.trans sT) upd_same (sT _ _ hla2) (sT _ _ hgo2) (hg2.same sT)
theorem sc_best : FnScope ["rooms", "row"] ["rooms", "row"] (defScope (top 28)) := ⟨rfl, rfl, rfl, by decide +kernel, rfl, by decide +kernel, by decide +kernel⟩
theorem ok_best (T : Prog K mg) : FnOk P w K mg base CX0 3 T.best.f T.best.fd ["rooms", "row"] (spBest K) := by
  have G_check_rooms := ok_check_rooms (P := P) (w := w) (base := base) T
  have G_check_row := ok_check_row (P := P) (w := w) (base := base) T
  have G_find_best := ok_find_best (P := P) (w := w) (base := base) T
  refine T.best.fn.ok sc_best (fun vs H Q E h => ?len) (fun cdv A outer s H vs Q E hr h => ?body)
  case len =>
    obtain ⟨n, r, row, rfl, _⟩ := h
    rfl
  case body =>
    have hr_check_rooms : Room 1 _ := hr.mono (by decide)
    have hr_check_row : Room 2 _ := hr.mono (by decide)
    have hr_find_best : Room 2 _ := hr.mono (by decide)
    have hu := hu_of hr
    obtain ⟨n, r, row, rfl, n1, n8, hS, hR, k⟩ := h
    refine ⟨_, PSs.nox (pss_cons (ps_expr (pe_call G_check_rooms hr_check_rooms (by rfl) T.check_rooms.g T.check_rooms.fn.kp T.check_rooms.bd .nil pass0 (pa_cons (pv 0) pa_nil)))
        (pss_cons (ps_expr (pe_call G_check_row hr_check_row (by rfl) T.check_row.g T.check_row.fn.kp T.check_row.bd .nil pass0 (pa_cons (pv 1) pa_nil)))
        (pss_one (ps_ret (pe_call G_find_best hr_find_best (by rfl) T.find_best.g T.find_best.fn.kp T.find_best.bd .nil pass0 (pa_cons (pv 0) (pa_cons (pv 1) pa_nil))))))), ?_⟩
    have hR1 := hR.1
    refine ⟨_, rfl, n, rfl, n1, n8, ?_⟩
    refine ⟨_, rfl, r, row, rfl, hS, hR, fun H1 s1 => ?_⟩
    exact ⟨_, rfl, _, rfl, n, r, row, rfl, n1, n8, s1.seq hS, by omega, fun t l g as H2 ht hl hg lg s2 e1 e2 e3 e4 => k t l g as H2 (Same.back s1 ht) (Same.back s1 hl) (Same.back s1 hg) lg (s1.trans s2) e1 e2 e3 e4⟩
end
end CK

/-! min of a list of pairs of ints: one whose first is the least. -/
namespace CKZ
open PySem PySem.Spec PyProof.Rows L2 PySem.W
open PySem.Sem (wp)
def pd2 (x : Int × Int) : PyData := .tuple [.int x.1, .int x.2]
theorem lt_pair {x y : Int × Int} (h : x.1 < y.1) : dataLt (pd2 x) (pd2 y) = true := by
  show PyProof.Rows.lexLt itemOrd (.inl 1 :: .inl x.1 :: _) (.inl 1 :: .inl y.1 :: _) = true
  rw [PyProof.Rows.lex_self, PyProof.Rows.lex_diff (by intro z; injection z with z; omega)]
  exact decide_eq_true h
theorem gt_pair {x y : Int × Int} (h : y.1 < x.1) : dataLt (pd2 x) (pd2 y) = false := by
  show PyProof.Rows.lexLt itemOrd (.inl 1 :: .inl x.1 :: _) (.inl 1 :: .inl y.1 :: _) = false
  rw [PyProof.Rows.lex_self, PyProof.Rows.lex_diff (by intro z; injection z with z; omega)]
  exact decide_eq_false (by show ¬ x.1 < y.1; omega)
theorem best_pair (xs : List (Int × Int)) : ∀ k, argBest (fun i j => dataLt ((xs.map pd2).getD i .none) ((xs.map pd2).getD j .none)) k ≤ k ∧ (k < xs.length → ∀ j, j ≤ k → (xs.getD (argBest (fun i j => dataLt ((xs.map pd2).getD i .none) ((xs.map pd2).getD j .none)) k) (0, 0)).1 ≤ (xs.getD j (0, 0)).1)
  | 0 => ⟨Nat.le_refl _, fun _ j hj => by
      have e : j = 0 := by omega
      subst e
      exact Int.le_refl _⟩
  | k + 1 => by
    obtain ⟨h1, h2⟩ := best_pair xs k
    have gd : ∀ i, i < xs.length → (xs.map pd2).getD i .none = pd2 (xs.getD i (0, 0)) := fun i hi => by
      rw [List.getD_eq_getElem?_getD, List.getD_eq_getElem?_getD, List.getElem?_map, List.getElem?_eq_getElem hi]
      rfl
    simp only [argBest]
    generalize hb : argBest (fun i j => dataLt ((xs.map pd2).getD i .none) ((xs.map pd2).getD j .none)) k = b at *
    by_cases hc : dataLt ((xs.map pd2).getD (k + 1) .none) ((xs.map pd2).getD b .none) = true
    · rw [if_pos hc]
      refine ⟨Nat.le_refl _, fun hk j hj => ?_⟩
      rw [gd _ hk, gd _ (by omega)] at hc
      have le1 : (xs.getD (k + 1) (0, 0)).1 ≤ (xs.getD b (0, 0)).1 := by
        refine Int.not_lt.mp fun z => ?_
        rw [gt_pair z] at hc
        cases hc
      by_cases e : j = k + 1
      · rw [e]; exact Int.le_refl _
      · exact Int.le_trans le1 (h2 (by omega) j (by omega))
    · rw [if_neg hc]
      refine ⟨Nat.le_succ_of_le h1, fun hk j hj => ?_⟩
      rw [gd _ hk, gd _ (by omega)] at hc
      have le1 : (xs.getD b (0, 0)).1 ≤ (xs.getD (k + 1) (0, 0)).1 := by
        refine Int.not_lt.mp fun z => hc (lt_pair z)
      by_cases e : j = k + 1
      · rw [e]; exact le1
      · exact h2 (by omega) j (by omega)
/-- the pairs at as -/
def Prs (K : PySem.W.Frag) (H : Hp) (as : List Addr) (xs : List (Int × Int)) : Prop := as.length = xs.length ∧ ∀ (i : Nat) (a : Addr) (x : Int × Int), as[i]? = some a → xs[i]? = some x → SqT K H a [.int x.1, .int x.2]
theorem prs_dp {K : PySem.W.Frag} {H : Hp} : ∀ {as : List Addr} {xs : List (Int × Int)}, Prs K H as xs → DpAll K H (as.map V.ref) (xs.map pd2)
  | [], [], _ => .nil
  | [], _ :: _, h => absurd h.1 (by simp)
  | _ :: _, [], h => absurd h.1 (by simp)
  | a :: as, x :: xs, h => .cons (.tup (h.2 0 a x rfl rfl) (.cons (.int _) (.cons (.int _) .nil))) (prs_dp ⟨Nat.succ.inj h.1, fun i c y hc hy => h.2 (i + 1) c y hc hy⟩)
theorem alike_pairs (xs : List (Int × Int)) : AlikeAll (xs.map pd2) := by
  refine ⟨fun x hx y hy => ?_, fun x hx => ?_⟩
  · obtain ⟨a, _, rfl⟩ := List.mem_map.mp hx
    obtain ⟨b, _, rfl⟩ := List.mem_map.mp hy
    rfl
  · obtain ⟨a, _, rfl⟩ := List.mem_map.mp hx
    intro z
    cases z
theorem depth_pairs : ∀ xs : List (Int × Int), PyData.depthAll (xs.map pd2) ≤ 1
  | [] => Nat.zero_le _
  | _ :: xs => Nat.max_le.mpr ⟨Nat.le_refl _, depth_pairs xs⟩
def rMinP (K : PySem.W.Frag) : List V → Hp → VK → Prop := fun vs H Q => ∃ (a : Addr) (as : List Addr) (xs : List (Int × Int)), vs = [V.ref a] ∧ SqL K H a (as.map V.ref) ∧ Prs K H as xs ∧ 0 < xs.length ∧
  ∀ (i : Nat) (t : Addr) (x : Int × Int), as[i]? = some t → xs[i]? = some x → (∀ y ∈ xs, x.1 ≤ y.1) → Q (.ref t) H
theorem cr_minP {X : Cx} (hc : X.calm = true) (hu : X.A.units + 64 < cLine) : CallR X (.builtin "min") (rMinP X.K) := by
  intro pins s σ H vs us Q I r h
  obtain ⟨a, as, xs, rfl, hs, hp, hne, q⟩ := h
  obtain ⟨its, rv, hl, _⟩ := I.list hs
  rw [Vals.ref1 r]
  obtain ⟨bs, hr⟩ := Dp.readsAll I (xs.map pd2) _ _ (prs_dp hp) rv
  have hh := I.ok.hd hc
  have hr' : ReadsAll s.heap its.toArray.toList (xs.map pd2) bs := hr
  have hn : its.toArray.size = xs.length := by
    have := readsAll_len hr'
    rw [List.length_map] at this
    exact this
  refine call_min_walkH (iter_listW (A := X.A.in1) hh hl.isList fun s₂ e W st hfp hw hk => ?_)
  refine ⟨_, _, _, _, _, _, _, s.heap, _, rfl, W, st, hfp, by omega, hw, hk, cmpIn_lt (A := X.A.in1) hr' (alike_pairs xs) (by have := depth_pairs xs; show X.A.units + 1 + _ < _; omega), fun v s' hP m => ?_⟩
  obtain ⟨h', tk, rfl, hk'⟩ := moved_old e rfl m
  obtain ⟨b1, b2⟩ := best_pair xs (its.toArray.size - 1)
  generalize hj : argBest (fun i j => dataLt ((xs.map pd2).getD i .none) ((xs.map pd2).getD j .none)) (its.toArray.size - 1) = j at *
  have jl : j < xs.length := by omega
  have ja : j < as.length := by rw [hp.1]; exact jl
  have ea : as[j]? = some (as[j]'ja) := List.getElem?_eq_getElem ja
  obtain ⟨u, hu', ru⟩ := rv.get (show (as.map V.ref)[j]? = some (.ref (as[j]'ja)) by rw [List.getElem?_map, ea]; rfl)
  have hv : v = u := Option.some.inj ((show some v = its.toArray[j]? from hP.symm).trans (by simpa using hu'))
  subst hv
  refine ⟨.ref (as[j]'ja), H, I.kept hk', ru, q j _ _ ea (List.getElem?_eq_getElem jl) fun y hy => ?_⟩
  obtain ⟨i, hi, ey⟩ := List.mem_iff_getElem.mp hy
  have := b2 (by omega) i (by omega)
  rw [List.getD_eq_getElem?_getD, List.getD_eq_getElem?_getD, List.getElem?_eq_getElem jl, List.getElem?_eq_getElem hi] at this
  rw [← ey]
  exact this
end CKZ

/-! The program's paper. -/
namespace CK
open PySem PySem.Spec PyProof.Rows L2
def spCheapest : Sp := fun vs H Q _ => ∃ (e l : Addr) (row : List Int) (L : List Nat), vs = [.int (L.length : Nat), .ref e, .ref l] ∧ H e = some (.dK (mergeK [] (kvS (spellsL row)))) ∧ H l = some (.lst (NL L)) ∧ 0 < L.length ∧ L.length ≤ row.length ∧ row.length ≤ 100 ∧
  ∀ (t : Addr) (a : Nat) (H' : Hp), Same H H' → H' t = some (.tup [.int ((L.getD a 0 + freeB row a L.length : Nat) : Int), .int (a : Nat)]) → a < L.length → (∀ b, b < L.length → L.getD a 0 + freeB row a L.length ≤ L.getD b 0 + freeB row b L.length) → Q (.ref t) H'
def spWayBack : Sp := fun vs H Q _ => ∃ (l : Addr) (row : List Int) (n : Nat) (L A : List Nat), vs = [.ref l] ∧ H l = some (.lst (NL A)) ∧ DP row n L A row.length ∧ row.length ≤ 100 ∧
  ∀ (d : Addr) (H' : Hp), H d = none → Same H H' → H' d = some (.lst (NL (theWay row A))) → Q (.ref d) H'
/-- a new paper, which shows as many as the best lacks -/
def spPaper (K : PySem.W.Frag) : Sp := fun vs H Q _ => ∃ (n : Int) (r : Addr) (row : List Int), vs = [.int n, .ref r] ∧ 1 ≤ n ∧ n ≤ 8 ∧ SqL K H r (il row) ∧ RowOk row ∧
  ∀ (d : Addr) (ps : List Nat) (H' : Hp), H d = none → Same H H' → H' d = some (.lst (NL ps)) → PaperOk row.length ps → shownN n row ps = ((bestS n.toNat row).lacks.length : Int) → Q (.ref d) H'
theorem NL_get {ns : List Nat} {i : Nat} (h : i < ns.length) : atI (NL ns) (i : Int) = some (V.int (ns.getD i 0 : Nat)) := by
  refine atI_nat ?_
  rw [List.getElem?_map, List.getD_eq_getElem?_getD, List.getElem?_eq_getElem h]
  rfl
abbrev iV (xs : List (Int × Int)) : List (List V) := xs.map fun x => [V.int x.1, V.int x.2]
theorem iV_snoc {xs : List (Int × Int)} {x : Int × Int} : iV (xs ++ [x]) = iV xs ++ [[V.int x.1, V.int x.2]] := by
  show (xs ++ [x]).map _ = _
  rw [List.map_append]
  rfl
theorem range_snoc (i : Nat) : List.range (i + 1) = List.range i ++ [i] := List.range_succ
section
variable {P : Program} {w : World} {K : PySem.W.Frag} {mg : Str → Option Value} {base : Heap}
theorem sc_cheapest_step : FnScope ["stop", "ends", "least", "free", "costs", "place"] ["stop", "ends", "least"] (defScope (top 25)) := ⟨rfl, rfl, rfl, by decide +kernel, rfl, by decide +kernel, by decide +kernel⟩
theorem ok_cheapest_step (T : Prog K mg) : FnOk P w K mg base CX0 1 T.cheapest_step.f T.cheapest_step.fd ["stop", "ends", "least"] spCheapest := by
  refine T.cheapest_step.fn.ok sc_cheapest_step (fun vs H Q E h => ?len) (fun cdv A outer s H vs Q E hr h => ?body)
  case len =>
    obtain ⟨e, l, row, L, rfl, _⟩ := h
    rfl
  case body =>
    have hu := hu_of hr
    obtain ⟨e, l, row, L, rfl, he, hl, L0, Ll, hR1, k⟩ := h
    refine ⟨_, PSs.nox (pss_cons (ps_set (i := 3) sc_cheapest_step.nd rfl (Or.inl rfl) pe_int)
        (pss_cons (ps_set (i := 4) sc_cheapest_step.nd rfl (Or.inl rfl) (pe_lst pa_nil))
        (pss_cons (ps_for PassesOwn.never rfl (pi_revR (by rfl) T.reversed (prg_1 (by rfl) T.range (pv 0))) (pg_name (i := 5) sc_cheapest_step.nd rfl (Or.inl rfl))
        (pss_cons (ps_if (pt_cmpR op_le (pe_dget2 hu (pv 1) (pv 5) (pe_op op_add (pv 0) pe_int) ⟨rfl, rfl, rfl, rfl⟩) (pv 0) (nomark _))
        (pss_one (ps_aug (i := 3) sc_cheapest_step.nd rfl (Or.inl rfl) pe_int ip_add))
        pss_nil)
        (pss_one (ps_expr (pe_bm PySem.F.plainAttrs_list PySem.F.slot_list_append PySem.F.type_list_append mt_append (pv 4) (pa_cons (pe_tup (pa_cons (pe_op op_add (pe_ix ix_list (pv 2) (pv 5) (fun _ _ => rfl)) (pv 3)) (pa_cons (pv 5) pa_nil))) pa_nil))))))
        (pss_one (ps_ret (pe_callB (CKZ.cr_minP rfl hr.units) (by rfl) T.min (by decide +kernel) (pa_cons (pv 4) pa_nil))))))), ?_⟩
    let xsT : Nat → List (Int × Int) := fun i => (List.range i).map fun j => (((L.getD (L.length - 1 - j) 0 + freeB row (L.length - 1 - j) L.length : Nat) : Int), ((L.length - 1 - j : Nat) : Int))
    have xsS : ∀ i, xsT (i + 1) = xsT i ++ [(((L.getD (L.length - 1 - i) 0 + freeB row (L.length - 1 - i) L.length : Nat) : Int), ((L.length - 1 - i : Nat) : Int))] := fun i => by
      show (List.range (i + 1)).map _ = _
      rw [range_snoc, List.map_append]
      rfl
    have xsL : ∀ i, (xsT i).length = i := fun i => by
      show ((List.range i).map _).length = i
      rw [List.length_map, List.length_range]
    refine ⟨szd rfl, fun c hc => ?_⟩
    have s1 := Same.new (o := .lst []) hc
    have lc : l ≠ c := ne_fresh hl hc
    refine ⟨_, rfl, _, rfl, by omega, by omega, by omega, by omega, ?_⟩
    have en : ((((L.length : Nat) : Int) - 0).toNat) = L.length := by omega
    rw [en]
    refine for_it (walk_rangeC (lo := 0 + (L.length : Int) - 1) (c := -1) (n := L.length)) (fun i σ H' => ∃ (z : Int) (as : List Addr), (∃ v5, σ = [some (.int (L.length : Nat)), some (.ref e), some (.ref l), some (.int z), some (.ref c), v5]) ∧ z = (freeB row (L.length - i) L.length : Nat) ∧ Same H H' ∧ H' c = some (.lst (as.map V.ref)) ∧ TupsAt H' as (iV (xsT i))) ?_ (fun _ _ _ _ _ => trivial) ?_ ?_
    · refine ⟨0, [], ⟨_, rfl⟩, ?_, s1, upd_same, TupsAt.nil⟩
      have e0 : freeB row (L.length - 0) L.length = 0 := by
        unfold freeB
        rw [Nat.sub_zero, Nat.sub_self]
        rfl
      rw [e0]
      rfl
    · rintro i x σ H1 H2 hi ⟨z, as, ⟨v5, rfl⟩, hz, s2, hc1, hp1⟩ ⟨rfl, rfl⟩
      have hal : as.length ≤ i := by rw [hp1.len, List.length_map, xsL]; exact Nat.le_refl _
      have ev : (0 + (L.length : Int) - 1 + (i : Int) * -1) = ((L.length - 1 - i : Nat) : Int) := by omega
      show gName 5 (V.int (0 + (L.length : Int) - 1 + (i : Int) * -1)) _ _ _
      rw [ev]
      have ed : L.length - i = (L.length - 1 - i) + 1 := by omega
      have xe := xsS i
      rw [ed] at hz
      have en2 : L.length - (i + 1) = L.length - 1 - i := by omega
      have al : L.length - 1 - i < L.length := by omega
      rw [en2]
      generalize L.length - 1 - i = a at *
      have ar : row[a]? = some (row[a]'(by omega)) := List.getElem?_eq_getElem _
      have fb := freeB_back (row := row) al
      have na := next_asks ar row.length (Nat.le_refl _)
      rw [← nx_at ar] at na
      have he2 := s2 _ _ he
      have hl2 := s2 _ _ hl
      refine ⟨_, rfl, e, rfl, .inl ⟨_, .inl he2⟩, _, rfl, _, rfl, _, _, rfl, rfl, _, DGet.k (k := Sum.inl (a : Int)) he2, _, rfl, ?_⟩
      unfold spellsL
      rw [na]
      by_cases hf : nx row a < row.length ∧ nx row a ≤ L.length
      · rw [if_pos hf.1]
        refine ⟨_, _, rfl, rfl, _, rfl, ifT (decide_eq_true (by omega)) ?_⟩
        rw [if_pos hf] at fb
        refine ⟨_, rfl, _, _, rfl, rfl, ?_⟩
        have ef : z + 1 = ((freeB row a L.length : Nat) : Int) := by omega
        dsimp only
        rw [ef]
        refine ⟨_, rfl, .inl ⟨rfl, _, SqL.of hc1⟩, _, rfl, _, rfl, l, _, _, _, rfl, rfl, SqL.of hl2, NL_get al, _, rfl, _, _, rfl, rfl, _, rfl, szd rfl, fun t ht => ?_⟩
        have sT := Same.new (o := .tup [V.int (((L.getD a 0 : Nat) : Int) + ((freeB row a L.length : Nat) : Int)), V.int (a : Nat)]) ht
        have hc2 := sT _ _ hc1
        refine ⟨c, _, _, rfl, rfl, hc2, szl (by rw [List.length_map]; omega), _, as ++ [t], ⟨_, rfl⟩, rfl, Same.put (s2.trans sT) hc, by rw [upd_same, List.map_append]; rfl, ?_⟩
        rw [xe, iV_snoc]
        exact ((hp1.same sT).snoc (t := t) (by rw [upd_same]; exact congrArg some (congrArg HO.tup (by rw [Int.natCast_add])))).put hc2 (by intro u z; cases z)
      · by_cases h1 : nx row a < row.length
        · rw [if_pos h1]
          refine ⟨_, _, rfl, rfl, _, rfl, ifF (decide_eq_false (by omega)) ?_⟩
          rw [if_neg hf] at fb
          have ef : z = ((freeB row a L.length : Nat) : Int) := by omega
          rw [ef]
          refine ⟨_, rfl, .inl ⟨rfl, _, SqL.of hc1⟩, _, rfl, _, rfl, l, _, _, _, rfl, rfl, SqL.of hl2, NL_get al, _, rfl, _, _, rfl, rfl, _, rfl, szd rfl, fun t ht => ?_⟩
          have sT := Same.new (o := .tup [V.int (((L.getD a 0 : Nat) : Int) + ((freeB row a L.length : Nat) : Int)), V.int (a : Nat)]) ht
          have hc2 := sT _ _ hc1
          refine ⟨c, _, _, rfl, rfl, hc2, szl (by rw [List.length_map]; omega), _, as ++ [t], ⟨_, rfl⟩, rfl, Same.put (s2.trans sT) hc, by rw [upd_same, List.map_append]; rfl, ?_⟩
          rw [xe, iV_snoc]
          exact ((hp1.same sT).snoc (t := t) (by rw [upd_same]; exact congrArg some (congrArg HO.tup (by rw [Int.natCast_add])))).put hc2 (by intro u z; cases z)
        · rw [if_neg h1]
          refine ⟨_, _, rfl, rfl, _, rfl, ifF (decide_eq_false (by omega)) ?_⟩
          rw [if_neg hf] at fb
          have ef : z = ((freeB row a L.length : Nat) : Int) := by omega
          rw [ef]
          refine ⟨_, rfl, .inl ⟨rfl, _, SqL.of hc1⟩, _, rfl, _, rfl, l, _, _, _, rfl, rfl, SqL.of hl2, NL_get al, _, rfl, _, _, rfl, rfl, _, rfl, szd rfl, fun t ht => ?_⟩
          have sT := Same.new (o := .tup [V.int (((L.getD a 0 : Nat) : Int) + ((freeB row a L.length : Nat) : Int)), V.int (a : Nat)]) ht
          have hc2 := sT _ _ hc1
          refine ⟨c, _, _, rfl, rfl, hc2, szl (by rw [List.length_map]; omega), _, as ++ [t], ⟨_, rfl⟩, rfl, Same.put (s2.trans sT) hc, by rw [upd_same, List.map_append]; rfl, ?_⟩
          rw [xe, iV_snoc]
          exact ((hp1.same sT).snoc (t := t) (by rw [upd_same]; exact congrArg some (congrArg HO.tup (by rw [Int.natCast_add])))).put hc2 (by intro u z; cases z)
    · rintro σ H1 ⟨z, as, ⟨v5, rfl⟩, hz, s2, hc1, hp1⟩
      refine ⟨_, rfl, c, as, xsT L.length, rfl, SqL.of hc1, ⟨by rw [hp1.len, List.length_map], fun i t x hi hx => SqT.of (hp1.at_ i t _ hi (by rw [List.getElem?_map, hx]; rfl))⟩, by rw [xsL]; exact L0, fun i t x hi hx hmin => ?_⟩
      have il : i < L.length := by
        have := (List.getElem?_eq_some_iff.mp hx).1
        rw [xsL] at this
        exact this
      have ex : ∀ j, j < L.length → (xsT L.length)[j]? = some (((L.getD (L.length - 1 - j) 0 + freeB row (L.length - 1 - j) L.length : Nat) : Int), ((L.length - 1 - j : Nat) : Int)) := fun j hj => by
        show ((List.range L.length).map _)[j]? = _
        rw [List.getElem?_map, List.getElem?_range hj]
        rfl
      have e1 := Option.some.inj (hx.symm.trans (ex i il))
      subst e1
      have ht := hp1.at_ i t _ hi (by rw [List.getElem?_map, hx]; rfl)
      refine k t (L.length - 1 - i) H1 s2 ht (by omega) fun b hb => ?_
      have q := hmin _ (List.mem_of_getElem? (ex (L.length - 1 - b) (by omega)))
      have eb : L.length - 1 - (L.length - 1 - b) = b := by omega
      rw [eb] at q
      exact Int.ofNat_le.mp q
theorem sc_way_back : FnScope ["ahead", "places", "place"] ["ahead"] (defScope (top 26)) := ⟨rfl, rfl, rfl, by decide +kernel, rfl, by decide +kernel, by decide +kernel⟩
theorem ok_way_back (T : Prog K mg) : FnOk P w K mg base CX0 1 T.way_back.f T.way_back.fd ["ahead"] spWayBack := by
  refine T.way_back.fn.ok sc_way_back (fun vs H Q E h => ?len) (fun cdv A outer s H vs Q E hr h => ?body)
  case len =>
    obtain ⟨l, row, n, L, A, rfl, _⟩ := h
    rfl
  case body =>
    have hu := hu_of hr
    obtain ⟨l, row, n, L, A, rfl, hl, D, hR1, k⟩ := h
    refine ⟨_, PSs.nox (pss_cons (ps_set (i := 1) sc_way_back.nd rfl (Or.inl rfl) (pe_lst pa_nil))
        (pss_cons (ps_set (i := 2) sc_way_back.nd rfl (Or.inl rfl) (pe_ix ix_list (pv 0) (pe_un un_neg pe_int) (fun _ _ => rfl)))
        (pss_cons (ps_while PassesOwn.never (pt_cmpR op_gt (pv 2) pe_int (nomark _))
        (pss_cons (ps_expr (pe_bm PySem.F.plainAttrs_list PySem.F.slot_list_append PySem.F.type_list_append mt_append (pv 1) (pa_cons (pv 2) pa_nil)))
        (pss_one (ps_set (i := 2) sc_way_back.nd rfl (Or.inl rfl) (pe_ix ix_list (pv 0) (pv 2) (fun _ _ => rfl))))))
        (pss_one (ps_ret (pe_revL (pv 1))))))), ?_⟩
    refine ⟨szd rfl, fun p hp => ?_⟩
    have s1 := Same.new (o := .lst []) hp
    have lp : l ≠ p := ne_fresh hl hp
    have hAl := D.la
    have lastA : atI (NL A) (-1) = some (V.int (A.getD row.length 0 : Nat)) := by
      obtain ⟨ys, y, e⟩ : ∃ ys y, A = ys ++ [y] := by
        have hne : A ≠ [] := by intro z; rw [z] at hAl; simp at hAl
        exact ⟨A.dropLast, A.getLast hne, (List.dropLast_concat_getLast hne).symm⟩
      have hy : row.length = ys.length := by rw [e, List.length_append] at hAl; simp at hAl; omega
      rw [e, getD_new hy, ← NL_snoc]
      exact atI_last _ _
    refine ⟨_, rfl, _, rfl, l, _, _, _, rfl, rfl, SqL.of (s1 _ _ hl), lastA, ?_⟩
    have a0 : A.getD row.length 0 ≤ row.length := by
      by_cases h0 : row.length = 0
      · rw [h0, D.a0]; exact Nat.le_refl _
      · exact Nat.le_of_lt (D.st row.length (by omega) (Nat.le_refl _)).1
    refine while_by (fun σ H' => ∃ (acc : List Nat) (t m : Nat), σ = [some (.ref l), some (.ref p), some (.int (t : Nat))] ∧ Same H H' ∧ H' p = some (.lst (NL acc)) ∧ t ≤ m ∧ t ≤ row.length ∧ acc.length + t ≤ row.length ∧ back A row.length (A.getD row.length 0) = acc ++ back A m t) (fun σ _ => match σ with | [_, _, some (.int i)] => i.toNat | _ => 0) ?_ ?_ ?_
    · exact ⟨[], A.getD row.length 0, row.length, rfl, s1, upd_same, a0, a0, by simpa using a0, rfl⟩
    · rintro σ H1 ⟨acc, t, m, rfl, s2, hp1, tm, tl, al, eb⟩
      have hl1 := s2 _ _ hl
      refine ⟨_, rfl, _, _, rfl, rfl, _, rfl, ?_⟩
      by_cases ht : 0 < t
      · refine ifT (decide_eq_true (by omega)) ?_
        refine ⟨_, rfl, .inl ⟨rfl, _, SqL.of hp1⟩, _, rfl, p, _, _, rfl, rfl, hp1, szl (by rw [List.length_map]; omega), ?_⟩
        rw [NL_snoc]
        have st := (D.st t ht tl).1
        refine ⟨_, rfl, _, rfl, l, _, _, _, rfl, rfl, SqL.of (by rw [upd_ne lp]; exact hl1), NL_get (by omega), ⟨acc ++ [t], A.getD t 0, m - 1, rfl, Same.put s2 hp, upd_same, by omega, by omega, by rw [List.length_append, List.length_singleton]; omega, ?_⟩, ?_⟩
        · rw [eb, List.append_assoc]
          congr 1
          have em : m = (m - 1) + 1 := by omega
          have q : back A ((m - 1) + 1) t = t :: back A (m - 1) (A.getD t 0) := if_neg (by omega)
          rw [em, q]
          rfl
        · show ((A.getD t 0 : Nat) : Int).toNat < ((t : Nat) : Int).toNat
          omega
      · refine ifF (decide_eq_false (by omega)) ?_
        have t0 : t = 0 := by omega
        have eb0 : back A m t = [] := by
          rw [t0]
          cases m with
          | zero => rfl
          | succ m => exact if_pos rfl
        refine ⟨_, rfl, p, _, rfl, SqL.of hp1, fun d hd => ?_⟩
        have er : (NL acc).reverse = NL (theWay row A) := by
          unfold theWay
          rw [eb, eb0, List.append_nil]
          exact List.map_reverse.symm
        rw [er]
        have sD := Same.new (o := .lst (NL (theWay row A))) hd
        exact k d _ (Same.back s2 hd) (s2.trans sD) upd_same
    · rintro σ H Q Q' hQ ⟨v, h1, i, j, h2, h3, k', h4, h5⟩
      exact ⟨v, h1, i, j, h2, h3, k', h4, hQ _ _ h5⟩
theorem sc_paper : FnScope ["rooms", "row", "ends", "least", "ahead", "stop", "cost", "place"] ["rooms", "row"] (defScope (top 21)) := ⟨rfl, rfl, rfl, by decide +kernel, rfl, by decide +kernel, by decide +kernel⟩
theorem ok_paper (T : Prog K mg) : FnOk P w K mg base CX0 3 T.paper.f T.paper.fd ["rooms", "row"] (spPaper K) := by
  have G_check_rooms := ok_check_rooms (P := P) (w := w) (base := base) T
  have G_check_row := ok_check_row (P := P) (w := w) (base := base) T
  have G_way_back := ok_way_back (P := P) (w := w) (base := base) T
  have G_find_spells := ok_find_spells (P := P) (w := w) (base := base) T
  have G_cheapest_step := ok_cheapest_step (P := P) (w := w) (base := base) T
  refine T.paper.fn.ok sc_paper (fun vs H Q E h => ?len) (fun cdv A outer s H vs Q E hr h => ?body)
  case len =>
    obtain ⟨n, r, row, rfl, _⟩ := h
    rfl
  case body =>
    have hr_check_rooms : Room 1 _ := hr.mono (by decide)
    have hr_check_row : Room 2 _ := hr.mono (by decide)
    have hr_way_back : Room 1 _ := hr.mono (by decide)
    have hr_find_spells : Room 1 _ := hr.mono (by decide)
    have hr_cheapest_step : Room 1 _ := hr.mono (by decide)
    have hu := hu_of hr
    obtain ⟨n, r, row, rfl, n1, n8, hS, hR, k⟩ := h
    refine ⟨_, PSs.nox (pss_cons (ps_expr (pe_call G_check_rooms hr_check_rooms (by rfl) T.check_rooms.g T.check_rooms.fn.kp T.check_rooms.bd .nil pass0 (pa_cons (pv 0) pa_nil)))
        (pss_cons (ps_expr (pe_call G_check_row hr_check_row (by rfl) T.check_row.g T.check_row.fn.kp T.check_row.bd .nil pass0 (pa_cons (pv 1) pa_nil)))
        (pss_cons (ps_set (i := 2) sc_paper.nd rfl (Or.inl rfl) (pe_callTy (call_dictP rfl) (by rfl) T.dict_ (by decide +kernel) (pa_cons (pe_call G_find_spells hr_find_spells (by rfl) T.find_spells.g T.find_spells.fn.kp T.find_spells.bd .nil pass0 (pa_cons (pv 1) pa_nil)) pa_nil)))
        (pss_cons (ps_set (i := 3) sc_paper.nd rfl (Or.inl rfl) (pe_lst (pa_cons pe_int pa_nil)))
        (pss_cons (ps_set (i := 4) sc_paper.nd rfl (Or.inl rfl) (pe_lst (pa_cons pe_int pa_nil)))
        (pss_cons (ps_for PassesOwn.never rfl (pi_range2 (by rfl) T.range (pa_cons pe_int (pa_cons (pe_op op_add (pe_callB call_len_seq (by rfl) T.len PySem.boot_len (pa_cons (pv 1) pa_nil)) pe_int) pa_nil))) (pg_name (i := 5) sc_paper.nd rfl (Or.inl rfl))
        (pss_cons (ps_asg (pe_call G_cheapest_step hr_cheapest_step (by rfl) T.cheapest_step.g T.cheapest_step.fn.kp T.cheapest_step.bd .nil pass0 (pa_cons (pv 5) (pa_cons (pv 2) (pa_cons (pv 3) pa_nil)))) (pg_tup rfl (pgs_cons (pg_name (i := 6) sc_paper.nd rfl (Or.inl rfl)) (pgs_cons (pg_name (i := 7) sc_paper.nd rfl (Or.inl rfl)) pgs_nil))))
        (pss_cons (ps_expr (pe_bm PySem.F.plainAttrs_list PySem.F.slot_list_append PySem.F.type_list_append mt_append (pv 3) (pa_cons (pe_op op_sub (pe_op op_add (pv 6) (pv 0)) pe_int) pa_nil)))
        (pss_one (ps_expr (pe_bm PySem.F.plainAttrs_list PySem.F.slot_list_append PySem.F.type_list_append mt_append (pv 4) (pa_cons (pv 7) pa_nil)))))))
        (pss_one (ps_ret (pe_call G_way_back hr_way_back (by rfl) T.way_back.g T.way_back.fn.kp T.way_back.bd .nil pass0 (pa_cons (pv 4) pa_nil)))))))))), ?_⟩
    have hR1 := hR.1
    refine ⟨_, rfl, n, rfl, n1, n8, ?_⟩
    refine ⟨_, rfl, r, row, rfl, hS, hR, fun H1 s1 => ?_⟩
    -- ends
    refine ⟨_, rfl, r, row, rfl, s1.seq hS, by omega, fun s as0 H2 hs2 s2 hs hp0 => ?_⟩
    refine ⟨s, as0, kvS (spellsL row), rfl, SqL.of hs, pairs_kv hp0, fun e he => ?_⟩
    have s3 := Same.new (o := .dK (mergeK [] (kvS (spellsL row)))) he
    -- least, ahead
    refine ⟨szd rfl, fun l hl => ⟨szd rfl, fun a ha => ?_⟩⟩
    have s4 := Same.new (o := .lst [V.int 0]) hl
    have s5 := Same.new (o := .lst [V.int 0]) ha
    have s15 := (((s1.trans s2).trans s3).trans s4).trans s5
    have lH : H l = none := Same.back ((s1.trans s2).trans s3) hl
    have aH : H a = none := Same.back (((s1.trans s2).trans s3).trans s4) ha
    have el : e ≠ l := ne_fresh (H := upd H2 e _) upd_same hl
    have ea : e ≠ a := ne_fresh (s4 _ _ (upd_same (H := H2) (a := e))) ha
    have la : l ≠ a := ne_fresh (H := upd _ l _) upd_same ha
    refine ⟨_, rfl, r, _, rfl, .inl (s15.seq hS), _, _, rfl, rfl, _, _, rfl, ⟨by omega, by omega, by omega, by rw [il_len]; omega⟩, ?_⟩
    have en : (((il row).length : Int) + 1 - 1).toNat = row.length := by rw [il_len]; omega
    rw [en]
    refine for_range (lo := 1) (n := row.length) (fun i σ H' => ∃ (L A : List Nat), (∃ v5 v6 v7, σ = [some (.int n), some (.ref r), some (.ref e), some (.ref l), some (.ref a), v5, v6, v7]) ∧ Same H H' ∧ H' e = some (.dK (mergeK [] (kvS (spellsL row)))) ∧ H' l = some (.lst (NL L)) ∧ H' a = some (.lst (NL A)) ∧ DP row n.toNat L A i) ?_ ?_ ?_
    · refine ⟨[0], [0], ⟨_, _, _, rfl⟩, s15, ?_, ?_, upd_same, DP.start row n.toNat⟩
      · rw [upd_ne ea, upd_ne el, upd_same]
      · rw [upd_ne la, upd_same]; rfl
    · rintro i σ H6 hi ⟨L, A, ⟨v5, v6, v7, rfl⟩, s6, he6, hl6, ha6, D⟩
      have Dl := D.ll
      have Da := D.la
      have ei : (1 + (i : Int)) = ((L.length : Nat) : Int) := by omega
      rw [ei]
      refine ⟨_, rfl, _, rfl, _, rfl, e, l, row, L, rfl, he6, hl6, by omega, by omega, by omega, fun t p H7 s7 ht hp hmin => ?_⟩
      have sl : L.length = i + 1 := Dl
      refine ⟨t, _, rfl, SqT.of ht, rfl, _, _, rfl, _, _, rfl, rfl, ?_⟩
      have hl7 := s7 _ _ hl6
      have ha7 := s7 _ _ ha6
      have he7 := s7 _ _ he6
      have s67 := s6.trans s7
      refine ⟨_, rfl, .inl ⟨rfl, _, SqL.of hl7⟩, _, rfl, _, rfl, _, _, rfl, rfl, _, _, rfl, rfl, l, _, _, rfl, rfl, hl7, szl (by rw [List.length_map]; omega), ?_⟩
      have ex : ((L.getD p 0 + freeB row p L.length : Nat) : Int) + n - 1 = ((L.getD p 0 + freeB row p (i + 1) + (n.toNat - 1) : Nat) : Int) := by rw [sl]; omega
      dsimp only
      rw [ex, NL_snoc]
      have ha8 : upd H7 l (.lst (NL (L ++ [L.getD p 0 + freeB row p (i + 1) + (n.toNat - 1)]))) a = some (.lst (NL A)) := by rw [upd_ne (Ne.symm la)]; exact ha7
      refine ⟨_, rfl, .inl ⟨rfl, _, SqL.of ha8⟩, _, rfl, a, _, _, rfl, rfl, ha8, szl (by rw [List.length_map]; omega), ?_⟩
      rw [NL_snoc]
      refine ⟨_, _, ⟨_, _, _, rfl⟩, Same.put (Same.put s67 lH) aH, by rw [upd_ne ea, upd_ne el]; exact he7, by rw [upd_ne la, upd_same], upd_same, D.next (by omega) fun b hb => ?_⟩
      have q := hmin b (by omega)
      rw [sl] at q
      exact q
    · rintro σ H6 ⟨L, A, ⟨v5, v6, v7, rfl⟩, s6, he6, hl6, ha6, D⟩
      exact ⟨_, rfl, a, row, n.toNat, L, A, rfl, ha6, D, by omega, fun d H7 hd s7 hd7 => k d _ H7 (Same.back s6 hd) (s6.trans s7) hd7 (way_paper (by omega) D).1 (shownN_way n1 D)⟩
end
end CK

/-! What the program says of papers. -/
namespace CK
open PySem PySem.Spec PyProof.Rows L2
def spSpells (K : PySem.W.Frag) : Sp := fun vs H Q _ => ∃ (r : Addr) (row : List Int), vs = [.ref r] ∧ SqL K H r (il row) ∧ RowOk row ∧
  ∀ (d : Addr) (as : List Addr) (H' : Hp), H d = none → Same H H' → H' d = some (.lst (as.map V.ref)) → PairsAt H' as (spellsL row) → Q (.ref d) H'
def spCheckPaper (K : PySem.W.Frag) : Sp := fun vs H Q _ => ∃ (r q : Addr) (row : List Int) (ps : List Nat), vs = [.ref r, .ref q] ∧ SqL K H r (il row) ∧ SqL K H q (NL ps) ∧ PaperOk row.length ps ∧ Q .non H
def spHasWithin (K : PySem.W.Frag) : Sp := fun vs H Q _ => ∃ (t q : Addr) (x : Nat × Nat) (ps : List Nat), vs = [.ref t, .ref q] ∧ H t = some (.tup [.int (x.1 : Nat), .int (x.2 : Nat)]) ∧ SqL K H q (NL ps) ∧ ps.length ≤ 1000 ∧
  ∀ H' : Hp, Same H H' → Q (.bl (within x ps)) H'
def spShown (K : PySem.W.Frag) : Sp := fun vs H Q _ => ∃ (n : Int) (r q : Addr) (row : List Int) (ps : List Nat), vs = [.int n, .ref r, .ref q] ∧ 1 ≤ n ∧ n ≤ 8 ∧ SqL K H r (il row) ∧ RowOk row ∧ SqL K H q (NL ps) ∧ PaperOk row.length ps ∧
  ∀ H' : Hp, Same H H' → Q (.int (shownN n row ps)) H'
section
variable {P : Program} {w : World} {K : PySem.W.Frag} {mg : Str → Option Value} {base : Heap}
theorem sc_spells : FnScope ["row"] ["row"] (defScope (top 19)) := ⟨rfl, rfl, rfl, by decide +kernel, rfl, by decide +kernel, by decide +kernel⟩
theorem ok_spells (T : Prog K mg) : FnOk P w K mg base CX0 3 T.spells.f T.spells.fd ["row"] (spSpells K) := by
  have G_check_row := ok_check_row (P := P) (w := w) (base := base) T
  have G_find_spells := ok_find_spells (P := P) (w := w) (base := base) T
  refine T.spells.fn.ok sc_spells (fun vs H Q E h => ?len) (fun cdv A outer s H vs Q E hr h => ?body)
  case len =>
    obtain ⟨r, row, rfl, _⟩ := h
    rfl
  case body =>
    have hr_check_row : Room 2 _ := hr.mono (by decide)
    have hr_find_spells : Room 1 _ := hr.mono (by decide)
    have hu := hu_of hr
    obtain ⟨r, row, rfl, hS, hR, k⟩ := h
    refine ⟨_, PSs.nox (pss_cons (ps_expr (pe_call G_check_row hr_check_row (by rfl) T.check_row.g T.check_row.fn.kp T.check_row.bd .nil pass0 (pa_cons (pv 0) pa_nil)))
        (pss_one (ps_ret (pe_call G_find_spells hr_find_spells (by rfl) T.find_spells.g T.find_spells.fn.kp T.find_spells.bd .nil pass0 (pa_cons (pv 0) pa_nil))))), ?_⟩
    refine ⟨_, rfl, r, row, rfl, hS, hR, fun H1 s1 => ?_⟩
    have hR1 := hR.1
    exact ⟨_, rfl, r, row, rfl, s1.seq hS, by omega, fun d as H2 hd s2 h1 h2 => k d as H2 (Same.back s1 hd) (s1.trans s2) h1 h2⟩
theorem sc_check_paper : FnScope ["row", "places", "before", "place"] ["row", "places"] (defScope (top 23)) := ⟨rfl, rfl, rfl, by decide +kernel, rfl, by decide +kernel, by decide +kernel⟩
theorem ok_check_paper (T : Prog K mg) : FnOk P w K mg base CX0 1 T.check_paper.f T.check_paper.fd ["row", "places"] (spCheckPaper K) := by
  refine T.check_paper.fn.ok sc_check_paper (fun vs H Q E h => ?len) (fun cdv A outer s H vs Q E hr h => ?body)
  case len =>
    obtain ⟨r, q, row, ps, rfl, _⟩ := h
    rfl
  case body =>
    have hu := hu_of hr
    obtain ⟨r, q, row, ps, rfl, hS, hq, hP, k⟩ := h
    refine ⟨_, PSs.nox (pss_cons (ps_set (i := 2) sc_check_paper.nd rfl (Or.inl rfl) (pe_un un_neg pe_int))
        (pss_one (ps_for PassesOwn.never rfl (pi_list (pv 1)) (pg_name (i := 3) sc_check_paper.nd rfl (Or.inl rfl))
        (pss_cons (ps_if (pt_not (pt_chain op_lt op_lt (pv 2) (pv 3) (pe_callB call_len_seq (by rfl) T.len PySem.boot_len (pa_cons (pv 0) pa_nil))))
        (pss_one ps_never)
        pss_nil)
        (pss_one (ps_set (i := 2) sc_check_paper.nd rfl (Or.inl rfl) (pv 3))))))), ?_⟩
    refine ⟨_, rfl, _, rfl, q, rfl, ⟨_, hq⟩, for_list (K := K) (a := q) (xs := NL ps) (fun i σ H' => H' = H ∧ ∃ (b : Int) (v : Option V), σ = [some (.ref r), some (.ref q), some (.int b), v] ∧ ∀ p, ps[i]? = some p → b < (p : Int))
      ⟨rfl, -1, none, rfl, fun p _ => by omega⟩ (fun i σ H' _ h => by rw [h.1]; exact hq) ?_ ?_⟩
    · rintro i x σ H' hx ⟨rfl, b, v, rfl, hb⟩
      obtain ⟨p, hp, rfl⟩ := NL_at hx
      have hlt := hP.2 p (List.mem_of_getElem? hp)
      refine ⟨_, rfl, _, rfl, _, _, rfl, rfl, _, rfl, ifT (decide_eq_true (hb p hp)) ⟨_, rfl, r, _, rfl, .inl hS, _, _, rfl, rfl, _, rfl, ?_⟩⟩
      refine ifF (by rw [il_len, decide_eq_true (by omega)]; rfl) ?_
      refine ⟨_, rfl, rfl, _, _, rfl, fun p' hp' => ?_⟩
      have q1 : i < ps.length := (List.getElem?_eq_some_iff.mp hp).1
      have q2 : i + 1 < ps.length := (List.getElem?_eq_some_iff.mp hp').1
      have q3 := (List.pairwise_iff_getElem.mp hP.1) i (i + 1) q1 q2 (Nat.lt_succ_self _)
      have e1 := (List.getElem?_eq_some_iff.mp hp).2
      have e2 := (List.getElem?_eq_some_iff.mp hp').2
      rw [e1, e2] at q3
      omega
    · rintro σ H' ⟨rfl, b, v, rfl, _⟩
      exact k
theorem sc_has_within : FnScope ["spell", "places", "begin", "end", "place"] ["spell", "places"] (defScope (top 24)) := ⟨rfl, rfl, rfl, by decide +kernel, rfl, by decide +kernel, by decide +kernel⟩
theorem ok_has_within (T : Prog K mg) : FnOk P w K mg base CX0 1 T.has_within.f T.has_within.fd ["spell", "places"] (spHasWithin K) := by
  refine T.has_within.fn.ok sc_has_within (fun vs H Q E h => ?len) (fun cdv A outer s H vs Q E hr h => ?body)
  case len =>
    obtain ⟨t, q, x, ps, rfl, _⟩ := h
    rfl
  case body =>
    have hu := hu_of hr
    obtain ⟨t, q, x, ps, rfl, ht, hq, hl, k⟩ := h
    refine ⟨_, PSs.nox (pss_cons (ps_asg (pv 0) (pg_tup rfl (pgs_cons (pg_name (i := 2) sc_has_within.nd rfl (Or.inr rfl)) (pgs_cons (pg_name (i := 3) sc_has_within.nd rfl (Or.inr rfl)) pgs_nil))))
        (pss_one (ps_ret (pe_callB (cr_any rfl) (by rfl) T.any (by decide +kernel) (pa_cons (pe_lc (own := [("place", 4)]) (g := gName 4) rfl sc_has_within.nd ((pi_list (pv 1))) (blkOk_by (own := [("place", 4)]) (N := ["spell", "places", "begin", "end", "place"]) (sc := defScope (top 24)) (by decide +kernel)) (fun _ _ _ _ _ => (by exact (pg_name (i := 4) sc_has_within.nd rfl (Or.inl rfl)))) (fun _ _ _ _ _ => (by exact pts_nil)) (fun _ _ _ _ _ => (by exact (pe_chain op_lt op_lt (pv 2) (pv 4) (pv 3))))) pa_nil))))), ?_⟩
    refine ⟨_, rfl, t, _, rfl, SqT.of ht, rfl, _, _, rfl, _, _, rfl, rfl, ?_⟩
    refine ⟨_, rfl, q, rfl, ⟨_, hq⟩, fun d hd => ?_⟩
    refine lc_list (K := K) (a := q) (xs := NL ps) (fun i H' => H' d = some (.lst (((ps.take i).map fun z => decide (x.1 < z) && decide (z < x.2)).map V.bl)) ∧ Same H H') ⟨upd_same, Same.new hd⟩ (fun i H' _ h => h.2.seq hq) ?_ ?_
    · rintro i y H' hy ⟨h1, s1⟩
      obtain ⟨p, hp, rfl⟩ := NL_at hy
      have hi : i < ps.length := (List.getElem?_eq_some_iff.mp hp).1
      have e0 : (((ps.take (i + 1)).map fun z => decide (x.1 < z) && decide (z < x.2)).map V.bl) = (((ps.take i).map fun z => decide (x.1 < z) && decide (z < x.2)).map V.bl) ++ [V.bl (decide (x.1 < p) && decide (p < x.2))] := by
        rw [take_snoc hp, List.map_append, List.map_append]
        rfl
      rw [e0]
      have fin : ∀ c : Bool, c = (decide (x.1 < p) && decide (p < x.2)) → ∃ acc, H' d = some (.lst acc) ∧ acc.length < sizeLine ∧ upd H' d (.lst (acc ++ [V.bl c])) d = some (.lst ((((ps.take i).map fun z => decide (x.1 < z) && decide (z < x.2)).map V.bl) ++ [V.bl (decide (x.1 < p) && decide (p < x.2))])) ∧ Same H (upd H' d (.lst (acc ++ [V.bl c]))) := by
        rintro c rfl
        exact ⟨_, h1, szl (by rw [List.length_map, List.length_map, List.length_take]; omega), upd_same, Same.put s1 hd⟩
      refine ⟨rfl, _, rfl, _, rfl, _, _, rfl, rfl, _, rfl, ?_⟩
      by_cases h2 : x.1 < p
      · refine ifT (decide_eq_true (by omega)) ⟨_, rfl, _, _, rfl, rfl, ?_⟩
        refine fin _ ?_
        by_cases h3 : p < x.2
        · rw [decide_eq_true (show (p : Int) < (x.2 : Int) by omega), decide_eq_true h2, decide_eq_true h3]; rfl
        · rw [decide_eq_false (show ¬ (p : Int) < (x.2 : Int) by omega), decide_eq_false h3, decide_eq_true h2]; rfl
      · exact ifF (decide_eq_false (by omega)) (fin false (by rw [decide_eq_false h2]; rfl))
    · rintro H' ⟨h1, s1⟩
      rw [List.take_of_length_le (by simp)] at h1
      refine ⟨d, _, rfl, SqL.of h1, ?_⟩
      have e : within x ps = List.any ((ps.map fun z => decide (x.1 < z) && decide (z < x.2))) id := by
        unfold within
        rw [List.any_map]
        rfl
      rw [← e]
      exact k H' s1
theorem sc_shown : FnScope ["rooms", "row", "places", "free", "spell"] ["rooms", "row", "places"] (defScope (top 20)) := ⟨rfl, rfl, rfl, by decide +kernel, rfl, by decide +kernel, by decide +kernel⟩
theorem ok_shown (T : Prog K mg) : FnOk P w K mg base CX0 3 T.shown.f T.shown.fd ["rooms", "row", "places"] (spShown K) := by
  have G_check_rooms := ok_check_rooms (P := P) (w := w) (base := base) T
  have G_check_row := ok_check_row (P := P) (w := w) (base := base) T
  have G_check_paper := ok_check_paper (P := P) (w := w) (base := base) T
  have G_find_spells := ok_find_spells (P := P) (w := w) (base := base) T
  have G_has_within := ok_has_within (P := P) (w := w) (base := base) T
  refine T.shown.fn.ok sc_shown (fun vs H Q E h => ?len) (fun cdv A outer s H vs Q E hr h => ?body)
  case len =>
    obtain ⟨n, r, q, row, ps, rfl, _⟩ := h
    rfl
  case body =>
    have hr_check_rooms : Room 1 _ := hr.mono (by decide)
    have hr_check_row : Room 2 _ := hr.mono (by decide)
    have hr_check_paper : Room 1 _ := hr.mono (by decide)
    have hr_find_spells : Room 1 _ := hr.mono (by decide)
    have hr_has_within : Room 1 _ := hr.mono (by decide)
    have hu := hu_of hr
    obtain ⟨n, r, q, row, ps, rfl, n1, n8, hS, hR, hq, hP, k⟩ := h
    refine ⟨_, PSs.nox (pss_cons (ps_expr (pe_call G_check_rooms hr_check_rooms (by rfl) T.check_rooms.g T.check_rooms.fn.kp T.check_rooms.bd .nil pass0 (pa_cons (pv 0) pa_nil)))
        (pss_cons (ps_expr (pe_call G_check_row hr_check_row (by rfl) T.check_row.g T.check_row.fn.kp T.check_row.bd .nil pass0 (pa_cons (pv 1) pa_nil)))
        (pss_cons (ps_expr (pe_call G_check_paper hr_check_paper (by rfl) T.check_paper.g T.check_paper.fn.kp T.check_paper.bd .nil pass0 (pa_cons (pv 1) (pa_cons (pv 2) pa_nil))))
        (pss_cons (ps_setLc (i := 3) (own := [("spell", 4)]) (g := gName 4) rfl sc_shown.nd rfl rfl (sw_true rfl rfl rfl (by decide +kernel)) ((pi_list (pe_call G_find_spells hr_find_spells (by rfl) T.find_spells.g T.find_spells.fn.kp T.find_spells.bd .nil pass0 (pa_cons (pv 1) pa_nil)))) (blkOk_by (own := [("spell", 4)]) (N := ["rooms", "row", "places", "free", "spell"]) (sc := defScope (top 20)) (by decide +kernel)) (fun _ _ _ _ _ => (by exact (pg_name (i := 4) sc_shown.nd rfl (Or.inl rfl)))) (fun _ _ _ _ _ => (by exact (pts_one (pt_not (pt_val (pe_call G_has_within hr_has_within (by rfl) T.has_within.g T.has_within.fn.kp T.has_within.bd .nil pass0 (pa_cons (pv 4) (pa_cons (pv 2) pa_nil)))))))) (fun _ _ _ _ _ => (by exact (pv 4))))
        (pss_one (ps_ret (pe_op op_sub (pe_op op_sub (pe_callB call_len_seq (by rfl) T.len PySem.boot_len (pa_cons (pv 1) pa_nil)) (pe_callB call_len_seq (by rfl) T.len PySem.boot_len (pa_cons (pv 3) pa_nil))) (pe_op op_mul (pe_op op_sub (pv 0) pe_int) (pe_callB call_len_seq (by rfl) T.len PySem.boot_len (pa_cons (pv 2) pa_nil)))))))))), ?_⟩
    have hR1 := hR.1
    have hpl := hP.le
    refine ⟨_, rfl, n, rfl, n1, n8, ?_⟩
    refine ⟨_, rfl, r, row, rfl, hS, hR, fun H1 s1 => ?_⟩
    refine ⟨_, rfl, _, rfl, r, q, row, ps, rfl, s1.seq hS, s1.seq hq, hP, ?_⟩
    -- free = [..]
    refine ⟨_, rfl, r, row, rfl, s1.seq hS, by omega, fun l as H2 hl s2 hl2 hp2 => ?_⟩
    have s02 := s1.trans s2
    refine ⟨l, rfl, ⟨_, SqL.of hl2⟩, fun d hd => ?_⟩
    have hsl := spellsL_le row
    refine lc_list (K := K) (a := l) (xs := as.map V.ref) (fun i H' => (∃ fs : List V, H' d = some (.lst fs) ∧ fs.length = (((spellsL row).take i).filter fun x => !within x ps).length) ∧ Same H2 H') ⟨⟨[], upd_same, rfl⟩, Same.new hd⟩ (fun i H' _ h => SqL.of (h.2 _ _ hl2)) ?_ ?_
    · rintro i y H' hy ⟨⟨fs, h1, h3⟩, s3⟩
      rw [List.getElem?_map] at hy
      cases ea : as[i]? with
      | none => rw [ea] at hy; cases hy
      | some a =>
        rw [ea] at hy
        have ey := Option.some.inj hy
        subst ey
        have hi : i < (spellsL row).length := by rw [← hp2.len]; exact (List.getElem?_eq_some_iff.mp ea).1
        have ex : (spellsL row)[i]? = some ((spellsL row)[i]'hi) := List.getElem?_eq_getElem hi
        have ha := hp2.at_ i a _ ea ex
        rw [take_snoc ex, List.filter_append]
        generalize (spellsL row)[i]'hi = x at *
        have hfl := List.length_filter_le (fun x => !within x ps) ((spellsL row).take i)
        rw [List.length_take] at hfl
        refine ⟨rfl, _, rfl, _, rfl, a, q, x, ps, rfl, s3 _ _ ha, (s02.trans s3).seq hq, by omega, fun H3 s4 => ?_⟩
        have h4 : H3 d = some (.lst fs) := s4 _ _ h1
        have s34 := s3.trans s4
        by_cases hw : within x ps = true
        · refine ⟨_, rfl, ?_⟩
          rw [hw]
          refine iteF ⟨⟨fs, h4, ?_⟩, s34⟩
          rw [List.length_append, h3]
          simp [hw]
        · have hw' : within x ps = false := by simpa using hw
          refine ⟨_, rfl, ?_⟩
          rw [hw']
          refine iteT ⟨_, rfl, fs, h4, szl (by omega), ⟨_, upd_same, ?_⟩, Same.put s34 hd⟩
          rw [List.length_append, List.length_append, h3]
          simp [hw']
    · rintro H' ⟨⟨fs, h1, h3⟩, s3⟩
      rw [List.take_of_length_le (by rw [List.length_map, hp2.len]; exact Nat.le_refl _)] at h3
      have s4 := s02.trans s3
      refine ⟨_, rfl, r, _, rfl, .inl (s4.seq hS), _, rfl, d, _, rfl, .inl (SqL.of h1), _, _, rfl, rfl, _, rfl, _, _, rfl, rfl, _, rfl, q, _, rfl, .inl (s4.seq hq), _, _, rfl, rfl, .inl ⟨by omega, by omega⟩, _, _, rfl, rfl, ?_⟩
      have e := k H' s4
      unfold shownN at e
      rw [← h3] at e
      rw [il_len, List.length_map]
      exact e
end
end CK

/-! The rules. -/
namespace CK
open PySem PySem.Spec PyProof.Rows L2
/-- a new list of the places of the lacks -/
def spBy (K : PySem.W.Frag) (rule : Rl) : Sp := fun vs H Q _ => ∃ (n : Int) (r : Addr) (row : List Int), vs = [.int n, .ref r] ∧ 1 ≤ n ∧ n ≤ 8 ∧ SqL K H r (il row) ∧ RowOk row ∧
  ∀ (d : Addr) (H' : Hp), H d = none → Same H H' → H' d = some (.lst (NL (lacksR n.toNat rule row))) → Q (.ref d) H'
def spByLine (K : PySem.W.Frag) : Sp := fun vs H Q _ => ∃ (n : Int) (r : Addr) (row : List Int) (re : Bool), vs = [.int n, .ref r, .bl re] ∧ 1 ≤ n ∧ n ≤ 8 ∧ SqL K H r (il row) ∧ RowOk row ∧
  ∀ (d : Addr) (H' : Hp), H d = none → Same H H' → H' d = some (.lst (NL (placesT 0 (lineL n.toNat re [] row)))) → Q (.ref d) H'
def spCheckRule : Sp := fun vs H Q _ => ∃ rule : Rl, vs = [.str rule.s] ∧ Q .non H
def spLacking (K : PySem.W.Frag) : Sp := fun vs H Q _ => ∃ (n : Int) (r : Addr) (row : List Int) (rule : Rl), vs = [.int n, .ref r, .str rule.s] ∧ 1 ≤ n ∧ n ≤ 8 ∧ SqL K H r (il row) ∧ RowOk row ∧
  ∀ (d : Addr) (H' : Hp), H d = none → Same H H' → H' d = some (.lst (NL (lacksR n.toNat rule row))) → Q (.ref d) H'
theorem il_erase {ns : List Int} {j : Nat} : (il ns).eraseIdx j = il (ns.eraseIdx j) := by
  show (ns.map V.int).eraseIdx j = (ns.eraseIdx j).map V.int
  induction ns generalizing j with
  | nil => rfl
  | cons a r ih =>
    cases j with
    | zero => rfl
    | succ j => exact congrArg (V.int a :: ·) ih
section
variable {P : Program} {w : World} {K : PySem.W.Frag} {mg : Str → Option Value} {base : Heap}
theorem sc_by_line : FnScope ["rooms", "row", "renewed", "line", "lacks", "place", "page"] ["rooms", "row", "renewed"] (defScope (top 35)) := ⟨rfl, rfl, rfl, by decide +kernel, rfl, by decide +kernel, by decide +kernel⟩
theorem ok_by_line (T : Prog K mg) : FnOk P w K mg base CX0 1 T.by_line.f T.by_line.fd ["rooms", "row", "renewed"] (spByLine K) := by
  refine T.by_line.fn.ok sc_by_line (fun vs H Q E h => ?len) (fun cdv A outer s H vs Q E hr h => ?body)
  case len =>
    obtain ⟨n, r, row, re, rfl, _⟩ := h
    rfl
  case body =>
    have hu := hu_of hr
    obtain ⟨n, r, row, re, rfl, n1, n8, hS, hR, k⟩ := h
    refine ⟨_, PSs.nox (pss_cons (ps_set (i := 3) sc_by_line.nd rfl (Or.inl rfl) (pe_lst pa_nil))
        (pss_cons (ps_set (i := 4) sc_by_line.nd rfl (Or.inl rfl) (pe_lst pa_nil))
        (pss_cons (ps_for PassesOwn.never rfl (pi_enum (by rfl) T.enumerate (pa_cons (pv 1) pa_nil)) (pg_tup rfl (pgs_cons (pg_name (i := 5) sc_by_line.nd rfl (Or.inl rfl)) (pgs_cons (pg_name (i := 6) sc_by_line.nd rfl (Or.inl rfl)) pgs_nil)))
        (pss_one (ps_if (pt_cmpR op_notIn_seq (pv 6) (pv 3) (by rfl))
        (pss_cons (ps_expr (pe_bm PySem.F.plainAttrs_list PySem.F.slot_list_append PySem.F.type_list_append mt_append (pv 4) (pa_cons (pv 5) pa_nil)))
        (pss_cons (ps_if (pt_cmpR op_eq (pe_callB call_len_seq (by rfl) T.len PySem.boot_len (pa_cons (pv 3) pa_nil)) (pv 0) (nomark _))
        (pss_one (ps_expr (pe_bm PySem.F.plainAttrs_list PySem.F.slot_list_pop PySem.F.type_list_pop mt_popAt (pv 3) (pa_cons pe_int pa_nil))))
        pss_nil)
        (pss_one (ps_expr (pe_bm PySem.F.plainAttrs_list PySem.F.slot_list_append PySem.F.type_list_append mt_append (pv 3) (pa_cons (pv 6) pa_nil))))))
        (pss_one (ps_if (pt_val (pv 2))
        (pss_cons (ps_expr (pe_bm PySem.F.plainAttrs_list PySem.F.slot_list_remove PySem.F.type_list_remove mt_remove (pv 3) (pa_cons (pv 6) pa_nil)))
        (pss_one (ps_expr (pe_bm PySem.F.plainAttrs_list PySem.F.slot_list_append PySem.F.type_list_append mt_append (pv 3) (pa_cons (pv 6) pa_nil)))))
        pss_nil)))))
        (pss_one (ps_ret (pv 4)))))), ?_⟩
    -- line = []; lacks = []
    refine ⟨szd rfl, fun l hl => ⟨szd rfl, fun c hc => ?_⟩⟩
    have s1 : Same H (upd (upd H l (.lst [])) c (.lst [])) := (Same.new hl).trans (Same.new hc)
    have lc : l ≠ c := ne_fresh (H := upd H l (.lst [])) upd_same hc
    have cH : H c = none := Same.back (Same.new hl) hc
    have hn0 : 0 < n.toNat := by omega
    refine ⟨_, rfl, r, _, rfl, s1.seq hS, for_it (walk_enum (K := K) (a := r) (xs := il row)) (fun i σ H' => (∃ v1 v2, σ = [some (.int n), some (.ref r), some (.bl re), some (.ref l), some (.ref c), v1, v2]) ∧ Same H H' ∧ H' l = some (.lst (il (lineAt n.toNat re (row.take i)))) ∧
      H' c = some (.lst (NL (placesT 0 (lineL n.toNat re [] (row.take i))))))
      ⟨⟨_, _, rfl⟩, s1, by rw [upd_ne lc]; exact upd_same, upd_same⟩ (fun i σ H' _ h => h.2.1.seq hS) ?_ ?_⟩
    · rintro i x σ H1 H2 hi ⟨⟨v1, v2, rfl⟩, s2, hl1, hc1⟩ ⟨t, x1, x2, rfl, ht, rfl, ha, hb⟩
      have ea : V.int (i : Nat) = x1 := Option.some.inj ha
      subst ea
      obtain ⟨p, hp, rfl⟩ := il_get hb
      rw [il_len] at hi
      have hR1 := hR.1
      have lt : l ≠ t := ne_fresh hl1 ht
      have ct : c ≠ t := ne_fresh hc1 ht
      have hlO := lineAt_ok (re := re) hn0 (row.take i)
      have hpl := placesT_le 0 (lineL n.toNat re [] (row.take i))
      rw [lineL_len, List.length_take] at hpl
      have s3 : Same H (upd H1 t (.tup [V.int (i : Nat), V.int p])) := s2.trans (Same.new ht)
      have hl2 : upd H1 t (.tup [V.int (i : Nat), V.int p]) l = some (.lst (il (lineAt n.toNat re (row.take i)))) := by rw [upd_ne lt]; exact hl1
      have hc2 : upd H1 t (.tup [V.int (i : Nat), V.int p]) c = some (.lst (NL (placesT 0 (lineL n.toNat re [] (row.take i))))) := by rw [upd_ne ct]; exact hc1
      have eB : placesT 0 (lineL n.toNat re [] (row.take (i + 1))) = placesT 0 (lineL n.toNat re [] (row.take i)) ++ (if (!decide (p ∈ lineAt n.toNat re (row.take i))) = true then [i] else []) := by
        rw [take_snoc hp, lineL_snoc, placesT_snoc, lineL_len, List.length_take, Nat.min_eq_left (by omega), Nat.zero_add]
        rfl
      have eL : lineAt n.toNat re (row.take (i + 1)) = lineStep n.toNat re (lineAt n.toNat re (row.take i)) p := by
        rw [take_snoc hp, lineAt_snoc]
      rw [eB, eL]
      generalize hLL : lineAt n.toNat re (row.take i) = L at *
      generalize hPP : placesT 0 (lineL n.toNat re [] (row.take i)) = PL at *
      refine ⟨t, _, rfl, SqT.of upd_same, rfl, _, _, rfl, _, _, rfl, rfl, ?_⟩
      -- if page not in line
      refine ⟨_, rfl, _, rfl, l, _, rfl, .inl (SqL.of hl2), rfl, flat_il _, _, rfl, ?_⟩
      have e0 : (if true = true then !inV (V.int p) (il L) else inV (V.int p) (il L)) = !decide (p ∈ L) := by rw [if_pos rfl, inV_il]
      by_cases hin : p ∈ L
      · refine ifF (by rw [e0]; simp [hin]) ?_
        rw [if_neg (show ¬ (!decide (p ∈ L)) = true by simp [hin]), List.append_nil]
        -- elif renewed
        cases re with
        | true =>
          have eS : lineStep n.toNat true L p = L.eraseIdx (L.idxOf p) ++ [p] := by unfold lineStep; rw [if_pos hin]; rfl
          rw [eS]
          refine ⟨_, rfl, _, rfl, ?_⟩
          refine ⟨_, rfl, .inl ⟨rfl, _, SqL.of hl2⟩, _, rfl, l, L, p, L.idxOf p, rfl, rfl, hl2, idx_at hin, fun m hm z => idx_no hm z rfl, ?_⟩
          refine ⟨_, rfl, .inl ⟨rfl, _, SqL.of upd_same⟩, _, rfl, l, _, _, rfl, rfl, upd_same, szl (by
            have h1 := hlO.le
            have h2 := List.length_eraseIdx_le L (L.idxOf p)
            simp
            omega), ?_⟩
          rw [upd_upd]
          refine ⟨⟨_, _, rfl⟩, Same.put s3 hl, ?_, ?_⟩
          · rw [upd_same, il_snoc]
          · rw [upd_ne (Ne.symm lc)]; exact hc2
        | false =>
          have eS : lineStep n.toNat false L p = L := by unfold lineStep; rw [if_pos hin]; rfl
          rw [eS]
          exact ⟨_, rfl, _, rfl, ⟨_, _, rfl⟩, s3, hl2, hc2⟩
      · refine ifT (by rw [e0]; simp [hin]) ?_
        have eS : lineStep n.toNat re L p = (if L.length = n.toNat then L.eraseIdx 0 else L) ++ [p] := by unfold lineStep; rw [if_neg hin]
        rw [eS, if_pos (show (!decide (p ∈ L)) = true by simp [hin])]
        -- lacks.append(place)
        refine ⟨_, rfl, .inl ⟨rfl, _, SqL.of hc2⟩, _, rfl, c, _, _, rfl, rfl, hc2, szl (by simp; omega), ?_⟩
        rw [NL_snoc]
        have hl3 : upd (upd H1 t (.tup [V.int (i : Nat), V.int p])) c (.lst (NL (PL ++ [i]))) l = some (.lst (il L)) := by rw [upd_ne lc]; exact hl2
        -- if len(line) == rooms: line.pop(0)
        refine ⟨_, rfl, l, _, rfl, .inl (SqL.of hl3), _, rfl, rfl, _, rfl, ?_⟩
        have e1 : decide (V.int ((il L).length : Int) = V.int n) = decide (L.length = n.toNat) := by
          rw [il_len]
          by_cases q : L.length = n.toNat
          · rw [decide_eq_true q]
            exact decide_eq_true (congrArg V.int (by omega))
          · rw [decide_eq_false q]
            exact decide_eq_false (fun z => q (by injection z with z; omega))
        by_cases hln : L.length = n.toNat
        · refine ifT (by rw [e1]; exact decide_eq_true hln) ?_
          rw [if_pos hln]
          have hat0 : (il L)[0]? = some (V.int (L[0]'(by omega))) := il_at (List.getElem?_eq_getElem _)
          refine ⟨_, rfl, .inl ⟨rfl, _, SqL.of hl3⟩, l, _, 0, 0, _, rfl, rfl, hl3, by decide, by decide, seq_ix rfl (by simp; omega), hat0, ?_⟩
          refine ⟨_, rfl, .inl ⟨rfl, _, SqL.of upd_same⟩, _, rfl, l, _, _, rfl, rfl, upd_same, szl (by
            have h1 := hlO.le
            have h2 := List.length_eraseIdx_le (il L) 0
            simp at h2 ⊢
            omega), ?_⟩
          rw [upd_upd, il_erase, il_snoc]
          refine ⟨⟨_, _, rfl⟩, Same.put (Same.put s3 cH) hl, upd_same, ?_⟩
          rw [upd_ne (Ne.symm lc), upd_same]
        · refine ifF (by rw [e1]; exact decide_eq_false hln) ?_
          rw [if_neg hln]
          refine ⟨_, rfl, .inl ⟨rfl, _, SqL.of hl3⟩, _, rfl, l, _, _, rfl, rfl, hl3, szl (by
            have h1 := hlO.le
            simp
            omega), ?_⟩
          rw [il_snoc]
          refine ⟨⟨_, _, rfl⟩, Same.put (Same.put s3 cH) hl, upd_same, ?_⟩
          rw [upd_ne (Ne.symm lc), upd_same]
    · rintro σ H' ⟨⟨v1, v2, rfl⟩, s2, hl1, hc1⟩
      rw [List.take_of_length_le (by simp)] at hc1
      exact ⟨_, rfl, k c H' cH s2 hc1⟩
theorem sc_by_unseen : FnScope ["rooms", "row"] ["rooms", "row"] (defScope (top 33)) := ⟨rfl, rfl, rfl, by decide +kernel, rfl, by decide +kernel, by decide +kernel⟩
theorem ok_by_unseen (T : Prog K mg) : FnOk P w K mg base CX0 2 T.by_unseen.f T.by_unseen.fd ["rooms", "row"] (spBy K .unseen) := by
  have G_by_line := ok_by_line (P := P) (w := w) (base := base) T
  refine T.by_unseen.fn.ok sc_by_unseen (fun vs H Q E h => ?len) (fun cdv A outer s H vs Q E hr h => ?body)
  case len =>
    obtain ⟨n, r, row, rfl, _⟩ := h
    rfl
  case body =>
    have hr_by_line : Room 1 _ := hr.mono (by decide)
    have hu := hu_of hr
    obtain ⟨n, r, row, rfl, n1, n8, hS, hR, k⟩ := h
    refine ⟨_, PSs.nox (pss_one (ps_ret (pe_call G_by_line hr_by_line (by rfl) T.by_line.g T.by_line.fn.kp T.by_line.bd .nil pass0 (pa_cons (pv 0) (pa_cons (pv 1) (pa_cons pe_bl pa_nil)))))), ?_⟩
    exact ⟨_, rfl, _, rfl, n, r, row, true, rfl, n1, n8, hS, hR, k⟩
theorem sc_by_first : FnScope ["rooms", "row"] ["rooms", "row"] (defScope (top 34)) := ⟨rfl, rfl, rfl, by decide +kernel, rfl, by decide +kernel, by decide +kernel⟩
theorem ok_by_first (T : Prog K mg) : FnOk P w K mg base CX0 2 T.by_first.f T.by_first.fd ["rooms", "row"] (spBy K .first) := by
  have G_by_line := ok_by_line (P := P) (w := w) (base := base) T
  refine T.by_first.fn.ok sc_by_first (fun vs H Q E h => ?len) (fun cdv A outer s H vs Q E hr h => ?body)
  case len =>
    obtain ⟨n, r, row, rfl, _⟩ := h
    rfl
  case body =>
    have hr_by_line : Room 1 _ := hr.mono (by decide)
    have hu := hu_of hr
    obtain ⟨n, r, row, rfl, n1, n8, hS, hR, k⟩ := h
    refine ⟨_, PSs.nox (pss_one (ps_ret (pe_call G_by_line hr_by_line (by rfl) T.by_line.g T.by_line.fn.kp T.by_line.bd .nil pass0 (pa_cons (pv 0) (pa_cons (pv 1) (pa_cons pe_bl pa_nil)))))), ?_⟩
    exact ⟨_, rfl, _, rfl, n, r, row, false, rfl, n1, n8, hS, hR, k⟩
theorem sc_by_hand : FnScope ["rooms", "row", "dial", "place", "page"] ["rooms", "row"] (defScope (top 32)) := ⟨rfl, rfl, rfl, by decide +kernel, rfl, by decide +kernel, by decide +kernel⟩
theorem ok_by_hand (T : Prog K mg) : FnOk P w K mg base CX0 4 T.by_hand.f T.by_hand.fd ["rooms", "row"] (spBy K .hand) := by
  have G_Dial := ok_Dial_init (P := P) (w := w) (base := base) T
  have G_ask := ok_Dial_ask (P := P) (w := w) (base := base) T
  refine T.by_hand.fn.ok sc_by_hand (fun vs H Q E h => ?len) (fun cdv A outer s H vs Q E hr h => ?body)
  case len =>
    obtain ⟨n, r, row, rfl, _⟩ := h
    rfl
  case body =>
    have hr_ask : Room 3 _ := hr.mono (by decide)
    have hu := hu_of hr
    obtain ⟨n, r, row, rfl, n1, n8, hS, hR, k⟩ := h
    refine ⟨_, PSs.nox (pss_cons (ps_set (i := 2) sc_by_hand.nd rfl (Or.inr rfl) (pe_make T.Dial.mkr G_Dial (hr.mono (by decide)) (by rfl) T.Dial.g T.Dial.bI .nil pass0 (pa_cons (pv 0) pa_nil)))
        (pss_one (ps_ret (pe_lc (own := [("place", 3), ("page", 4)]) (g := gTup K 2 (gCons (gName 3) (gCons (gName 4) gNil))) (tt := tB (tOp (rIxT K) (tMeth _ _ _ _ _ _ _) (tC (.int 0)))) (te := tVar 3) rfl sc_by_hand.nd ((pi_enum (by rfl) T.enumerate (pa_cons (pv 1) pa_nil))) (blkOk_by (own := [("place", 3), ("page", 4)]) (N := ["rooms", "row", "dial", "place", "page"]) (sc := defScope (top 32)) (by decide +kernel)) (fun _ _ _ _ _ => (by exact (pg_tup rfl (pgs_cons (pg_name (i := 3) sc_by_hand.nd rfl (Or.inl rfl)) (pgs_cons (pg_name (i := 4) sc_by_hand.nd rfl (Or.inl rfl)) pgs_nil))))) (fun _ _ _ _ _ => (by exact (pts_one (pt_val (pe_ix ix_tup (pe_meth (pv 2) T.Dial.cl T.Dial.ask.me G_ask hr_ask T.Dial.ask.bd .nil pass0 (pa_cons (pv 4) pa_nil)) pe_int (fun _ _ => rfl)))))) (fun _ _ _ _ _ => (by exact (pv 3))))))), ?_⟩
    -- dial = Dial(rooms)
    refine ⟨_, rfl, fun p dx np ndx nex => ?_⟩
    refine ⟨p, dx, n, rfl, upd_same, n1, n8, fun a b H2 ha hb D2 k2 => ⟨rfl, ?_⟩⟩
    have s0 : Same H (upd (upd H dx (.own p)) p (.ins T.Dial.C dx [])) := fun c o e => by
      rw [upd_ne (ne_fresh e np), upd_ne (ne_fresh e ndx)]
      exact e
    have s2 : Same H H2 := fun c o e => k2 c o (s0 c o e) (by simpa using ne_fresh e np)
    have aH : H a = none := Same.back s0 ha
    have bH : H b = none := Same.back s0 hb
    have W0 : (DS.new n.toNat).WF n.toNat := DS.new_wf (by omega)
    have hR1 := hR.1
    refine ⟨_, rfl, r, _, rfl, s2.seq hS, fun d hd => ?_⟩
    have dH : H d = none := Same.back s2 hd
    have dp : d ≠ p := by obtain ⟨_, q⟩ := D2.ob; exact Ne.symm (ne_fresh q hd)
    have da : d ≠ a := Ne.symm (ne_fresh D2.he hd)
    have db : d ≠ b := Ne.symm (ne_fresh D2.ma hd)
    have dS : d ∉ [p, a, b] := by simp [dp, da, db]
    refine lc_it (walk_enum (K := K) (a := r) (xs := il row)) (fun i H' => H' d = some (.lst (NL (placesT 0 ((tellsL (DS.new n.toNat) (row.take i)).map (·.1))))) ∧ DialIs T.Dial.C H' p a b (afterL (DS.new n.toNat) (row.take i)) ∧ Same H H') ?_ ?_ ?_ ?_
    · exact ⟨upd_same, D2.same (Same.new hd), s2.trans (Same.new hd)⟩
    · rintro i H' _ ⟨_, _, q⟩
      exact q.seq hS
    · rintro i x H3 H4 hi ⟨hd3, D3, s3⟩ ⟨t, x1, x2, rfl, ht, rfl, hx1, hx2⟩
      have ea : V.int (i : Nat) = x1 := Option.some.inj hx1
      subst ea
      obtain ⟨pg, hpg, rfl⟩ := il_get hx2
      have hpl := hR.2 pg (List.mem_of_getElem? hpg)
      rw [il_len] at hi
      have sT := Same.new (o := .tup [V.int (i : Nat), V.int pg]) ht
      have D4 := D3.same sT
      obtain ⟨dx4, hp4⟩ := D4.ob
      refine ⟨t, _, rfl, SqT.of upd_same, rfl, _, _, rfl, _, _, rfl, rfl, ⟨rfl, ?_⟩⟩
      refine ⟨_, rfl, p, dx4, _, rfl, hp4, rfl, _, rfl, p, a, b, _, n.toNat, pg, rfl, D4, afterL_wf W0 _, by omega, hpl.1, hpl.2, fun t' l' H5 ht' hl' tl' ht5 hl5 D5 k5 => ?_⟩
      refine ⟨_, _, _, _, rfl, rfl, SqT.of ht5, atI_nat (j := 0) rfl, _, rfl, ?_⟩
      have hd5 := k5 _ _ (sT _ _ hd3) dS
      have s5 : Same H H5 := fun c o e => k5 _ _ (sT _ _ (s3 _ _ e)) (by
        have z1 := ne_fresh e np
        have z2 := ne_fresh e aH
        have z3 := ne_fresh e bH
        simp [z1, z2, z3])
      have eP : placesT 0 ((tellsL (DS.new n.toNat) (row.take (i + 1))).map (·.1)) = placesT 0 ((tellsL (DS.new n.toNat) (row.take i)).map (·.1)) ++ (if ((afterL (DS.new n.toNat) (row.take i)).tells pg).1 = true then [i] else []) := by
        rw [take_snoc hpg, tellsL_snoc, List.map_append, List.map_cons, List.map_nil, placesT_snoc, List.length_map, tellsL_len, List.length_take, Nat.min_eq_left (by omega), Nat.zero_add]
      have hle := placesT_le 0 ((tellsL (DS.new n.toNat) (row.take i)).map (·.1))
      rw [List.length_map, tellsL_len, List.length_take] at hle
      have eA : afterL (DS.new n.toNat) (row.take (i + 1)) = (afterL (DS.new n.toNat) (row.take i)).ask pg := by rw [take_snoc hpg, afterL_snoc]
      rw [eP, eA]
      generalize ((afterL (DS.new n.toNat) (row.take i)).tells pg).1 = bq at *
      cases bq with
      | true =>
        refine ⟨_, rfl, _, hd5, szl (by rw [List.length_map]; omega), ?_, D5.but (S := [d]) (But.put (by simp)) (by simp [Ne.symm dp]) (by simp [Ne.symm da]) (by simp [Ne.symm db]), Same.put s5 dH⟩
        rw [upd_same, NL_snoc]
        rfl
      | false =>
        refine ⟨?_, D5, s5⟩
        rw [if_neg (by simp), List.append_nil]
        exact hd5
    · rintro H' ⟨q1, _, q2⟩
      rw [List.take_of_length_le (by simp)] at q1
      exact k d H' dH q2 q1
theorem sc_check_rule : FnScope ["rule"] ["rule"] (defScope (top 37)) := ⟨rfl, rfl, rfl, by decide +kernel, rfl, by decide +kernel, by decide +kernel⟩
theorem ok_check_rule (T : Prog K mg) {es : Array DictEntry} {nd : Nat} (TB_RULES : KDict K w T.a_RULES es nd) : FnOk P w K mg base CX0 1 T.check_rule.f T.check_rule.fd ["rule"] spCheckRule := by
  refine T.check_rule.fn.ok sc_check_rule (fun vs H Q E h => ?len) (fun cdv A outer s H vs Q E hr h => ?body)
  case len =>
    obtain ⟨rule, rfl, _⟩ := h
    rfl
  case body =>
    have hu := hu_of hr
    obtain ⟨rule, rfl, k⟩ := h
    refine ⟨_, PSs.nox (pss_one (ps_if (pt_cmpR (op_notIn_kd TB_RULES) (pv 0) (pe_glob (v := L2.V.ref T.a_RULES) rfl T.g_RULES rfl) (by rfl))
        (pss_one ps_never)
        pss_nil)), ?_⟩
    obtain ⟨u1, h1, _⟩ := T.r_RULES_hand
    obtain ⟨u2, h2, _⟩ := T.r_RULES_unseen
    obtain ⟨u3, h3, _⟩ := T.r_RULES_first
    cases rule with
    | hand => exact ⟨_, rfl, _, _, rfl, rfl, h1, _, rfl, iteF k⟩
    | unseen => exact ⟨_, rfl, _, _, rfl, rfl, h2, _, rfl, iteF k⟩
    | first => exact ⟨_, rfl, _, _, rfl, rfl, h3, _, rfl, iteF k⟩
theorem sc_find_lacks : FnScope ["rooms", "row", "rule", "by_rule"] ["rooms", "row", "rule"] (defScope (top 39)) := ⟨rfl, rfl, rfl, by decide +kernel, rfl, by decide +kernel, by decide +kernel⟩
theorem ok_find_lacks (T : Prog K mg) {es : Array DictEntry} {nd : Nat} (TB_RULES : KDict K w T.a_RULES es nd) : FnOk P w K mg base CX0 5 T.find_lacks.f T.find_lacks.fd ["rooms", "row", "rule"] (spLacking K) := by
  refine T.find_lacks.fn.ok sc_find_lacks (fun vs H Q E h => ?len) (fun cdv A outer s H vs Q E hr h => ?body)
  case len =>
    obtain ⟨n, r, row, rule, rfl, _⟩ := h
    rfl
  case body =>
    have hu := hu_of hr
    obtain ⟨n, r, row, rule, rfl, n1, n8, hS, hR, k⟩ := h

    obtain ⟨u1, h1, w1⟩ := T.r_RULES_hand
    obtain ⟨u2, h2, w2⟩ := T.r_RULES_unseen
    obtain ⟨u3, h3, w3⟩ := T.r_RULES_first
    have G_by_hand := ok_by_hand (P := P) (w := w) (base := base) T
    have G_by_unseen := ok_by_unseen (P := P) (w := w) (base := base) T
    have G_by_first := ok_by_first (P := P) (w := w) (base := base) T
    have hr_h : Room 4 _ := hr.mono (by decide)
    have hr_u : Room 2 _ := hr.mono (by decide)
    have hr_f : Room 2 _ := hr.mono (by decide)
    cases rule with
    | hand =>
      refine ⟨_, PSs.nox (pss_cons (ps_set (i := 3) sc_find_lacks.nd rfl (Or.inl rfl) (pe_ix ix_kdict (pe_glob (v := L2.V.ref T.a_RULES) rfl T.g_RULES rfl) (pv 2) (fun _ _ => rfl)))
        (pss_one (ps_ret (pe_callL (i := 3) G_by_hand hr_h (by rfl) (Or.inl rfl) T.by_hand.fn.kp T.by_hand.bd .nil pass0 (pa_cons (pv 0) (pa_cons (pv 1) pa_nil)))))), ?_⟩
      refine ⟨_, rfl, _, _, V.ref T.by_hand.f, rfl, rfl, ⟨es, nd, u1, TB_RULES.at_, TB_RULES.lit, h1, w1⟩, ?_⟩
      exact ⟨rfl, _, rfl, _, rfl, n, r, row, rfl, n1, n8, hS, hR, k⟩
    | unseen =>
      refine ⟨_, PSs.nox (pss_cons (ps_set (i := 3) sc_find_lacks.nd rfl (Or.inl rfl) (pe_ix ix_kdict (pe_glob (v := L2.V.ref T.a_RULES) rfl T.g_RULES rfl) (pv 2) (fun _ _ => rfl)))
        (pss_one (ps_ret (pe_callL (i := 3) G_by_unseen hr_u (by rfl) (Or.inl rfl) T.by_unseen.fn.kp T.by_unseen.bd .nil pass0 (pa_cons (pv 0) (pa_cons (pv 1) pa_nil)))))), ?_⟩
      refine ⟨_, rfl, _, _, V.ref T.by_unseen.f, rfl, rfl, ⟨es, nd, u2, TB_RULES.at_, TB_RULES.lit, h2, w2⟩, ?_⟩
      exact ⟨rfl, _, rfl, _, rfl, n, r, row, rfl, n1, n8, hS, hR, k⟩
    | first =>
      refine ⟨_, PSs.nox (pss_cons (ps_set (i := 3) sc_find_lacks.nd rfl (Or.inl rfl) (pe_ix ix_kdict (pe_glob (v := L2.V.ref T.a_RULES) rfl T.g_RULES rfl) (pv 2) (fun _ _ => rfl)))
        (pss_one (ps_ret (pe_callL (i := 3) G_by_first hr_f (by rfl) (Or.inl rfl) T.by_first.fn.kp T.by_first.bd .nil pass0 (pa_cons (pv 0) (pa_cons (pv 1) pa_nil)))))), ?_⟩
      refine ⟨_, rfl, _, _, V.ref T.by_first.f, rfl, rfl, ⟨es, nd, u3, TB_RULES.at_, TB_RULES.lit, h3, w3⟩, ?_⟩
      exact ⟨rfl, _, rfl, _, rfl, n, r, row, rfl, n1, n8, hS, hR, k⟩
theorem sc_lacking : FnScope ["rooms", "row", "rule"] ["rooms", "row", "rule"] (defScope (top 38)) := ⟨rfl, rfl, rfl, by decide +kernel, rfl, by decide +kernel, by decide +kernel⟩
theorem ok_lacking (T : Prog K mg) {es : Array DictEntry} {nd : Nat} (TB_RULES : KDict K w T.a_RULES es nd) : FnOk P w K mg base CX0 6 T.lacking.f T.lacking.fd ["rooms", "row", "rule"] (spLacking K) := by
  have G_check_rooms := ok_check_rooms (P := P) (w := w) (base := base) T
  have G_check_row := ok_check_row (P := P) (w := w) (base := base) T
  have G_check_rule := ok_check_rule (P := P) (w := w) (base := base) T TB_RULES
  have G_find_lacks := ok_find_lacks (P := P) (w := w) (base := base) T TB_RULES
  refine T.lacking.fn.ok sc_lacking (fun vs H Q E h => ?len) (fun cdv A outer s H vs Q E hr h => ?body)
  case len =>
    obtain ⟨n, r, row, rule, rfl, _⟩ := h
    rfl
  case body =>
    have hr_check_rooms : Room 1 _ := hr.mono (by decide)
    have hr_check_row : Room 2 _ := hr.mono (by decide)
    have hr_check_rule : Room 1 _ := hr.mono (by decide)
    have hr_find_lacks : Room 5 _ := hr.mono (by decide)
    have hu := hu_of hr
    obtain ⟨n, r, row, rule, rfl, n1, n8, hS, hR, k⟩ := h
    refine ⟨_, PSs.nox (pss_cons (ps_expr (pe_call G_check_rooms hr_check_rooms (by rfl) T.check_rooms.g T.check_rooms.fn.kp T.check_rooms.bd .nil pass0 (pa_cons (pv 0) pa_nil)))
        (pss_cons (ps_expr (pe_call G_check_row hr_check_row (by rfl) T.check_row.g T.check_row.fn.kp T.check_row.bd .nil pass0 (pa_cons (pv 1) pa_nil)))
        (pss_cons (ps_expr (pe_call G_check_rule hr_check_rule (by rfl) T.check_rule.g T.check_rule.fn.kp T.check_rule.bd .nil pass0 (pa_cons (pv 2) pa_nil)))
        (pss_one (ps_ret (pe_call G_find_lacks hr_find_lacks (by rfl) T.find_lacks.g T.find_lacks.fn.kp T.find_lacks.bd .nil pass0 (pa_cons (pv 0) (pa_cons (pv 1) (pa_cons (pv 2) pa_nil))))))))), ?_⟩
    refine ⟨_, rfl, n, rfl, n1, n8, ?_⟩
    refine ⟨_, rfl, r, row, rfl, hS, hR, fun H1 s1 => ?_⟩
    refine ⟨_, rfl, rule, rfl, ?_⟩
    exact ⟨_, rfl, _, rfl, _, rfl, n, r, row, rule, rfl, n1, n8, s1.seq hS, hR, fun d H' hd s2 hd2 => k d H' (Same.back s1 hd) (s1.trans s2) hd2⟩
end
end CK

/-! list(zip(a, b)), a and b lists of one length. -/
namespace CKZ
open PySem PySem.Spec PyProof.Rows L2
open PySem.Sem (wp)
/-- the zip's own tuple is free (no turn yet), or out, and stands apart -/
def Out (h : Heap) (z TI TO i1 i2 S : Addr) (k : Nat) : Prop :=
  (k = 0 ∧ IsZip h z TI TO .none ∧ ∃ a b, IsPair h TO a b) ∨ ∃ T f oT, IsZipHeld h z TI TO T f ∧ h.get? T = some oT ∧ T ≠ S ∧ T ≠ z ∧ T ≠ i1 ∧ T ≠ i2
/-- a zip of two lists, k turns behind it -/
structure Zs (h : Heap) (z TI TO i1 i2 l1 l2 S : Addr) (xs ys : Array Value) (k : Nat) : Prop where
  out : Out h z TI TO i1 i2 S k
  ti : IsPair h TI (.ref i1) (.ref i2)
  a1 : h.IsListIter i1 l1 k
  a2 : h.IsListIter i2 l2 k
  e1 : h.IsList l1 xs
  e2 : h.IsList l2 ys
/-- the list that is made lies apart from all of it -/
structure SApart (S z TI TO i1 i2 l1 l2 : Addr) : Prop where
  sz : z ≠ S
  st : TI ≠ S
  so : TO ≠ S
  s1 : i1 ≠ S
  s2 : i2 ≠ S
  m1 : l1 ≠ S
  m2 : l2 ≠ S
variable {prog : Program} {w : World} {A : Around} {z TI TO i1 i2 l1 l2 S : Addr} {xs ys : Array Value}
theorem Zs.stay {h h' : Heap} {k : Nat} (x : Zs h z TI TO i1 i2 l1 l2 S xs ys k) (D : SApart S z TI TO i1 i2 l1 l2) (hk : ∀ b o, b ≠ S → h.get? b = some o → h'.get? b = some o) : Zs h' z TI TO i1 i2 l1 l2 S xs ys k := by
  refine ⟨?_, hk _ _ D.st x.ti, x.a1.at fun o e => hk _ o D.s1 e, x.a2.at fun o e => hk _ o D.s2 e, x.e1.at fun o e => hk _ o D.m1 e, x.e2.at fun o e => hk _ o D.m2 e⟩
  rcases x.out with ⟨e0, hz, a, b, hp⟩ | ⟨T, f, oT, hz, hT, n1, n2⟩
  · exact .inl ⟨e0, hk _ _ D.sz hz, a, b, hk _ _ D.so hp⟩
  · exact .inr ⟨T, f, oT, hk _ _ D.sz hz, hk _ _ n1 hT, n1, n2⟩
/-- a turn -/
theorem zs_item {s : Shared} {k : Nat} {x y : Value} {Q : Option Value → Shared → Prop} {E : Value → Shared → Prop} (Z : ZipApart z TI TO i1 i2 l1 l2) (D : SApart S z TI TO i1 i2 l1 l2) (hs : Zs s.heap z TI TO i1 i2 l1 l2 S xs ys k) (hS : S < s.heap.objs.size) (hx : xs[k]? = some x) (hy : ys[k]? = some y)
    (hQ : ∀ h', Zs h' z TI TO i1 i2 l1 l2 S xs ys (k + 1) → IsPair h' s.heap.objs.size x y → h'.objs.size = s.heap.objs.size + 1 → (∀ b o, b ≠ z → b ≠ TO → b ≠ i1 → b ≠ i2 → s.heap.get? b = some o → h'.get? b = some o) → Q (some (.ref s.heap.objs.size)) { s with heap := h' }) :
    wpAny (model prog w) A (pyNext (.ref z)) Q E s := by
  have g1 : i1 < s.heap.objs.size := by obtain ⟨_, e, _⟩ := hs.a1; exact Heap.lt_size e
  have g2 : i2 < s.heap.objs.size := by obtain ⟨_, e, _⟩ := hs.a2; exact Heap.lt_size e
  have up : ∀ h' : Heap, (∀ b o, b ≠ z → b ≠ TO → b ≠ i1 → b ≠ i2 → s.heap.get? b = some o → h'.get? b = some o) → h'.IsListIter i1 l1 (k + 1) → h'.IsListIter i2 l2 (k + 1) → Out h' z TI TO i1 i2 S (k + 1) → Zs h' z TI TO i1 i2 l1 l2 S xs ys (k + 1) := fun h' hk q1 q2 q3 =>
    ⟨q3, hk _ _ Z.TIz Z.TITO Z.TIi1 Z.TIi2 hs.ti, q1, q2, hs.e1.at fun o e => hk _ o Z.l1z Z.l1TO Z.l1i1 Z.l1i2 e, hs.e2.at fun o e => hk _ o Z.l2z Z.l2TO Z.l2i1 Z.l2i2 e⟩
  rcases hs.out with ⟨e0, hz, a, b, hp⟩ | ⟨T, f, oT, hz, hT, n1, n2, n3, n4⟩
  · refine wpAny_pyNext_zip_item Z hz hs.ti hp hs.a1 hs.a2 hs.e1 hs.e2 hx hy fun h' b1 b2 b3 b4 b5 b6 b7 => ?_
    have hzl := Heap.lt_size hz
    exact hQ h' (up h' b7 b3 b4 (.inr ⟨_, false, _, b1, b5, Nat.ne_of_gt hS, Nat.ne_of_gt hzl, Nat.ne_of_gt g1, Nat.ne_of_gt g2⟩)) b5 b6 b7
  · refine wpAny_pyNext_zip_item_held Z hz hT hs.ti hs.a1 hs.a2 hs.e1 hs.e2 hx hy fun h' b1 b3 b4 b5 b6 b7 => ?_
    have b8 : ∀ b o, b ≠ z → b ≠ TO → b ≠ i1 → b ≠ i2 → s.heap.get? b = some o → h'.get? b = some o := fun b o c1 _ c3 c4 e => b7 b o c1 c3 c4 e
    exact hQ h' (up h' b8 b3 b4 (.inr ⟨T, true, oT, b1, b7 _ _ n2 n3 n4 hT, n1, n2, n3, n4⟩)) b5 b6 b8
theorem zs_end {s : Shared} {k : Nat} {Q : Option Value → Shared → Prop} {E : Value → Shared → Prop} (hh : A.handled = none) (Z : ZipApart z TI TO i1 i2 l1 l2) (hs : Zs s.heap z TI TO i1 i2 l1 l2 S xs ys k) (hx : xs[k]? = none)
    (hQ : ∀ h', (∀ b o, b ≠ z → b ≠ TO → b ≠ i1 → b ≠ i2 → s.heap.get? b = some o → h'.get? b = some o) → Q none { s with heap := h' }) : wpAny (model prog w) A (pyNext (.ref z)) Q E s := by
  rcases hs.out with ⟨e0, hz, a, b, hp⟩ | ⟨T, f, oT, hz, hT, n1, n2, n3, n4⟩
  · exact wpAny_pyNext_zip_end hh Z hz hs.ti hp hs.a1 hs.a2 hs.e1 hs.e2 (.inl hx) fun h' hk => hQ h' hk
  · exact wpAny_pyNext_zip_end_held hh Z hz hT hs.ti hs.a1 hs.a2 hs.e1 hs.e2 (.inl hx) fun h' hk => hQ h' fun b o c1 _ c3 c4 e => hk b o c1 c3 c4 e
/-- the pairs that were made, at as -/
structure Made (h : Heap) (lo : Addr) (xs ys : Array Value) (as : List Addr) : Prop where
  rise : as.Pairwise (· < ·)
  above : ∀ a ∈ as, lo < a
  pair : ∀ (j : Nat) (a : Addr), as[j]? = some a → ∃ x y, xs[j]? = some x ∧ ys[j]? = some y ∧ IsPair h a x y
theorem Made.there {h : Heap} {lo : Addr} {as : List Addr} (g : Made h lo xs ys as) {a : Addr} (ha : a ∈ as) : a < h.objs.size := by
  obtain ⟨j, hj⟩ := List.mem_iff_getElem?.mp ha
  obtain ⟨_, _, _, _, e⟩ := g.pair j a hj
  exact Heap.lt_size e
/-- all turns: the list at S takes a pair each -/
theorem zs_loop {s : Shared} {R : Result → Shared → Prop} (hh : A.handled = none) (Z : ZipApart z TI TO i1 i2 l1 l2) (D : SApart S z TI TO i1 i2 l1 l2) (lo : Addr) (hlo : S ≤ lo ∧ z ≤ lo ∧ TO ≤ lo ∧ i1 ≤ lo ∧ i2 ≤ lo) (hxy : xs.size ≤ ys.size) (hn : xs.size ≤ sizeLine) (res : Value) {h₁ : Heap}
    (hR : ∀ h' tk acc c as, (∀ b o, b ≠ S → b ≠ z → b ≠ TO → b ≠ i1 → b ≠ i2 → h₁.get? b = some o → h'.get? b = some o) → h'.get? S = some { cls := .type "list", dict := none, data := .seq acc c, slots := #[] } → as.length = xs.size → Made h' lo xs ys as → acc.toList = as.map Value.ref → R (.ok (.ret res)) { s with heap := h', toks := tk }) :
    ∀ (m k : Nat) (h : Heap) (tk c : Nat) (acc : Array Value) (as : List Addr), xs.size - k = m → k ≤ xs.size → Zs h z TI TO i1 i2 l1 l2 S xs ys k → (∀ b o, b ≠ S → b ≠ z → b ≠ TO → b ≠ i1 → b ≠ i2 → h₁.get? b = some o → h.get? b = some o) →
      h.get? S = some { cls := .type "list", dict := none, data := .seq acc c, slots := #[] } → acc.toList = as.map Value.ref → as.length = k → Made h lo xs ys as → lo < h.objs.size →
      codeAny (model prog w) A (.builtin "list.extend.loop" ⟨[.ref S, .ref z, res], []⟩) R { s with heap := h, toks := tk } := by
  intro m
  induction m with
  | zero =>
    intro k h tk c acc as hm hk st keep hS hacc hal hG hlt
    have ek : k = xs.size := by omega
    refine codeAny_builtin PySem.F.entry_extend_loop ?_; rw [Around.under_plainId PySem.F.plain_extend_loop _]
    refine wpAny_bind (zs_end (s := { s with heap := h, toks := tk }) (A := A.in1) (S := S) hh Z st (by rw [ek]; simp) fun h' he => ?_)
    refine wpAny_pure (hR h' tk acc c as (fun b o c0 c1 c2 c3 c4 e => he b o c1 c2 c3 c4 (keep b o c0 c1 c2 c3 c4 e)) (he S _ D.sz.symm D.so.symm D.s1.symm D.s2.symm hS) (by omega) ⟨hG.rise, hG.above, fun j a hj => ?_⟩ hacc)
    obtain ⟨x, y, f1, f2, f3⟩ := hG.pair j a hj
    have ga := hG.above a (List.mem_of_getElem? hj)
    exact ⟨x, y, f1, f2, he a _ (Nat.ne_of_gt (Nat.lt_of_le_of_lt hlo.2.1 ga)) (Nat.ne_of_gt (Nat.lt_of_le_of_lt hlo.2.2.1 ga)) (Nat.ne_of_gt (Nat.lt_of_le_of_lt hlo.2.2.2.1 ga)) (Nat.ne_of_gt (Nat.lt_of_le_of_lt hlo.2.2.2.2 ga)) f3⟩
  | succ m ih =>
    intro k h tk c acc as hm hk st keep hS hacc hal hG hlt
    have kl : k < xs.size := by omega
    have ex : xs[k]? = some (xs[k]'kl) := Array.getElem?_eq_getElem kl
    have ey : ys[k]? = some (ys[k]'(by omega)) := Array.getElem?_eq_getElem _
    have esz : acc.size = k := by rw [← Array.length_toList, hacc, List.length_map, hal]
    refine codeAny_builtin PySem.F.entry_extend_loop ?_; rw [Around.under_plainId PySem.F.plain_extend_loop _]
    refine wpAny_bind (zs_item (s := { s with heap := h, toks := tk }) (A := A.in1) Z D st (Heap.lt_size hS) ex ey fun h' st' ht hz hkp => ?_)
    dsimp only at ht hz hkp ⊢
    have hS' := hkp S _ D.sz.symm D.so.symm D.s1.symm D.s2.symm hS
    have up : ∀ b o, b ≠ S → h'.get? b = some o → (h'.update S (Obj.mapSeq (·.push (Value.ref h.objs.size)))).get? b = some o := fun b o hb e => (Heap.get?_update_other _ _ (Ne.symm hb)).trans e
    have hSl : S < h.objs.size := Heap.lt_size hS
    show wpAny _ A.in1 (updateSeq S (·.push (Value.ref h.objs.size)) >>= _) _ _ _; refine wpAny_bind ?_
    refine wpAny_updateSeq hS' rfl (wpAny_pure ⟨plainId_quiet PySem.F.plain_extend_loop _, ih (k + 1) _ tk _ (acc.push (Value.ref h.objs.size)) (as ++ [h.objs.size]) (by omega) kl (st'.stay D up)
      (fun b o c0 c1 c2 c3 c4 e => up b o c0 (hkp b o c1 c2 c3 c4 (keep b o c0 c1 c2 c3 c4 e))) (Heap.get?_update_self _ hS' rfl) (by rw [Array.toList_push, hacc, List.map_append]; rfl) (by rw [List.length_append, hal]; rfl) ⟨?_, ?_, ?_⟩ ?_⟩) (by rw [esz]; omega) (by show (acc.push (Value.ref h.objs.size)).size ≤ sizeLine + 1; rw [Array.size_push, esz]; omega)
    · refine List.pairwise_append.mpr ⟨hG.rise, List.pairwise_singleton _ _, fun a ha b hb => ?_⟩
      rw [List.mem_singleton.mp hb]; exact hG.there ha
    · intro a ha
      rcases List.mem_append.mp ha with ha | ha
      · exact hG.above a ha
      · rw [List.mem_singleton.mp ha]; exact hlt
    · intro j b hj
      by_cases q1 : j < as.length
      · rw [List.getElem?_append_left q1] at hj
        obtain ⟨x', y', f1, f2, f3⟩ := hG.pair j b hj
        have ga := hG.above b (List.mem_of_getElem? hj)
        exact ⟨x', y', f1, f2, up b _ (Nat.ne_of_gt (Nat.lt_of_le_of_lt hlo.1 ga)) (hkp b _ (Nat.ne_of_gt (Nat.lt_of_le_of_lt hlo.2.1 ga)) (Nat.ne_of_gt (Nat.lt_of_le_of_lt hlo.2.2.1 ga)) (Nat.ne_of_gt (Nat.lt_of_le_of_lt hlo.2.2.2.1 ga)) (Nat.ne_of_gt (Nat.lt_of_le_of_lt hlo.2.2.2.2 ga)) f3)⟩
      · have q2 : j = as.length := by
          have := (List.getElem?_eq_some_iff.mp hj).1
          rw [List.length_append] at this
          simp at this
          omega
        subst q2
        have hb : h.objs.size = b := by simpa using hj
        subst hb
        exact ⟨_, _, by rw [hal]; exact ex, by rw [hal]; exact ey, up _ _ (Nat.ne_of_gt hSl) ht⟩
    · have e : (h'.update S (Obj.mapSeq (·.push (Value.ref h.objs.size)))).get? h.objs.size = _ := up _ _ (Nat.ne_of_gt hSl) ht
      exact Nat.lt_trans hlt (Heap.lt_size e)
theorem zip_len : typeLookup (.type "zip") "__len__" = pure none := by rw [typeLookup_type, builtinLookup_eq_fast]; kernel_rfl
theorem zip_hint : typeLookup (.type "zip") "__length_hint__" = pure none := by rw [typeLookup_type, builtinLookup_eq_fast]; kernel_rfl
end CKZ

/-! list(zip(a, b)): the call, and its reading. -/
namespace CKZ
open PySem PySem.Spec PyProof.Rows L2
open PySem.Sem (wp)
section
variable {prog : Program} {w : World} {A : Around} {z TI TO i1 i2 l1 l2 S : Addr} {xs ys : Array Value}
theorem zs_hint {s : Shared} {f0 : Value} {E : Value → Shared → Prop} {Q : Bool → Shared → Prop} (hz : IsZip s.heap z TI TO f0) (h : Q true s) : wpAny (model prog w) A (Builtin.List.listLengthHint (.ref z)) Q E s := by
  have hT : s.TypeIs (.ref z) "zip" := ⟨_, hz, rfl⟩
  unfold Builtin.List.listLengthHint
  refine wpAny_bind (wpAny_specialOf hT zip_len ?_)
  show wpAny _ A (specialOf (Value.ref z) (Str.ofString "__length_hint__") >>= _) _ _ s
  refine wpAny_bind (wpAny_specialOf hT zip_hint ?_)
  exact wpAny_pure h
theorem zs_extend {s : Shared} {R : Result → Shared → Prop} (hh : A.handled = none) (Z : ZipApart z TI TO i1 i2 l1 l2) (D : SApart S z TI TO i1 i2 l1 l2) (hxy : xs.size ≤ ys.size) (hn : xs.size ≤ sizeLine) (hz : IsZip s.heap z TI TO .none) (st : Zs s.heap z TI TO i1 i2 l1 l2 S xs ys 0) (res : Value) (c₀ : Nat)
    (hS : s.heap.get? S = some { cls := .type "list", data := .seq #[] c₀ }) (lo : Addr) (hlo : S ≤ lo ∧ z ≤ lo ∧ TO ≤ lo ∧ i1 ≤ lo ∧ i2 ≤ lo) (hlt : lo < s.heap.objs.size)
    (hR : ∀ h' tk acc c as, (∀ b o, b ≠ S → b ≠ z → b ≠ TO → b ≠ i1 → b ≠ i2 → s.heap.get? b = some o → h'.get? b = some o) → h'.get? S = some { cls := .type "list", dict := none, data := .seq acc c, slots := #[] } → as.length = xs.size → Made h' lo xs ys as → acc.toList = as.map Value.ref → R (.ok (.ret res)) { s with heap := h', toks := tk }) :
    wpAny (model prog w) A.in1 (Builtin.List.listExtendWith (.ref S) (.ref z) res)
      (fun fin s' => match fin with | .done f => R (.ok f) s' | .again c' => c'.quiet = true ∧ codeAny (model prog w) A c' R s') (fun e s' => R (.error e) s') s := by
  have hT : s.TypeIs (.ref z) "zip" := ⟨_, hz, rfl⟩
  unfold Builtin.List.listExtendWith
  refine wpAny_bind (wpAny_typeOf hT ?_)
  have h1 : Builtin.List.listSameRef (.ref S) (.ref z) = false := by simp [Builtin.List.listSameRef, D.sz.symm]
  have h2 : (Value.type "zip" == Value.type "list") = false := by decide
  have h3 : (Value.type "zip" == Value.type "tuple") = false := by decide
  simp only [h1, h2, h3, Bool.or_false, Bool.false_eq_true, if_false]
  refine wpAny_bind (wpAny_pyIter_zip hz ?_)
  refine wpAny_bind (wpAny_holding (zs_hint hz ?_))
  have go : ∀ (h : Heap) (c₁ : Nat), (∀ b o, b ≠ S → s.heap.get? b = some o → h.get? b = some o) → h.get? S = some { cls := .type "list", data := .seq #[] c₁ } → lo < h.objs.size → codeAny (model prog w) A (.builtin "list.extend.loop" ⟨[.ref S, .ref z, res], []⟩) R { s with heap := h } := fun h c₁ hk hS₁ hl =>
    zs_loop (s := s) (h₁ := s.heap) hh Z D lo hlo hxy hn res (fun h' tk acc c as k1 k2 k3 k4 k5 => hR h' tk acc c as k1 k2 k3 k4 k5) xs.size 0 h s.toks c₁ #[] [] (Nat.sub_zero _) (Nat.zero_le _) (st.stay D hk) (fun b o c0 _ _ _ _ e => hk b o c0 e) hS₁ rfl rfl ⟨List.Pairwise.nil, (fun _ ha => nomatch ha), (fun j a hj => by simp at hj)⟩ hl
  refine wpAny_ite_split (fun _ => ?_) (fun q => absurd rfl q)
  refine wpAny_bind (wpAny_rule (wpAny_bind ?_))
  show wpAny _ _ (updateSeq S (·.push .none) >>= fun _ => updateSeq S (·.pop)) _ _ s
  refine wpAny_bind (wpAny_updateSeq hS rfl ?_)
  have hS₂ := Heap.get?_update_self (Obj.mapSeq (·.push Value.none)) hS rfl
  refine wpAny_updateSeq (hz := by seq_fits) hS₂ rfl ?_
  have hS₃ := Heap.get?_update_self (Obj.mapSeq (·.pop)) hS₂ rfl
  refine wpAny_pure ⟨plainId_quiet PySem.F.plain_extend_loop _, go _ _ (fun b o hb e => (Heap.get?_update_other _ _ (Ne.symm hb)).trans ((Heap.get?_update_other _ _ (Ne.symm hb)).trans e)) hS₃ ?_⟩
  show lo < ((s.heap.update S _).update S _).objs.size
  rw [Heap.size_update, Heap.size_update]
  exact hlt
theorem call_listZip {s : Shared} {E : Value → Shared → Prop} {Q : Value → Shared → Prop} (hh : A.handled = none) (Z : ZipApart z TI TO i1 i2 l1 l2) (hz : IsZip s.heap z TI TO .none) (hTI : IsPair s.heap TI (.ref i1) (.ref i2)) (hTO : IsPair s.heap TO .none .none) (h1 : s.heap.IsListIter i1 l1 0) (h2 : s.heap.IsListIter i2 l2 0)
    (hl1 : s.heap.IsList l1 xs) (hl2 : s.heap.IsList l2 ys) (hxy : xs.size ≤ ys.size) (hn : xs.size ≤ sizeLine)
    (hQ : ∀ h' tk acc c as, (∀ b o, b ≠ z → b ≠ TO → b ≠ i1 → b ≠ i2 → s.heap.get? b = some o → h'.get? b = some o) → h'.get? s.heap.objs.size = some { cls := .type "list", dict := none, data := .seq acc c, slots := #[] } → as.length = xs.size → Made h' s.heap.objs.size xs ys as → acc.toList = as.map Value.ref → Q (.ref s.heap.objs.size) { s with heap := h', toks := tk }) :
    wpAny (model prog w) A (call (.type "list") [.ref z]) Q E s := by
  have p1 := Heap.lt_size hz
  have p2 := Heap.lt_size hTI
  have p3 := Heap.lt_size hTO
  have p4 : i1 < s.heap.objs.size := by obtain ⟨_, e, _⟩ := h1; exact Heap.lt_size e
  have p5 : i2 < s.heap.objs.size := by obtain ⟨_, e, _⟩ := h2; exact Heap.lt_size e
  have p6 : l1 < s.heap.objs.size := by obtain ⟨_, e, _⟩ := hl1; exact Heap.lt_size e
  have p7 : l2 < s.heap.objs.size := by obtain ⟨_, e, _⟩ := hl2; exact Heap.lt_size e
  have D : SApart s.heap.objs.size z TI TO i1 i2 l1 l2 := ⟨Nat.ne_of_lt p1, Nat.ne_of_lt p2, Nat.ne_of_lt p3, Nat.ne_of_lt p4, Nat.ne_of_lt p5, Nat.ne_of_lt p6, Nat.ne_of_lt p7⟩
  refine callType_codes (Q₁ := fun obj s₁ => obj = .ref s.heap.objs.size ∧ s₁ = { s with heap := s.heap.push { cls := .type "list", data := .seq #[] } }) PySem.F.called_list (PySem.F.typeCall_list_1 _) PySem.F.entry_list_init (code_list_new _ ⟨rfl, rfl⟩) fun obj s₁ q₁ => ?_
  obtain ⟨rfl, rfl⟩ := q₁
  have hS : (s.heap.push { cls := .type "list", data := .seq #[] }).get? s.heap.objs.size = some { cls := .type "list", data := .seq #[] } := Heap.get?_push_size _ rfl
  have up : ∀ b o, s.heap.get? b = some o → (s.heap.push { cls := .type "list", data := .seq #[] }).get? b = some o := fun b o e => Heap.get?_push_of_some _ e
  refine ⟨⟨_, hS, rfl⟩, PySem.F.args_list_init_2 _ _, ?_⟩
  show wpAny _ _ (do let old ← Builtin.List.listItems (.ref s.heap.objs.size); Builtin.List.listUpdate (.ref s.heap.objs.size) (fun _ => #[]); letGo old.toList.reverse; Builtin.List.listExtendWith (.ref s.heap.objs.size) (.ref z) .none) _ _ _
  refine wpAny_bind ?_
  unfold Builtin.List.listItems; refine wpAny_bind (wpAny_seqItems hS rfl (wpAny_pure ?_))
  show wpAny _ _ (updateSeq s.heap.objs.size (fun _ => #[]) >>= fun _ => letGo (#[] : Array Value).toList.reverse >>= fun _ => Builtin.List.listExtendWith (.ref s.heap.objs.size) (.ref z) .none) _ _ _
  refine wpAny_bind (wpAny_updateSeq hS rfl ?_)
  have hS₂ := Heap.get?_update_self (Obj.mapSeq (fun _ => (#[] : Array Value))) hS rfl
  have up2 : ∀ b o, b ≠ s.heap.objs.size → s.heap.get? b = some o → ((s.heap.push { cls := .type "list", data := .seq #[] }).update s.heap.objs.size (Obj.mapSeq (fun _ => (#[] : Array Value)))).get? b = some o := fun b o hb e => (Heap.get?_update_other _ _ (Ne.symm hb)).trans (up b o e)
  refine wpAny_bind (wpAny_letGo ?_)
  have hz2 := up2 _ _ D.sz hz
  have st : Zs ((s.heap.push { cls := .type "list", data := .seq #[] }).update s.heap.objs.size (Obj.mapSeq (fun _ => (#[] : Array Value)))) z TI TO i1 i2 l1 l2 s.heap.objs.size xs ys 0 :=
    ⟨.inl ⟨rfl, hz2, _, _, up2 _ _ D.so hTO⟩, up2 _ _ D.st hTI, h1.at fun o e => up2 _ o D.s1 e, h2.at fun o e => up2 _ o D.s2 e, hl1.at fun o e => up2 _ o D.m1 e, hl2.at fun o e => up2 _ o D.m2 e⟩
  refine zs_extend (A := A.in1) hh Z D hxy hn hz2 st .none _ hS₂ s.heap.objs.size ⟨Nat.le_refl _, Nat.le_of_lt p1, Nat.le_of_lt p3, Nat.le_of_lt p4, Nat.le_of_lt p5⟩ ?_ fun h' tk acc c as k1 k2 k3 k4 k5 => ?_
  · show s.heap.objs.size < ((s.heap.push _).update _ _).objs.size
    rw [Heap.size_update, Heap.size_push]
    exact Nat.lt_succ_self _
  · exact ⟨rfl, hQ h' tk acc c as (fun b o c1 c2 c3 c4 e => k1 b o (Nat.ne_of_lt (Heap.lt_size e)) c1 c2 c3 c4 (up2 b o (Nat.ne_of_lt (Heap.lt_size e)) e)) k2 k3 k4 k5⟩
end
/-- pairs laid at their places -/
def lay2 : Hp → List Addr → List (V × V) → Hp
  | H, a :: as, p :: ps => lay2 (upd H a (.tup [p.1, p.2])) as ps
  | H, _, _ => H
theorem lay2_off {b : Addr} : ∀ (as : List Addr) (ps : List (V × V)) (H : Hp), b ∉ as → lay2 H as ps b = H b
  | [], _, _, _ => rfl
  | _ :: _, [], _, _ => rfl
  | a :: as, p :: ps, H, h => by
    show lay2 (upd H a (.tup [p.1, p.2])) as ps b = H b
    rw [lay2_off as ps _ (fun q => h (List.mem_cons_of_mem _ q)), upd_ne (fun q => h (by rw [q]; exact List.mem_cons_self))]
theorem lay2_at : ∀ (as : List Addr) (ps : List (V × V)) (H : Hp), as.length = ps.length → as.Nodup → ∀ (j : Nat) (a : Addr) (p : V × V), as[j]? = some a → ps[j]? = some p → lay2 H as ps a = some (.tup [p.1, p.2])
  | [], _, _, _, _, _, _, _, h, _ => by cases h
  | a :: as, [], _, h, _, _, _, _, _, _ => by cases h
  | a :: as, p :: ps, H, hl, nd, 0, b, q, h1, h2 => by
    have e1 : a = b := Option.some.inj h1
    have e2 : p = q := Option.some.inj h2
    rw [← e1, ← e2]
    show lay2 (upd H a (.tup [p.1, p.2])) as ps a = _
    rw [lay2_off as ps _ (List.nodup_cons.mp nd).1, upd_same]
  | a :: as, p :: ps, H, hl, nd, j + 1, b, q, h1, h2 => lay2_at as ps _ (Nat.succ.inj hl) (List.nodup_cons.mp nd).2 j b q h1 h2
def tListZip (K : PySem.W.Frag) (ta : TA) : TE := fun σ H Q => ta σ H fun vs H1 => ∃ (a b : Addr) (xs ys : List V), vs = [.ref a, .ref b] ∧ SqL K H1 a xs ∧ SqL K H1 b ys ∧ xs.length ≤ ys.length ∧
  ∀ (H' : Hp) (p : Addr) (ts : List Addr), (∀ c o, H1 c = some o → H' c = some o) → H1 p = none → H' p = some (.lst (ts.map V.ref)) → ts.length = xs.length → (∀ (j : Nat) (t : Addr) (x y : V), ts[j]? = some t → xs[j]? = some x → ys[j]? = some y → H' t = some (.tup [x, y])) → Q (.ref p) H'
section
variable {X : Cx} {e e2 : Expr} {ta : TA} {p p2 pos pos2 : Pos}
theorem vals_refs : ∀ as : List Addr, Vals (as.map V.ref) (as.map Value.ref)
  | [] => .nil
  | _ :: as => .cons rfl (vals_refs as)
theorem pe_listZip (hc : X.calm = true) (hg : Gl X "list") (hm : X.mg "list" = none) (hg2 : Gl X "zip") (hm2 : X.mg "zip" = none) (ha : PA X [e, e2] ta)
    (hs : starEach [e, e2] X.env = (false, eval e X.env) :: starEach [e2] X.env := by rfl) (hpl : (backTo pos2 (starEach [e2] X.env)).any (·.1) = false := by rfl)
    (hs2 : starEach [.Call (.Name "zip" p2) [e, e2] [] pos2] X.env = (false, eval (.Call (.Name "zip" p2) [e, e2] [] pos2) X.env) :: starEach [] X.env := by rfl) :
    PE X (.Call (.Name "list" p) [.Call (.Name "zip" p2) [e, e2] [] pos2] [] pos) (tListZip X.K ta) := by
  refine ⟨fun pins s σ H Q I h => ?_⟩
  refine Call_ (ld_blt I hg hm boot_list (PyProof.Rows.callWith_type1 (args_cons (Call_ (ld_blt I hg2 hm2 PyProof.Rows.boot_zip (PyProof.Rows.callWith_type1 (thn (ha.run pos2 pins s σ H _ I h) fun us s1 ⟨vs, H1, I1, r1, q1⟩ => ?_) hs hpl))) hs2) hs2 rfl))
  obtain ⟨a, b, xs, ys, ev, hqx, hqy, hxy, q⟩ := q1
  subst ev
  cases r1 with
  | cons r rr =>
    cases rr with
    | cons r' rr =>
      cases rr
      cases r
      cases r'
      obtain ⟨its, rv, p1, hz1⟩ := I1.list hqx
      obtain ⟨its2, rv2, p2', hz2⟩ := I1.list hqy
      have ln1 := rv.length
      have ln2 := rv2.length
      refine call_zip_2 p1.isList p2'.isList fun h' hz hTI hTO h1 h2 hsz hk => args_nil ?_
      have I2 : Inv X pins σ H1 { s1 with heap := h' } := I1.kept (t' := s1.toks) hk
      refine call_listZip (s := { s1 with heap := h' }) (I2.ok.hd hc) (PySem.W.ktu_apart s1.heap.objs.size a b p1.lt p2'.lt) hz hTI hTO h1 h2 (p1.isList.at fun o q => hk a o q) (p2'.isList.at fun o q => hk b o q) (by simp only [List.size_toArray]; omega) (by rw [List.size_toArray, ← ln1]; exact hz1) fun h'' tk acc c as k1 k2 k3 k4 k5 => ?_
      have nd : as.Nodup := List.Pairwise.imp (fun {a b} (h : a < b) => Nat.ne_of_lt h) k4.rise
      have big : s1.heap.objs.size ≤ h'.objs.size := by rw [hsz]; exact Nat.le_add_right _ _
      have new : ∀ t ∈ as, H1 t = none := fun t ht => I1.hok.fresh (Nat.le_trans big (Nat.le_of_lt (k4.above t ht)))
      have newS : H1 h'.objs.size = none := I1.hok.fresh big
      have hSn : h'.objs.size ∉ as := fun z => Nat.lt_irrefl _ (k4.above _ z)
      have old : ∀ b o, s1.heap.get? b = some o → h''.get? b = some o := fun c o e => by
        have hl := Heap.lt_size e
        exact k1 c o (Nat.ne_of_lt (Nat.lt_of_lt_of_le hl (Nat.le_add_right _ _))) (Nat.ne_of_lt (Nat.lt_of_lt_of_le hl (Nat.le_add_right _ _))) (Nat.ne_of_lt hl) (Nat.ne_of_lt (Nat.lt_of_lt_of_le hl (Nat.le_add_right _ _))) (hk c o e)
      have las : as.length = (xs.zip ys).length := by rw [k3, List.size_toArray, List.length_zip]; omega
      have ats := lay2_at as (xs.zip ys) (upd H1 h'.objs.size (.lst (as.map V.ref))) las nd
      have off : ∀ b, b ∉ as → b ≠ h'.objs.size → lay2 (upd H1 h'.objs.size (.lst (as.map V.ref))) as (xs.zip ys) b = H1 b := fun b n1 n2 => by rw [lay2_off as _ _ n1, upd_ne n2]
      have kp : ∀ b u, H1 b = some u → lay2 (upd H1 h'.objs.size (.lst (as.map V.ref))) as (xs.zip ys) b = some u := fun b u e => by
        rw [off b (fun z => by rw [new b z] at e; cases e) (fun z => by rw [z, newS] at e; cases e)]
        exact e
      have eS : lay2 (upd H1 h'.objs.size (.lst (as.map V.ref))) as (xs.zip ys) h'.objs.size = some (.lst (as.map V.ref)) := by rw [lay2_off as _ _ hSn, upd_same]
      have low : ∀ b o, s1.heap.get? b = some o → b ∉ as ∧ b ≠ h'.objs.size := fun b o e => ⟨fun z => absurd (Heap.lt_size e) (Nat.not_lt.mpr (Nat.le_trans big (Nat.le_of_lt (k4.above b z)))), Nat.ne_of_lt (Nat.lt_of_lt_of_le (Heap.lt_size e) big)⟩
      refine ⟨.ref h'.objs.size, lay2 (upd H1 h'.objs.size (.lst (as.map V.ref))) as (xs.zip ys), ?_, rfl, q _ _ as kp newS eS (by rw [k3, List.size_toArray, ← ln1]) fun j t x y f1 f2 f3 => ats j t (x, y) f1 (List.getElem?_zip_eq_some.mpr ⟨f2, f3⟩)⟩
      refine I1.call' (ch := []) rfl ⟨fun b o q _ _ _ => old b o q, fun b o q _ _ _ => ⟨o.slots, old b o q⟩, fun b o q n _ => ?_, fun b o q _ => ⟨o, old b o q⟩, fun b xs q => kp b _ q, fun b o u q => kp b _ q, fun b ps q => ⟨#[], by rw [kp b _ q]; simp⟩⟩ (fun b u q => ?_) I1.bare fun b z => by simp at z
      · obtain ⟨z1, z2⟩ := low b o q
        rw [off b z1 z2]
        exact n
      · by_cases hb : b ∈ as
        · obtain ⟨j, hj⟩ := List.mem_iff_getElem?.mp hb
          obtain ⟨x, y, f1, f2, f3⟩ := k4.pair j b hj
          have jl : j < as.length := (List.getElem?_eq_some_iff.mp hj).1
          have jx : j < xs.length := by rw [k3, List.size_toArray] at jl; omega
          have jy : j < ys.length := by omega
          have ex : xs[j]? = some (xs[j]'jx) := List.getElem?_eq_getElem jx
          have ey : ys[j]? = some (ys[j]'jy) := List.getElem?_eq_getElem jy
          have g := ats j b (xs[j]'jx, ys[j]'jy) hj (List.getElem?_zip_eq_some.mpr ⟨ex, ey⟩)
          rw [g] at q
          cases q
          obtain ⟨u, hu, ru⟩ := rv.get ex
          obtain ⟨u2, hu2, ru2⟩ := rv2.get ey
          have e1 : u = x := Option.some.inj ((by simpa using hu.symm : some u = its.toArray[j]?).trans f1)
          have e2 : u2 = y := Option.some.inj ((by simpa using hu2.symm : some u2 = its2.toArray[j]?).trans f2)
          rw [e1] at ru
          rw [e2] at ru2
          exact ⟨by show 2 ≤ sizeLine; decide, [x, y], .cons ru (.cons ru2 .nil), ⟨_, f3, rfl, _, rfl⟩⟩
        · by_cases hb2 : b = h'.objs.size
          · rw [hb2] at q ⊢
            rw [eS] at q
            cases q
            refine ⟨by rw [List.length_map, las, List.length_zip]; have := hz1; omega, acc.toList, c, by rw [k5]; exact vals_refs as, ?_⟩
            rw [Array.toArray_toList]
            exact k2
          · rw [off b hb hb2] at q
            exact (I1.hok b u q).stay (fun d v _ y => old d v y) (fun d y => kp d _ y) fun d xs y => kp d _ y
end
end CKZ

/-! Stretches. -/
namespace CK
open PySem PySem.Spec PyProof.Rows L2
/-- the begins of the stretches, and the pages of the last one, the first i asks gone through -/
structure Bg where
  bs : List Nat
  ps : List Int
def Bg.step (n : Nat) (s : Bg) (i : Nat) (p : Int) : Bg :=
  if p ∈ s.ps then s else if i = 0 ∨ s.ps.length = n then ⟨s.bs ++ [i], [p]⟩ else ⟨s.bs, s.ps ++ [p]⟩
def bgTo (n : Nat) (row : List Int) : Nat → Bg
  | 0 => ⟨[], []⟩
  | i + 1 => match row[i]? with
    | some p => (bgTo n row i).step n i p
    | none => bgTo n row i
theorem bgTo_succ {n : Nat} {row : List Int} {i : Nat} {p : Int} (h : row[i]? = some p) : bgTo n row (i + 1) = (bgTo n row i).step n i p := by
  show (match row[i]? with | some p => (bgTo n row i).step n i p | none => bgTo n row i) = _
  rw [h]
theorem bgTo_le (n : Nat) (row : List Int) : ∀ i, (bgTo n row i).bs.length ≤ i ∧ (bgTo n row i).ps.length ≤ i
  | 0 => ⟨Nat.le_refl _, Nat.le_refl _⟩
  | i + 1 => by
    have ⟨h1, h2⟩ := bgTo_le n row i
    cases hp : row[i]? with
    | none =>
      have e : bgTo n row (i + 1) = bgTo n row i := by
        show (match row[i]? with | some p => (bgTo n row i).step n i p | none => bgTo n row i) = _
        rw [hp]
      rw [e]
      exact ⟨by omega, by omega⟩
    | some p =>
      rw [bgTo_succ hp]
      unfold Bg.step
      split
      · exact ⟨by omega, by omega⟩
      · split
        · exact ⟨by rw [List.length_append]; simp; omega, by simp⟩
        · exact ⟨Nat.le_succ_of_le h1, by rw [List.length_append]; simp; omega⟩
def begins (n : Nat) (row : List Int) : List Nat := (bgTo n row row.length).bs
/-- the stretches -/
def parts (n : Nat) (row : List Int) : List (Nat × Nat) := (begins n row).zip ((begins n row).drop 1 ++ [row.length])
theorem parts_len (n : Nat) (row : List Int) : (parts n row).length = (begins n row).length := by
  unfold parts
  rw [List.length_zip, List.length_append, List.length_drop]
  simp
  omega
theorem begins_le (n : Nat) (row : List Int) : (begins n row).length ≤ row.length := (bgTo_le n row _).1
theorem parts_le (n : Nat) (row : List Int) : (parts n row).length ≤ row.length := by rw [parts_len]; exact begins_le n row
/-- how many of the places lie in each part -/
def countIn (ls : List Nat) (xs : List (Nat × Nat)) : List Nat := xs.map fun x => (ls.filter fun q => decide (x.1 ≤ q) && decide (q < x.2)).length
def spBegins (K : PySem.W.Frag) : Sp := fun vs H Q _ => ∃ (n : Int) (r : Addr) (row : List Int), vs = [.int n, .ref r] ∧ 1 ≤ n ∧ n ≤ 8 ∧ SqL K H r (il row) ∧ RowOk row ∧
  ∀ (d : Addr) (H' : Hp), H d = none → Same H H' → H' d = some (.lst (NL (begins n.toNat row))) → Q (.ref d) H'
def spStretches (K : PySem.W.Frag) : Sp := fun vs H Q _ => ∃ (n : Int) (r : Addr) (row : List Int), vs = [.int n, .ref r] ∧ 1 ≤ n ∧ n ≤ 8 ∧ SqL K H r (il row) ∧ RowOk row ∧
  ∀ (d : Addr) (as : List Addr) (H' : Hp), H d = none → Same H H' → H' d = some (.lst (as.map V.ref)) → PairsAt H' as (parts n.toNat row) → Q (.ref d) H'
def spLackingIn (K : PySem.W.Frag) : Sp := fun vs H Q _ => ∃ (n : Int) (r : Addr) (row : List Int) (rule : Rl), vs = [.int n, .ref r, .str rule.s] ∧ 1 ≤ n ∧ n ≤ 8 ∧ SqL K H r (il row) ∧ RowOk row ∧
  ∀ (d : Addr) (H' : Hp), H d = none → Same H H' → H' d = some (.lst (NL (countIn (lacksR n.toNat rule row) (parts n.toNat row)))) → Q (.ref d) H'
theorem cut_from1 (ns : List Nat) : cutV (NL ns) (some 1) none = NL (ns.drop 1) := by
  unfold cutV
  rw [HT.sIx_none]
  have e : HT.sIx (NL ns).length 0 (some (1 : Int)) = min 1 (NL ns).length   := HT.sIx_nat _ _ 1
  rw [e]
  cases ns with
  | nil => rfl
  | cons a r =>
    have e2 : min 1 (NL (a :: r)).length = 1 := by simp
    rw [e2]
    show (NL r).take _ = NL r
    exact List.take_of_length_le (by simp)
section
variable {P : Program} {w : World} {K : PySem.W.Frag} {mg : Str → Option Value} {base : Heap}
theorem sc_begins : FnScope ["rooms", "row", "begins", "pages", "place", "page"] ["rooms", "row"] (defScope (top 43)) := ⟨rfl, rfl, rfl, by decide +kernel, rfl, by decide +kernel, by decide +kernel⟩
theorem ok_begins (T : Prog K mg) : FnOk P w K mg base CX0 1 T.begins.f T.begins.fd ["rooms", "row"] (spBegins K) := by
  refine T.begins.fn.ok sc_begins (fun vs H Q E h => ?len) (fun cdv A outer s H vs Q E hr h => ?body)
  case len =>
    obtain ⟨n, r, row, rfl, _⟩ := h
    rfl
  case body =>
    have hu := hu_of hr
    obtain ⟨n, r, row, rfl, n1, n8, hS, hR, k⟩ := h
    refine ⟨_, PSs.nox (pss_cons (ps_set (i := 2) sc_begins.nd rfl (Or.inl rfl) (pe_lst pa_nil))
        (pss_cons (ps_set (i := 3) sc_begins.nd rfl (Or.inl rfl) (pe_lst pa_nil))
        (pss_cons (ps_for PassesOwn.never rfl (pi_enum (by rfl) T.enumerate (pa_cons (pv 1) pa_nil)) (pg_tup rfl (pgs_cons (pg_name (i := 4) sc_begins.nd rfl (Or.inl rfl)) (pgs_cons (pg_name (i := 5) sc_begins.nd rfl (Or.inl rfl)) pgs_nil)))
        (pss_cons (ps_if (pt_cmpR op_in_seq (pv 5) (pv 3) (by rfl))
        (pss_one ps_continue)
        pss_nil)
        (pss_cons (ps_if (PW.pt (pw_or (pt_cmpR op_eq (pv 4) pe_int (nomark _)) (pw_or1 (pt_cmpR op_eq (pe_callB call_len_seq (by rfl) T.len PySem.boot_len (pa_cons (pv 3) pa_nil)) (pv 0) (nomark _)))))
        (pss_cons (ps_expr (pe_bm PySem.F.plainAttrs_list PySem.F.slot_list_append PySem.F.type_list_append mt_append (pv 2) (pa_cons (pv 4) pa_nil)))
        (pss_one (ps_set (i := 3) sc_begins.nd rfl (Or.inl rfl) (pe_lst pa_nil))))
        pss_nil)
        (pss_one (ps_expr (pe_bm PySem.F.plainAttrs_list PySem.F.slot_list_append PySem.F.type_list_append mt_append (pv 3) (pa_cons (pv 5) pa_nil)))))))
        (pss_one (ps_ret (pv 2)))))), ?_⟩
    have hR1 := hR.1
    refine ⟨szd rfl, fun d hd => ⟨szd rfl, fun q0 hq0 => ?_⟩⟩
    have s1 := Same.new (o := .lst []) hd
    have s2 := Same.new (o := .lst []) hq0
    refine ⟨_, rfl, r, _, rfl, (s1.trans s2).seq hS, for_it (walk_enum (K := K) (a := r) (xs := il row)) (fun i σ H' => ∃ q, (∃ v4 v5, σ = [some (.int n), some (.ref r), some (.ref d), some (.ref q), v4, v5]) ∧ Same H H' ∧ H' d = some (.lst (NL (bgTo n.toNat row i).bs)) ∧ q ≠ d ∧ H q = none ∧ H' q = some (.lst (il (bgTo n.toNat row i).ps))) ?_ (fun i σ H' _ h => by obtain ⟨_, _, q, _⟩ := h; exact q.seq hS) ?_ ?_⟩
    · exact ⟨q0, ⟨_, _, rfl⟩, s1.trans s2, s2 _ _ upd_same, Ne.symm (ne_fresh (H := upd H d (.lst [])) upd_same hq0), Same.back s1 hq0, upd_same⟩
    · rintro i x σ H1 H2 hi ⟨q, ⟨v4, v5, rfl⟩, s3, hd1, qd, hq, hq1⟩ ⟨t, x1, x2, rfl, ht, rfl, ha, hb⟩
      have ea : V.int (i : Nat) = x1 := Option.some.inj ha
      subst ea
      obtain ⟨p, hp, rfl⟩ := il_get hb
      rw [il_len] at hi
      have sT := Same.new (o := .tup [V.int (i : Nat), V.int p]) ht
      have hd2 := sT _ _ hd1
      have hq2 := sT _ _ hq1
      have s4 := s3.trans sT
      have ⟨l1, l2⟩ := bgTo_le n.toNat row i
      rw [bgTo_succ hp]
      unfold Bg.step
      generalize hB : bgTo n.toNat row i = B at *
      refine ⟨t, _, rfl, SqT.of upd_same, rfl, _, _, rfl, _, _, rfl, rfl, ?_⟩
      refine ⟨_, rfl, _, rfl, q, _, rfl, .inl (SqL.of hq2), rfl, flat_il _, _, rfl, ?_⟩
      have e0 : (if false = true then !inV (V.int p) (il B.ps) else inV (V.int p) (il B.ps)) = decide (p ∈ B.ps) := by rw [if_neg (by simp), inV_il]
      by_cases hin : p ∈ B.ps
      · refine ifT (by rw [e0]; exact decide_eq_true hin) ?_
        rw [if_pos hin]
        exact ⟨q, ⟨_, _, rfl⟩, s4, hd2, qd, hq, hq2⟩
      refine ifF (by rw [e0]; exact decide_eq_false hin) ?_
      rw [if_neg hin]
      by_cases h0 : i = 0 ∨ B.ps.length = n.toNat
      · rw [if_pos h0]
        refine ⟨_, rfl, rfl, _, rfl, ?_⟩
        by_cases hi0 : i = 0
        · refine ifT (decide_eq_true (by rw [hi0]; rfl)) ?_
          refine ⟨_, rfl, .inl ⟨rfl, _, SqL.of hd2⟩, _, rfl, d, _, _, rfl, rfl, hd2, szl (by rw [List.length_map]; omega), ?_⟩
          rw [NL_snoc]
          refine ⟨szd rfl, fun z hz => ?_⟩
          have hz1 : upd H1 t (.tup [V.int (i : Nat), V.int p]) z = none := by
            have zd : z ≠ d := by intro e; rw [e, upd_same] at hz; cases hz
            rw [upd_ne zd] at hz
            exact hz
          have zd : z ≠ d := Ne.symm (ne_fresh hd2 hz1)
          refine ⟨_, rfl, .inl ⟨rfl, _, SqL.of upd_same⟩, _, rfl, z, _, _, rfl, rfl, upd_same, szl (by simp), ?_⟩
          rw [upd_upd]
          exact ⟨z, ⟨_, _, rfl⟩, (Same.put s4 hd).trans (Same.new hz), by rw [upd_ne (Ne.symm zd), upd_same], zd, Same.back s4 hz1, upd_same⟩
        · have hn : B.ps.length = n.toNat := h0.resolve_left hi0
          refine ifF (decide_eq_false (by intro z; injection z with z; omega)) ?_
          refine ⟨_, rfl, q, _, rfl, .inl (SqL.of hq2), _, rfl, rfl, _, rfl, ?_⟩
          refine ifT (decide_eq_true (by rw [il_len]; exact congrArg V.int (by omega))) ?_
          refine ⟨_, rfl, .inl ⟨rfl, _, SqL.of hd2⟩, _, rfl, d, _, _, rfl, rfl, hd2, szl (by rw [List.length_map]; omega), ?_⟩
          rw [NL_snoc]
          refine ⟨szd rfl, fun z hz => ?_⟩
          have hz1 : upd H1 t (.tup [V.int (i : Nat), V.int p]) z = none := by
            have zd : z ≠ d := by intro e; rw [e, upd_same] at hz; cases hz
            rw [upd_ne zd] at hz
            exact hz
          have zd : z ≠ d := Ne.symm (ne_fresh hd2 hz1)
          refine ⟨_, rfl, .inl ⟨rfl, _, SqL.of upd_same⟩, _, rfl, z, _, _, rfl, rfl, upd_same, szl (by simp), ?_⟩
          rw [upd_upd]
          exact ⟨z, ⟨_, _, rfl⟩, (Same.put s4 hd).trans (Same.new hz), by rw [upd_ne (Ne.symm zd), upd_same], zd, Same.back s4 hz1, upd_same⟩
      · rw [if_neg h0]
        have hi0 : ¬ i = 0 := fun e => h0 (.inl e)
        have hn : ¬ B.ps.length = n.toNat := fun e => h0 (.inr e)
        refine ⟨_, rfl, rfl, _, rfl, ?_⟩
        refine ifF (decide_eq_false (by intro z; injection z with z; omega)) ?_
        refine ⟨_, rfl, q, _, rfl, .inl (SqL.of hq2), _, rfl, rfl, _, rfl, ?_⟩
        refine ifF (decide_eq_false (by intro z; injection z with z; rw [il_len] at z; omega)) ?_
        refine ⟨_, rfl, .inl ⟨rfl, _, SqL.of hq2⟩, _, rfl, q, _, _, rfl, rfl, hq2, szl (by rw [il_len]; omega), ?_⟩
        rw [il_snoc]
        exact ⟨q, ⟨_, _, rfl⟩, Same.put s4 hq, by rw [upd_ne (Ne.symm qd)]; exact hd2, qd, hq, upd_same⟩
    · rintro σ H' ⟨q, ⟨v4, v5, rfl⟩, s3, hd1, _⟩
      rw [il_len] at hd1
      exact ⟨_, rfl, k d H' hd s3 hd1⟩
theorem sc_stretches : FnScope ["rooms", "row", "begins", "ends"] ["rooms", "row"] (defScope (top 41)) := ⟨rfl, rfl, rfl, by decide +kernel, rfl, by decide +kernel, by decide +kernel⟩
theorem ok_stretches (T : Prog K mg) : FnOk P w K mg base CX0 3 T.stretches.f T.stretches.fd ["rooms", "row"] (spStretches K) := by
  have G_check_rooms := ok_check_rooms (P := P) (w := w) (base := base) T
  have G_check_row := ok_check_row (P := P) (w := w) (base := base) T
  have G_begins := ok_begins (P := P) (w := w) (base := base) T
  refine T.stretches.fn.ok sc_stretches (fun vs H Q E h => ?len) (fun cdv A outer s H vs Q E hr h => ?body)
  case len =>
    obtain ⟨n, r, row, rfl, _⟩ := h
    rfl
  case body =>
    have hr_check_rooms : Room 1 _ := hr.mono (by decide)
    have hr_check_row : Room 2 _ := hr.mono (by decide)
    have hr_begins : Room 1 _ := hr.mono (by decide)
    have hu := hu_of hr
    obtain ⟨n, r, row, rfl, n1, n8, hS, hR, k⟩ := h
    refine ⟨_, PSs.nox (pss_cons (ps_expr (pe_call G_check_rooms hr_check_rooms (by rfl) T.check_rooms.g T.check_rooms.fn.kp T.check_rooms.bd .nil pass0 (pa_cons (pv 0) pa_nil)))
        (pss_cons (ps_expr (pe_call G_check_row hr_check_row (by rfl) T.check_row.g T.check_row.fn.kp T.check_row.bd .nil pass0 (pa_cons (pv 1) pa_nil)))
        (pss_cons (ps_set (i := 2) sc_stretches.nd rfl (Or.inl rfl) (pe_call G_begins hr_begins (by rfl) T.begins.g T.begins.fn.kp T.begins.bd .nil pass0 (pa_cons (pv 0) (pa_cons (pv 1) pa_nil))))
        (pss_cons (ps_set (i := 3) sc_stretches.nd rfl (Or.inl rfl) (pe_op op_cat (pe_slice sl_list (pv 2) (po_some pe_int) po_none) (pe_lst (pa_cons (pe_callB call_len_seq (by rfl) T.len PySem.boot_len (pa_cons (pv 1) pa_nil)) pa_nil))))
        (pss_one (ps_ret (CKZ.pe_listZip rfl (by rfl) T.list_ (by rfl) T.zip (pa_cons (pv 2) (pa_cons (pv 3) pa_nil))))))))), ?_⟩
    have hR1 := hR.1
    have hbl := begins_le n.toNat row
    refine ⟨_, rfl, n, rfl, n1, n8, ?_⟩
    refine ⟨_, rfl, r, row, rfl, hS, hR, fun H1 s1 => ?_⟩
    refine ⟨_, rfl, _, rfl, n, r, row, rfl, n1, n8, s1.seq hS, hR, fun b H2 hb s2 hb2 => ?_⟩
    -- ends = begins[1:] + [len(row)]
    refine ⟨_, rfl, _, rfl, b, _, rfl, SqL.of hb2, fun c hc => ?_⟩
    rw [cut_from1]
    have s3 := Same.new (o := .lst (NL ((begins n.toNat row).drop 1))) hc
    have s13 := (s1.trans s2).trans s3
    refine ⟨_, rfl, r, _, rfl, .inl (s13.seq hS), szd rfl, fun e he => ?_⟩
    have s4 := Same.new (o := .lst [V.int ((il row).length : Int)]) he
    refine ⟨c, e, _, _, rfl, rfl, s4 _ _ upd_same, upd_same, sz (by rw [List.length_map, List.length_drop]; simp; omega), fun q hq => ?_⟩
    have s5 := Same.new (o := .lst (NL ((begins n.toNat row).drop 1) ++ [V.int ((il row).length : Int)])) hq
    have s15 := (s13.trans s4).trans s5
    have eq : NL ((begins n.toNat row).drop 1) ++ [V.int ((il row).length : Int)] = NL ((begins n.toNat row).drop 1 ++ [row.length]) := by rw [il_len, NL_snoc]
    -- list(zip(begins, ends))
    refine ⟨_, rfl, _, rfl, b, q, NL (begins n.toNat row), NL ((begins n.toNat row).drop 1 ++ [row.length]), rfl, SqL.of (((s3.trans s4).trans s5) _ _ hb2), SqL.of (by rw [upd_same, eq]), ?_, fun H' p ts k1 k2 k3 k4 k5 => ?_⟩
    · rw [List.length_map, List.length_map, List.length_append, List.length_drop]
      simp
      omega
    · refine k p ts H' (Same.back s15 k2) (s15.trans k1) k3 ⟨by rw [k4, parts_len, List.length_map], fun i a x ha hx => ?_⟩
      have hz := List.getElem?_zip_eq_some.mp hx
      exact k5 i a (V.int (x.1 : Nat)) (V.int (x.2 : Nat)) ha (by rw [List.getElem?_map, hz.1]; rfl) (by rw [List.getElem?_map, hz.2]; rfl)
theorem countIn_snoc {ls : List Nat} {xs : List (Nat × Nat)} {i : Nat} {x : Nat × Nat} (h : xs[i]? = some x) : countIn ls (xs.take (i + 1)) = countIn ls (xs.take i) ++ [(ls.filter fun q => decide (x.1 ≤ q) && decide (q < x.2)).length] := by
  unfold countIn
  rw [take_snoc h, List.map_append]
  rfl
theorem sc_lacking_in : FnScope ["rooms", "row", "rule", "lacks", "begin", "end", "place"] ["rooms", "row", "rule"] (defScope (top 42)) := ⟨rfl, rfl, rfl, by decide +kernel, rfl, by decide +kernel, by decide +kernel⟩
theorem ok_lacking_in (T : Prog K mg) {es : Array DictEntry} {nd : Nat} (TB_RULES : KDict K w T.a_RULES es nd) : FnOk P w K mg base CX0 7 T.lacking_in.f T.lacking_in.fd ["rooms", "row", "rule"] (spLackingIn K) := by
  have G_lacking := ok_lacking (P := P) (w := w) (base := base) T TB_RULES
  have G_stretches := ok_stretches (P := P) (w := w) (base := base) T
  refine T.lacking_in.fn.ok sc_lacking_in (fun vs H Q E h => ?len) (fun cdv A outer s H vs Q E hr h => ?body)
  case len =>
    obtain ⟨n, r, row, rule, rfl, _⟩ := h
    rfl
  case body =>
    have hr_lacking : Room 6 _ := hr.mono (by decide)
    have hr_stretches : Room 3 _ := hr.mono (by decide)
    have hu := hu_of hr
    obtain ⟨n, r, row, rule, rfl, n1, n8, hS, hR, k⟩ := h
    refine ⟨_, PSs.nox (pss_cons (ps_set (i := 3) sc_lacking_in.nd rfl (Or.inr rfl) (pe_call G_lacking hr_lacking (by rfl) T.lacking.g T.lacking.fn.kp T.lacking.bd .nil pass0 (pa_cons (pv 0) (pa_cons (pv 1) (pa_cons (pv 2) pa_nil)))))
        (pss_one (ps_ret (pe_lc (own := [("begin", 4), ("end", 5)]) (g := gTup K 2 (gCons (gName 4) (gCons (gName 5) gNil))) (tt := tYes) (te := (tCB (rLenQ K) (tCons (tLc (iList K (tVar 3)) (gName 6) (tTest (tChain _ _ (tVar 4) (tVar 6) (tVar 5))) (tVar 6) [6]) tNil))) rfl sc_lacking_in.nd ((pi_list (pe_call G_stretches hr_stretches (by rfl) T.stretches.g T.stretches.fn.kp T.stretches.bd .nil pass0 (pa_cons (pv 0) (pa_cons (pv 1) pa_nil))))) (blkOk_by (own := [("begin", 4), ("end", 5)]) (N := ["rooms", "row", "rule", "lacks", "begin", "end", "place"]) (sc := defScope (top 42)) (by decide +kernel)) (fun _ _ _ _ _ => (by exact (pg_tup rfl (pgs_cons (pg_name (i := 4) sc_lacking_in.nd rfl (Or.inr rfl)) (pgs_cons (pg_name (i := 5) sc_lacking_in.nd rfl (Or.inr rfl)) pgs_nil))))) (fun _ _ _ _ _ => (by exact pts_nil)) (fun _ _ _ _ _ => (by exact (pe_callB call_len_seq (by rfl) T.len PySem.boot_len (pa_cons (pe_lc (own := [("place", 6)]) (g := gName 6) rfl sc_lacking_in.nd ((pi_list (pv 3))) (blkOk_by (own := [("place", 6)]) (by kernel_rfl)) (fun _ _ _ _ _ => (by exact (pg_name (i := 6) sc_lacking_in.nd rfl (Or.inl rfl)))) (fun _ _ _ _ _ => (by exact (pts_one (pt_chain op_le op_lt (pv 4) (pv 6) (pv 5))))) (fun _ _ _ _ _ => (by exact (pv 6)))) pa_nil)))))))), ?_⟩
    have hR1 := hR.1
    have hll := lacksR_le n.toNat rule row
    have hpl := parts_le n.toNat row
    refine ⟨_, rfl, _, rfl, _, rfl, n, r, row, rule, rfl, n1, n8, hS, hR, fun l H1 hl s1 hl1 => ?_⟩
    generalize hL : lacksR n.toNat rule row = ls at *
    refine ⟨_, rfl, _, rfl, n, r, row, rfl, n1, n8, s1.seq hS, hR, fun d as H2 hd s2 hd2 hp2 => ?_⟩
    generalize hX : parts n.toNat row = xs at *
    refine ⟨d, rfl, ⟨_, SqL.of hd2⟩, fun D hD => ?_⟩
    refine lc_list (K := K) (a := d) (xs := as.map V.ref) (fun i H' => H' D = some (.lst (NL (countIn ls (xs.take i)))) ∧ Same H2 H') ⟨upd_same, Same.new hD⟩ (fun i H' _ h => SqL.of (h.2 _ _ hd2)) ?_ ?_
    · rintro i y H3 hy ⟨hD3, s3⟩
      rw [List.getElem?_map] at hy
      cases ea : as[i]? with
      | none => rw [ea] at hy; cases hy
      | some a =>
        rw [ea] at hy
        have ey := Option.some.inj hy
        subst ey
        have hi : i < xs.length := by rw [← hp2.len]; exact (List.getElem?_eq_some_iff.mp ea).1
        have ex : xs[i]? = some (xs[i]'hi) := List.getElem?_eq_getElem hi
        have ha := s3 _ _ (hp2.at_ i a _ ea ex)
        rw [countIn_snoc ex]
        generalize xs[i]'hi = x at *
        refine ⟨a, _, rfl, SqT.of ha, rfl, _, _, rfl, _, _, rfl, rfl, ⟨rfl, ?_⟩⟩
        have hl3 := (s2.trans s3) _ _ hl1
        refine ⟨_, rfl, l, rfl, ⟨_, SqL.of hl3⟩, fun E hE => ?_⟩
        refine lc_list (K := K) (a := l) (xs := NL ls) (fun t H' => H' E = some (.lst (NL ((ls.take t).filter fun z => decide (x.1 ≤ z) && decide (z < x.2)))) ∧ Same H3 H') ⟨upd_same, Same.new hE⟩ (fun t H' _ h => SqL.of (h.2 _ _ hl3)) ?_ ?_
        · rintro t y H4 hy ⟨hE4, s4⟩
          obtain ⟨z, hz, rfl⟩ := NL_at hy
          have hle := List.length_filter_le (fun z => decide (x.1 ≤ z) && decide (z < x.2)) (ls.take t)
          rw [List.length_take] at hle
          rw [take_snoc hz, List.filter_append]
          refine ⟨rfl, _, rfl, _, rfl, _, _, rfl, rfl, _, rfl, ?_⟩
          by_cases c1 : x.1 ≤ z
          · refine ifT (decide_eq_true (by omega)) ⟨_, rfl, _, _, rfl, rfl, _, rfl, ?_⟩
            by_cases c2 : z < x.2
            · refine ifT (decide_eq_true (by omega)) ⟨_, rfl, _, hE4, szl (by rw [List.length_map]; omega), ?_, Same.put s4 hE⟩
              rw [upd_same, NL_snoc]
              simp [c1, c2]
            · refine ifF (decide_eq_false (by omega)) ⟨?_, s4⟩
              simpa [c1, c2] using hE4
          · refine ifF (decide_eq_false (by omega)) ⟨_, rfl, iteF ⟨?_, s4⟩⟩
            simpa [c1] using hE4
        · rintro H4 ⟨hE4, s4⟩
          rw [List.take_of_length_le (by simp)] at hE4
          have hcl : (countIn ls (xs.take i)).length ≤ i := by
            unfold countIn
            rw [List.length_map, List.length_take]
            omega
          refine ⟨E, _, rfl, .inl (SqL.of hE4), _, s4 _ _ hD3, szl (by rw [List.length_map]; omega), ?_, Same.put (s3.trans s4) hD⟩
          rw [upd_same, List.length_map, NL_snoc]
    · rintro H3 ⟨hD3, s3⟩
      rw [List.take_of_length_le (by rw [List.length_map, hp2.len]; exact Nat.le_refl _)] at hD3
      exact k D H3 (Same.back (s1.trans s2) hD) ((s1.trans s2).trans s3) hD3
end
end CK

/-! What is refused, and what is told without a word of what. -/
namespace CK
open PySem PySem.Spec PyProof.Rows L2 CKX
/-- any answer, and what stood stands -/
def AnyA (H : Hp) (Q : VK) : Prop := ∀ (x : V) (H' : Hp), Same H H' → Q x H'
/-- BadRow with a place -/
def BadP (C : Addr) (H : Hp) (E : XK) (i : Nat) : Prop := ∀ (H' : Hp) (d : Addr), Same H H' → H' d = some (xdP i) → H d = none → E (.ref C) (some d) H'
def spSpX (K : PySem.W.Frag) (c1 : Addr) : Sp := fun vs H Q E => ∃ (r : Addr) (row : List Int), vs = [.ref r] ∧ SqL K H r (il row) ∧ (∀ i, badAt row 0 = some i → BadP c1 H E i) ∧ (RowOk row → AnyA H Q)
def spRRX (K : PySem.W.Frag) (c0 c1 : Addr) : Sp := fun vs H Q E => ∃ (n : Int) (r : Addr) (row : List Int), vs = [.int n, .ref r] ∧ SqL K H r (il row) ∧ (¬ (1 ≤ n ∧ n ≤ 8) → E (.ref c0) none H) ∧
  (1 ≤ n → n ≤ 8 → ∀ i, badAt row 0 = some i → BadP c1 H E i) ∧ (1 ≤ n → n ≤ 8 → RowOk row → AnyA H Q)
/-- whole numbers that rise within the row -/
def riseIn (n : Nat) : Int → List Int → Bool
  | _, [] => true
  | b, p :: r => decide (b < p) && decide (p < n) && riseIn n p r
theorem riseIn_nat {n : Nat} : ∀ {ps : List Int} {b : Int}, -1 ≤ b → riseIn n b ps = true → ∃ ns : List Nat, ps = ns.map (fun x : Nat => (x : Int)) ∧ ns.Pairwise (· < ·) ∧ (∀ p ∈ ns, p < n ∧ b < (p : Int))
  | [], b, _, _ => ⟨[], rfl, List.Pairwise.nil, fun p h => by cases h⟩
  | p :: r, b, hb, h => by
    unfold riseIn at h
    simp only [Bool.and_eq_true, decide_eq_true_eq] at h
    obtain ⟨⟨h1, h2⟩, h3⟩ := h
    obtain ⟨ns, e, pw, lt⟩ := riseIn_nat (ps := r) (b := p) (by omega) h3
    obtain ⟨q, rfl⟩ : ∃ q : Nat, p = (q : Int) := ⟨p.toNat, by omega⟩
    refine ⟨q :: ns, by rw [e]; rfl, List.pairwise_cons.mpr ⟨fun x hx => ?_, pw⟩, fun x hx => ?_⟩
    · have := (lt x hx).2
      omega
    · rcases List.mem_cons.mp hx with rfl | z
      · exact ⟨by omega, by omega⟩
      · have := lt x z
        exact ⟨this.1, by omega⟩
theorem riseIn_paper {n : Nat} {ps : List Int} (h : riseIn n (-1) ps = true) : ∃ ns : List Nat, ps = ns.map (fun x : Nat => (x : Int)) ∧ PaperOk n ns := by
  obtain ⟨ns, e, pw, lt⟩ := riseIn_nat (by omega) h
  exact ⟨ns, e, pw, fun p hp => (lt p hp).1⟩
def spCPX (K : PySem.W.Frag) (c1 : Addr) : Sp := fun vs H Q E => ∃ (r q : Addr) (row ps : List Int), vs = [.ref r, .ref q] ∧ SqL K H r (il row) ∧ row.length ≤ 100 ∧ SqL K H q (il ps) ∧ (riseIn row.length (-1) ps = false → BadP c1 H E row.length) ∧ (riseIn row.length (-1) ps = true → Q .non H)
def spShX (K : PySem.W.Frag) (c0 c1 : Addr) : Sp := fun vs H Q E => ∃ (n : Int) (r q : Addr) (row ps : List Int), vs = [.int n, .ref r, .ref q] ∧ SqL K H r (il row) ∧ SqL K H q (il ps) ∧ (¬ (1 ≤ n ∧ n ≤ 8) → E (.ref c0) none H) ∧
  (1 ≤ n → n ≤ 8 → ∀ i, badAt row 0 = some i → BadP c1 H E i) ∧ (1 ≤ n → n ≤ 8 → RowOk row → riseIn row.length (-1) ps = false → BadP c1 H E row.length) ∧ (1 ≤ n → n ≤ 8 → RowOk row → riseIn row.length (-1) ps = true → AnyA H Q)
section
variable {P : Program} {w : World} {K : PySem.W.Frag} {mg : Str → Option Value} {base : Heap}
theorem ok_spellsX (T : Prog K mg) (Z : Errs P K mg) : FnOk P w K mg base (L2N.CX P w) 3 T.spells.f T.spells.fd ["row"] (spSpX K Z.row) := by
  have G_check_row := ok_check_rowX (P := P) (w := w) (base := base) T Z
  have G_find_spells := ok_find_spells (P := P) (w := w) (base := base) T
  refine T.spells.fn.ok sc_spells (fun vs H Q E h => ?len) (fun cdv A outer s H vs Q E hr h => ?body)
  case len =>
    obtain ⟨r, row, rfl, _⟩ := h
    rfl
  case body =>
    have hr_check_row : Room 2 _ := hr.mono (by decide)
    have hr_find_spells : Room 1 _ := hr.mono (by decide)
    have hu := hu_of hr
    obtain ⟨r, row, rfl, hS, kb, k⟩ := h
    refine ⟨_, (pss_cons (ps_expr (pe_call G_check_row hr_check_row (by rfl) T.check_row.g T.check_row.fn.kp T.check_row.bd .nil (L2N.passes_call (W := fun cls d _ H => E cls d H) (E := E) (L2N.takes_of rfl rfl rfl rfl) (fun _ _ _ _ h => h)) (pa_cons (pv 0) pa_nil)))
        (pss_one (ps_ret (pe_call G_find_spells hr_find_spells (by rfl) T.find_spells.g T.find_spells.fn.kp T.find_spells.bd .nil pass0 (pa_cons (pv 0) pa_nil))))), ?_⟩
    refine ⟨_, rfl, r, row, rfl, hS, fun hgood H1 s1 => ?_, fun i hi => kb i hi⟩
    have hR := rowOk_of hgood
    have hR1 := hR.1
    exact ⟨_, rfl, r, row, rfl, s1.seq hS, by omega, fun d as H2 hd s2 h1 h2 => k hR _ H2 (s1.trans s2)⟩
theorem ok_bestX (T : Prog K mg) (Z : Errs P K mg) : FnOk P w K mg base (L2N.CX P w) 3 T.best.f T.best.fd ["rooms", "row"] (spRRX K Z.rooms Z.row) := by
  have G_check_rooms := ok_check_roomsX (P := P) (w := w) (base := base) T Z
  have G_check_row := ok_check_rowX (P := P) (w := w) (base := base) T Z
  have G_find_best := ok_find_best (P := P) (w := w) (base := base) T
  refine T.best.fn.ok sc_best (fun vs H Q E h => ?len) (fun cdv A outer s H vs Q E hr h => ?body)
  case len =>
    obtain ⟨n, r, row, rfl, _⟩ := h
    rfl
  case body =>
    have hr_check_rooms : Room 1 _ := hr.mono (by decide)
    have hr_check_row : Room 2 _ := hr.mono (by decide)
    have hr_find_best : Room 2 _ := hr.mono (by decide)
    have hu := hu_of hr
    obtain ⟨n, r, row, rfl, hS, kr, kb, k⟩ := h
    refine ⟨_, (pss_cons (ps_expr (pe_call G_check_rooms hr_check_rooms (by rfl) T.check_rooms.g T.check_rooms.fn.kp T.check_rooms.bd .nil (L2N.passes_call (W := fun cls d _ H => E cls d H) (E := E) (L2N.takes_of rfl rfl rfl rfl) (fun _ _ _ _ h => h)) (pa_cons (pv 0) pa_nil)))
        (pss_cons (ps_expr (pe_call G_check_row hr_check_row (by rfl) T.check_row.g T.check_row.fn.kp T.check_row.bd .nil (L2N.passes_call (W := fun cls d _ H => E cls d H) (E := E) (L2N.takes_of rfl rfl rfl rfl) (fun _ _ _ _ h => h)) (pa_cons (pv 1) pa_nil)))
        (pss_one (ps_ret (pe_call G_find_best hr_find_best (by rfl) T.find_best.g T.find_best.fn.kp T.find_best.bd .nil pass0 (pa_cons (pv 0) (pa_cons (pv 1) pa_nil))))))), ?_⟩
    refine ⟨_, rfl, n, rfl, fun n1 n8 => ?_, kr⟩
    refine ⟨_, rfl, r, row, rfl, hS, fun hgood H1 s1 => ?_, fun i hi => kb n1 n8 i hi⟩
    have hR := rowOk_of hgood
    have hR1 := hR.1
    exact ⟨_, rfl, _, rfl, n, r, row, rfl, n1, n8, s1.seq hS, by omega, fun t l g as H2 ht hl hg lg s2 e1 e2 e3 e4 => k n1 n8 hR _ H2 (s1.trans s2)⟩
theorem ok_stretchesX (T : Prog K mg) (Z : Errs P K mg) : FnOk P w K mg base (L2N.CX P w) 3 T.stretches.f T.stretches.fd ["rooms", "row"] (spRRX K Z.rooms Z.row) := by
  have G_check_rooms := ok_check_roomsX (P := P) (w := w) (base := base) T Z
  have G_check_row := ok_check_rowX (P := P) (w := w) (base := base) T Z
  have G_begins := ok_begins (P := P) (w := w) (base := base) T
  refine T.stretches.fn.ok sc_stretches (fun vs H Q E h => ?len) (fun cdv A outer s H vs Q E hr h => ?body)
  case len =>
    obtain ⟨n, r, row, rfl, _⟩ := h
    rfl
  case body =>
    have hr_check_rooms : Room 1 _ := hr.mono (by decide)
    have hr_check_row : Room 2 _ := hr.mono (by decide)
    have hr_begins : Room 1 _ := hr.mono (by decide)
    have hu := hu_of hr
    obtain ⟨n, r, row, rfl, hS, kr, kb, k⟩ := h
    refine ⟨_, (pss_cons (ps_expr (pe_call G_check_rooms hr_check_rooms (by rfl) T.check_rooms.g T.check_rooms.fn.kp T.check_rooms.bd .nil (L2N.passes_call (W := fun cls d _ H => E cls d H) (E := E) (L2N.takes_of rfl rfl rfl rfl) (fun _ _ _ _ h => h)) (pa_cons (pv 0) pa_nil)))
        (pss_cons (ps_expr (pe_call G_check_row hr_check_row (by rfl) T.check_row.g T.check_row.fn.kp T.check_row.bd .nil (L2N.passes_call (W := fun cls d _ H => E cls d H) (E := E) (L2N.takes_of rfl rfl rfl rfl) (fun _ _ _ _ h => h)) (pa_cons (pv 1) pa_nil)))
        (pss_cons (ps_set (i := 2) sc_stretches.nd rfl (Or.inl rfl) (pe_call G_begins hr_begins (by rfl) T.begins.g T.begins.fn.kp T.begins.bd .nil pass0 (pa_cons (pv 0) (pa_cons (pv 1) pa_nil))))
        (pss_cons (ps_set (i := 3) sc_stretches.nd rfl (Or.inl rfl) (pe_op op_cat (pe_slice sl_list (pv 2) (po_some pe_int) po_none) (pe_lst (pa_cons (pe_callB call_len_seq (by rfl) T.len PySem.boot_len (pa_cons (pv 1) pa_nil)) pa_nil))))
        (pss_one (ps_ret (CKZ.pe_listZip rfl (by rfl) T.list_ (by rfl) T.zip (pa_cons (pv 2) (pa_cons (pv 3) pa_nil))))))))), ?_⟩
    refine ⟨_, rfl, n, rfl, fun n1 n8 => ?_, kr⟩
    refine ⟨_, rfl, r, row, rfl, hS, fun hgood H1 s1 => ?_, fun i hi => kb n1 n8 i hi⟩
    have hR := rowOk_of hgood
    have hR1 := hR.1
    have hbl := begins_le n.toNat row
    refine ⟨_, rfl, _, rfl, n, r, row, rfl, n1, n8, s1.seq hS, hR, fun b H2 hb s2 hb2 => ?_⟩
    refine ⟨_, rfl, _, rfl, b, _, rfl, SqL.of hb2, fun c hc => ?_⟩
    rw [cut_from1]
    have s3 := Same.new (o := .lst (NL ((begins n.toNat row).drop 1))) hc
    have s13 := (s1.trans s2).trans s3
    refine ⟨_, rfl, r, _, rfl, .inl (s13.seq hS), szd rfl, fun e he => ?_⟩
    have s4 := Same.new (o := .lst [V.int ((il row).length : Int)]) he
    refine ⟨c, e, _, _, rfl, rfl, s4 _ _ upd_same, upd_same, sz (by rw [List.length_map, List.length_drop]; simp; omega), fun q hq => ?_⟩
    have s5 := Same.new (o := .lst (NL ((begins n.toNat row).drop 1) ++ [V.int ((il row).length : Int)])) hq
    have s15 := (s13.trans s4).trans s5
    have eq : NL ((begins n.toNat row).drop 1) ++ [V.int ((il row).length : Int)] = NL ((begins n.toNat row).drop 1 ++ [row.length]) := by rw [il_len, NL_snoc]
    -- list(zip(begins, ends))
    refine ⟨_, rfl, _, rfl, b, q, NL (begins n.toNat row), NL ((begins n.toNat row).drop 1 ++ [row.length]), rfl, SqL.of (((s3.trans s4).trans s5) _ _ hb2), SqL.of (by rw [upd_same, eq]), ?_, fun H' p ts k1 k2 k3 k4 k5 => ?_⟩
    · rw [List.length_map, List.length_map, List.length_append, List.length_drop]
      simp
      omega
    · exact k n1 n8 hR _ H' (s15.trans k1)
theorem ok_check_paperX (T : Prog K mg) (Z : Errs P K mg) : FnOk P w K mg base (L2N.CX P w) 1 T.check_paper.f T.check_paper.fd ["row", "places"] (spCPX K Z.row) := by
  refine T.check_paper.fn.ok sc_check_paper (fun vs H Q E h => ?len) (fun cdv A outer s H vs Q E hr h => ?body)
  case len =>
    obtain ⟨r, q, row, ps, rfl, _⟩ := h
    rfl
  case body =>
    have hu := hu_of hr
    obtain ⟨r, q, row, ps, rfl, hS, hR1, hq, ke, k⟩ := h
    refine ⟨_, (pss_cons (ps_set (i := 2) sc_check_paper.nd rfl (Or.inl rfl) (pe_un un_neg pe_int))
        (pss_one (ps_for (by exact PassesOwn.leaving) rfl (pi_list (pv 1)) (pg_name (i := 3) sc_check_paper.nd rfl (Or.inl rfl))
        (pss_cons (ps_if (pt_not (pt_chain op_lt op_lt (pv 2) (pv 3) (pe_callB call_len_seq (by rfl) T.len PySem.boot_len (pa_cons (pv 0) pa_nil))))
        (pss_one (L2N.ps_raise rfl (L2N.takes_of rfl rfl rfl rfl) (pmk_br Z.br (dep1 hr) (pa_cons (pe_callB call_len_seq (by rfl) T.len PySem.boot_len (pa_cons (pv 0) pa_nil)) pa_nil))))
        pss_nil)
        (pss_one (ps_set (i := 2) sc_check_paper.nd rfl (Or.inl rfl) (pv 3))))))), ?_⟩
    refine ⟨_, rfl, _, rfl, q, rfl, ⟨_, hq⟩, for_list (K := K) (a := q) (xs := il ps) (fun i σ H' => H' = H ∧ ∃ (b : Int) (v : Option V), σ = [some (.ref r), some (.ref q), some (.int b), v] ∧ riseIn row.length (-1) ps = riseIn row.length b (ps.drop i))
      ⟨rfl, -1, none, rfl, rfl⟩ (fun i σ H' _ h => by rw [h.1]; exact hq) ?_ ?_⟩
    · rintro i x σ H' hx ⟨rfl, b, v, rfl, eb⟩
      obtain ⟨p, hp, rfl⟩ := il_get hx
      rw [drop_at hp] at eb
      have er : riseIn row.length b (p :: ps.drop (i + 1)) = (decide (b < p) && decide (p < row.length) && riseIn row.length p (ps.drop (i + 1))) := rfl
      rw [er] at eb
      have out : (b < p → ¬ p < row.length) → ∀ d, H' d = none → E (.ref Z.row) (some d) (upd H' d (xdP row.length)) := fun h d hd => ke (by
        rw [eb]
        by_cases h1 : b < p
        · rw [decide_eq_false (h h1)]; simp
        · rw [decide_eq_false h1]; simp) _ d (Same.new hd) upd_same hd
      have small : (((il row).length : Nat) : Int).natAbs < 10 ^ 10 := by
        rw [il_len, Int.natAbs_natCast]
        exact Nat.lt_of_le_of_lt hR1 (by decide)
      refine ⟨_, rfl, _, rfl, _, _, rfl, rfl, _, rfl, ?_⟩
      by_cases h1 : b < p
      · refine ifT (decide_eq_true h1) ⟨_, rfl, r, _, rfl, .inl hS, _, _, rfl, rfl, _, rfl, ?_⟩
        by_cases h2 : p < row.length
        · refine ifF (by rw [il_len, decide_eq_true h2]; rfl) ?_
          refine ⟨_, rfl, rfl, _, _, rfl, ?_⟩
          rw [eb, decide_eq_true h1, decide_eq_true h2]
          rfl
        · refine ifT (by rw [il_len, decide_eq_false h2]; rfl) ⟨_, rfl, r, _, rfl, .inl hS, _, rfl, small, fun d hd => ?_⟩
          rw [il_len]
          exact out (fun _ => h2) d hd
      · refine ifF (decide_eq_false h1) ⟨_, rfl, ifT rfl ⟨_, rfl, r, _, rfl, .inl hS, _, rfl, small, fun d hd => ?_⟩⟩
        rw [il_len]
        exact out (fun z => absurd z h1) d hd
    · rintro σ H' ⟨rfl, b, v, rfl, eb⟩
      refine k ?_
      rw [eb, List.drop_of_length_le (by rw [il_len]; exact Nat.le_refl _)]
      rfl
theorem ok_paperX (T : Prog K mg) (Z : Errs P K mg) : FnOk P w K mg base (L2N.CX P w) 3 T.paper.f T.paper.fd ["rooms", "row"] (spRRX K Z.rooms Z.row) := by
  have G_check_rooms := ok_check_roomsX (P := P) (w := w) (base := base) T Z
  have G_check_row := ok_check_rowX (P := P) (w := w) (base := base) T Z
  have G_way_back := ok_way_back (P := P) (w := w) (base := base) T
  have G_find_spells := ok_find_spells (P := P) (w := w) (base := base) T
  have G_cheapest_step := ok_cheapest_step (P := P) (w := w) (base := base) T
  refine T.paper.fn.ok sc_paper (fun vs H Q E h => ?len) (fun cdv A outer s H vs Q E hr h => ?body)
  case len =>
    obtain ⟨n, r, row, rfl, _⟩ := h
    rfl
  case body =>
    have hr_check_rooms : Room 1 _ := hr.mono (by decide)
    have hr_check_row : Room 2 _ := hr.mono (by decide)
    have hr_way_back : Room 1 _ := hr.mono (by decide)
    have hr_find_spells : Room 1 _ := hr.mono (by decide)
    have hr_cheapest_step : Room 1 _ := hr.mono (by decide)
    have hu := hu_of hr
    obtain ⟨n, r, row, rfl, hS, kr, kb, k⟩ := h
    refine ⟨_, (pss_cons (ps_expr (pe_call G_check_rooms hr_check_rooms (by rfl) T.check_rooms.g T.check_rooms.fn.kp T.check_rooms.bd .nil (L2N.passes_call (W := fun cls d _ H => E cls d H) (E := E) (L2N.takes_of rfl rfl rfl rfl) (fun _ _ _ _ h => h)) (pa_cons (pv 0) pa_nil)))
        (pss_cons (ps_expr (pe_call G_check_row hr_check_row (by rfl) T.check_row.g T.check_row.fn.kp T.check_row.bd .nil (L2N.passes_call (W := fun cls d _ H => E cls d H) (E := E) (L2N.takes_of rfl rfl rfl rfl) (fun _ _ _ _ h => h)) (pa_cons (pv 1) pa_nil)))
        (pss_cons (ps_set (i := 2) sc_paper.nd rfl (Or.inl rfl) (pe_callTy (call_dictP rfl) (by rfl) T.dict_ (by decide +kernel) (pa_cons (pe_call G_find_spells hr_find_spells (by rfl) T.find_spells.g T.find_spells.fn.kp T.find_spells.bd .nil pass0 (pa_cons (pv 1) pa_nil)) pa_nil)))
        (pss_cons (ps_set (i := 3) sc_paper.nd rfl (Or.inl rfl) (pe_lst (pa_cons pe_int pa_nil)))
        (pss_cons (ps_set (i := 4) sc_paper.nd rfl (Or.inl rfl) (pe_lst (pa_cons pe_int pa_nil)))
        (pss_cons (ps_for (by exact PassesOwn.leaving) rfl (pi_range2 (by rfl) T.range (pa_cons pe_int (pa_cons (pe_op op_add (pe_callB call_len_seq (by rfl) T.len PySem.boot_len (pa_cons (pv 1) pa_nil)) pe_int) pa_nil))) (pg_name (i := 5) sc_paper.nd rfl (Or.inl rfl))
        (pss_cons (ps_asg (pe_call G_cheapest_step hr_cheapest_step (by rfl) T.cheapest_step.g T.cheapest_step.fn.kp T.cheapest_step.bd .nil pass0 (pa_cons (pv 5) (pa_cons (pv 2) (pa_cons (pv 3) pa_nil)))) (pg_tup rfl (pgs_cons (pg_name (i := 6) sc_paper.nd rfl (Or.inl rfl)) (pgs_cons (pg_name (i := 7) sc_paper.nd rfl (Or.inl rfl)) pgs_nil))))
        (pss_cons (ps_expr (pe_bm PySem.F.plainAttrs_list PySem.F.slot_list_append PySem.F.type_list_append mt_append (pv 3) (pa_cons (pe_op op_sub (pe_op op_add (pv 6) (pv 0)) pe_int) pa_nil)))
        (pss_one (ps_expr (pe_bm PySem.F.plainAttrs_list PySem.F.slot_list_append PySem.F.type_list_append mt_append (pv 4) (pa_cons (pv 7) pa_nil)))))))
        (pss_one (ps_ret (pe_call G_way_back hr_way_back (by rfl) T.way_back.g T.way_back.fn.kp T.way_back.bd .nil pass0 (pa_cons (pv 4) pa_nil)))))))))), ?_⟩
    refine ⟨_, rfl, n, rfl, fun n1 n8 => ?_, kr⟩
    refine ⟨_, rfl, r, row, rfl, hS, fun hgood H1 s1 => ?_, fun i hi => kb n1 n8 i hi⟩
    have hR := rowOk_of hgood
    have hR1 := hR.1
    -- ends
    refine ⟨_, rfl, r, row, rfl, s1.seq hS, by omega, fun s as0 H2 hs2 s2 hs hp0 => ?_⟩
    refine ⟨s, as0, kvS (spellsL row), rfl, SqL.of hs, pairs_kv hp0, fun e he => ?_⟩
    have s3 := Same.new (o := .dK (mergeK [] (kvS (spellsL row)))) he
    -- least, ahead
    refine ⟨szd rfl, fun l hl => ⟨szd rfl, fun a ha => ?_⟩⟩
    have s4 := Same.new (o := .lst [V.int 0]) hl
    have s5 := Same.new (o := .lst [V.int 0]) ha
    have s15 := (((s1.trans s2).trans s3).trans s4).trans s5
    have lH : H l = none := Same.back ((s1.trans s2).trans s3) hl
    have aH : H a = none := Same.back (((s1.trans s2).trans s3).trans s4) ha
    have el : e ≠ l := ne_fresh (H := upd H2 e _) upd_same hl
    have ea : e ≠ a := ne_fresh (s4 _ _ (upd_same (H := H2) (a := e))) ha
    have la : l ≠ a := ne_fresh (H := upd _ l _) upd_same ha
    refine ⟨_, rfl, r, _, rfl, .inl (s15.seq hS), _, _, rfl, rfl, _, _, rfl, ⟨by omega, by omega, by omega, by rw [il_len]; omega⟩, ?_⟩
    have en : (((il row).length : Int) + 1 - 1).toNat = row.length := by rw [il_len]; omega
    rw [en]
    refine for_range (lo := 1) (n := row.length) (fun i σ H' => ∃ (L A : List Nat), (∃ v5 v6 v7, σ = [some (.int n), some (.ref r), some (.ref e), some (.ref l), some (.ref a), v5, v6, v7]) ∧ Same H H' ∧ H' e = some (.dK (mergeK [] (kvS (spellsL row)))) ∧ H' l = some (.lst (NL L)) ∧ H' a = some (.lst (NL A)) ∧ DP row n.toNat L A i) ?_ ?_ ?_
    · refine ⟨[0], [0], ⟨_, _, _, rfl⟩, s15, ?_, ?_, upd_same, DP.start row n.toNat⟩
      · rw [upd_ne ea, upd_ne el, upd_same]
      · rw [upd_ne la, upd_same]; rfl
    · rintro i σ H6 hi ⟨L, A, ⟨v5, v6, v7, rfl⟩, s6, he6, hl6, ha6, D⟩
      have Dl := D.ll
      have Da := D.la
      have ei : (1 + (i : Int)) = ((L.length : Nat) : Int) := by omega
      rw [ei]
      refine ⟨_, rfl, _, rfl, _, rfl, e, l, row, L, rfl, he6, hl6, by omega, by omega, by omega, fun t p H7 s7 ht hp hmin => ?_⟩
      have sl : L.length = i + 1 := Dl
      refine ⟨t, _, rfl, SqT.of ht, rfl, _, _, rfl, _, _, rfl, rfl, ?_⟩
      have hl7 := s7 _ _ hl6
      have ha7 := s7 _ _ ha6
      have he7 := s7 _ _ he6
      have s67 := s6.trans s7
      refine ⟨_, rfl, .inl ⟨rfl, _, SqL.of hl7⟩, _, rfl, _, rfl, _, _, rfl, rfl, _, _, rfl, rfl, l, _, _, rfl, rfl, hl7, szl (by rw [List.length_map]; omega), ?_⟩
      have ex : ((L.getD p 0 + freeB row p L.length : Nat) : Int) + n - 1 = ((L.getD p 0 + freeB row p (i + 1) + (n.toNat - 1) : Nat) : Int) := by rw [sl]; omega
      dsimp only
      rw [ex, NL_snoc]
      have ha8 : upd H7 l (.lst (NL (L ++ [L.getD p 0 + freeB row p (i + 1) + (n.toNat - 1)]))) a = some (.lst (NL A)) := by rw [upd_ne (Ne.symm la)]; exact ha7
      refine ⟨_, rfl, .inl ⟨rfl, _, SqL.of ha8⟩, _, rfl, a, _, _, rfl, rfl, ha8, szl (by rw [List.length_map]; omega), ?_⟩
      rw [NL_snoc]
      refine ⟨_, _, ⟨_, _, _, rfl⟩, Same.put (Same.put s67 lH) aH, by rw [upd_ne ea, upd_ne el]; exact he7, by rw [upd_ne la, upd_same], upd_same, D.next (by omega) fun b hb => ?_⟩
      have q := hmin b (by omega)
      rw [sl] at q
      exact q
    · rintro σ H6 ⟨L, A, ⟨v5, v6, v7, rfl⟩, s6, he6, hl6, ha6, D⟩
      exact ⟨_, rfl, a, row, n.toNat, L, A, rfl, ha6, D, by omega, fun d H7 hd s7 hd7 => k n1 n8 hR _ H7 (s6.trans s7)⟩
theorem ok_shownX (T : Prog K mg) (Z : Errs P K mg) : FnOk P w K mg base (L2N.CX P w) 3 T.shown.f T.shown.fd ["rooms", "row", "places"] (spShX K Z.rooms Z.row) := by
  have G_check_rooms := ok_check_roomsX (P := P) (w := w) (base := base) T Z
  have G_check_row := ok_check_rowX (P := P) (w := w) (base := base) T Z
  have G_check_paper := ok_check_paperX (P := P) (w := w) (base := base) T Z
  have G_find_spells := ok_find_spells (P := P) (w := w) (base := base) T
  have G_has_within := ok_has_within (P := P) (w := w) (base := base) T
  refine T.shown.fn.ok sc_shown (fun vs H Q E h => ?len) (fun cdv A outer s H vs Q E hr h => ?body)
  case len =>
    obtain ⟨n, r, q, row, ps, rfl, _⟩ := h
    rfl
  case body =>
    have hr_check_rooms : Room 1 _ := hr.mono (by decide)
    have hr_check_row : Room 2 _ := hr.mono (by decide)
    have hr_check_paper : Room 1 _ := hr.mono (by decide)
    have hr_find_spells : Room 1 _ := hr.mono (by decide)
    have hr_has_within : Room 1 _ := hr.mono (by decide)
    have hu := hu_of hr
    obtain ⟨n, r, q, row, ps0, rfl, hS, hq0, kr, kb, kp, k⟩ := h
    refine ⟨_, (pss_cons (ps_expr (pe_call G_check_rooms hr_check_rooms (by rfl) T.check_rooms.g T.check_rooms.fn.kp T.check_rooms.bd .nil (L2N.passes_call (W := fun cls d _ H => E cls d H) (E := E) (L2N.takes_of rfl rfl rfl rfl) (fun _ _ _ _ h => h)) (pa_cons (pv 0) pa_nil)))
        (pss_cons (ps_expr (pe_call G_check_row hr_check_row (by rfl) T.check_row.g T.check_row.fn.kp T.check_row.bd .nil (L2N.passes_call (W := fun cls d _ H => E cls d H) (E := E) (L2N.takes_of rfl rfl rfl rfl) (fun _ _ _ _ h => h)) (pa_cons (pv 1) pa_nil)))
        (pss_cons (ps_expr (pe_call G_check_paper hr_check_paper (by rfl) T.check_paper.g T.check_paper.fn.kp T.check_paper.bd .nil (L2N.passes_call (W := fun cls d _ H => E cls d H) (E := E) (L2N.takes_of rfl rfl rfl rfl) (fun _ _ _ _ h => h)) (pa_cons (pv 1) (pa_cons (pv 2) pa_nil))))
        (pss_cons (ps_setLc (i := 3) (own := [("spell", 4)]) (g := gName 4) rfl sc_shown.nd rfl rfl (sw_true rfl rfl rfl (by decide +kernel)) ((pi_list (pe_call G_find_spells hr_find_spells (by rfl) T.find_spells.g T.find_spells.fn.kp T.find_spells.bd .nil pass0 (pa_cons (pv 1) pa_nil)))) (blkOk_by (own := [("spell", 4)]) (N := ["rooms", "row", "places", "free", "spell"]) (sc := defScope (top 20)) (by decide +kernel)) (fun _ _ _ _ _ => (by exact (pg_name (i := 4) sc_shown.nd rfl (Or.inl rfl)))) (fun _ _ _ _ _ => (by exact (pts_one (pt_not (pt_val (pe_call G_has_within hr_has_within (by rfl) T.has_within.g T.has_within.fn.kp T.has_within.bd .nil pass0 (pa_cons (pv 4) (pa_cons (pv 2) pa_nil)))))))) (fun _ _ _ _ _ => (by exact (pv 4))))
        (pss_one (ps_ret (pe_op op_sub (pe_op op_sub (pe_callB call_len_seq (by rfl) T.len PySem.boot_len (pa_cons (pv 1) pa_nil)) (pe_callB call_len_seq (by rfl) T.len PySem.boot_len (pa_cons (pv 3) pa_nil))) (pe_op op_mul (pe_op op_sub (pv 0) pe_int) (pe_callB call_len_seq (by rfl) T.len PySem.boot_len (pa_cons (pv 2) pa_nil)))))))))), ?_⟩
    refine ⟨_, rfl, n, rfl, fun n1 n8 => ?_, kr⟩
    refine ⟨_, rfl, r, row, rfl, hS, fun hgood H1 s1 => ?_, fun i hi => kb n1 n8 i hi⟩
    have hR := rowOk_of hgood
    have hR1 := hR.1
    refine ⟨_, rfl, _, rfl, r, q, row, ps0, rfl, s1.seq hS, hR1, s1.seq hq0, fun hb H' d s hd dn => kp n1 n8 hR hb H' d (s1.trans s) hd (Same.back s1 dn), fun hg => ?_⟩
    have k := k n1 n8 hR hg
    obtain ⟨ps, e0, hP⟩ := riseIn_paper hg
    have hq : SqL K H q (NL ps) := by rw [NL_il, ← e0]; exact hq0
    have hpl := hP.le
    -- free = [..]
    refine ⟨_, rfl, r, row, rfl, s1.seq hS, by omega, fun l as H2 hl s2 hl2 hp2 => ?_⟩
    have s02 := s1.trans s2
    refine ⟨l, rfl, ⟨_, SqL.of hl2⟩, fun d hd => ?_⟩
    have hsl := spellsL_le row
    refine lc_list (K := K) (a := l) (xs := as.map V.ref) (fun i H' => (∃ fs : List V, H' d = some (.lst fs) ∧ fs.length = (((spellsL row).take i).filter fun x => !within x ps).length) ∧ Same H2 H') ⟨⟨[], upd_same, rfl⟩, Same.new hd⟩ (fun i H' _ h => SqL.of (h.2 _ _ hl2)) ?_ ?_
    · rintro i y H' hy ⟨⟨fs, h1, h3⟩, s3⟩
      rw [List.getElem?_map] at hy
      cases ea : as[i]? with
      | none => rw [ea] at hy; cases hy
      | some a =>
        rw [ea] at hy
        have ey := Option.some.inj hy
        subst ey
        have hi : i < (spellsL row).length := by rw [← hp2.len]; exact (List.getElem?_eq_some_iff.mp ea).1
        have ex : (spellsL row)[i]? = some ((spellsL row)[i]'hi) := List.getElem?_eq_getElem hi
        have ha := hp2.at_ i a _ ea ex
        rw [take_snoc ex, List.filter_append]
        generalize (spellsL row)[i]'hi = x at *
        have hfl := List.length_filter_le (fun x => !within x ps) ((spellsL row).take i)
        rw [List.length_take] at hfl
        refine ⟨rfl, _, rfl, _, rfl, a, q, x, ps, rfl, s3 _ _ ha, (s02.trans s3).seq hq, by omega, fun H3 s4 => ?_⟩
        have h4 : H3 d = some (.lst fs) := s4 _ _ h1
        have s34 := s3.trans s4
        by_cases hw : within x ps = true
        · refine ⟨_, rfl, ?_⟩
          rw [hw]
          refine iteF ⟨⟨fs, h4, ?_⟩, s34⟩
          rw [List.length_append, h3]
          simp [hw]
        · have hw' : within x ps = false := by simpa using hw
          refine ⟨_, rfl, ?_⟩
          rw [hw']
          refine iteT ⟨_, rfl, fs, h4, szl (by omega), ⟨_, upd_same, ?_⟩, Same.put s34 hd⟩
          rw [List.length_append, List.length_append, h3]
          simp [hw']
    · rintro H' ⟨⟨fs, h1, h3⟩, s3⟩
      rw [List.take_of_length_le (by rw [List.length_map, hp2.len]; exact Nat.le_refl _)] at h3
      have s4 := s02.trans s3
      refine ⟨_, rfl, r, _, rfl, .inl (s4.seq hS), _, rfl, d, _, rfl, .inl (SqL.of h1), _, _, rfl, rfl, _, rfl, _, _, rfl, rfl, _, rfl, q, _, rfl, .inl (s4.seq hq), _, _, rfl, rfl, .inl ⟨by omega, by omega⟩, _, _, rfl, rfl, ?_⟩
      exact k _ H' s4
end
end CK

/-! The program's worst row. -/
namespace CK
open PySem PySem.Spec PyProof.Rows L2
/-- all rows of p pages, so long -/
def rng (p : Nat) : List Int := (List.range p).map fun x => ((x : Nat) : Int)
def allRows (p : Nat) : Nat → List (List Int)
  | 0 => [[]]
  | k + 1 => (allRows p k).flatMap fun row => (rng p).map fun x => row ++ [x]
theorem rng_len (p : Nat) : (rng p).length = p := by unfold rng; rw [List.length_map, List.length_range]
theorem rows_ok (p : Nat) : ∀ k, ∀ row ∈ allRows p k, row.length = k ∧ ∀ x ∈ row, 0 ≤ x ∧ x < p
  | 0, row, h => by rw [List.mem_singleton.mp h]; exact ⟨rfl, fun x hx => by cases hx⟩
  | k + 1, row, h => by
    obtain ⟨r, h1, h2⟩ := List.mem_flatMap.mp h
    obtain ⟨x, h3, h4⟩ := List.mem_map.mp h2
    obtain ⟨y, h5, h6⟩ := List.mem_map.mp h3
    have ih := rows_ok p k r h1
    rw [← h4]
    refine ⟨by rw [List.length_append, ih.1]; rfl, fun z hz => ?_⟩
    rcases List.mem_append.mp hz with q | q
    · exact ih.2 z q
    · rw [List.mem_singleton.mp q, ← h6]
      have := List.mem_range.mp h5
      omega
theorem flat_len {α β : Type} {f : α → List β} {c : Nat} : ∀ (xs : List α), (∀ x, (f x).length = c) → (xs.flatMap f).length = xs.length * c
  | [], _ => by simp
  | a :: r, h => by
    rw [List.flatMap_cons, List.length_append, h a, flat_len r h, List.length_cons, Nat.succ_mul]
    omega
theorem rows_len (p : Nat) : ∀ k, (allRows p k).length = p ^ k
  | 0 => rfl
  | k + 1 => by
    show ((allRows p k).flatMap fun row => (rng p).map fun x => row ++ [x]).length = _
    rw [flat_len (c := p) _ (fun x => by rw [List.length_map, rng_len]), rows_len p k, Nat.pow_succ]
/-- lists of ints at these places -/
structure RowsAt (H : Hp) (as : List Addr) (xs : List (List Int)) : Prop where
  len : as.length = xs.length
  at_ : ∀ (i : Nat) (a : Addr) (x : List Int), as[i]? = some a → xs[i]? = some x → H a = some (.lst (il x))
theorem RowsAt.nil {H : Hp} : RowsAt H [] [] := ⟨rfl, fun i a x h => by simp at h⟩
theorem RowsAt.same {H H' : Hp} {as : List Addr} {xs : List (List Int)} (h : RowsAt H as xs) (k : Same H H') : RowsAt H' as xs := ⟨h.len, fun i a x ha hx => k _ _ (h.at_ i a x ha hx)⟩
theorem RowsAt.snoc {H : Hp} {as : List Addr} {xs : List (List Int)} (h : RowsAt H as xs) {t : Addr} {x : List Int} (e : H t = some (.lst (il x))) : RowsAt H (as ++ [t]) (xs ++ [x]) := by
  refine ⟨by rw [List.length_append, List.length_append, h.len]; rfl, fun i b y hb hy => ?_⟩
  by_cases hi : i < as.length
  · rw [List.getElem?_append_left hi] at hb
    rw [List.getElem?_append_left (by rw [← h.len]; exact hi)] at hy
    exact h.at_ i b y hb hy
  · rw [List.getElem?_append_right (by omega)] at hb
    rw [List.getElem?_append_right (by rw [← h.len]; omega)] at hy
    have e0 : i - as.length = 0 := by
      have := (List.getElem?_eq_some_iff.mp hb).1
      simp at this
      omega
    rw [← h.len] at hy
    rw [e0] at hb hy
    cases Option.some.inj hb
    cases Option.some.inj hy
    exact e
/-- all off d -/
theorem RowsAt.put {H : Hp} {as : List Addr} {xs : List (List Int)} (h : RowsAt H as xs) {d : Addr} {o : HO} (n : ∀ a ∈ as, a ≠ d) : RowsAt (upd H d o) as xs := ⟨h.len, fun i a x ha hx => by
  rw [upd_ne (n a (List.mem_of_getElem? ha))]
  exact h.at_ i a x ha hx⟩
theorem RowsAt.app {H : Hp} {as bs : List Addr} {xs ys : List (List Int)} (h : RowsAt H as xs) (h2 : RowsAt H bs ys) : RowsAt H (as ++ bs) (xs ++ ys) := by
  refine ⟨by rw [List.length_append, List.length_append, h.len, h2.len], fun i b y hb hy => ?_⟩
  by_cases hi : i < as.length
  · rw [List.getElem?_append_left hi] at hb
    rw [List.getElem?_append_left (by rw [← h.len]; exact hi)] at hy
    exact h.at_ i b y hb hy
  · rw [List.getElem?_append_right (by omega)] at hb
    rw [List.getElem?_append_right (by rw [← h.len]; omega), ← h.len] at hy
    exact h2.at_ _ b y hb hy
/-- a loop of a comprehension, its body as it is -/
theorem lcany_it {J : It} {n : Nat} {G : Hp → Prop} {Y : Nat → Hp → V → Hp → Prop} (w : Walk J n G Y) {B : V → Hp → (Hp → Prop) → Prop} {H0 : Hp} {Q : Hp → Prop} (Pv : Nat → Hp → Prop) (h0 : Pv 0 H0) (hG : ∀ i H, i ≤ n → Pv i H → G H)
    (hs : ∀ i x H H', i < n → Pv i H → Y i H x H' → B x H' (Pv (i + 1))) (hd : ∀ H, Pv n H → Q H) :
    ∃ W : Nat → Nat → Hp → Prop, (∃ m, W 0 m H0) ∧ ∀ i m H, W i m H → (J.stop i H ∧ Q H) ∨ (J.go i H ∧ ∃ Nx : Hp → Prop, (∀ H', Nx H' → ∃ m', m' < m ∧ W (i + 1) m' H') ∧ ∀ x H', J.yld i H x H' → B x H' Nx) := by
  refine ⟨fun i m H => m = n - i ∧ i ≤ n ∧ Pv i H, ⟨n, by simp, Nat.zero_le _, h0⟩, ?_⟩
  rintro i m H ⟨rfl, hi, p⟩
  have q := hG i H hi p
  by_cases hlt : i < n
  · exact .inr ⟨w.goes i H hlt q, Pv (i + 1), fun H' p' => ⟨n - (i + 1), by omega, rfl, hlt, p'⟩, fun x H' y => hs i x H H' hlt p (w.yields i H x H' hlt q y)⟩
  · have e : i = n := by omega
    subst e
    exact .inl ⟨w.stops H q, hd H p⟩
theorem take_flatM {α β : Type} {f : α → List β} {xs : List α} {j : Nat} {x : α} (h : xs[j]? = some x) : (xs.take (j + 1)).flatMap f = (xs.take j).flatMap f ++ f x := by
  rw [take_snoc h, List.flatMap_append]
  simp
theorem rng_at {p j : Nat} (h : j < p) : (rng p)[j]? = some ((j : Nat) : Int) := by
  unfold rng
  rw [List.getElem?_map, List.getElem?_range h]
  rfl
/-- the sizes that are asked for -/
def Sizes (p k : Nat) : Prop := 1 ≤ p ∧ p ≤ 12 ∧ k ≤ 100 ∧ ∀ j, j ≤ k → p ^ j ≤ 4096
def spCheckSize : Sp := fun vs H Q _ => ∃ p k : Nat, vs = [.int (p : Nat), .int (k : Nat)] ∧ Sizes p k ∧ Q .non H
def spTooMany : Sp := fun vs H Q _ => ∃ p k : Nat, vs = [.int (p : Nat), .int (k : Nat)] ∧ Sizes p k ∧ Q (.bl false) H
def spAllRows : Sp := fun vs H Q _ => ∃ p k : Nat, vs = [.int (p : Nat), .int (k : Nat)] ∧ Sizes p k ∧ ∀ (d : Addr) (as : List Addr) (H' : Hp), H d = none → (∀ a ∈ as, H a = none) → (∀ a ∈ as, a ≠ d) → Same H H' → H' d = some (.lst (as.map V.ref)) → RowsAt H' as (allRows p k) → Q (.ref d) H'
section
variable {P : Program} {w : World} {K : PySem.W.Frag} {mg : Str → Option Value} {base : Heap}
theorem sc_are_too_many : FnScope ["pages", "long", "rows", "_"] ["pages", "long"] (defScope (top 49)) := ⟨rfl, rfl, rfl, by decide +kernel, rfl, by decide +kernel, by decide +kernel⟩
theorem ok_are_too_many (T : Prog K mg) : FnOk P w K mg base CX0 1 T.are_too_many.f T.are_too_many.fd ["pages", "long"] spTooMany := by
  refine T.are_too_many.fn.ok sc_are_too_many (fun vs H Q E h => ?len) (fun cdv A outer s H vs Q E hr h => ?body)
  case len =>
    obtain ⟨p, k, rfl, _⟩ := h
    rfl
  case body =>
    have hu := hu_of hr
    obtain ⟨p, k, rfl, hz, q⟩ := h
    refine ⟨_, PSs.nox (pss_cons (ps_if (pt_cmpR op_gt (pv 1) (pe_glob (v := L2.V.int 5000) rfl T.g_LONGEST ⟨_, rfl⟩) (nomark _))
        (pss_one (ps_ret pe_bl))
        pss_nil)
        (pss_cons (ps_set (i := 2) sc_are_too_many.nd rfl (Or.inl rfl) pe_int)
        (pss_cons (ps_for PassesOwn.never rfl (pi_range1 (by rfl) T.range (pa_cons (pv 1) pa_nil)) (pg_name (i := 3) sc_are_too_many.nd rfl (Or.inl rfl))
        (pss_cons (ps_aug (i := 2) sc_are_too_many.nd rfl (Or.inl rfl) (pv 0) iop_mul)
        (pss_one (ps_if (pt_cmpR op_gt (pv 2) (pe_glob (v := L2.V.int 5000) rfl T.g_MOST_ROWS ⟨_, rfl⟩) (nomark _))
        (pss_one (ps_ret pe_bl))
        pss_nil))))
        (pss_one (ps_ret pe_bl))))), ?_⟩
    obtain ⟨p1, p2, k1, hz⟩ := hz
    refine ⟨_, rfl, _, _, rfl, rfl, _, rfl, ?_⟩
    refine ifF (decide_eq_false (by omega)) ?_
    refine ⟨_, rfl, _, rfl, by omega, by omega, for_range (lo := 0) (n := ((k : Nat) : Int).toNat) (fun i σ H' => (∃ v3, σ = [some (.int (p : Nat)), some (.int (k : Nat)), some (.int ((p ^ i : Nat) : Int)), v3]) ∧ H' = H) ⟨⟨_, rfl⟩, rfl⟩ ?_ ?_⟩
    · rintro i σ H' hi ⟨⟨v3, rfl⟩, rfl⟩
      have h1 := hz i (by omega)
      have h2 := hz (i + 1) (by omega)
      have e : ((p ^ i : Nat) : Int) * (p : Int) = ((p ^ (i + 1) : Nat) : Int) := by rw [Nat.pow_succ, Int.natCast_mul]
      refine ⟨_, rfl, _, rfl, _, _, rfl, rfl, .inl ⟨by omega, by omega⟩, ?_⟩
      dsimp only
      rw [e]
      refine ⟨_, rfl, _, _, rfl, rfl, _, rfl, ?_⟩
      refine ifF (decide_eq_false (by omega)) ?_
      exact ⟨⟨_, rfl⟩, rfl⟩
    · rintro σ H' ⟨⟨v3, rfl⟩, rfl⟩
      exact q
theorem sc_check_size : FnScope ["pages", "long"] ["pages", "long"] (defScope (top 48)) := ⟨rfl, rfl, rfl, by decide +kernel, rfl, by decide +kernel, by decide +kernel⟩
theorem ok_check_size (T : Prog K mg) : FnOk P w K mg base CX0 2 T.check_size.f T.check_size.fd ["pages", "long"] spCheckSize := by
  have G_are_too_many := ok_are_too_many (P := P) (w := w) (base := base) T
  refine T.check_size.fn.ok sc_check_size (fun vs H Q E h => ?len) (fun cdv A outer s H vs Q E hr h => ?body)
  case len =>
    obtain ⟨p, k, rfl, _⟩ := h
    rfl
  case body =>
    have hr_are_too_many : Room 1 _ := hr.mono (by decide)
    have hu := hu_of hr
    obtain ⟨p, k, rfl, hz, q⟩ := h
    refine ⟨_, PSs.nox (pss_cons (ps_if (PW.pt (pw_or (pt_not (pt_chain op_le op_le pe_int (pv 0) (pe_glob (v := L2.V.int 12) rfl T.g_PAGES ⟨_, rfl⟩))) (pw_or1 (pt_cmpR op_lt (pv 1) pe_int (nomark _)))))
        (pss_one ps_never)
        pss_nil)
        (pss_one (ps_if (pt_val (pe_call G_are_too_many hr_are_too_many (by rfl) T.are_too_many.g T.are_too_many.fn.kp T.are_too_many.bd .nil pass0 (pa_cons (pv 0) (pa_cons (pv 1) pa_nil))))
        (pss_one ps_never)
        pss_nil))), ?_⟩
    have hz0 := hz
    obtain ⟨p1, p2, k1, hz⟩ := hz
    refine ⟨_, rfl, _, _, rfl, rfl, _, rfl, ifT (decide_eq_true (by omega)) ⟨_, _, rfl, rfl, _, rfl, ?_⟩⟩
    refine ifF (by rw [decide_eq_true (by omega)]; rfl) ⟨_, rfl, _, _, rfl, rfl, _, rfl, ?_⟩
    refine ifF (decide_eq_false (by omega)) ⟨_, rfl, _, rfl, p, k, rfl, hz0, _, rfl, ?_⟩
    exact iteF q
theorem sc_all_rows : FnScope ["pages", "long", "rows", "_", "row", "page"] ["pages", "long"] (defScope (top 50)) := ⟨rfl, rfl, rfl, by decide +kernel, rfl, by decide +kernel, by decide +kernel⟩
theorem ok_all_rows (T : Prog K mg) : FnOk P w K mg base CX0 1 T.all_rows.f T.all_rows.fd ["pages", "long"] spAllRows := by
  refine T.all_rows.fn.ok sc_all_rows (fun vs H Q E h => ?len) (fun cdv A outer s H vs Q E hr h => ?body)
  case len =>
    obtain ⟨p, k, rfl, _⟩ := h
    rfl
  case body =>
    have hu := hu_of hr
    obtain ⟨p, k, rfl, hz, q⟩ := h
    refine ⟨_, PSs.nox (pss_cons (ps_set (i := 2) sc_all_rows.nd rfl (Or.inl rfl) (pe_lst (pa_cons (pe_lst pa_nil) pa_nil)))
        (pss_cons (ps_for PassesOwn.never rfl (pi_range1 (by rfl) T.range (pa_cons (pv 1) pa_nil)) (pg_name (i := 3) sc_all_rows.nd rfl (Or.inl rfl))
        (pss_one (ps_setLc2 (i := 2) (own := [("row", 4), ("page", 5)]) (vs1 := [5]) (g := gName 4) (g1 := gName 5) rfl sc_all_rows.nd rfl rfl (sw_true rfl rfl rfl (by decide +kernel)) ((pi_list (pv 2))) (blkOk_by (own := [("row", 4), ("page", 5)]) (N := ["pages", "long", "rows", "_", "row", "page"]) (sc := defScope (top 50)) (by decide +kernel)) (by decide) (fun _ _ _ _ _ => (by exact (pg_name (i := 4) sc_all_rows.nd rfl (Or.inl rfl)))) (fun _ _ _ _ _ => (by exact pts_nil)) (fun _ _ _ _ _ => (by exact (pi_range1 (by rfl) T.range (pa_cons (pv 0) pa_nil)))) (fun _ _ _ _ _ => (by exact (pg_name (i := 5) sc_all_rows.nd rfl (Or.inl rfl)))) (fun _ _ _ _ _ => (by exact pts_nil)) (fun _ _ _ _ _ => (by exact (pe_op op_cat (pv 4) (pe_lst (pa_cons (pv 5) pa_nil))))))))
        (pss_one (ps_ret (pv 2))))), ?_⟩
    obtain ⟨p1, p2, k1, hz⟩ := hz
    refine ⟨szd rfl, fun e0 he0 => ⟨szd rfl, fun d0 hd0 => ?_⟩⟩
    have s1 := Same.new (o := .lst []) he0
    have s2 := Same.new (o := .lst [V.ref e0]) hd0
    have ed : e0 ≠ d0 := ne_fresh (H := upd H e0 _) upd_same hd0
    refine ⟨_, rfl, _, rfl, by omega, by omega, for_range (lo := 0) (n := ((k : Nat) : Int).toNat) (fun i σ H' => ∃ (d : Addr) (as : List Addr), (∃ v3 v4 v5 : Option V, σ = [some (.int (p : Nat)), some (.int (k : Nat)), some (.ref d), v3, v4, v5]) ∧ Same H H' ∧ H d = none ∧ (∀ a ∈ as, H a = none ∧ a ≠ d) ∧ H' d = some (.lst (as.map V.ref)) ∧ RowsAt H' as (allRows p i)) ?_ ?_ ?_⟩
    · refine ⟨d0, [e0], ⟨_, _, _, rfl⟩, s1.trans s2, Same.back s1 hd0, fun a ha => ?_, upd_same, RowsAt.nil.snoc (s2 _ _ upd_same)⟩
      rw [List.mem_singleton.mp ha]
      exact ⟨he0, ed⟩
    · rintro i σ H1 hi ⟨d, as, ⟨v3, v4, v5, rfl⟩, s3, hd, has, hd1, ra⟩
      have hik : i < k := by omega
      have hl := rows_len p i
      have rok := rows_ok p i
      have e1 : allRows p (i + 1) = (allRows p i).flatMap fun row => (rng p).map fun x => row ++ [x] := rfl
      have big : (allRows p i).length * p ≤ 4096 := by
        have := hz (i + 1) hik
        rw [hl, ← Nat.pow_succ]
        exact this
      rw [e1]
      generalize allRows p i = rows at *
      refine ⟨_, rfl, d, rfl, ⟨_, SqL.of hd1⟩, fun D hD => ?_⟩
      have hDH : H D = none := Same.back s3 hD
      have Dd : d ≠ D := ne_fresh hd1 hD
      let In : List (List Int) → Hp → Prop := fun done H' => Same H1 H' ∧ ∃ bs : List Addr, (∀ b ∈ bs, H1 b = none ∧ b ≠ D) ∧ H' D = some (.lst (bs.map V.ref)) ∧ RowsAt H' bs done
      have lenf : ∀ t, ((rows.take t).flatMap fun row => (rng p).map fun x => row ++ [x]).length = (rows.take t).length * p := fun t => flat_len (c := p) _ (fun x => by rw [List.length_map, rng_len])
      refine lcany_it (walk_list (K := K) (a := d) (xs := as.map V.ref)) (fun t H' => In ((rows.take t).flatMap fun row => (rng p).map fun x => row ++ [x]) H') ⟨Same.new hD, [], fun b hb => by (cases hb), upd_same, RowsAt.nil⟩ (fun t H' _ h => SqL.of (h.1 _ _ hd1)) ?_ ?_
      · rintro t x H2 H2' ht inn ⟨rfl, hx⟩
        rw [List.getElem?_map] at hx
        cases ea : as[t]? with
        | none => rw [ea] at hx; cases hx
        | some a =>
          rw [ea] at hx
          cases Option.some.inj hx
          have htr : t < rows.length := by rw [← ra.len]; exact (List.getElem?_eq_some_iff.mp ea).1
          have er : rows[t]? = some (rows[t]'htr) := List.getElem?_eq_getElem htr
          have hrl := (rok _ (List.getElem_mem htr)).1
          have ha := ra.at_ t a _ ea er
          have lt := lenf t
          rw [List.length_take, Nat.min_eq_left (Nat.le_of_lt htr)] at lt
          have bnd : (t + 1) * p ≤ 4096 := Nat.le_trans (Nat.mul_le_mul_right p htr) big
          rw [Nat.succ_mul] at bnd
          rw [take_flatM er]
          generalize rows[t]'htr = row at *
          generalize (rows.take t).flatMap (fun row => (rng p).map fun x => row ++ [x]) = done at *
          refine ⟨rfl, _, rfl, _, rfl, by omega, by omega, ?_⟩
          refine lcany_it (walk_range (lo := 0) (n := ((p : Nat) : Int).toNat)) (fun j H' => In (done ++ ((rng p).take j).map fun x => row ++ [x]) H') ?_ (fun _ _ _ _ => trivial) ?_ ?_
          · rw [List.take_zero, List.map_nil, List.append_nil]
            exact inn
          · rintro j x H3 H4 hj ⟨s4, bs, hb, hD4, rb⟩ ⟨rfl, rfl⟩
            have hj' : j < p := by omega
            have hbl : bs.length = t * p + j := by
              rw [rb.len, List.length_append, lt, List.length_map, List.length_take, rng_len, Nat.min_eq_left (Nat.le_of_lt hj')]
            rw [take_snoc (rng_at hj'), List.map_append, ← List.append_assoc]
            have ha4 := s4 _ _ ha
            refine ⟨rfl, _, rfl, _, rfl, szd rfl, fun u hu => ?_⟩
            have sU := Same.new (o := .lst [V.int (0 + (j : Int))]) hu
            refine ⟨a, u, _, _, rfl, rfl, sU _ _ ha4, upd_same, sz (by rw [il_len]; simp; omega), fun z hz => ?_⟩
            have sZ := Same.new (o := .lst (il row ++ [V.int (0 + (j : Int))])) hz
            have hD5 := sZ _ _ (sU _ _ hD4)
            have zD : z ≠ D := Ne.symm (ne_fresh (sU _ _ hD4) hz)
            have z1 : H1 z = none := Same.back s4 (Same.back sU hz)
            have ez : upd (upd (upd H4 u (.lst [V.int (0 + (j : Int))])) z (.lst (il row ++ [V.int (0 + (j : Int))]))) D (.lst (bs.map V.ref ++ [V.ref z])) z = some (.lst (il (row ++ [((j : Nat) : Int)]))) := by
              rw [upd_ne zD, upd_same, ← il_snoc, Int.zero_add]
            refine ⟨_, hD5, szl (by rw [List.length_map]; omega), Same.put ((s4.trans sU).trans sZ) hD, bs ++ [z], fun b hb' => ?_, by rw [upd_same, List.map_append]; rfl, ?_⟩
            · rcases List.mem_append.mp hb' with q | q
              · exact hb b q
              · rw [List.mem_singleton.mp q]; exact ⟨z1, zD⟩
            · exact (((rb.same sU).same sZ).put fun b hb' => (hb b hb').2).snoc ez
          · rintro H3 inn3
            have ep : ((p : Nat) : Int).toNat = p := by omega
            rw [ep, List.take_of_length_le (by rw [rng_len]; exact Nat.le_refl _)] at inn3
            exact inn3
      · rintro H2 ⟨s4, bs, hb, hD2, rb⟩
        rw [List.take_of_length_le (by rw [List.length_map, ra.len]; exact Nat.le_refl _)] at rb
        exact ⟨D, bs, ⟨_, _, _, rfl⟩, s3.trans s4, hDH, fun b hb' => ⟨Same.back s3 (hb b hb').1, (hb b hb').2⟩, hD2, rb⟩
    · rintro σ H1 ⟨d, as, ⟨v3, v4, v5, rfl⟩, s3, hd, has, hd1, ra⟩
      have ek : ((k : Nat) : Int).toNat = k := by omega
      rw [ek] at ra
      exact ⟨_, rfl, q d as H1 hd (fun a ha => (has a ha).1) (fun a ha => (has a ha).2) s3 hd1 ra⟩
end
end CK

/-! Rules and sizes that are none: refused. -/
namespace CK
open PySem PySem.Spec PyProof.Rows L2 CKX
/-- a rule's word, or one of those that are none -/
inductive RuW where
  | ok (rule : Rl) | no (s : Str)
def RuW.s : RuW → Str
  | .ok r => r.s
  | .no z => z
def RuW.good : RuW → Bool
  | .ok _ => true
  | .no _ => false
abbrev noRules : List Str := ["far", "", "Hand", "seen", "handunseen", "last"]
def RuW.At : RuW → Prop
  | .ok _ => True
  | .no z => z ∈ noRules
def spCRX (c2 : Addr) : Sp := fun vs H Q E => ∃ u : RuW, vs = [.str u.s] ∧ u.At ∧ (u.good = true → Q .non H) ∧ (u.good = false → E (.ref c2) none H)
def spLkX (K : PySem.W.Frag) (c0 c1 c2 : Addr) : Sp := fun vs H Q E => ∃ (n : Int) (r : Addr) (row : List Int) (u : RuW), vs = [.int n, .ref r, .str u.s] ∧ u.At ∧ SqL K H r (il row) ∧ (¬ (1 ≤ n ∧ n ≤ 8) → E (.ref c0) none H) ∧
  (1 ≤ n → n ≤ 8 → ∀ i, badAt row 0 = some i → BadP c1 H E i) ∧ (1 ≤ n → n ≤ 8 → RowOk row → u.good = false → ∀ H', Same H H' → E (.ref c2) none H') ∧
  (1 ≤ n → n ≤ 8 → RowOk row → ∀ rule : Rl, u = .ok rule → ∀ (d : Addr) (H' : Hp), H d = none → Same H H' → H' d = some (.lst (NL (lacksR n.toNat rule row))) → Q (.ref d) H')
section
variable {P : Program} {w : World} {K : PySem.W.Frag} {mg : Str → Option Value} {base : Heap}
theorem ok_check_ruleX (T : Prog K mg) (Z : Errs P K mg){es : Array DictEntry} {nd : Nat} (TB_RULES : KDict K w T.a_RULES es nd) : FnOk P w K mg base (L2N.CX P w) 1 T.check_rule.f T.check_rule.fd ["rule"] (spCRX Z.rule) := by
  refine T.check_rule.fn.ok sc_check_rule (fun vs H Q E h => ?len) (fun cdv A outer s H vs Q E hr h => ?body)
  case len =>
    obtain ⟨u, rfl, _⟩ := h
    rfl
  case body =>
    have hu := hu_of hr
    obtain ⟨u, rfl, ua, k, ke⟩ := h
    refine ⟨_, (pss_one (ps_if (pt_cmpR (op_notIn_kd TB_RULES) (pv 0) (pe_glob (v := L2.V.ref T.a_RULES) rfl T.g_RULES rfl) (by rfl))
        (pss_one (L2N.ps_raise rfl (L2N.takes_of rfl rfl rfl rfl) (pmk_plain Z.pRule Z.iRule.ec.hs Z.gRule (by rfl))))
        pss_nil)), ?_⟩
    obtain ⟨u1, h1, _⟩ := T.r_RULES_hand
    obtain ⟨u2, h2, _⟩ := T.r_RULES_unseen
    obtain ⟨u3, h3, _⟩ := T.r_RULES_first
    cases u with
    | ok rule =>
      have kk := k rfl
      cases rule with
      | hand => exact ⟨_, rfl, _, _, rfl, rfl, h1, _, rfl, iteF kk⟩
      | unseen => exact ⟨_, rfl, _, _, rfl, rfl, h2, _, rfl, iteF kk⟩
      | first => exact ⟨_, rfl, _, _, rfl, rfl, h3, _, rfl, iteF kk⟩
    | no z => exact ⟨_, rfl, _, _, rfl, rfl, T.m_RULES z ua, _, rfl, ifT rfl (ke rfl)⟩
theorem ok_lackingX (T : Prog K mg) (Z : Errs P K mg){es : Array DictEntry} {nd : Nat} (TB_RULES : KDict K w T.a_RULES es nd) : FnOk P w K mg base (L2N.CX P w) 6 T.lacking.f T.lacking.fd ["rooms", "row", "rule"] (spLkX K Z.rooms Z.row Z.rule) := by
  have G_check_rooms := ok_check_roomsX (P := P) (w := w) (base := base) T Z
  have G_check_row := ok_check_rowX (P := P) (w := w) (base := base) T Z
  have G_check_rule := ok_check_ruleX (P := P) (w := w) (base := base) T Z TB_RULES
  have G_find_lacks := ok_find_lacks (P := P) (w := w) (base := base) T TB_RULES
  refine T.lacking.fn.ok sc_lacking (fun vs H Q E h => ?len) (fun cdv A outer s H vs Q E hr h => ?body)
  case len =>
    obtain ⟨n, r, row, u, rfl, _⟩ := h
    rfl
  case body =>
    have hr_check_rooms : Room 1 _ := hr.mono (by decide)
    have hr_check_row : Room 2 _ := hr.mono (by decide)
    have hr_check_rule : Room 1 _ := hr.mono (by decide)
    have hr_find_lacks : Room 5 _ := hr.mono (by decide)
    have hu := hu_of hr
    obtain ⟨n, r, row, u, rfl, ua, hS, kr, kb, ku, k⟩ := h
    refine ⟨_, (pss_cons (ps_expr (pe_call G_check_rooms hr_check_rooms (by rfl) T.check_rooms.g T.check_rooms.fn.kp T.check_rooms.bd .nil (L2N.passes_call (W := fun cls d _ H => E cls d H) (E := E) (L2N.takes_of rfl rfl rfl rfl) (fun _ _ _ _ h => h)) (pa_cons (pv 0) pa_nil)))
        (pss_cons (ps_expr (pe_call G_check_row hr_check_row (by rfl) T.check_row.g T.check_row.fn.kp T.check_row.bd .nil (L2N.passes_call (W := fun cls d _ H => E cls d H) (E := E) (L2N.takes_of rfl rfl rfl rfl) (fun _ _ _ _ h => h)) (pa_cons (pv 1) pa_nil)))
        (pss_cons (ps_expr (pe_call G_check_rule hr_check_rule (by rfl) T.check_rule.g T.check_rule.fn.kp T.check_rule.bd .nil (L2N.passes_call (W := fun cls d _ H => E cls d H) (E := E) (L2N.takes_of rfl rfl rfl rfl) (fun _ _ _ _ h => h)) (pa_cons (pv 2) pa_nil)))
        (pss_one (ps_ret (pe_call G_find_lacks hr_find_lacks (by rfl) T.find_lacks.g T.find_lacks.fn.kp T.find_lacks.bd .nil pass0 (pa_cons (pv 0) (pa_cons (pv 1) (pa_cons (pv 2) pa_nil))))))))), ?_⟩
    refine ⟨_, rfl, n, rfl, fun n1 n8 => ?_, kr⟩
    refine ⟨_, rfl, r, row, rfl, hS, fun hgood H1 s1 => ?_, fun i hi => kb n1 n8 i hi⟩
    have hR := rowOk_of hgood
    refine ⟨_, rfl, u, rfl, ua, fun hg => ?_, fun hb => ku n1 n8 hR hb H1 s1⟩
    cases u with
    | no z => cases hg
    | ok rule => exact ⟨_, rfl, _, rfl, _, rfl, n, r, row, rule, rfl, n1, n8, s1.seq hS, hR, fun d H2 hd s2 hd2 => k n1 n8 hR rule rfl d H2 (Same.back s1 hd) (s1.trans s2) hd2⟩
end
end CK

/-! The program's worst row, whole. -/
namespace CK
open PySem PySem.Spec PyProof.Rows L2
noncomputable def moreL (n : Nat) (rule : Rl) (row : List Int) : Int := ((lacksR n rule row).length : Int) - ((bestS n row).lacks.length : Int)
theorem moreL_pos {n : Nat} (hn : 0 < n) (rule : Rl) (row : List Int) : 0 ≤ moreL n rule row := by
  have := best_rule hn rule row
  unfold moreL
  omega
/-- the first of the rows with the most -/
structure IsWorst (f : List Int → Int) (rows : List (List Int)) (m : Int) (rw_ : List Int) : Prop where
  ex : ∃ j : Nat, rows[j]? = some rw_ ∧ f rw_ = m ∧ ∀ i : Nat, i < j → ∀ r, rows[i]? = some r → f r < m
  top : ∀ r ∈ rows, f r ≤ m
theorem IsWorst.one {f : List Int → Int} {rows : List (List Int)} {m m' : Int} {r r' : List Int} (h : IsWorst f rows m r) (h' : IsWorst f rows m' r') : m = m' ∧ r = r' := by
  obtain ⟨j, h1, h2, h3⟩ := h.ex
  obtain ⟨j', h1', h2', h3'⟩ := h'.ex
  have a1 := h.top r' (List.mem_of_getElem? h1')
  have a2 := h'.top r (List.mem_of_getElem? h1)
  have em : m = m' := by omega
  refine ⟨em, ?_⟩
  rcases Nat.lt_trichotomy j j' with q | q | q
  · have := h3' j q r h1; omega
  · rw [q, h1'] at h1; exact (Option.some.inj h1).symm
  · have := h3 j' q r' h1'; omega
theorem IsWorst.next {f : List Int → Int} {rows : List (List Int)} {m : Int} {r x : List Int} (h : IsWorst f rows m r) : IsWorst f (rows ++ [x]) (if f x > m then f x else m) (if f x > m then x else r) := by
  obtain ⟨j, h1, h2, h3⟩ := h.ex
  have hj : j < rows.length := (List.getElem?_eq_some_iff.mp h1).1
  by_cases q : f x > m
  · rw [if_pos q, if_pos q]
    refine ⟨⟨rows.length, by rw [List.getElem?_append_right (Nat.le_refl _), Nat.sub_self]; rfl, rfl, fun i hi y hy => ?_⟩, fun y hy => ?_⟩
    · rw [List.getElem?_append_left hi] at hy
      have := h.top y (List.mem_of_getElem? hy)
      omega
    · rcases List.mem_append.mp hy with z | z
      · have := h.top y z; omega
      · rw [List.mem_singleton.mp z]; exact Int.le_refl _
  · rw [if_neg q, if_neg q]
    refine ⟨⟨j, by rw [List.getElem?_append_left hj]; exact h1, h2, fun i hi y hy => ?_⟩, fun y hy => ?_⟩
    · rw [List.getElem?_append_left (by omega)] at hy
      exact h3 i hi y hy
    · rcases List.mem_append.mp hy with z | z
      · exact h.top y z
      · rw [List.mem_singleton.mp z]; omega
theorem IsWorst.first {f : List Int → Int} {x : List Int} : IsWorst f [x] (f x) x :=
  ⟨⟨0, rfl, rfl, fun i hi => absurd hi (Nat.not_lt_zero _)⟩, fun y hy => by rw [List.mem_singleton.mp hy]; exact Int.le_refl _⟩
/-- the first place with the most of the counts -/
theorem worst_of {f : List Int → Int} {rows : List (List Int)} {m : Int} {j : Nat} (h1 : (rows.map f)[j]? = some m) (h2 : ∀ y ∈ rows.map f, y ≤ m) (h3 : ∀ i, i < j → (rows.map f)[i]? ≠ some m) : ∃ r, rows[j]? = some r ∧ IsWorst f rows m r := by
  rw [List.getElem?_map] at h1
  obtain ⟨r, e1, e2⟩ := Option.map_eq_some_iff.mp h1
  refine ⟨r, e1, ⟨j, e1, e2, fun i hi y hy => ?_⟩, fun y hy => h2 _ (List.mem_map.mpr ⟨y, hy, rfl⟩)⟩
  have a := h2 (f y) (List.mem_map.mpr ⟨y, List.mem_of_getElem? hy, rfl⟩)
  have b := h3 i hi
  rw [List.getElem?_map, hy] at b
  have : f y ≠ m := fun z => b (by rw [← z]; rfl)
  omega
theorem idx_first {xs : List Int} {m : Int} (h : m ∈ xs) : xs[xs.idxOf m]? = some m ∧ ∀ i, i < xs.idxOf m → xs[i]? ≠ some m := by
  induction xs with
  | nil => cases h
  | cons a r ih =>
    rw [List.idxOf_cons]
    by_cases e : a = m
    · subst e
      simp
    · have e2 : (a == m) = false := by simpa using e
      rw [e2]
      have hr : m ∈ r := by
        rcases List.mem_cons.mp h with z | z
        · exact absurd z.symm e
        · exact z
      obtain ⟨q1, q2⟩ := ih hr
      refine ⟨by simpa using q1, fun i hi => ?_⟩
      cases i with
      | zero => simpa using e
      | succ i => simpa using q2 i (by simpa using hi)
def spMore (K : PySem.W.Frag) : Sp := fun vs H Q _ => ∃ (n : Int) (r : Addr) (row : List Int) (rule : Rl), vs = [.int n, .ref r, .str rule.s] ∧ 1 ≤ n ∧ n ≤ 8 ∧ SqL K H r (il row) ∧ RowOk row ∧ ∀ H' : Hp, Same H H' → Q (.int (moreL n.toNat rule row)) H'
def spWorst : Sp := fun vs H Q _ => ∃ (n : Int) (p k : Nat) (rule : Rl), vs = [.int n, .int (p : Nat), .int (k : Nat), .str rule.s] ∧ 1 ≤ n ∧ n ≤ 8 ∧ Sizes p k ∧
  ∀ (t a : Addr) (m : Int) (row : List Int) (H' : Hp), H t = none → H a = none → t ≠ a → Same H H' → H' t = some (.tup [.int m, .ref a]) → H' a = some (.lst (il row)) → IsWorst (moreL n.toNat rule) (allRows p k) m row → Q (.ref t) H'
section
variable {P : Program} {w : World} {K : PySem.W.Frag} {mg : Str → Option Value} {base : Heap}
theorem sc_more_lacks : FnScope ["rooms", "row", "rule", "lacks", "_"] ["rooms", "row", "rule"] (defScope (top 51)) := ⟨rfl, rfl, rfl, by decide +kernel, rfl, by decide +kernel, by decide +kernel⟩
theorem ok_more_lacks (T : Prog K mg) {es : Array DictEntry} {nd : Nat} (TB_RULES : KDict K w T.a_RULES es nd) : FnOk P w K mg base CX0 6 T.more_lacks.f T.more_lacks.fd ["rooms", "row", "rule"] (spMore K) := by
  have G_find_best := ok_find_best (P := P) (w := w) (base := base) T
  have G_find_lacks := ok_find_lacks (P := P) (w := w) (base := base) T TB_RULES
  refine T.more_lacks.fn.ok sc_more_lacks (fun vs H Q E h => ?len) (fun cdv A outer s H vs Q E hr h => ?body)
  case len =>
    obtain ⟨n, r, row, rule, rfl, _⟩ := h
    rfl
  case body =>
    have hr_find_best : Room 2 _ := hr.mono (by decide)
    have hr_find_lacks : Room 5 _ := hr.mono (by decide)
    have hu := hu_of hr
    obtain ⟨n, r, row, rule, rfl, n1, n8, hS, hR, k⟩ := h
    refine ⟨_, PSs.nox (pss_cons (ps_asg (pe_call G_find_best hr_find_best (by rfl) T.find_best.g T.find_best.fn.kp T.find_best.bd .nil pass0 (pa_cons (pv 0) (pa_cons (pv 1) pa_nil))) (pg_tup rfl (pgs_cons (pg_name (i := 3) sc_more_lacks.nd rfl (Or.inl rfl)) (pgs_cons (pg_name (i := 4) sc_more_lacks.nd rfl (Or.inl rfl)) pgs_nil))))
        (pss_one (ps_ret (pe_op op_sub (pe_callB call_len_seq (by rfl) T.len PySem.boot_len (pa_cons (pe_call G_find_lacks hr_find_lacks (by rfl) T.find_lacks.g T.find_lacks.fn.kp T.find_lacks.bd .nil pass0 (pa_cons (pv 0) (pa_cons (pv 1) (pa_cons (pv 2) pa_nil)))) pa_nil)) (pe_callB call_len_seq (by rfl) T.len PySem.boot_len (pa_cons (pv 3) pa_nil)))))), ?_⟩
    have hR1 := hR.1
    refine ⟨_, rfl, _, rfl, n, r, row, rfl, n1, n8, hS, by omega, fun t l g as H1 ht hl hg lg s1 e1 e2 e3 e4 => ?_⟩
    refine ⟨t, _, rfl, SqT.of e1, rfl, _, _, rfl, _, _, rfl, rfl, ?_⟩
    refine ⟨_, rfl, _, rfl, _, rfl, n, r, row, rule, rfl, n1, n8, s1.seq hS, hR, fun c H2 hc s2 hc2 => ?_⟩
    refine ⟨c, _, rfl, .inl (SqL.of hc2), _, rfl, l, _, rfl, .inl (SqL.of (s2 _ _ e2)), _, _, rfl, rfl, ?_⟩
    have e : ((NL (lacksR n.toNat rule row)).length : Int) - ((NL (bestS n.toNat row).lacks).length : Int) = moreL n.toNat rule row := by rw [List.length_map, List.length_map]; rfl
    dsimp only
    rw [e]
    exact k H2 (s1.trans s2)
theorem sc_worst : FnScope ["rooms", "pages", "long", "rule", "rows", "counts", "most", "row"] ["rooms", "pages", "long", "rule"] (defScope (top 47)) := ⟨rfl, rfl, rfl, by decide +kernel, rfl, by decide +kernel, by decide +kernel⟩
theorem ok_worst (T : Prog K mg) {es : Array DictEntry} {nd : Nat} (TB_RULES : KDict K w T.a_RULES es nd) : FnOk P w K mg base CX0 7 T.worst.f T.worst.fd ["rooms", "pages", "long", "rule"] spWorst := by
  have G_check_rooms := ok_check_rooms (P := P) (w := w) (base := base) T
  have G_check_size := ok_check_size (P := P) (w := w) (base := base) T
  have G_check_rule := ok_check_rule (P := P) (w := w) (base := base) T TB_RULES
  have G_all_rows := ok_all_rows (P := P) (w := w) (base := base) T
  have G_more_lacks := ok_more_lacks (P := P) (w := w) (base := base) T TB_RULES
  refine T.worst.fn.ok sc_worst (fun vs H Q E h => ?len) (fun cdv A outer s H vs Q E hr h => ?body)
  case len =>
    obtain ⟨n, p, k, rule, rfl, _⟩ := h
    rfl
  case body =>
    have hr_check_rooms : Room 1 _ := hr.mono (by decide)
    have hr_check_size : Room 2 _ := hr.mono (by decide)
    have hr_check_rule : Room 1 _ := hr.mono (by decide)
    have hr_all_rows : Room 1 _ := hr.mono (by decide)
    have hr_more_lacks : Room 6 _ := hr.mono (by decide)
    have hu := hu_of hr
    obtain ⟨n, p, k, rule, rfl, n1, n8, hz, q⟩ := h
    refine ⟨_, PSs.nox (pss_cons (ps_expr (pe_call G_check_rooms hr_check_rooms (by rfl) T.check_rooms.g T.check_rooms.fn.kp T.check_rooms.bd .nil pass0 (pa_cons (pv 0) pa_nil)))
        (pss_cons (ps_expr (pe_call G_check_size hr_check_size (by rfl) T.check_size.g T.check_size.fn.kp T.check_size.bd .nil pass0 (pa_cons (pv 1) (pa_cons (pv 2) pa_nil))))
        (pss_cons (ps_expr (pe_call G_check_rule hr_check_rule (by rfl) T.check_rule.g T.check_rule.fn.kp T.check_rule.bd .nil pass0 (pa_cons (pv 3) pa_nil)))
        (pss_cons (ps_set (i := 4) sc_worst.nd rfl (Or.inl rfl) (pe_call G_all_rows hr_all_rows (by rfl) T.all_rows.g T.all_rows.fn.kp T.all_rows.bd .nil pass0 (pa_cons (pv 1) (pa_cons (pv 2) pa_nil))))
        (pss_cons (ps_setLc (i := 5) (own := [("row", 7)]) (g := gName 7) rfl sc_worst.nd rfl rfl (sw_true rfl rfl rfl (by decide +kernel)) ((pi_list (pv 4))) (blkOk_by (own := [("row", 7)]) (N := ["rooms", "pages", "long", "rule", "rows", "counts", "most", "row"]) (sc := defScope (top 47)) (by decide +kernel)) (fun _ _ _ _ _ => (by exact (pg_name (i := 7) sc_worst.nd rfl (Or.inl rfl)))) (fun _ _ _ _ _ => (by exact pts_nil)) (fun _ _ _ _ _ => (by exact (pe_call G_more_lacks hr_more_lacks (by rfl) T.more_lacks.g T.more_lacks.fn.kp T.more_lacks.bd .nil pass0 (pa_cons (pv 0) (pa_cons (pv 7) (pa_cons (pv 3) pa_nil)))))))
        (pss_cons (ps_set (i := 6) sc_worst.nd rfl (Or.inl rfl) (pe_callB (cr_max rfl) (by rfl) T.max (by decide +kernel) (pa_cons (pv 5) pa_nil)))
        (pss_one (ps_ret (pe_tup (pa_cons (pv 6) (pa_cons (pe_ix ix_list (pv 4) (pe_bm PySem.F.plainAttrs_list PySem.F.slot_list_index PySem.F.type_list_index mt_index (pv 5) (pa_cons (pv 6) pa_nil)) (fun _ _ => rfl)) pa_nil))))))))))), ?_⟩
    refine ⟨_, rfl, n, rfl, n1, n8, ?_⟩
    refine ⟨_, rfl, _, rfl, p, k, rfl, hz, ?_⟩
    refine ⟨_, rfl, rule, rfl, ?_⟩
    -- rows
    refine ⟨_, rfl, _, rfl, p, k, rfl, hz, fun d as H1 hd has had s1 hd1 ra => ?_⟩
    have hl := rows_len p k
    have big : (allRows p k).length ≤ 4096 := by rw [hl]; exact hz.2.2.2 k (Nat.le_refl _)
    have pos : 0 < (allRows p k).length := by rw [hl]; exact Nat.pow_pos (by have := hz.1; omega)
    have rok : ∀ row ∈ allRows p k, RowOk row := fun row h => by
      have ⟨a1, a2⟩ := rows_ok p k row h
      have h3 := hz.2.2.1
      have h2 := hz.2.1
      exact ⟨by omega, fun x hx => by have := a2 x hx; omega⟩
    generalize allRows p k = rows at *
    -- counts
    refine ⟨_, rfl, d, rfl, ⟨_, SqL.of hd1⟩, fun c hc => ?_⟩
    refine lc_list (K := K) (a := d) (xs := as.map V.ref) (fun i H' => H' c = some (.lst (il ((rows.take i).map (moreL n.toNat rule)))) ∧ Same H1 H') ⟨upd_same, Same.new hc⟩ (fun i H' _ h => SqL.of (h.2 _ _ hd1)) ?_ ?_
    · rintro i y H2 hy ⟨hc2, s2⟩
      rw [List.getElem?_map] at hy
      cases ea : as[i]? with
      | none => rw [ea] at hy; cases hy
      | some a =>
        rw [ea] at hy
        cases Option.some.inj hy
        have hi : i < rows.length := by rw [← ra.len]; exact (List.getElem?_eq_some_iff.mp ea).1
        have er : rows[i]? = some (rows[i]'hi) := List.getElem?_eq_getElem hi
        have ha := s2 _ _ (ra.at_ i a _ ea er)
        have hro := rok _ (List.getElem_mem hi)
        rw [take_snoc er, List.map_append]
        generalize rows[i]'hi = row at *
        refine ⟨rfl, _, rfl, _, rfl, _, rfl, n, a, row, rule, rfl, n1, n8, SqL.of ha, hro, fun H3 s3 => ?_⟩
        refine ⟨_, s3 _ _ hc2, szl (by rw [il_len, List.length_map, List.length_take]; omega), ?_, Same.put (s2.trans s3) hc⟩
        rw [upd_same, il_snoc]
        rfl
    · rintro H2 ⟨hc2, s2⟩
      rw [List.take_of_length_le (by rw [List.length_map, ra.len]; exact Nat.le_refl _)] at hc2
      refine ⟨_, rfl, c, _, rfl, SqL.of hc2, by rw [List.length_map]; exact pos, fun m hm hmax => ?_⟩
      have ⟨i1, i2⟩ := idx_first hm
      obtain ⟨row, hr1, hw⟩ := worst_of i1 hmax i2
      have hd2 := s2 _ _ hd1
      have ra2 := ra.same s2
      have hj : (rows.map (moreL n.toNat rule)).idxOf m < as.length := by rw [ra.len]; exact (List.getElem?_eq_some_iff.mp hr1).1
      obtain ⟨a, ea⟩ : ∃ a, as[(rows.map (moreL n.toNat rule)).idxOf m]? = some a := ⟨_, List.getElem?_eq_getElem hj⟩
      have ha := ra2.at_ _ a row ea hr1
      have hma := List.mem_of_getElem? ea
      -- (most, rows[counts.index(most)])
      refine ⟨_, rfl, _, rfl, _, rfl, .inl ⟨rfl, _, SqL.of hc2⟩, _, rfl, c, _, _, (rows.map (moreL n.toNat rule)).idxOf m, V.int m, rfl, rfl, SqL.of hc2, rfl, flat_il _, il_at i1, by show (m == m) = true; simp, fun i z hi hz2 => ?_, d, _, _, _, rfl, rfl, SqL.of hd2, atI_nat (by rw [List.getElem?_map, ea]; rfl), szd rfl, fun t ht => ?_⟩
      · obtain ⟨x, hx, rfl⟩ := il_get hz2
        show (x == m) = false
        simpa using fun e => i2 i hi (by rw [← e]; exact hx)
      · have sT := Same.new (o := .tup [V.int m, V.ref a]) ht
        exact q t a m row _ (Same.back (s1.trans s2) ht) (has a hma) (Ne.symm (ne_fresh ha ht)) ((s1.trans s2).trans sT) upd_same (sT _ _ ha) hw
end
end CK

/-! What is refused by stretches' lacks, and by worst. -/
namespace CK
open PySem PySem.Spec PyProof.Rows L2 CKX
def spLiX (K : PySem.W.Frag) (c0 c1 c2 : Addr) : Sp := fun vs H Q E => ∃ (n : Int) (r : Addr) (row : List Int) (u : RuW), vs = [.int n, .ref r, .str u.s] ∧ u.At ∧ SqL K H r (il row) ∧ (¬ (1 ≤ n ∧ n ≤ 8) → E (.ref c0) none H) ∧
  (1 ≤ n → n ≤ 8 → ∀ i, badAt row 0 = some i → BadP c1 H E i) ∧ (1 ≤ n → n ≤ 8 → RowOk row → u.good = false → ∀ H', Same H H' → E (.ref c2) none H') ∧ (1 ≤ n → n ≤ 8 → RowOk row → u.good = true → AnyA H Q)
/-- too many rows, or too long ones -/
def tooM (p k : Nat) : Bool := decide (5000 < k) || decide (5000 < p ^ k)
def spTMX : Sp := fun vs H Q _ => ∃ p k : Nat, vs = [.int (p : Nat), .int (k : Nat)] ∧ 1 ≤ p ∧ p ≤ 12 ∧ Q (.bl (tooM p k)) H
def spCSX (c1 c3 : Addr) : Sp := fun vs H Q E => ∃ p k : Int, vs = [.int p, .int k] ∧ (¬ (1 ≤ p ∧ p ≤ 12 ∧ 0 ≤ k) → BadP c1 H E 0) ∧ (1 ≤ p → p ≤ 12 → 0 ≤ k → tooM p.toNat k.toNat = true → E (.ref c3) none H) ∧ (1 ≤ p → p ≤ 12 → 0 ≤ k → tooM p.toNat k.toNat = false → Q .non H)
/-- worst, of sizes or rules that are none -/
def spWoX (c0 c1 c2 c3 : Addr) : Sp := fun vs H Q E => ∃ (n p k : Int) (u : RuW), vs = [.int n, .int p, .int k, .str u.s] ∧ u.At ∧ (¬ (1 ≤ n ∧ n ≤ 8) → E (.ref c0) none H) ∧
  (1 ≤ n → n ≤ 8 → ¬ (1 ≤ p ∧ p ≤ 12 ∧ 0 ≤ k) → BadP c1 H E 0) ∧ (1 ≤ n → n ≤ 8 → 1 ≤ p → p ≤ 12 → 0 ≤ k → tooM p.toNat k.toNat = true → E (.ref c3) none H) ∧
  (1 ≤ n → n ≤ 8 → 1 ≤ p → p ≤ 12 → 0 ≤ k → tooM p.toNat k.toNat = false → u.good = false ∧ E (.ref c2) none H)
section
variable {P : Program} {w : World} {K : PySem.W.Frag} {mg : Str → Option Value} {base : Heap}
theorem ok_lacking_inX (T : Prog K mg) (Z : Errs P K mg){es : Array DictEntry} {nd : Nat} (TB_RULES : KDict K w T.a_RULES es nd) : FnOk P w K mg base (L2N.CX P w) 7 T.lacking_in.f T.lacking_in.fd ["rooms", "row", "rule"] (spLiX K Z.rooms Z.row Z.rule) := by
  have G_lacking := ok_lackingX (P := P) (w := w) (base := base) T Z TB_RULES
  have G_stretches := ok_stretches (P := P) (w := w) (base := base) T
  refine T.lacking_in.fn.ok sc_lacking_in (fun vs H Q E h => ?len) (fun cdv A outer s H vs Q E hr h => ?body)
  case len =>
    obtain ⟨n, r, row, u, rfl, _⟩ := h
    rfl
  case body =>
    have hr_lacking : Room 6 _ := hr.mono (by decide)
    have hr_stretches : Room 3 _ := hr.mono (by decide)
    have hu := hu_of hr
    obtain ⟨n, r, row, u, rfl, ua, hS, kr, kb, ku, k⟩ := h
    refine ⟨_, (pss_cons (ps_set (i := 3) sc_lacking_in.nd rfl (Or.inr rfl) (pe_call G_lacking hr_lacking (by rfl) T.lacking.g T.lacking.fn.kp T.lacking.bd .nil (L2N.passes_call (W := fun cls d _ H => E cls d H) (E := E) (L2N.takes_of rfl rfl rfl rfl) (fun _ _ _ _ h => h)) (pa_cons (pv 0) (pa_cons (pv 1) (pa_cons (pv 2) pa_nil)))))
        (pss_one (ps_ret (pe_lc (own := [("begin", 4), ("end", 5)]) (g := gTup K 2 (gCons (gName 4) (gCons (gName 5) gNil))) (tt := tYes) (te := (tCB (rLenQ K) (tCons (tLc (iList K (tVar 3)) (gName 6) (tTest (tChain _ _ (tVar 4) (tVar 6) (tVar 5))) (tVar 6) [6]) tNil))) rfl sc_lacking_in.nd ((pi_list (pe_call G_stretches hr_stretches (by rfl) T.stretches.g T.stretches.fn.kp T.stretches.bd .nil pass0 (pa_cons (pv 0) (pa_cons (pv 1) pa_nil))))) (blkOk_by (own := [("begin", 4), ("end", 5)]) (N := ["rooms", "row", "rule", "lacks", "begin", "end", "place"]) (sc := defScope (top 42)) (by decide +kernel)) (fun _ _ _ _ _ => (by exact (pg_tup rfl (pgs_cons (pg_name (i := 4) sc_lacking_in.nd rfl (Or.inr rfl)) (pgs_cons (pg_name (i := 5) sc_lacking_in.nd rfl (Or.inr rfl)) pgs_nil))))) (fun _ _ _ _ _ => (by exact pts_nil)) (fun _ _ _ _ _ => (by exact (pe_callB call_len_seq (by rfl) T.len PySem.boot_len (pa_cons (pe_lc (own := [("place", 6)]) (g := gName 6) rfl sc_lacking_in.nd ((pi_list (pv 3))) (blkOk_by (own := [("place", 6)]) (by kernel_rfl)) (fun _ _ _ _ _ => (by exact (pg_name (i := 6) sc_lacking_in.nd rfl (Or.inl rfl)))) (fun _ _ _ _ _ => (by exact (pts_one (pt_chain op_le op_lt (pv 4) (pv 6) (pv 5))))) (fun _ _ _ _ _ => (by exact (pv 6)))) pa_nil)))))))), ?_⟩
    refine ⟨_, rfl, _, rfl, _, rfl, n, r, row, u, rfl, ua, hS, kr, kb, ku, fun n1 n8 hR rule eu l H1 hl s1 hl1 => ?_⟩
    have hll := lacksR_le n.toNat rule row
    have hpl := parts_le n.toNat row
    have hR1 := hR.1
    generalize hL : lacksR n.toNat rule row = ls at *
    refine ⟨_, rfl, _, rfl, n, r, row, rfl, n1, n8, s1.seq hS, hR, fun d as H2 hd s2 hd2 hp2 => ?_⟩
    generalize hX : parts n.toNat row = xs at *
    refine ⟨d, rfl, ⟨_, SqL.of hd2⟩, fun D hD => ?_⟩
    refine lc_list (K := K) (a := d) (xs := as.map V.ref) (fun i H' => H' D = some (.lst (NL (countIn ls (xs.take i)))) ∧ Same H2 H') ⟨upd_same, Same.new hD⟩ (fun i H' _ h => SqL.of (h.2 _ _ hd2)) ?_ ?_
    · rintro i y H3 hy ⟨hD3, s3⟩
      rw [List.getElem?_map] at hy
      cases ea : as[i]? with
      | none => rw [ea] at hy; cases hy
      | some a =>
        rw [ea] at hy
        have ey := Option.some.inj hy
        subst ey
        have hi : i < xs.length := by rw [← hp2.len]; exact (List.getElem?_eq_some_iff.mp ea).1
        have ex : xs[i]? = some (xs[i]'hi) := List.getElem?_eq_getElem hi
        have ha := s3 _ _ (hp2.at_ i a _ ea ex)
        rw [countIn_snoc ex]
        generalize xs[i]'hi = x at *
        refine ⟨a, _, rfl, SqT.of ha, rfl, _, _, rfl, _, _, rfl, rfl, ⟨rfl, ?_⟩⟩
        have hl3 := (s2.trans s3) _ _ hl1
        refine ⟨_, rfl, l, rfl, ⟨_, SqL.of hl3⟩, fun E hE => ?_⟩
        refine lc_list (K := K) (a := l) (xs := NL ls) (fun t H' => H' E = some (.lst (NL ((ls.take t).filter fun z => decide (x.1 ≤ z) && decide (z < x.2)))) ∧ Same H3 H') ⟨upd_same, Same.new hE⟩ (fun t H' _ h => SqL.of (h.2 _ _ hl3)) ?_ ?_
        · rintro t y H4 hy ⟨hE4, s4⟩
          obtain ⟨z, hz, rfl⟩ := NL_at hy
          have hle := List.length_filter_le (fun z => decide (x.1 ≤ z) && decide (z < x.2)) (ls.take t)
          rw [List.length_take] at hle
          rw [take_snoc hz, List.filter_append]
          refine ⟨rfl, _, rfl, _, rfl, _, _, rfl, rfl, _, rfl, ?_⟩
          by_cases c1 : x.1 ≤ z
          · refine ifT (decide_eq_true (by omega)) ⟨_, rfl, _, _, rfl, rfl, _, rfl, ?_⟩
            by_cases c2 : z < x.2
            · refine ifT (decide_eq_true (by omega)) ⟨_, rfl, _, hE4, szl (by rw [List.length_map]; omega), ?_, Same.put s4 hE⟩
              rw [upd_same, NL_snoc]
              simp [c1, c2]
            · refine ifF (decide_eq_false (by omega)) ⟨?_, s4⟩
              simpa [c1, c2] using hE4
          · refine ifF (decide_eq_false (by omega)) ⟨_, rfl, iteF ⟨?_, s4⟩⟩
            simpa [c1] using hE4
        · rintro H4 ⟨hE4, s4⟩
          rw [List.take_of_length_le (by simp)] at hE4
          have hcl : (countIn ls (xs.take i)).length ≤ i := by
            unfold countIn
            rw [List.length_map, List.length_take]
            omega
          refine ⟨E, _, rfl, .inl (SqL.of hE4), _, s4 _ _ hD3, szl (by rw [List.length_map]; omega), ?_, Same.put (s3.trans s4) hD⟩
          rw [upd_same, List.length_map, NL_snoc]
    · rintro H3 ⟨hD3, s3⟩
      rw [List.take_of_length_le (by rw [List.length_map, hp2.len]; exact Nat.le_refl _)] at hD3
      exact k n1 n8 hR (by rw [eu]; rfl) _ H3 ((s1.trans s2).trans s3)
theorem ok_are_too_manyX (T : Prog K mg) (Z : Errs P K mg) : FnOk P w K mg base (L2N.CX P w) 1 T.are_too_many.f T.are_too_many.fd ["pages", "long"] spTMX := by
  refine T.are_too_many.fn.ok sc_are_too_many (fun vs H Q E h => ?len) (fun cdv A outer s H vs Q E hr h => ?body)
  case len =>
    obtain ⟨p, k, rfl, _⟩ := h
    rfl
  case body =>
    have hu := hu_of hr
    obtain ⟨p, k, rfl, p1, p12, q⟩ := h
    refine ⟨_, (pss_cons (ps_if (pt_cmpR op_gt (pv 1) (pe_glob (v := L2.V.int 5000) rfl T.g_LONGEST ⟨_, rfl⟩) (nomark _))
        (pss_one (ps_ret pe_bl))
        pss_nil)
        (pss_cons (ps_set (i := 2) sc_are_too_many.nd rfl (Or.inl rfl) pe_int)
        (pss_cons (ps_for (by exact PassesOwn.leaving) rfl (pi_range1 (by rfl) T.range (pa_cons (pv 1) pa_nil)) (pg_name (i := 3) sc_are_too_many.nd rfl (Or.inl rfl))
        (pss_cons (ps_aug (i := 2) sc_are_too_many.nd rfl (Or.inl rfl) (pv 0) iop_mul)
        (pss_one (ps_if (pt_cmpR op_gt (pv 2) (pe_glob (v := L2.V.int 5000) rfl T.g_MOST_ROWS ⟨_, rfl⟩) (nomark _))
        (pss_one (ps_ret pe_bl))
        pss_nil))))
        (pss_one (ps_ret pe_bl))))), ?_⟩
    refine ⟨_, rfl, _, _, rfl, rfl, _, rfl, ?_⟩
    by_cases hk : 5000 < k
    · refine ifT (decide_eq_true (by omega)) ?_
      have e : tooM p k = true := by unfold tooM; rw [decide_eq_true hk]; rfl
      rw [e] at q
      exact q
    · refine ifF (decide_eq_false (by omega)) ?_
      refine ⟨_, rfl, _, rfl, by omega, by omega, for_range (lo := 0) (n := ((k : Nat) : Int).toNat) (fun i σ H' => (∃ v3, σ = [some (.int (p : Nat)), some (.int (k : Nat)), some (.int ((p ^ i : Nat) : Int)), v3]) ∧ H' = H ∧ p ^ i ≤ 5000) ⟨⟨_, rfl⟩, rfl, by rw [Nat.pow_zero]; omega⟩ ?_ ?_⟩
      · rintro i σ H' hi ⟨⟨v3, rfl⟩, rfl, hz⟩
        have e : ((p ^ i : Nat) : Int) * (p : Int) = ((p ^ (i + 1) : Nat) : Int) := by rw [Nat.pow_succ, Int.natCast_mul]
        refine ⟨_, rfl, _, rfl, _, _, rfl, rfl, .inl ⟨by omega, by omega⟩, ?_⟩
        dsimp only
        rw [e]
        refine ⟨_, rfl, _, _, rfl, rfl, _, rfl, ?_⟩
        by_cases h2 : 5000 < p ^ (i + 1)
        · refine ifT (decide_eq_true (by omega)) ?_
          have le := Nat.pow_le_pow_right p1 (show i + 1 ≤ k by omega)
          have e : tooM p k = true := by unfold tooM; rw [decide_eq_true (show 5000 < p ^ k by omega)]; simp
          rw [e] at q
          exact q
        · exact ifF (decide_eq_false (by omega)) ⟨⟨_, rfl⟩, rfl, by omega⟩
      · rintro σ H' ⟨⟨v3, rfl⟩, rfl, hz⟩
        have ek : ((k : Nat) : Int).toNat = k := by omega
        rw [ek] at hz
        have e : tooM p k = false := by unfold tooM; rw [decide_eq_false hk, decide_eq_false (by omega)]; rfl
        rw [e] at q
        exact q
theorem ok_check_sizeX (T : Prog K mg) (Z : Errs P K mg) : FnOk P w K mg base (L2N.CX P w) 2 T.check_size.f T.check_size.fd ["pages", "long"] (spCSX Z.row Z.many) := by
  have G_are_too_many := ok_are_too_manyX (P := P) (w := w) (base := base) T Z
  refine T.check_size.fn.ok sc_check_size (fun vs H Q E h => ?len) (fun cdv A outer s H vs Q E hr h => ?body)
  case len =>
    obtain ⟨p, k, rfl, _⟩ := h
    rfl
  case body =>
    have hr_are_too_many : Room 1 _ := hr.mono (by decide)
    have hu := hu_of hr
    obtain ⟨p, k, rfl, kb, km, q⟩ := h
    refine ⟨_, (pss_cons (ps_if (PW.pt (pw_or (pt_not (pt_chain op_le op_le pe_int (pv 0) (pe_glob (v := L2.V.int 12) rfl T.g_PAGES ⟨_, rfl⟩))) (pw_or1 (pt_cmpR op_lt (pv 1) pe_int (nomark _)))))
        (pss_one (L2N.ps_raise rfl (L2N.takes_of rfl rfl rfl rfl) (pmk_br Z.br (dep1 hr) (pa_cons pe_int pa_nil))))
        pss_nil)
        (pss_one (ps_if (pt_val (pe_call G_are_too_many hr_are_too_many (by rfl) T.are_too_many.g T.are_too_many.fn.kp T.are_too_many.bd .nil (L2N.passes_call (W := fun cls d _ H => E cls d H) (E := E) (L2N.takes_of rfl rfl rfl rfl) (fun _ _ _ _ h => h)) (pa_cons (pv 0) (pa_cons (pv 1) pa_nil))))
        (pss_one (L2N.ps_raise rfl (L2N.takes_of rfl rfl rfl rfl) (pmk_plain Z.pMany Z.iMany.ec.hs Z.gMany (by rfl))))
        pss_nil))), ?_⟩
    have bad : ¬ (1 ≤ p ∧ p ≤ 12 ∧ 0 ≤ k) → ∀ d, H d = none → E (.ref Z.row) (some d) (upd H d (xdP 0)) := fun h d hd => kb h _ d (Same.new hd) upd_same hd
    have small : (0 : Int).natAbs < 10 ^ 10 := by decide
    refine ⟨_, rfl, _, _, rfl, rfl, _, rfl, ?_⟩
    by_cases h1 : 1 ≤ p
    · refine ifT (decide_eq_true h1) ⟨_, _, rfl, rfl, _, rfl, ?_⟩
      by_cases h2 : p ≤ 12
      · refine ifF (by rw [decide_eq_true h2]; rfl) ⟨_, rfl, _, _, rfl, rfl, _, rfl, ?_⟩
        by_cases h3 : k < 0
        · exact ifT (decide_eq_true h3) ⟨0, rfl, small, bad (fun z => by omega)⟩
        · refine ifF (decide_eq_false h3) ⟨_, rfl, _, rfl, p.toNat, k.toNat, ?_, by omega, by omega, _, rfl, ?_⟩
          · have ep : p = ((p.toNat : Nat) : Int) := by omega
            have ek : k = ((k.toNat : Nat) : Int) := by omega
            rw [← ep, ← ek]; rfl
          · cases ht : tooM p.toNat k.toNat with
            | true => exact ifT rfl (km h1 h2 (by omega) ht)
            | false => exact ifF rfl (q h1 h2 (by omega) ht)
      · exact ifT (by rw [decide_eq_false h2]; rfl) ⟨0, rfl, small, bad (fun z => h2 z.2.1)⟩
    · exact ifF (decide_eq_false h1) ⟨_, rfl, ifT rfl ⟨0, rfl, small, bad (fun z => h1 z.1)⟩⟩
theorem ok_worstX (T : Prog K mg) (Z : Errs P K mg){es : Array DictEntry} {nd : Nat} (TB_RULES : KDict K w T.a_RULES es nd) : FnOk P w K mg base (L2N.CX P w) 7 T.worst.f T.worst.fd ["rooms", "pages", "long", "rule"] (spWoX Z.rooms Z.row Z.rule Z.many) := by
  have G_check_rooms := ok_check_roomsX (P := P) (w := w) (base := base) T Z
  have G_check_size := ok_check_sizeX (P := P) (w := w) (base := base) T Z
  have G_check_rule := ok_check_ruleX (P := P) (w := w) (base := base) T Z TB_RULES
  have G_all_rows := ok_all_rows (P := P) (w := w) (base := base) T
  have G_more_lacks := ok_more_lacks (P := P) (w := w) (base := base) T TB_RULES
  refine T.worst.fn.ok sc_worst (fun vs H Q E h => ?len) (fun cdv A outer s H vs Q E hr h => ?body)
  case len =>
    obtain ⟨n, p, k, u, rfl, _⟩ := h
    rfl
  case body =>
    have hr_check_rooms : Room 1 _ := hr.mono (by decide)
    have hr_check_size : Room 2 _ := hr.mono (by decide)
    have hr_check_rule : Room 1 _ := hr.mono (by decide)
    have hr_all_rows : Room 1 _ := hr.mono (by decide)
    have hr_more_lacks : Room 6 _ := hr.mono (by decide)
    have hu := hu_of hr
    obtain ⟨n, p, k, u, rfl, ua, kr, kb, km, ku⟩ := h
    refine ⟨_, (pss_cons (ps_expr (pe_call G_check_rooms hr_check_rooms (by rfl) T.check_rooms.g T.check_rooms.fn.kp T.check_rooms.bd .nil (L2N.passes_call (W := fun cls d _ H => E cls d H) (E := E) (L2N.takes_of rfl rfl rfl rfl) (fun _ _ _ _ h => h)) (pa_cons (pv 0) pa_nil)))
        (pss_cons (ps_expr (pe_call G_check_size hr_check_size (by rfl) T.check_size.g T.check_size.fn.kp T.check_size.bd .nil (L2N.passes_call (W := fun cls d _ H => E cls d H) (E := E) (L2N.takes_of rfl rfl rfl rfl) (fun _ _ _ _ h => h)) (pa_cons (pv 1) (pa_cons (pv 2) pa_nil))))
        (pss_cons (ps_expr (pe_call G_check_rule hr_check_rule (by rfl) T.check_rule.g T.check_rule.fn.kp T.check_rule.bd .nil (L2N.passes_call (W := fun cls d _ H => E cls d H) (E := E) (L2N.takes_of rfl rfl rfl rfl) (fun _ _ _ _ h => h)) (pa_cons (pv 3) pa_nil)))
        (pss_cons (ps_set (i := 4) sc_worst.nd rfl (Or.inl rfl) (pe_call G_all_rows hr_all_rows (by rfl) T.all_rows.g T.all_rows.fn.kp T.all_rows.bd .nil pass0 (pa_cons (pv 1) (pa_cons (pv 2) pa_nil))))
        (pss_cons (ps_setLc (i := 5) (own := [("row", 7)]) (g := gName 7) rfl sc_worst.nd rfl rfl (sw_true rfl rfl rfl (by decide +kernel)) ((pi_list (pv 4))) (blkOk_by (own := [("row", 7)]) (N := ["rooms", "pages", "long", "rule", "rows", "counts", "most", "row"]) (sc := defScope (top 47)) (by decide +kernel)) (fun _ _ _ _ _ => (by exact (pg_name (i := 7) sc_worst.nd rfl (Or.inl rfl)))) (fun _ _ _ _ _ => (by exact pts_nil)) (fun _ _ _ _ _ => (by exact (pe_call G_more_lacks hr_more_lacks (by rfl) T.more_lacks.g T.more_lacks.fn.kp T.more_lacks.bd .nil pass0 (pa_cons (pv 0) (pa_cons (pv 7) (pa_cons (pv 3) pa_nil)))))))
        (pss_cons (ps_set (i := 6) sc_worst.nd rfl (Or.inl rfl) (pe_callB (cr_max rfl) (by rfl) T.max (by decide +kernel) (pa_cons (pv 5) pa_nil)))
        (pss_one (ps_ret (pe_tup (pa_cons (pv 6) (pa_cons (pe_ix ix_list (pv 4) (pe_bm PySem.F.plainAttrs_list PySem.F.slot_list_index PySem.F.type_list_index mt_index (pv 5) (pa_cons (pv 6) pa_nil)) (fun _ _ => rfl)) pa_nil))))))))))), ?_⟩
    refine ⟨_, rfl, n, rfl, fun n1 n8 => ?_, kr⟩
    refine ⟨_, rfl, _, rfl, p, k, rfl, kb n1 n8, km n1 n8, fun p1 p12 k0 ht => ?_⟩
    obtain ⟨hg, he⟩ := ku n1 n8 p1 p12 k0 ht
    exact ⟨_, rfl, u, rfl, ua, fun z => (by rw [hg] at z; cases z), fun _ => he⟩
end
end CK

/-! A dial of rooms that are none: refused. -/
namespace CK
open PySem PySem.Spec PyProof.Rows L2 CKX
def spDIX (c0 C : Addr) : Sp := fun vs H Q E => ∃ (p dx : Addr) (n : Int), vs = [.ref p, .int n] ∧ H p = some (.ins C dx []) ∧ (¬ (1 ≤ n ∧ n ≤ 8) → E (.ref c0) none H) ∧
  (1 ≤ n → n ≤ 8 → ∀ (a b : Addr) (H' : Hp), H a = none → H b = none → DialIs C H' p a b (DS.new n.toNat) → But [p] H H' → Q .non H')
section
variable {P : Program} {w : World} {K : PySem.W.Frag} {mg : Str → Option Value} {base : Heap}
theorem ok_Dial_initX (T : Prog K mg) (Z : Errs P K mg) : FnOk P w K mg base (L2N.CX P w) 2 T.Dial.init.f T.Dial.init.fd ["self", "rooms"] (spDIX Z.rooms T.Dial.C) := by
  have G_check_rooms := ok_check_roomsX (P := P) (w := w) (base := base) T Z
  refine T.Dial.init.fn.ok sc_Dial_init (fun vs H Q E h => ?len) (fun cdv A outer s H vs Q E hr h => ?body)
  case len =>
    obtain ⟨p, dx, n, rfl, _⟩ := h
    rfl
  case body =>
    have hr_check_rooms : Room 1 _ := hr.mono (by decide)
    have hu := hu_of hr
    obtain ⟨p, dx, n, rfl, hp, kr, k⟩ := h
    refine ⟨_, (pss_cons (ps_expr (pe_call G_check_rooms hr_check_rooms (by rfl) T.check_rooms.g T.check_rooms.fn.kp T.check_rooms.bd .nil (L2N.passes_call (W := fun cls d _ H => E cls d H) (E := E) (L2N.takes_of rfl rfl rfl rfl) (fun _ _ _ _ h => h)) (pa_cons (pv 1) pa_nil)))
        (pss_cons (ps_fld (pv 0) (pe_op op_rep (pe_lst (pa_cons pe_non pa_nil)) (pv 1)) rfl)
        (pss_cons (ps_fld (pv 0) (pe_op op_rep (pe_lst (pa_cons pe_bl pa_nil)) (pv 1)) rfl)
        (pss_cons (ps_fld (pv 0) pe_int rfl)
        (pss_one (ps_fld (pv 0) pe_int rfl)))))), ?_⟩
    refine ⟨_, rfl, n, rfl, fun n1 n8 => ?_, kr⟩
    have k := k n1 n8
    -- self._held = [None] * rooms
    refine ⟨szd rfl, fun e he => ?_⟩
    have pe : p ≠ e := ne_fresh hp he
    refine ⟨_, rfl, e, n, _, rfl, rfl, upd_same, by omega, by omega, sz (by show 1 * n.toNat ≤ 100000; omega), fun a ha => ?_⟩
    have s1 : Same H (upd H e (.lst [.non])) := Same.new he
    have haH := Same.back s1 ha
    have hp1 : upd H e (.lst [.non]) p = some (.ins T.Dial.C dx []) := s1 _ _ hp
    have pa : p ≠ a := ne_fresh hp1 ha
    have ea : e ≠ a := ne_fresh (H := upd H e (.lst [.non])) upd_same ha
    refine ⟨_, rfl, p, _, dx, _, rfl, by rw [upd_ne pa]; exact hp1, T.Dial.cl, T.Dial.n_held, by show 0 < 1000; decide, ?_⟩
    -- self._marks = [False] * rooms
    refine ⟨szd rfl, fun e2 he2 => ?_⟩
    have pe2 : p ≠ e2 := ne_fresh upd_same he2
    have ae2 : a ≠ e2 := ne_fresh (by rw [upd_ne (Ne.symm pa)]; exact upd_same) he2
    refine ⟨_, rfl, e2, n, _, rfl, rfl, upd_same, by omega, by omega, sz (by show 1 * n.toNat ≤ 100000; omega), fun b hb => ?_⟩
    have pb : p ≠ b := ne_fresh (by rw [upd_ne pe2]; exact upd_same) hb
    have ab : a ≠ b := ne_fresh (by rw [upd_ne ae2, upd_ne (Ne.symm pa)]; exact upd_same) hb
    refine ⟨_, rfl, p, _, dx, _, rfl, by rw [upd_ne pb, upd_ne pe2]; exact upd_same, T.Dial.cl, T.Dial.n_marks, by show 1 < 1000; decide, ?_⟩
    -- self._hand = 0; self._lacks = 0
    refine ⟨_, rfl, p, _, dx, _, rfl, upd_same, T.Dial.cl, T.Dial.n_hand, by show 2 < 1000; decide, ?_⟩
    refine ⟨_, rfl, p, _, dx, _, rfl, upd_same, T.Dial.cl, T.Dial.n_lacks, by show 3 < 1000; decide, ?_⟩
    rw [upd_upd, upd_upd]
    have bH : H b = none := by
      have q := hb
      by_cases z1 : b = e2
      · rw [z1] at q; rw [upd_same] at q; cases q
      rw [upd_ne z1, upd_ne (Ne.symm pb), upd_ne (Ne.symm ab)] at q
      exact Same.back s1 q
    refine k a b _ haH bH ⟨ab, ⟨dx, ?_⟩, ?_, ?_⟩ ?_
    · rw [upd_same]; rfl
    · rw [upd_ne (Ne.symm pa), upd_ne ab, upd_ne ae2, upd_ne (Ne.symm pa), upd_same, rep_one, hl_new]
    · rw [upd_ne (Ne.symm pb), upd_same, rep_one, bl_new]
    · intro c o hc hn
      have c1 : c ≠ p := by simpa using hn
      have c2 : c ≠ e := ne_fresh hc he
      have c3 : c ≠ a := ne_fresh hc haH
      have c4 : c ≠ b := ne_fresh hc bH
      have c5 : c ≠ e2 := by
        intro z
        rw [z] at hc c1 c3
        rw [upd_ne c1, upd_ne c3] at he2
        have := s1 _ _ hc
        rw [he2] at this
        cases this
      rw [upd_ne c1, upd_ne c4, upd_ne c5, upd_ne c1, upd_ne c3, upd_ne c2]
      exact hc
end
end CK

/-! What a call with nothing handed in comes to: an answer, or one of the refusals. -/
namespace CK
open PySem PySem.Spec PyProof.Rows L2 CKX CKL LamX NdefX
inductive Out where
  | fine | rooms | row (i : Nat) | rule | many
def ErrIs (c0 c1 c2 c3 : Addr) (o : Out) (cls : Value) (d : Option Addr) (H : Hp) : Prop := match o with
  | .fine => False
  | .rooms => cls = .ref c0 ∧ d = none
  | .row i => cls = .ref c1 ∧ ∃ dd, d = some dd ∧ H dd = some (xdP i)
  | .rule => cls = .ref c2 ∧ d = none
  | .many => cls = .ref c3 ∧ d = none
/-- the ends, by what comes out -/
structure EndsO (c0 c1 c2 c3 : Addr) (H : Hp) (Q : VK) (E : XK) (o : Out) : Prop where
  any : o = .fine → AnyA H Q
  rooms : o = .rooms → ∀ H', Same H H' → E (.ref c0) none H'
  row : ∀ i, o = .row i → BadP c1 H E i
  rule : o = .rule → ∀ H', Same H H' → E (.ref c2) none H'
  many : o = .many → ∀ H', Same H H' → E (.ref c3) none H'
/-- f is a function of nothing, which, called now or later, comes to o -/
structure RefK (P : Program) (w : World) (K : PySem.W.Frag) (mg : Str → Option Value) (base : Heap) (k : Nat) (c0 c1 c2 c3 : Addr) (H : Hp) (f : Addr) (o : Out) : Prop where
  fn : ∃ F, H f = some (LamO f F)
  gives : ∀ H', Grow H H' → Gives P w K mg base k f H' (fun _ H2 => o = .fine ∧ Same H' H2) (fun cls d H2 => ErrIs c0 c1 c2 c3 o cls d H2 ∧ Same H' H2)
section
variable {P : Program} {w : World} {K : PySem.W.Frag} {mg : Str → Option Value} {base : Heap} {k : Nat} {c0 c1 c2 c3 : Addr} {H H' : Hp} {f : Addr} {o : Out}
theorem RefK.grow (r : RefK P w K mg base k c0 c1 c2 c3 H f o) (g : Grow H H') : RefK P w K mg base k c0 c1 c2 c3 H' f o :=
  ⟨(let ⟨F, e⟩ := r.fn; ⟨F, g.at e lamO_ne⟩), fun H2 g2 => r.gives H2 (g.trans g2)⟩
theorem same_unh {C : List Addr} {H2 : Hp} (s : Same (hid H C) H2) : Same H (unh H C H2) := fun b o e => by
  by_cases hb : b ∈ C
  · rw [unh_in hb]; exact e
  · rw [unh_out hb]
    exact s b o (by rw [hid_out hb]; exact e)
/-- the ends within the call -/
theorem endsO_of {C : List Addr} : EndsO c0 c1 c2 c3 (hid H C) (fun v H2 => (∀ b ∈ C, H2 b = none) → o = .fine ∧ Same H (unh H C H2)) (fun cls d H2 => (∀ b ∈ C, H2 b = none) → ErrIs c0 c1 c2 c3 o cls d (unh H C H2) ∧ Same H (unh H C H2)) o where
  any := fun e v H2 s _ => ⟨e, same_unh s⟩
  rooms := fun e H2 s _ => ⟨by rw [e]; exact ⟨rfl, rfl⟩, same_unh s⟩
  row := fun i e H2 d s hd _ gone => ⟨by
    rw [e]
    refine ⟨rfl, d, rfl, ?_⟩
    rw [unh_out (fun z => by rw [gone d z] at hd; cases hd)]
    exact hd, same_unh s⟩
  rule := fun e H2 s _ => ⟨by rw [e]; exact ⟨rfl, rfl⟩, same_unh s⟩
  many := fun e H2 s _ => ⟨by rw [e]; exact ⟨rfl, rfl⟩, same_unh s⟩
theorem seq_hid {C : List Addr} {a : Addr} {xs : List V} (F : Frz H C) (h : SqL K H a xs) : SqL K (hid H C) a xs := by
  rcases h with h | h
  · rcases h with h | ⟨o, h⟩
    · exact .inl (.inl (F.hid h fun _ _ z => by cases z))
    · refine .inl (.inr ⟨o, ?_⟩)
      rw [hid_out (fun z => by
        obtain ⟨u, q⟩ := F a z
        rw [h] at q
        cases q)]
      exact h
  · exact .inr h
abbrev nfL (q : Str) (L : Expr) (cl : List (Str × Addr)) (c : Addr) : NF := ⟨"<lambda>", q, lamArgs L, [], lamScope L, cl, c⟩
variable {q : Str} {L : Expr} {cl : List (Str × Addr)} {N fr : List Str} {ws : List V}
/-- a lambda without a parameter -/
theorem lam_ref0 (la : LamAt H q L cl f) (hd : (lamArgs L).defaults = []) (S : nscB N [] fr (lamScope L) = true) (C : CellsF H cl fr ws)
    (hb : ∀ (q : Str) (cl : List (Str × Addr)) (doc pm cd ct : Value), bindArgs (PySem.W.kdv_fn "<lambda>" q (lamArgs L) (.expr (lamBody L)) (lamScope L) cl .none doc pm cd ct) ⟨[], []⟩ = pure [])
    (hbody : ∀ (H' : Hp) (c' : Addr) (A : Around) (outer : List Env) (s : Shared) (Q : VK) (E : XK), Grow H H' → Frz H' (addrs cl) → Room k (A.deeper (envF (nfL q L cl c') f s.heap.objs.size)) → EndsO c0 c1 c2 c3 (hid H' (addrs cl)) Q E o →
      ∃ t, PE (ncx (L2N.CX P w) P w K mg base N (nfL q L cl c') f A outer s (hid H' (addrs cl)) E) (lamBody L) t ∧ t (startF N [] (ws.map some)) (hid H' (addrs cl)) Q) :
    RefK P w K mg base (k + 1) c0 c1 c2 c3 H f o := by
  obtain ⟨c', dV, h1, h2, h3⟩ := la
  rcases h3 with ⟨_, rfl⟩ | ⟨h3, _⟩
  · refine ⟨⟨_, h1⟩, fun H' g => ?_⟩
    have C' := C.grow g
    exact lam_gives (F := ⟨q, lamArgs L, lamBody L, lamScope L, cl, c', .none⟩) (N := N) (ps := []) (fr := fr) (vs := []) (ws := ws) (nscope_by S) (g.at h1 lamO_ne) (g.at h2 codeO_ne) rfl (fun s doc pm ctv _ => ⟨[], .nil, BindsTo.of_eq (hb _ _ _ _ _ _)⟩) C' fun A outer s hr => hbody H' c' A outer s _ _ g (cellsF_frz C') hr endsO_of
  · exact absurd hd h3
/-- a lambda with one parameter, whose default is 0 -/
theorem lam_ref1 {x : Str} (la : LamAt H q L cl f) (hd : (lamArgs L).defaults ≠ []) (S : nscB N [x] fr (lamScope L) = true) (C : CellsF H cl fr ws)
    (hb : ∀ (q : Str) (cl : List (Str × Addr)) (T : Addr) (doc pm cd ct u : Value), ∃ kk, bindArgs (PySem.W.kdv_fn "<lambda>" q (lamArgs L) (.expr (lamBody L)) (lamScope L) cl (.ref T) doc pm cd ct) ⟨[], []⟩ = seqItems? (.ref T) >>= kk ∧ kk (some [u].toArray) = pure [(x, u)])
    (hbody : ∀ (H' : Hp) (c' : Addr) (A : Around) (outer : List Env) (s : Shared) (Q : VK) (E : XK), Grow H H' → Frz H' (addrs cl) → Room k (A.deeper (envF (nfL q L cl c') f s.heap.objs.size)) → EndsO c0 c1 c2 c3 (hid H' (addrs cl)) Q E o →
      ∃ t, PE (ncx (L2N.CX P w) P w K mg base N (nfL q L cl c') f A outer s (hid H' (addrs cl)) E) (lamBody L) t ∧ t (startF N [.int 0] (ws.map some)) (hid H' (addrs cl)) Q) :
    RefK P w K mg base (k + 1) c0 c1 c2 c3 H f o := by
  obtain ⟨c', dV, h1, h2, h3⟩ := la
  rcases h3 with ⟨h3, _⟩ | ⟨_, t, rfl, ht⟩
  · exact absurd h3 hd
  · refine ⟨⟨_, h1⟩, fun H' g => ?_⟩
    have C' := C.grow g
    have ht' := g.at ht
    refine lam_gives (F := ⟨q, lamArgs L, lamBody L, lamScope L, cl, c', .ref t⟩) (N := N) (ps := [x]) (fr := fr) (vs := [.int 0]) (ws := ws) (nscope_by S) (g.at h1 lamO_ne) (g.at h2 codeO_ne) rfl (fun s doc pm ctv hok => ?_) C' fun A outer s hr => hbody H' c' A outer s _ _ g (cellsF_frz C') hr endsO_of
    obtain ⟨_, its, r, o, ho, _, n, hdat⟩ := hok t _ ht'
    cases r with
    | cons r1 r2 =>
      cases r2
      rename_i u
      obtain ⟨kk, e1, e2⟩ := hb q cl t doc pm (.ref c') ctv u
      exact ⟨[u], .cons r1 .nil, BindsTo.of_defaults (T := t) (o := o) rfl ho hdat e1 e2⟩
end
/-! ### where the lambdas stand -/
def testE : Stmt → Expr
  | .If c _ _ _ => c
  | _ => .Name "" ⟨0, 0, 0, 0⟩
def notE : Expr → Expr
  | .UnaryOp _ e _ => e
  | e => e
def argE (i : Nat) : Expr → Expr
  | .Call _ es _ _ => es.getD i (.Name "" ⟨0, 0, 0, 0⟩)
  | e => e
def itemE (i : Nat) : Expr → Expr
  | .List es _ => es.getD i (.Name "" ⟨0, 0, 0, 0⟩)
  | e => e
def rightE : Expr → Expr
  | .BinOp _ _ r _ => r
  | e => e
def leftE : Expr → Expr
  | .Compare l _ _ _ => l
  | e => e
end CK

/-! The seven functions over rooms and a row. -/
namespace CK
open PySem PySem.Spec PyProof.Rows L2 CKX CKL LamX NdefX
theorem badAt_ok' : ∀ {row : List Int} {i : Nat}, row.length + i ≤ 100 → (∀ p ∈ row, 0 ≤ p ∧ p < 12) → badAt row i = none
  | [], _, _, _ => rfl
  | p :: r, i, h, hp => by
    rw [List.length_cons] at h
    rw [badAt_cons, if_neg (fun z => z.elim (fun e => by omega) fun y => y (hp p List.mem_cons_self))]
    exact badAt_ok' (by omega) fun q hq => hp q (List.mem_cons_of_mem _ hq)
theorem badAt_ok {row : List Int} (h : RowOk row) : badAt row 0 = none := badAt_ok' h.1 h.2
def oRow (row : List Int) (e : Out) : Out := match badAt row 0 with
  | some i => .row i
  | none => e
theorem oRow_bad {row : List Int} {e : Out} {i : Nat} (h : badAt row 0 = some i) : oRow row e = .row i := by unfold oRow; rw [h]
theorem oRow_ok {row : List Int} {e : Out} (h : RowOk row) : oRow row e = e := by unfold oRow; rw [badAt_ok h]
def oIn (n : Int) (e : Out) : Out := if 1 ≤ n ∧ n ≤ 8 then e else .rooms
theorem oIn_in {n : Int} {e : Out} (h1 : 1 ≤ n) (h8 : n ≤ 8) : oIn n e = e := if_pos ⟨h1, h8⟩
theorem oIn_out {n : Int} {e : Out} (h : ¬ (1 ≤ n ∧ n ≤ 8)) : oIn n e = .rooms := if_neg h
def oRR (n : Int) (row : List Int) : Out := oIn n (oRow row .fine)
def oSh (n : Int) (row ps : List Int) : Out := oIn n (oRow row (if riseIn row.length (-1) ps = true then .fine else .row row.length))
def oLk (n : Int) (row : List Int) (u : RuW) : Out := oIn n (oRow row (if u.good = true then .fine else .rule))
section
variable {c0 c1 c2 c3 : Addr} {H : Hp} {Q : VK} {E : XK} {n : Int} {row : List Int} {e : Out}
theorem EndsO.rm (en : EndsO c0 c1 c2 c3 H Q E (oIn n e)) : ¬ (1 ≤ n ∧ n ≤ 8) → E (.ref c0) none H := fun h => en.rooms (oIn_out h) H (Same.refl H)
theorem EndsO.rw (en : EndsO c0 c1 c2 c3 H Q E (oIn n (oRow row e))) : 1 ≤ n → n ≤ 8 → ∀ i, badAt row 0 = some i → BadP c1 H E i := fun h1 h8 i hi => en.row i (by rw [oIn_in h1 h8, oRow_bad hi])
theorem EndsO.go (en : EndsO c0 c1 c2 c3 H Q E (oIn n (oRow row e))) (h1 : 1 ≤ n) (h8 : n ≤ 8) (hR : RowOk row) : EndsO c0 c1 c2 c3 H Q E e := by
  rw [oIn_in h1 h8, oRow_ok hR] at en
  exact en
end
section
variable {P : Program} {w : World} {K : PySem.W.Frag} {mg : Str → Option Value} {base : Heap} {H : Hp} {q : Str} {cl : List (Str × Addr)} {f : Addr} {n : Int} {r p : Addr} {row ps : List Int} {u : RuW}
abbrev RefZ (P : Program) (w : World) (K : PySem.W.Frag) (mg : Str → Option Value) (base : Heap) (Z : Errs P K mg) (H : Hp) (f : Addr) (o : Out) : Prop := RefK P w K mg base 8 Z.rooms Z.row Z.rule Z.many H f o
theorem ref_told (T : Prog K mg) (Z : Errs P K mg) (la : LamAt H q (itemE 0 (valE (sub (top 60) 0))) cl f) (C : CellsF H cl ["_law_rooms", "_law_row_here"] [.int n, .ref r]) (hS : SqL K H r (il row)) : RefZ P w K mg base Z H f (oRR n row) := by
  refine lam_ref0 (k := 7) (N := ["_law_rooms", "_law_row_here"]) la rfl (by decide +kernel) C (fun _ _ _ _ _ _ => rfl) fun H' c' A outer s Q E g F hr en => ?_
  have G := ok_toldX (P := P) (w := w) (base := base) T Z
  refine ⟨_, pe_call G (hr.mono (by decide)) (by rfl) T.told.g T.told.fn.kp T.told.bd .nil (L2N.passes_call (W := fun cls d _ H => E cls d H) (E := E) (L2N.takes_of rfl rfl rfl rfl) (fun _ _ _ _ h => h)) (pa_cons (pv 0) (pa_cons (pv 1) pa_nil)), ?_⟩
  exact ⟨_, rfl, _, rfl, n, r, row, rfl, seq_hid F (g.seq hS), en.rm, en.rw, fun h1 h8 hR d as H2 _ s2 _ _ => (en.go h1 h8 hR).any rfl _ H2 s2⟩
theorem ref_best (T : Prog K mg) (Z : Errs P K mg) (la : LamAt H q (itemE 1 (valE (sub (top 60) 0))) cl f) (C : CellsF H cl ["_law_rooms", "_law_row_here"] [.int n, .ref r]) (hS : SqL K H r (il row)) : RefZ P w K mg base Z H f (oRR n row) := by
  refine lam_ref1 (k := 7) (x := "_law_a") (N := ["_law_a", "_law_rooms", "_law_row_here"]) la (by intro z; cases z) (by decide +kernel) C (fun _ _ _ _ _ _ _ _ => ⟨_, rfl, rfl⟩) fun H' c' A outer s Q E g F hr en => ?_
  have G := ok_bestX (P := P) (w := w) (base := base) T Z
  refine ⟨_, pe_call G (hr.mono (by decide)) (by rfl) T.best.g T.best.fn.kp T.best.bd .nil (L2N.passes_call (W := fun cls d _ H => E cls d H) (E := E) (L2N.takes_of rfl rfl rfl rfl) (fun _ _ _ _ h => h)) (pa_cons (pv 1) (pa_cons (pv 2) pa_nil)), ?_⟩
  exact ⟨_, rfl, _, rfl, n, r, row, rfl, seq_hid F (g.seq hS), en.rm, en.rw, fun h1 h8 hR => (en.go h1 h8 hR).any rfl⟩
theorem ref_paper (T : Prog K mg) (Z : Errs P K mg) (la : LamAt H q (itemE 2 (valE (sub (top 60) 0))) cl f) (C : CellsF H cl ["_law_rooms", "_law_row_here"] [.int n, .ref r]) (hS : SqL K H r (il row)) : RefZ P w K mg base Z H f (oRR n row) := by
  refine lam_ref1 (k := 7) (x := "_law_b") (N := ["_law_b", "_law_rooms", "_law_row_here"]) la (by intro z; cases z) (by decide +kernel) C (fun _ _ _ _ _ _ _ _ => ⟨_, rfl, rfl⟩) fun H' c' A outer s Q E g F hr en => ?_
  have G := ok_paperX (P := P) (w := w) (base := base) T Z
  refine ⟨_, pe_call G (hr.mono (by decide)) (by rfl) T.paper.g T.paper.fn.kp T.paper.bd .nil (L2N.passes_call (W := fun cls d _ H => E cls d H) (E := E) (L2N.takes_of rfl rfl rfl rfl) (fun _ _ _ _ h => h)) (pa_cons (pv 1) (pa_cons (pv 2) pa_nil)), ?_⟩
  exact ⟨_, rfl, _, rfl, n, r, row, rfl, seq_hid F (g.seq hS), en.rm, en.rw, fun h1 h8 hR => (en.go h1 h8 hR).any rfl⟩
theorem ref_stretches (T : Prog K mg) (Z : Errs P K mg) (la : LamAt H q (itemE 0 (rightE (valE (sub (top 60) 1)))) cl f) (C : CellsF H cl ["_law_rooms", "_law_row_here"] [.int n, .ref r]) (hS : SqL K H r (il row)) : RefZ P w K mg base Z H f (oRR n row) := by
  refine lam_ref1 (k := 7) (x := "_law_c") (N := ["_law_c", "_law_rooms", "_law_row_here"]) la (by intro z; cases z) (by decide +kernel) C (fun _ _ _ _ _ _ _ _ => ⟨_, rfl, rfl⟩) fun H' c' A outer s Q E g F hr en => ?_
  have G := ok_stretchesX (P := P) (w := w) (base := base) T Z
  refine ⟨_, pe_call G (hr.mono (by decide)) (by rfl) T.stretches.g T.stretches.fn.kp T.stretches.bd .nil (L2N.passes_call (W := fun cls d _ H => E cls d H) (E := E) (L2N.takes_of rfl rfl rfl rfl) (fun _ _ _ _ h => h)) (pa_cons (pv 1) (pa_cons (pv 2) pa_nil)), ?_⟩
  exact ⟨_, rfl, _, rfl, n, r, row, rfl, seq_hid F (g.seq hS), en.rm, en.rw, fun h1 h8 hR => (en.go h1 h8 hR).any rfl⟩
theorem sh_ends {c0 c1 c2 c3 : Addr} {Q : VK} {E : XK} {n : Int} {row ps : List Int} (en : EndsO c0 c1 c2 c3 H Q E (oSh n row ps)) : (1 ≤ n → n ≤ 8 → RowOk row → riseIn row.length (-1) ps = false → BadP c1 H E row.length) ∧ (1 ≤ n → n ≤ 8 → RowOk row → riseIn row.length (-1) ps = true → AnyA H Q) :=
  ⟨fun h1 h8 hR hb => (en.go h1 h8 hR).row _ (by rw [hb]; rfl), fun h1 h8 hR hg => (en.go h1 h8 hR).any (by rw [hg]; rfl)⟩
theorem ref_shown (T : Prog K mg) (Z : Errs P K mg) (la : LamAt H q (itemE 1 (rightE (valE (sub (top 60) 1)))) cl f) (C : CellsF H cl ["_law_rooms", "_law_row_here", "_law_places"] [.int n, .ref r, .ref p]) (hS : SqL K H r (il row)) (hP : SqL K H p (il ps)) : RefZ P w K mg base Z H f (oSh n row ps) := by
  refine lam_ref1 (k := 7) (x := "_law_d") (N := ["_law_d", "_law_rooms", "_law_row_here", "_law_places"]) la (by intro z; cases z) (by decide +kernel) C (fun _ _ _ _ _ _ _ _ => ⟨_, rfl, rfl⟩) fun H' c' A outer s Q E g F hr en => ?_
  have G := ok_shownX (P := P) (w := w) (base := base) T Z
  refine ⟨_, pe_call G (hr.mono (by decide)) (by rfl) T.shown.g T.shown.fn.kp T.shown.bd .nil (L2N.passes_call (W := fun cls d _ H => E cls d H) (E := E) (L2N.takes_of rfl rfl rfl rfl) (fun _ _ _ _ h => h)) (pa_cons (pv 1) (pa_cons (pv 2) (pa_cons (pv 3) pa_nil))), ?_⟩
  exact ⟨_, rfl, _, rfl, _, rfl, n, r, p, row, ps, rfl, seq_hid F (g.seq hS), seq_hid F (g.seq hP), en.rm, en.rw, sh_ends en⟩
theorem ref_shown0 (T : Prog K mg) (Z : Errs P K mg) (la : LamAt H q (itemE 0 (argE 0 (notE (testE (sub (top 61) 13))))) cl f) (C : CellsF H cl ["_law_rooms", "_law_row_here", "_law_places"] [.int n, .ref r, .ref p]) (hS : SqL K H r (il row)) (hP : SqL K H p (il ps)) : RefZ P w K mg base Z H f (oSh n row ps) := by
  refine lam_ref0 (k := 7) (N := ["_law_rooms", "_law_row_here", "_law_places"]) la rfl (by decide +kernel) C (fun _ _ _ _ _ _ => rfl) fun H' c' A outer s Q E g F hr en => ?_
  have G := ok_shownX (P := P) (w := w) (base := base) T Z
  refine ⟨_, pe_call G (hr.mono (by decide)) (by rfl) T.shown.g T.shown.fn.kp T.shown.bd .nil (L2N.passes_call (W := fun cls d _ H => E cls d H) (E := E) (L2N.takes_of rfl rfl rfl rfl) (fun _ _ _ _ h => h)) (pa_cons (pv 0) (pa_cons (pv 1) (pa_cons (pv 2) pa_nil))), ?_⟩
  exact ⟨_, rfl, _, rfl, _, rfl, n, r, p, row, ps, rfl, seq_hid F (g.seq hS), seq_hid F (g.seq hP), en.rm, en.rw, sh_ends en⟩
theorem ref_lacking (T : Prog K mg) (Z : Errs P K mg) {es : Array DictEntry} {nd : Nat} (TB_RULES : KDict K w T.a_RULES es nd) (la : LamAt H q (itemE 0 (rightE (valE (sub (top 60) 2)))) cl f) (C : CellsF H cl ["_law_rooms", "_law_row_here", "_law_rule"] [.int n, .ref r, .str u.s]) (hu : u.At) (hS : SqL K H r (il row)) : RefZ P w K mg base Z H f (oLk n row u) := by
  refine lam_ref1 (k := 7) (x := "_law_f") (N := ["_law_f", "_law_rooms", "_law_row_here", "_law_rule"]) la (by intro z; cases z) (by decide +kernel) C (fun _ _ _ _ _ _ _ _ => ⟨_, rfl, rfl⟩) fun H' c' A outer s Q E g F hr en => ?_
  have G := ok_lackingX (P := P) (w := w) (base := base) T Z TB_RULES
  refine ⟨_, pe_call G (hr.mono (by decide)) (by rfl) T.lacking.g T.lacking.fn.kp T.lacking.bd .nil (L2N.passes_call (W := fun cls d _ H => E cls d H) (E := E) (L2N.takes_of rfl rfl rfl rfl) (fun _ _ _ _ h => h)) (pa_cons (pv 1) (pa_cons (pv 2) (pa_cons (pv 3) pa_nil))), ?_⟩
  exact ⟨_, rfl, _, rfl, _, rfl, n, r, row, u, rfl, hu, seq_hid F (g.seq hS), en.rm, en.rw, fun h1 h8 hR hb => (en.go h1 h8 hR).rule (by rw [hb]; rfl), fun h1 h8 hR rule eu d H2 _ s2 _ => (en.go h1 h8 hR).any (by rw [eu]; rfl) _ H2 s2⟩
theorem ref_lacking_in (T : Prog K mg) (Z : Errs P K mg) {es : Array DictEntry} {nd : Nat} (TB_RULES : KDict K w T.a_RULES es nd) (la : LamAt H q (itemE 1 (rightE (valE (sub (top 60) 2)))) cl f) (C : CellsF H cl ["_law_rooms", "_law_row_here", "_law_rule"] [.int n, .ref r, .str u.s]) (hu : u.At) (hS : SqL K H r (il row)) : RefZ P w K mg base Z H f (oLk n row u) := by
  refine lam_ref1 (k := 7) (x := "_law_g") (N := ["_law_g", "_law_rooms", "_law_row_here", "_law_rule"]) la (by intro z; cases z) (by decide +kernel) C (fun _ _ _ _ _ _ _ _ => ⟨_, rfl, rfl⟩) fun H' c' A outer s Q E g F hr en => ?_
  have G := ok_lacking_inX (P := P) (w := w) (base := base) T Z TB_RULES
  refine ⟨_, pe_call G (hr.mono (by decide)) (by rfl) T.lacking_in.g T.lacking_in.fn.kp T.lacking_in.bd .nil (L2N.passes_call (W := fun cls d _ H => E cls d H) (E := E) (L2N.takes_of rfl rfl rfl rfl) (fun _ _ _ _ h => h)) (pa_cons (pv 1) (pa_cons (pv 2) (pa_cons (pv 3) pa_nil))), ?_⟩
  exact ⟨_, rfl, _, rfl, _, rfl, n, r, row, u, rfl, hu, seq_hid F (g.seq hS), en.rm, en.rw, fun h1 h8 hR hb => (en.go h1 h8 hR).rule (by rw [hb]; rfl), fun h1 h8 hR hg => (en.go h1 h8 hR).any (by rw [hg]; rfl)⟩
end
end CK

/-! The law's own functions of nothing. -/
namespace CK
open PySem PySem.Spec PyProof.Rows L2 CKX CKL LamX NdefX
def oWo (n p k : Int) : Out := oIn n (if 1 ≤ p ∧ p ≤ 12 ∧ 0 ≤ k then (if tooM p.toNat k.toNat = true then .many else .rule) else .row 0)
theorem wo_ends {c0 c1 c2 c3 : Addr} {H : Hp} {Q : VK} {E : XK} {n p k : Int} {u : RuW} (hg : u.good = false) (en : EndsO c0 c1 c2 c3 H Q E (oWo n p k)) : (¬ (1 ≤ n ∧ n ≤ 8) → E (.ref c0) none H) ∧
  (1 ≤ n → n ≤ 8 → ¬ (1 ≤ p ∧ p ≤ 12 ∧ 0 ≤ k) → BadP c1 H E 0) ∧ (1 ≤ n → n ≤ 8 → 1 ≤ p → p ≤ 12 → 0 ≤ k → tooM p.toNat k.toNat = true → E (.ref c3) none H) ∧
  (1 ≤ n → n ≤ 8 → 1 ≤ p → p ≤ 12 → 0 ≤ k → tooM p.toNat k.toNat = false → u.good = false ∧ E (.ref c2) none H) :=
  ⟨en.rm, fun h1 h8 h => en.row 0 (by unfold oWo; rw [oIn_in h1 h8, if_neg h]), fun h1 h8 p1 p12 k0 ht => en.many (by unfold oWo; rw [oIn_in h1 h8, if_pos ⟨p1, p12, k0⟩, if_pos ht]) H (Same.refl H),
    fun h1 h8 p1 p12 k0 ht => ⟨hg, en.rule (by unfold oWo; rw [oIn_in h1 h8, if_pos ⟨p1, p12, k0⟩, if_neg (by rw [ht]; simp)]) H (Same.refl H)⟩⟩
section
variable {P : Program} {w : World} {K : PySem.W.Frag} {mg : Str → Option Value} {base : Heap} {H : Hp} {q : Str} {cl : List (Str × Addr)} {f : Addr} {n i k p : Int} {r : Addr} {row : List Int} {u : RuW}
theorem ref_spells1 (T : Prog K mg) (Z : Errs P K mg) (la : LamAt H q (itemE 0 (rightE (argE 0 (notE (testE (sub (top 61) 9)))))) cl f) (C : CellsF H cl ["_law_bad"] [.ref r]) (hS : SqL K H r (il row)) : RefZ P w K mg base Z H f (oRow row .fine) := by
  refine lam_ref0 (k := 7) (N := ["_law_bad"]) la rfl (by decide +kernel) C (fun _ _ _ _ _ _ => rfl) fun H' c' A outer s Q E g F hr en => ?_
  have G := ok_spellsX (P := P) (w := w) (base := base) T Z
  refine ⟨_, pe_call G (hr.mono (by decide)) (by rfl) T.spells.g T.spells.fn.kp T.spells.bd .nil (L2N.passes_call (W := fun cls d _ H => E cls d H) (E := E) (L2N.takes_of rfl rfl rfl rfl) (fun _ _ _ _ h => h)) (pa_cons (pv 0) pa_nil), ?_⟩
  exact ⟨_, rfl, r, row, rfl, seq_hid F (g.seq hS), fun i hi => en.row i (oRow_bad hi), fun hR => en.any (oRow_ok hR)⟩
theorem ref_spells2 (T : Prog K mg) (Z : Errs P K mg) (la : LamAt H q (itemE 0 (rightE (argE 0 (notE (testE (sub (top 61) 11)))))) cl f) (C : CellsF H cl ["_law_long"] [.ref r]) (hS : SqL K H r (il row)) : RefZ P w K mg base Z H f (oRow row .fine) := by
  refine lam_ref0 (k := 7) (N := ["_law_long"]) la rfl (by decide +kernel) C (fun _ _ _ _ _ _ => rfl) fun H' c' A outer s Q E g F hr en => ?_
  have G := ok_spellsX (P := P) (w := w) (base := base) T Z
  refine ⟨_, pe_call G (hr.mono (by decide)) (by rfl) T.spells.g T.spells.fn.kp T.spells.bd .nil (L2N.passes_call (W := fun cls d _ H => E cls d H) (E := E) (L2N.takes_of rfl rfl rfl rfl) (fun _ _ _ _ h => h)) (pa_cons (pv 0) pa_nil), ?_⟩
  exact ⟨_, rfl, r, row, rfl, seq_hid F (g.seq hS), fun i hi => en.row i (oRow_bad hi), fun hR => en.any (oRow_ok hR)⟩
theorem ref_spells3 (T : Prog K mg) (Z : Errs P K mg) (la : LamAt H q (itemE 0 (rightE (argE 0 (valE (sub (top 61) 24))))) cl f) (C : CellsF H cl ["_law_row_here"] [.ref r]) (hS : SqL K H r (il row)) : RefZ P w K mg base Z H f (oRow row .fine) := by
  refine lam_ref0 (k := 7) (N := ["_law_row_here"]) la rfl (by decide +kernel) C (fun _ _ _ _ _ _ => rfl) fun H' c' A outer s Q E g F hr en => ?_
  have G := ok_spellsX (P := P) (w := w) (base := base) T Z
  refine ⟨_, pe_call G (hr.mono (by decide)) (by rfl) T.spells.g T.spells.fn.kp T.spells.bd .nil (L2N.passes_call (W := fun cls d _ H => E cls d H) (E := E) (L2N.takes_of rfl rfl rfl rfl) (fun _ _ _ _ h => h)) (pa_cons (pv 0) pa_nil), ?_⟩
  exact ⟨_, rfl, r, row, rfl, seq_hid F (g.seq hS), fun i hi => en.row i (oRow_bad hi), fun hR => en.any (oRow_ok hR)⟩
theorem ref_dial (T : Prog K mg) (Z : Errs P K mg) (la : LamAt H q (itemE 0 (rightE (valE (sub (top 61) 7)))) cl f) (C : CellsF H cl ["_law_none"] [.int n]) (hn : ¬ (1 ≤ n ∧ n ≤ 8)) : RefZ P w K mg base Z H f .rooms := by
  refine lam_ref0 (k := 7) (N := ["_law_none"]) la rfl (by decide +kernel) C (fun _ _ _ _ _ _ => rfl) fun H' c' A outer s Q E g F hr en => ?_
  have G := ok_Dial_initX (P := P) (w := w) (base := base) T Z
  refine ⟨_, pe_make T.Dial.mkr G (hr.mono (by decide)) (by rfl) T.Dial.g T.Dial.bI .nil (L2N.passes_call (W := fun cls d _ H => E cls d H) (E := E) (L2N.takes_of rfl rfl rfl rfl) (fun _ _ _ _ h => h)) (pa_cons (pv 0) pa_nil), ?_⟩
  refine ⟨_, rfl, fun x dx nx ndx nex => ⟨x, dx, n, rfl, upd_same, fun _ => en.rooms rfl _ ?_, fun h1 h8 => absurd ⟨h1, h8⟩ hn⟩⟩
  exact fun c o e => by
    rw [upd_ne (ne_fresh e nx), upd_ne (ne_fresh e ndx)]
    exact e
theorem ref_worst0 (T : Prog K mg) (Z : Errs P K mg) {es : Array DictEntry} {nd : Nat} (TB_RULES : KDict K w T.a_RULES es nd) (la : LamAt H q (itemE 1 (rightE (valE (sub (top 61) 7)))) cl f) (C : CellsF H cl ["_law_none"] [.int n]) : RefZ P w K mg base Z H f (oWo n 0 (-1)) := by
  refine lam_ref1 (k := 7) (x := "_law_a") (N := ["_law_a", "_law_none"]) la (by intro z; cases z) (by decide +kernel) C (fun _ _ _ _ _ _ _ _ => ⟨_, rfl, rfl⟩) fun H' c' A outer s Q E g F hr en => ?_
  have G := ok_worstX (P := P) (w := w) (base := base) T Z TB_RULES
  refine ⟨_, pe_call G (hr.mono (by decide)) (by rfl) T.worst.g T.worst.fn.kp T.worst.bd .nil (L2N.passes_call (W := fun cls d _ H => E cls d H) (E := E) (L2N.takes_of rfl rfl rfl rfl) (fun _ _ _ _ h => h)) (pa_cons (pv 1) (pa_cons pe_int (pa_cons (pe_un un_neg pe_int) (pa_cons pe_str pa_nil)))), ?_⟩
  exact ⟨_, rfl, _, rfl, n, 0, -1, .no "far", rfl, by simp [RuW.At, noRules], wo_ends rfl en⟩
/-- the dial's answer to an ask -/
def oAsk (pg : Int) : Out := if 0 ≤ pg ∧ pg < 12 then .fine else .row 0
theorem ref_ask (T : Prog K mg) (Z : Errs P K mg) (la : LamAt H q (itemE 0 (valE (sub (top 61) 16))) cl f) (C : CellsF H cl ["_law_rooms", "_law_out"] [.int n, .int p]) (n1 : 1 ≤ n) (n8 : n ≤ 8) : RefZ P w K mg base Z H f (oAsk p) := by
  refine lam_ref0 (k := 7) (N := ["_law_rooms", "_law_out"]) la rfl (by decide +kernel) C (fun _ _ _ _ _ _ => rfl) fun H' c' A outer s Q E g F hr en => ?_
  have G := ok_Dial_initX (P := P) (w := w) (base := base) T Z
  have G2 := ok_Dial_askX (P := P) (w := w) (base := base) T Z
  refine ⟨_, pe_meth (pe_make T.Dial.mkr G (hr.mono (by decide)) (by rfl) T.Dial.g T.Dial.bI .nil (L2N.passes_call (W := fun cls d _ H => E cls d H) (E := E) (L2N.takes_of rfl rfl rfl rfl) (fun _ _ _ _ h => h)) (pa_cons (pv 0) pa_nil)) T.Dial.cl T.Dial.ask.me G2 (hr.mono (by decide)) T.Dial.ask.bd .nil (L2N.passes_call (W := fun cls d _ H => E cls d H) (E := E) (L2N.takes_of rfl rfl rfl rfl) (fun _ _ _ _ h => h)) (pa_cons (pv 1) pa_nil), ?_⟩
  refine ⟨_, rfl, fun x dx nx ndx nex => ⟨x, dx, n, rfl, upd_same, fun h => absurd ⟨n1, n8⟩ h, fun _ _ a b H2 ha hb D k2 => ⟨rfl, ?_⟩⟩⟩
  obtain ⟨dx2, hx⟩ := D.ob
  have s0 : Same (hid H' (addrs cl)) (upd (upd (hid H' (addrs cl)) dx (.own x)) x (.ins T.Dial.C dx [])) := fun c o e => by
    rw [upd_ne (ne_fresh e nx), upd_ne (ne_fresh e ndx)]
    exact e
  have s2 : Same (hid H' (addrs cl)) H2 := fun c o e => k2 c o (s0 c o e) (by simpa using ne_fresh e nx)
  have xH : (hid H' (addrs cl)) x = none := nx
  have aH : (hid H' (addrs cl)) a = none := Same.back s0 ha
  have bH : (hid H' (addrs cl)) b = none := Same.back s0 hb
  refine ⟨x, dx2, _, rfl, hx, rfl, _, rfl, x, a, b, _, n.toNat, p, rfl, D, DS.new_wf (by omega), by omega, fun bad d hd => ?_, fun p0 p1 t l H3 _ _ _ _ _ _ k3 => ?_⟩
  · exact en.row 0 (by unfold oAsk; rw [if_neg bad]) _ d (s2.trans (Same.new hd)) upd_same (Same.back s2 hd)
  · refine en.any (by unfold oAsk; rw [if_pos ⟨p0, p1⟩]) _ H3 fun c o e => k3 c o (s2 c o e) ?_
    have z1 := ne_fresh e xH
    have z2 := ne_fresh e aH
    have z3 := ne_fresh e bH
    simp [z1, z2, z3]
theorem ref_ask11 (T : Prog K mg) (Z : Errs P K mg) (la : LamAt H q (itemE 1 (rightE (argE 0 (valE (sub (top 61) 24))))) cl f) (C : CellsF H cl ["_law_rooms"] [.int n]) (n1 : 1 ≤ n) (n8 : n ≤ 8) : RefZ P w K mg base Z H f .fine := by
  refine lam_ref1 (k := 7) (x := "_law_a") (N := ["_law_a", "_law_rooms"]) la (by intro z; cases z) (by decide +kernel) C (fun _ _ _ _ _ _ _ _ => ⟨_, rfl, rfl⟩) fun H' c' A outer s Q E g F hr en => ?_
  have G := ok_Dial_initX (P := P) (w := w) (base := base) T Z
  have G2 := ok_Dial_askX (P := P) (w := w) (base := base) T Z
  refine ⟨_, pe_meth (pe_make T.Dial.mkr G (hr.mono (by decide)) (by rfl) T.Dial.g T.Dial.bI .nil (L2N.passes_call (W := fun cls d _ H => E cls d H) (E := E) (L2N.takes_of rfl rfl rfl rfl) (fun _ _ _ _ h => h)) (pa_cons (pv 1) pa_nil)) T.Dial.cl T.Dial.ask.me G2 (hr.mono (by decide)) T.Dial.ask.bd .nil (L2N.passes_call (W := fun cls d _ H => E cls d H) (E := E) (L2N.takes_of rfl rfl rfl rfl) (fun _ _ _ _ h => h)) (pa_cons pe_int pa_nil), ?_⟩
  refine ⟨_, rfl, fun x dx nx ndx nex => ⟨x, dx, n, rfl, upd_same, fun h => absurd ⟨n1, n8⟩ h, fun _ _ a b H2 ha hb D k2 => ⟨rfl, ?_⟩⟩⟩
  obtain ⟨dx2, hx⟩ := D.ob
  have s0 : Same (hid H' (addrs cl)) (upd (upd (hid H' (addrs cl)) dx (.own x)) x (.ins T.Dial.C dx [])) := fun c o e => by
    rw [upd_ne (ne_fresh e nx), upd_ne (ne_fresh e ndx)]
    exact e
  have s2 : Same (hid H' (addrs cl)) H2 := fun c o e => k2 c o (s0 c o e) (by simpa using ne_fresh e nx)
  have xH : (hid H' (addrs cl)) x = none := nx
  have aH : (hid H' (addrs cl)) a = none := Same.back s0 ha
  have bH : (hid H' (addrs cl)) b = none := Same.back s0 hb
  refine ⟨x, dx2, _, rfl, hx, rfl, x, a, b, _, n.toNat, 11, rfl, D, DS.new_wf (by omega), by omega, fun bad d hd => absurd ⟨by decide, by decide⟩ bad, fun p0 p1 t l H3 _ _ _ _ _ _ k3 => ?_⟩
  refine en.any rfl _ H3 fun c o e => k3 c o (s2 c o e) ?_
  have z1 := ne_fresh e xH
  have z2 := ne_fresh e aH
  have z3 := ne_fresh e bH
  simp [z1, z2, z3]
theorem ref_worst1 (T : Prog K mg) (Z : Errs P K mg) {es : Array DictEntry} {nd : Nat} (TB_RULES : KDict K w T.a_RULES es nd) (la : LamAt H q (itemE 1 (valE (sub (top 61) 16))) cl f) (C : CellsF H cl ["_law_rooms", "_law_at", "_law_rule"] [.int n, .int i, .str u.s]) (hu : u.At) (hg : u.good = false) (n1 : 1 ≤ n) (n8 : n ≤ 8) : RefZ P w K mg base Z H f (.row 0) := by
  refine lam_ref1 (k := 7) (x := "_law_a") (N := ["_law_a", "_law_rooms", "_law_at", "_law_rule"]) la (by intro z; cases z) (by decide +kernel) C (fun _ _ _ _ _ _ _ _ => ⟨_, rfl, rfl⟩) fun H' c' A outer s Q E g F hr en => ?_
  have G := ok_worstX (P := P) (w := w) (base := base) T Z TB_RULES
  refine ⟨_, pe_call G (hr.mono (by decide)) (by rfl) T.worst.g T.worst.fn.kp T.worst.bd .nil (L2N.passes_call (W := fun cls d _ H => E cls d H) (E := E) (L2N.takes_of rfl rfl rfl rfl) (fun _ _ _ _ h => h)) (pa_cons (pv 1) (pa_cons (pe_ix ix_list (pe_lst (pa_cons pe_int (pa_cons pe_int (pa_cons (pe_un un_neg pe_int) pa_nil)))) (pe_op op_mod (pv 2) pe_int) (fun _ _ => rfl)) (pa_cons pe_int (pa_cons (pv 3) pa_nil)))), ?_⟩
  refine ⟨_, rfl, _, rfl, szd rfl, fun l hl => ?_⟩
  obtain ⟨v, hv, hat⟩ := il_menu (xs := [0, 13, -1]) (r := i % 3) (Int.emod_nonneg _ (by decide)) (Int.emod_lt_of_pos _ (by decide))
  have sl := Same.new (o := .lst (il [0, 13, -1])) hl
  refine ⟨_, rfl, _, _, rfl, rfl, int0 (by decide), l, _, _, _, rfl, rfl, SqL.of upd_same, hat, _, rfl, n, v, 2, u, rfl, hu, fun h => absurd ⟨n1, n8⟩ h, fun _ _ _ H2 d s2 hd dn => en.row 0 rfl H2 d (sl.trans s2) hd (Same.back sl dn), ?_, ?_⟩
  all_goals
    intro _ _ p1 p12
    simp at hv
    omega
theorem ref_worst2 (T : Prog K mg) (Z : Errs P K mg) {es : Array DictEntry} {nd : Nat} (TB_RULES : KDict K w T.a_RULES es nd) (la : LamAt H q (itemE 0 (rightE (argE 0 (notE (testE (sub (top 61) 17)))))) cl f) (C : CellsF H cl ["_law_rooms", "_law_at", "_law_rule"] [.int n, .int i, .str u.s]) (hu : u.At) (hg : u.good = false) : RefZ P w K mg base Z H f (oWo n 2 (-1 - i)) := by
  refine lam_ref1 (k := 7) (x := "_law_b") (N := ["_law_b", "_law_rooms", "_law_at", "_law_rule"]) la (by intro z; cases z) (by decide +kernel) C (fun _ _ _ _ _ _ _ _ => ⟨_, rfl, rfl⟩) fun H' c' A outer s Q E g F hr en => ?_
  have G := ok_worstX (P := P) (w := w) (base := base) T Z TB_RULES
  refine ⟨_, pe_call G (hr.mono (by decide)) (by rfl) T.worst.g T.worst.fn.kp T.worst.bd .nil (L2N.passes_call (W := fun cls d _ H => E cls d H) (E := E) (L2N.takes_of rfl rfl rfl rfl) (fun _ _ _ _ h => h)) (pa_cons (pv 1) (pa_cons pe_int (pa_cons (pe_op op_sub (pe_un un_neg pe_int) (pv 2)) (pa_cons (pv 3) pa_nil)))), ?_⟩
  exact ⟨_, rfl, _, rfl, _, rfl, _, _, rfl, rfl, _, rfl, n, 2, -1 - i, u, rfl, hu, wo_ends hg en⟩
theorem ref_worst3 (T : Prog K mg) (Z : Errs P K mg) {es : Array DictEntry} {nd : Nat} (TB_RULES : KDict K w T.a_RULES es nd) (la : LamAt H q (itemE 0 (valE (sub (top 61) 18))) cl f) (C : CellsF H cl ["_law_rooms", "_law_rule"] [.int n, .str u.s]) (hu : u.At) (hg : u.good = false) : RefZ P w K mg base Z H f (oWo n 2 13) := by
  refine lam_ref0 (k := 7) (N := ["_law_rooms", "_law_rule"]) la rfl (by decide +kernel) C (fun _ _ _ _ _ _ => rfl) fun H' c' A outer s Q E g F hr en => ?_
  have G := ok_worstX (P := P) (w := w) (base := base) T Z TB_RULES
  refine ⟨_, pe_call G (hr.mono (by decide)) (by rfl) T.worst.g T.worst.fn.kp T.worst.bd .nil (L2N.passes_call (W := fun cls d _ H => E cls d H) (E := E) (L2N.takes_of rfl rfl rfl rfl) (fun _ _ _ _ h => h)) (pa_cons (pv 0) (pa_cons pe_int (pa_cons pe_int (pa_cons (pv 1) pa_nil)))), ?_⟩
  exact ⟨_, rfl, _, rfl, n, 2, 13, u, rfl, hu, wo_ends hg en⟩
theorem ref_worst4 (T : Prog K mg) (Z : Errs P K mg) {es : Array DictEntry} {nd : Nat} (TB_RULES : KDict K w T.a_RULES es nd) (la : LamAt H q (itemE 1 (valE (sub (top 61) 18))) cl f) (C : CellsF H cl ["_law_rooms", "_law_at", "_law_rule"] [.int n, .int i, .str u.s]) (hu : u.At) (hg : u.good = false) : RefZ P w K mg base Z H f (oWo n 1 (5001 + i)) := by
  refine lam_ref1 (k := 7) (x := "_law_a") (N := ["_law_a", "_law_rooms", "_law_at", "_law_rule"]) la (by intro z; cases z) (by decide +kernel) C (fun _ _ _ _ _ _ _ _ => ⟨_, rfl, rfl⟩) fun H' c' A outer s Q E g F hr en => ?_
  have G := ok_worstX (P := P) (w := w) (base := base) T Z TB_RULES
  refine ⟨_, pe_call G (hr.mono (by decide)) (by rfl) T.worst.g T.worst.fn.kp T.worst.bd .nil (L2N.passes_call (W := fun cls d _ H => E cls d H) (E := E) (L2N.takes_of rfl rfl rfl rfl) (fun _ _ _ _ h => h)) (pa_cons (pv 1) (pa_cons pe_int (pa_cons (pe_op op_add pe_int (pv 2)) (pa_cons (pv 3) pa_nil)))), ?_⟩
  exact ⟨_, rfl, _, rfl, _, _, rfl, rfl, _, rfl, n, 1, 5001 + i, u, rfl, hu, wo_ends hg en⟩
theorem ref_worst5 (T : Prog K mg) (Z : Errs P K mg) {es : Array DictEntry} {nd : Nat} (TB_RULES : KDict K w T.a_RULES es nd) (la : LamAt H q (itemE 0 (rightE (argE 0 (notE (testE (sub (top 61) 19)))))) cl f) (C : CellsF H cl ["_law_rooms", "_law_at", "_law_rule"] [.int n, .int i, .str u.s]) (hu : u.At) (hg : u.good = false) : RefZ P w K mg base Z H f (oWo n 12 (4 + i)) := by
  refine lam_ref1 (k := 7) (x := "_law_b") (N := ["_law_b", "_law_rooms", "_law_at", "_law_rule"]) la (by intro z; cases z) (by decide +kernel) C (fun _ _ _ _ _ _ _ _ => ⟨_, rfl, rfl⟩) fun H' c' A outer s Q E g F hr en => ?_
  have G := ok_worstX (P := P) (w := w) (base := base) T Z TB_RULES
  refine ⟨_, pe_call G (hr.mono (by decide)) (by rfl) T.worst.g T.worst.fn.kp T.worst.bd .nil (L2N.passes_call (W := fun cls d _ H => E cls d H) (E := E) (L2N.takes_of rfl rfl rfl rfl) (fun _ _ _ _ h => h)) (pa_cons (pv 1) (pa_cons pe_int (pa_cons (pe_op op_add pe_int (pv 2)) (pa_cons (pv 3) pa_nil)))), ?_⟩
  exact ⟨_, rfl, _, rfl, _, _, rfl, rfl, _, rfl, n, 12, 4 + i, u, rfl, hu, wo_ends hg en⟩
theorem ref_worst6 (T : Prog K mg) (Z : Errs P K mg) {es : Array DictEntry} {nd : Nat} (TB_RULES : KDict K w T.a_RULES es nd) (la : LamAt H q (argE 0 (leftE (testE (sub (top 61) 22)))) cl f) (C : CellsF H cl ["_law_rooms", "_law_pages", "_law_long", "_law_rule"] [.int n, .int p, .int k, .str u.s]) (hu : u.At) (hg : u.good = false) : RefZ P w K mg base Z H f (oWo n p k) := by
  refine lam_ref0 (k := 7) (N := ["_law_rooms", "_law_pages", "_law_long", "_law_rule"]) la rfl (by decide +kernel) C (fun _ _ _ _ _ _ => rfl) fun H' c' A outer s Q E g F hr en => ?_
  have G := ok_worstX (P := P) (w := w) (base := base) T Z TB_RULES
  refine ⟨_, pe_call G (hr.mono (by decide)) (by rfl) T.worst.g T.worst.fn.kp T.worst.bd .nil (L2N.passes_call (W := fun cls d _ H => E cls d H) (E := E) (L2N.takes_of rfl rfl rfl rfl) (fun _ _ _ _ h => h)) (pa_cons (pv 0) (pa_cons (pv 1) (pa_cons (pv 2) (pa_cons (pv 3) pa_nil)))), ?_⟩
  exact ⟨_, rfl, _, rfl, _, rfl, _, rfl, n, p, k, u, rfl, hu, wo_ends hg en⟩
theorem ref_worst7 (T : Prog K mg) (Z : Errs P K mg) {es : Array DictEntry} {nd : Nat} (TB_RULES : KDict K w T.a_RULES es nd) (la : LamAt H q (argE 0 (leftE (testE (sub (top 61) 23)))) cl f) (C : CellsF H cl ["_law_rooms", "_law_rule"] [.int n, .str u.s]) (hu : u.At) (hg : u.good = false) : RefZ P w K mg base Z H f (oWo n 6 5) := by
  refine lam_ref0 (k := 7) (N := ["_law_rooms", "_law_rule"]) la rfl (by decide +kernel) C (fun _ _ _ _ _ _ => rfl) fun H' c' A outer s Q E g F hr en => ?_
  have G := ok_worstX (P := P) (w := w) (base := base) T Z TB_RULES
  refine ⟨_, pe_call G (hr.mono (by decide)) (by rfl) T.worst.g T.worst.fn.kp T.worst.bd .nil (L2N.passes_call (W := fun cls d _ H => E cls d H) (E := E) (L2N.takes_of rfl rfl rfl rfl) (fun _ _ _ _ h => h)) (pa_cons (pv 0) (pa_cons pe_int (pa_cons pe_int (pa_cons (pv 1) pa_nil)))), ?_⟩
  exact ⟨_, rfl, _, rfl, n, 6, 5, u, rfl, hu, wo_ends hg en⟩
end
end CK

/-! The law's list of functions over rooms and a row. -/
namespace CK
open PySem PySem.Spec PyProof.Rows L2 CKX CKL LamX NdefX
abbrev qLam (x : Str) : Str := (x ++ ".<locals>.") ++ "<lambda>"
abbrev qL : Str := qLam "law"
abbrev qW : Str := qLam "_law_works"
abbrev TT (PL PW : Addr) : List (Addr × Str) := [(PL, qL), (PW, qW)]
theorem hmL {PL PW : Addr} : (PL, qL) ∈ TT PL PW := List.mem_cons_self
theorem hmW {PL PW : Addr} : (PW, qW) ∈ TT PL PW := List.mem_cons_of_mem _ List.mem_cons_self
theorem hu_L {PL PW : Addr} (h : PL ≠ PW) : ∀ p ∈ TT PL PW, p.1 = PL → p.2 = qL := fun p hp e => by
  rcases List.mem_cons.mp hp with z | z
  · rw [z]
  · rw [List.mem_singleton.mp z] at e
    exact absurd e.symm h
theorem hu_W {PL PW : Addr} (h : PL ≠ PW) : ∀ p ∈ TT PL PW, p.1 = PW → p.2 = qW := fun p hp e => by
  rcases List.mem_cons.mp hp with z | z
  · rw [z] at e
    exact absurd e h
  · rw [List.mem_singleton.mp z]
/-- functions and what they come to -/
def Refs (P : Program) (w : World) (K : PySem.W.Frag) (mg : Str → Option Value) (base : Heap) (Z : Errs P K mg) (H : Hp) (fs : List Addr) (os : List Out) : Prop :=
  fs.length = os.length ∧ ∀ (i : Nat) (f : Addr) (o : Out), fs[i]? = some f → os[i]? = some o → RefZ P w K mg base Z H f o
section
variable {P : Program} {w : World} {K : PySem.W.Frag} {mg : Str → Option Value} {base : Heap} {Z : Errs P K mg} {H H' : Hp} {f : Addr} {fs gs : List Addr} {o : Out} {os us : List Out}
theorem Refs.nil : Refs P w K mg base Z H [] [] := ⟨rfl, fun i f o h => by simp at h⟩
theorem Refs.cons (r : RefZ P w K mg base Z H f o) (t : Refs P w K mg base Z H fs os) : Refs P w K mg base Z H (f :: fs) (o :: os) := by
  refine ⟨by rw [List.length_cons, List.length_cons, t.1], fun i g u h1 h2 => ?_⟩
  cases i with
  | zero =>
    simp at h1 h2
    rw [← h1, ← h2]
    exact r
  | succ i => exact t.2 i g u (by simpa using h1) (by simpa using h2)
theorem Refs.grow (r : Refs P w K mg base Z H fs os) (g : Grow H H') : Refs P w K mg base Z H' fs os := ⟨r.1, fun i f o h1 h2 => (r.2 i f o h1 h2).grow g⟩
theorem Refs.app (a : Refs P w K mg base Z H fs os) (b : Refs P w K mg base Z H gs us) : Refs P w K mg base Z H (fs ++ gs) (os ++ us) := by
  refine ⟨by rw [List.length_append, List.length_append, a.1, b.1], fun i f o h1 h2 => ?_⟩
  by_cases h : i < fs.length
  · rw [List.getElem?_append_left h] at h1
    rw [List.getElem?_append_left (by rw [← a.1]; exact h)] at h2
    exact a.2 i f o h1 h2
  · rw [List.getElem?_append_right (by omega)] at h1
    rw [List.getElem?_append_right (by rw [← a.1]; omega), ← a.1] at h2
    exact b.2 _ f o h1 h2
theorem Refs.drop (a : Refs P w K mg base Z H fs os) (n : Nat) : Refs P w K mg base Z H (fs.drop n) (os.drop n) :=
  ⟨by rw [List.length_drop, List.length_drop, a.1], fun i f o h1 h2 => a.2 (n + i) f o (by rw [← List.getElem?_drop]; exact h1) (by rw [← List.getElem?_drop]; exact h2)⟩
end
def worksO (n : Int) (row ps : List Int) (u : RuW) : List Out := [oRR n row, oRR n row, oRR n row, oRR n row, oSh n row ps, oLk n row u, oLk n row u]
def spWorks (P : Program) (w : World) (K : PySem.W.Frag) (mg : Str → Option Value) (base : Heap) (Z : Errs P K mg) (PL PW : Addr) : Sp := fun vs H Q _ => ∃ (n : Int) (r p : Addr) (row ps : List Int) (u : RuW), vs = [.int n, .ref r, .str u.s, .ref p] ∧ u.At ∧ SqL K H r (il row) ∧ SqL K H p (il ps) ∧ Tabs (TT PL PW) H ∧
  ∀ (d : Addr) (fs : List Addr) (H' : Hp), Grow H H' → Tabs (TT PL PW) H' → H d = none → H' d = some (.lst (fs.map V.ref)) → Refs P w K mg base Z H' fs (worksO n row ps u) → Q (.ref d) H'
theorem tS {PL PW : Addr} {H H' : Hp} (t : Tabs (TT PL PW) H) (s : Same H H') : Tabs (TT PL PW) H' := LamX.Tabs.ext t s
section
variable {P : Program} {w : World} {K : PySem.W.Frag} {mg : Str → Option Value} {base : Heap}
theorem sc_law_works : FnScope ["_law_rooms", "_law_row_here", "_law_rule", "_law_places", "_law_works_here"] ["_law_rooms", "_law_row_here", "_law_rule", "_law_places"] (defScope (top 60)) := ⟨rfl, rfl, rfl, by decide +kernel, rfl, by decide +kernel, by decide +kernel⟩
theorem ok_law_works (T : Prog K mg) {es : Array DictEntry} {nd : Nat} (TB_RULES : KDict K w T.a_RULES es nd) (Z : Errs P K mg) {cW PL PW : Addr} (hcW : T.law_works.fd.code = .ref cW) (TBW : TabB base mg cW PW) (hne : PL ≠ PW) :
    FnOk P w K mg base CX0 1 T.law_works.f T.law_works.fd ["_law_rooms", "_law_row_here", "_law_rule", "_law_places"] (spWorks P w K mg base Z PL PW) := by
  refine okF T.law_works.fn sc_law_works (fun vs H Q E h => ?len) (fun cdv A outer s H vs Q E hcd hr h => ?body)
  case len =>
    obtain ⟨n, r, p, row, ps, u, rfl, _⟩ := h
    rfl
  case body =>
    obtain rfl : cdv = .ref cW := hcd.symm.trans hcW
    obtain ⟨n, r, p, row, ps, u, rfl, hu, hS, hP, hT, k⟩ := h
    have huW := hu_W hne
    have hcW : (cxOf CX0 P w K mg base ["_law_rooms", "_law_row_here", "_law_rule", "_law_places", "_law_works_here"] "_law_works" (defScope (top 60)) T.law_works.f (.ref cW) A outer s H E).nox.env.code = .ref cW := rfl
    refine ⟨_, psf_cons (ps_set (i := 4) sc_law_works.nd rfl (Or.inl rfl) (pe_lst (pa_cons (pe_lam0 TBW hcW hmW huW rfl rfl (ndef_free (sc := defScope (top 60)) (fr := []) (by decide +kernel))) (pa_cons (pe_lam1 TBW hcW hmW huW rfl rfl (ndef_free (sc := defScope (top 60)) (fr := []) (by decide +kernel))) (pa_cons (pe_lam1 TBW hcW hmW huW rfl rfl (ndef_free (sc := defScope (top 60)) (fr := []) (by decide +kernel))) pa_nil)))))
      (psf_cons (ps_set (i := 4) sc_law_works.nd rfl (Or.inl rfl) (pe_op op_cat (pv 4) (pe_lst (pa_cons (pe_lam1 TBW hcW hmW huW rfl rfl (ndef_free (sc := defScope (top 60)) (fr := []) (by decide +kernel))) (pa_cons (pe_lam1 TBW hcW hmW huW rfl rfl (ndef_free (sc := defScope (top 60)) (fr := []) (by decide +kernel))) pa_nil)))))
      (psf_ret (pe_op op_cat (pv 4) (pe_lst (pa_cons (pe_lam1 TBW hcW hmW huW rfl rfl (ndef_free (sc := defScope (top 60)) (fr := []) (by decide +kernel))) (pa_cons (pe_lam1 TBW hcW hmW huW rfl rfl (ndef_free (sc := defScope (top 60)) (fr := []) (by decide +kernel))) pa_nil)))))), ?_⟩
    refine ⟨hT, fun f0 H0 g0 T0 _ l0 => ⟨T0, fun f1 H1 g1 T1 _ l1 => ⟨T1, fun f2 H2 g2 T2 _ l2 => ⟨szd rfl, fun a ha => ?_⟩⟩⟩⟩
    have s3 : Same H2 (upd H2 a (.lst [.ref f0, .ref f1, .ref f2])) := Same.new ha
    refine ⟨_, rfl, tS T2 s3, fun f3 H4 g4 T4 _ l3 => ⟨T4, fun f4 H5 g5 T5 _ l4 => ⟨szd rfl, fun b hb => ?_⟩⟩⟩
    have s6 : Same H5 (upd H5 b (.lst [.ref f3, .ref f4])) := Same.new hb
    have ga5 : Grow H2 H5 := ((Grow.of s3).trans g4).trans g5
    have a5 : H5 a = some (.lst [.ref f0, .ref f1, .ref f2]) := (g4.trans g5).at upd_same
    refine ⟨a, b, _, _, rfl, rfl, s6 _ _ a5, upd_same, szd rfl, fun c hc => ?_⟩
    have s7 : Same (upd H5 b (.lst [.ref f3, .ref f4])) (upd (upd H5 b (.lst [.ref f3, .ref f4])) c (.lst ([.ref f0, .ref f1, .ref f2] ++ [.ref f3, .ref f4]))) := Same.new hc
    refine ⟨_, rfl, tS (tS T5 s6) s7, fun f5 H8 g8 T8 _ l5 => ⟨T8, fun f6 H9 g9 T9 _ l6 => ⟨szd rfl, fun d hd => ?_⟩⟩⟩
    have s10 : Same H9 (upd H9 d (.lst [.ref f5, .ref f6])) := Same.new hd
    have c9 : H9 c = some (.lst ([.ref f0, .ref f1, .ref f2] ++ [.ref f3, .ref f4])) := (g8.trans g9).at upd_same
    refine ⟨c, d, _, _, rfl, rfl, s10 _ _ c9, upd_same, szd rfl, fun e he => ?_⟩
    have s11 := Same.new (o := .lst (([.ref f0, .ref f1, .ref f2] ++ [.ref f3, .ref f4]) ++ [.ref f5, .ref f6])) he
    intro Hz Fz
    have gZ : Grow H9 Hz := ((Grow.of s10).trans (Grow.of s11)).trans (Grow.of Fz.same)
    have g89 : Grow H5 H9 := (((Grow.of s6).trans (Grow.of s7)).trans g8).trans g9
    have gall : Grow H Hz := ((((((g0.trans g1).trans g2).trans ga5)).trans g89)).trans gZ
    have G0 : Grow H0 Hz := (((g1.trans g2).trans ga5).trans g89).trans gZ
    have G1 : Grow H1 Hz := ((g2.trans ga5).trans g89).trans gZ
    have G2 : Grow H2 Hz := (ga5.trans g89).trans gZ
    have G4 : Grow H4 Hz := (g5.trans g89).trans gZ
    have G5 : Grow H5 Hz := g89.trans gZ
    have G8 : Grow H8 Hz := g9.trans gZ
    have hS' := gall.seq hS
    have hP' := gall.seq hP
    have he2 : H e = none := by
      have q := he
      have q2 := (Grow.of s10).2 e q
      exact (((((g0.trans g1).trans g2).trans ga5)).trans g89).2 e q2
    refine k e [f0, f1, f2, f3, f4, f5, f6] Hz gall (tS (tS (tS T9 s10) s11) Fz.same) he2 (Fz.same _ _ upd_same) ?_
    refine .cons (ref_told T Z (l0.grow G0) (Fz.capsB (sc := defScope (top 60)) (js := [0, 1]) rfl (by decide +kernel) rfl rfl) hS') ?_
    refine .cons (ref_best T Z (l1.grow G1) (Fz.capsB (sc := defScope (top 60)) (js := [0, 1]) rfl (by decide +kernel) rfl rfl) hS') ?_
    refine .cons (ref_paper T Z (l2.grow G2) (Fz.capsB (sc := defScope (top 60)) (js := [0, 1]) rfl (by decide +kernel) rfl rfl) hS') ?_
    refine .cons (ref_stretches T Z (l3.grow G4) (Fz.capsB (sc := defScope (top 60)) (js := [0, 1]) rfl (by decide +kernel) rfl rfl) hS') ?_
    refine .cons (ref_shown T Z (l4.grow G5) (Fz.capsB (sc := defScope (top 60)) (js := [0, 1, 3]) rfl (by decide +kernel) rfl rfl) hS' hP') ?_
    refine .cons (ref_lacking T Z TB_RULES (l5.grow G8) (Fz.capsB (sc := defScope (top 60)) (js := [0, 1, 2]) rfl (by decide +kernel) rfl rfl) hu hS') ?_
    exact .cons (ref_lacking_in T Z TB_RULES (l6.grow gZ) (Fz.capsB (sc := defScope (top 60)) (js := [0, 1, 2]) rfl (by decide +kernel) rfl rfl) hu hS') .nil
end
end CK

/-! The law's asking of one function, and of a list of them. -/
namespace CK
open PySem PySem.Spec PyProof.Rows L2 CKX CKL LamX NdefX
def tAct (P : Program) (w : World) (K : PySem.W.Frag) (mg : Str → Option Value) (base : Heap) (k i : Nat) (E : L2.St → XK) : TE := fun σ H Q => ∃ (f : Addr) (F : LF), σ[i]? = some (some (.ref f)) ∧ H f = some (LamO f F) ∧ Gives P w K mg base k f H Q (E σ)
/-- x(), x a name that holds such a function -/
theorem pe_act {X : Cx} {k i : Nat} {x : Str} {E : L2.St → XK} {p1 p2 : Pos} (hr : Room k X.A) (hx : ∀ σ, PassesAt (L2N.CX X.prog X.w) X σ (E σ)) (hN : X.N[i]? = some x) (hv : Vis X.env.scope x) (hd : (x == ("__debug__" : Str)) = false := by decide) (hcd : (x == ("__classdict__" : Str)) = false := by decide) :
    PE X (.Call (.Name x p1) [] [] p2) (tAct X.prog X.w X.K X.mg X.base k i E) := by
  constructor
  rintro pins s σ H Q I ⟨f, F, hs, hf, g⟩
  refine wpAny_Call_Name_kw (thn ((pe_var (pos := p1) hN hv hd hcd).run pins s σ H (fun v H1 => v = .ref f ∧ H1 = H) I ⟨.ref f, hs, rfl, rfl⟩) fun u s1 ⟨v, H1, I1, r1, q1⟩ => ?_)
  obtain ⟨ev, eH⟩ := q1
  subst ev
  rw [eH] at I1
  have eu : u = Value.ref f := r1
  subst eu
  have at_ : PySem.W.FnAt f s1.heap := by
    obtain ⟨od, sl, doc, pm, ctv, ho⟩ := lamO_at I1.hok hf
    exact ⟨_, od, _, sl, ho⟩
  refine PySem.W.callWith_F0 (first := []) at_ ?_
  change wpAny _ _ (call (.ref f) ([] ++ [])) _ _ _
  refine wpAny_call (codeAny_mono (g X.A X.stack s1 hr I1.env0) fun r s' hq => ?_)
  cases r with
  | error e => exact hx σ pins H s1 e s' I1 hq
  | ok fl =>
    cases fl with
    | ret u => exact I1.after hq
    | next => exact False.elim hq
    | brk => exact False.elim hq
    | cont => exact False.elim hq
def Out.word : Out → Str
  | .fine => ""
  | .rooms => "BadRooms"
  | .row _ => "BadRow"
  | .rule => "BadRule"
  | .many => "TooMany"
def Out.place : Out → Int
  | .row i => i
  | _ => 0
/-- the value that tells o -/
def DueIs (H : Hp) (v : V) (o : Out) : Prop := (o = .fine ∧ v = .non) ∨ (o ≠ .fine ∧ ∃ t, v = .ref t ∧ H t = some (.tup [.str o.word, .int o.place]))
theorem DueIs.grow {H H' : Hp} {v : V} {o : Out} (d : DueIs H v o) (g : Grow H H') : DueIs H' v o := d.elim (fun z => .inl z) fun ⟨z, t, e, h⟩ => .inr ⟨z, t, e, g.at h⟩
def Out.data : Out → PyData
  | .fine => .none
  | o => .tuple [.str o.word, .int o.place]
theorem DueIs.dp {K : PySem.W.Frag} {H : Hp} {v : V} {o : Out} (d : DueIs H v o) : Dp K H v o.data := by
  rcases d with ⟨rfl, rfl⟩ | ⟨n, t, rfl, h⟩
  · exact .non
  · cases o with
    | fine => exact absurd rfl n
    | _ => exact .tup (SqT.of h) (.cons (.str _) (.cons (.int _) .nil))
theorem out_small (o : Out) : o.data.depth < 5 ∧ smallD o.data := by
  cases o with
  | fine => exact ⟨by decide, trivial⟩
  | row i => exact ⟨by show (1 : Nat) < 5; decide, by show (2 : Nat) ≤ 1000; decide, trivial, trivial, trivial⟩
  | _ => exact ⟨by decide, by decide, trivial, trivial, trivial⟩
theorem takesN {X : Cx} : L2N.Takes X (fun _ _ _ _ => False) := fun _ _ x => by
  obtain ⟨_, _, _, _, _, _, _, _, _, _, _, _, _, _, _, _, z⟩ := x
  exact z.elim
theorem roomM {k : Nat} {A : Around} {v : Option Value} (r : Room k A) : L2H.RoomH k (A.mark v) := ⟨r.dp, r.un⟩
theorem hotM {A : Around} {a : Addr} {oe : Obj} {cls : Value} {d : Option Addr} (hz : L2N.Zn cls d oe) (hf : ∃ vs, oe.data = .fields vs) : L2H.Hot1 (A.mark (some (.ref a))) (a, oe) := by
  obtain ⟨vs, e⟩ := hf
  exact ⟨rfl, vs, e, hz.2.2 vs e⟩
def spRef (P : Program) (w : World) (K : PySem.W.Frag) (mg : Str → Option Value) (base : Heap) (Z : Errs P K mg) : Sp := fun vs H Q _ => ∃ (f : Addr) (o : Out), vs = [.ref f] ∧ RefZ P w K mg base Z H f o ∧ ∀ (v : V) (H' : Hp), Same H H' → DueIs H' v o → Q v H'
def spAll (P : Program) (w : World) (K : PySem.W.Frag) (mg : Str → Option Value) (base : Heap) (Z : Errs P K mg) : Sp := fun vs H Q _ => ∃ (l : Addr) (fs : List Addr) (v : V) (o : Out), vs = [.ref l, v] ∧ H l = some (.lst (fs.map V.ref)) ∧ fs.length ≤ 100 ∧ (∀ (i : Nat) (f : Addr), fs[i]? = some f → RefZ P w K mg base Z H f o) ∧ DueIs H v o ∧ ∀ H', Same H H' → Q (.bl true) H'
section
variable {P : Program} {w : World} {K : PySem.W.Frag} {mg : Str → Option Value} {base : Heap}
theorem sc_law_refused : FnScope ["_law_work", "_law_e", "_law_word"] ["_law_work"] (defScope (top 58)) := ⟨rfl, rfl, rfl, by decide +kernel, rfl, by decide +kernel, by decide +kernel⟩
theorem ok_law_refused (T : Prog K mg) (Z : Errs P K mg) : FnOk P w K mg base CX0 9 T.law_refused.f T.law_refused.fd ["_law_work"] (spRef P w K mg base Z) := by
  have G_law_class := ok_law_class (P := P) (w := w) (base := base) T Z
  refine T.law_refused.fn.ok sc_law_refused (fun vs H Q E h => ?len) (fun cdv A outer s H vs Q E hr h => ?body)
  case len =>
    obtain ⟨f, o, rfl, _⟩ := h
    rfl
  case body =>
    have hr_c : Room 1 _ := hr.mono (by decide)
    obtain ⟨f, o, rfl, R, k⟩ := h
    refine ⟨_, PSs.nox (pss_cons (L2N.ps_try_as (i := 1) (tb := fun W => tDrop (tAct P w K mg base 8 0 (WE W)))
        (ts := fun a cls d => tSeq (tAsg (tCallP (spClass Z.pe Z.rooms Z.row Z.rule Z.many K) a cls d (tCons (tVar 1) tNil)) (gName 2)) (tRet (tIf (tTest (tOp rEq (tVar 2) (tC (.str "BadRow")))) (tTup (tCons (tVar 2) (tCons (tXf a cls d Z.row "place" (tVar 1)) tNil))) (tTup (tCons (tVar 2) (tCons (tC (.int 0)) tNil))))))
        (Wout := fun _ _ _ _ => False) rfl rfl sc_law_refused.nd rfl rfl ⟨rfl, by decide, Or.inl Z.gPE⟩ takesN
        (fun W pn xe tk _ => pss_one (ps_expr (by exact (pe_act (i := 0) hr (fun σ => L2N.passAt tk σ) rfl (by exact .inl rfl)))))
        (fun a oe cls d pn hz hf => pss_cons (ps_set (i := 2) sc_law_refused.nd rfl (Or.inl rfl) (by exact (pe_callP (p := (a, oe)) (cls := cls) (d := d) G_law_class (roomM hr_c) (hotM hz hf) List.mem_cons_self hz.zc hf (by rfl) T.law_class.g T.law_class.fn.kp T.law_class.bd (pa_cons (pv 1) pa_nil))))
          (pss_one (ps_ret (pe_ifExp (pt_cmpR op_eq (pv 2) pe_str (nomark _)) (pe_tup (pa_cons (pv 2) (pa_cons (pe_xf Z.xf Z.br.noN hz.zc hf (pv 1)) pa_nil))) (pe_tup (pa_cons (pv 2) (pa_cons pe_int pa_nil)))))))) (pss_one (ps_ret pe_non))), ?_⟩
    obtain ⟨F, hf⟩ := R.fn
    refine ⟨f, F, rfl, hf, ?_⟩
    intro A' outer' s' hr' e0
    have g := R.gives H (Grow.refl H) A' outer' s' hr' e0
    refine codeAny_mono g fun r s2 hq => ?_
    -- an answer: None; an error: its word, its place
    have bad : ∀ (cls : Value) (d : Option Addr) (H2 : Hp), ErrIs Z.rooms Z.row Z.rule Z.many o cls d H2 ∧ Same H H2 → wAs K (.ref Z.pe) 1 (fun a cls d => tSeq (tAsg (tCallP (spClass Z.pe Z.rooms Z.row Z.rule Z.many K) a cls d (tCons (tVar 1) tNil)) (gName 2)) (tRet (tIf (tTest (tOp rEq (tVar 2) (tC (.str "BadRow")))) (tTup (tCons (tVar 2) (tCons (tXf a cls d Z.row "place" (tVar 1)) tNil))) (tTup (tCons (tVar 2) (tCons (tC (.int 0)) tNil)))))) (fun _ _ _ _ => False) { nx := fun σ H => tRet (tC .non) { nx := fun _ H' => Q .non H', rt := Q } σ H, rt := Q } cls d (L2.start ["_law_work", "_law_e", "_law_word"] [.ref f]) H2 := by
      rintro cls d H2 ⟨e, s0⟩
      have plain : ∀ (D : Addr) (i : Nat), IsErr K Z.pe Z.rooms Z.row Z.rule Z.many D i → i < 4 → i ≠ 1 → cls = .ref D → d = none → o ≠ .fine → o.word = wordE i → o.place = 0 → wAs K (.ref Z.pe) 1 (fun a cls d => tSeq (tAsg (tCallP (spClass Z.pe Z.rooms Z.row Z.rule Z.many K) a cls d (tCons (tVar 1) tNil)) (gName 2)) (tRet (tIf (tTest (tOp rEq (tVar 2) (tC (.str "BadRow")))) (tTup (tCons (tVar 2) (tCons (tXf a cls d Z.row "place" (tVar 1)) tNil))) (tTup (tCons (tVar 2) (tCons (tC (.int 0)) tNil)))))) (fun _ _ _ _ => False) { nx := fun σ H => tRet (tC .non) { nx := fun _ H' => Q .non H', rt := Q } σ H, rt := Q } cls d (L2.start ["_law_work", "_law_e", "_law_word"] [.ref f]) H2 := by
        intro D i ie i4 i1 ec ed no ew ep
        subst ec ed
        refine ⟨true, ie.xm, fun _ a ha => ?_, fun z => Bool.noConfusion z⟩
        refine ⟨_, rfl, D, i, rfl, rfl, ie, i4, trivial, fun H3 s1 => ?_⟩
        refine ⟨_, rfl, rfl, _, rfl, ifF ?_ ?_⟩
        · have four : i = 0 ∨ i = 2 ∨ i = 3 := by omega
          rcases four with rfl | rfl | rfl <;> decide
        · refine ⟨_, rfl, szd rfl, fun t ht => ?_⟩
          exact k _ _ ((s0.trans s1).trans (Same.new ht)) (.inr ⟨no, t, rfl, by rw [upd_same, ew, ep]⟩)
      cases o with
      | fine => exact e.elim
      | rooms => exact plain _ 0 Z.iRooms (by decide) (by decide) e.1 e.2 (by intro z; cases z) rfl rfl
      | rule => exact plain _ 2 Z.iRule (by decide) (by decide) e.1 e.2 (by intro z; cases z) rfl rfl
      | many => exact plain _ 3 Z.iMany (by decide) (by decide) e.1 e.2 (by intro z; cases z) rfl rfl
      | row i =>
        obtain ⟨ec, dd, ed, hd⟩ := e
        subst ec ed
        refine ⟨true, Z.iRow.xm, fun _ a ha => ?_, fun z => Bool.noConfusion z⟩
        refine ⟨_, rfl, Z.row, 1, rfl, rfl, Z.iRow, by decide, ⟨_, hd⟩, fun H3 s1 => ?_⟩
        refine ⟨_, rfl, rfl, _, rfl, ifT (by rfl) ?_⟩
        refine ⟨_, rfl, _, rfl, rfl, rfl, dd, _, _, rfl, s1 _ _ hd, rfl, szd rfl, fun t ht => ?_⟩
        exact k _ _ ((s0.trans s1).trans (Same.new ht)) (.inr ⟨(by intro z; cases z), t, rfl, upd_same⟩)
    cases r with
    | error e =>
      obtain ⟨a, B, H2, cls, d, eu, fl, hok, ub, na, os, bare, q⟩ := hq
      exact ⟨a, B, H2, cls, d, eu, fl, hok, ub, na, os, bare, bad cls d H2 q⟩
    | ok fl =>
      cases fl with
      | ret u =>
        obtain ⟨v, H2, os, bare, un, hok, rv, q⟩ := hq
        exact ⟨v, H2, os, bare, un, hok, rv, k _ _ q.2 (.inl ⟨q.1, rfl⟩)⟩
      | next => exact False.elim hq
      | brk => exact False.elim hq
      | cont => exact False.elim hq
theorem sc_law_all : FnScope ["_law_works_here", "_law_due", "_law_work"] ["_law_works_here", "_law_due"] (defScope (top 59)) := ⟨rfl, rfl, rfl, by decide +kernel, rfl, by decide +kernel, by decide +kernel⟩
theorem ok_law_all (T : Prog K mg) (Z : Errs P K mg) : FnOk P w K mg base CX0 10 T.law_all.f T.law_all.fd ["_law_works_here", "_law_due"] (spAll P w K mg base Z) := by
  have G_law_alike := ok_alike (P := P) (w := w) (base := base) T 5
  have G_law_refused := ok_law_refused (P := P) (w := w) (base := base) T Z
  refine T.law_all.fn.ok sc_law_all (fun vs H Q E h => ?len) (fun cdv A outer s H vs Q E hr h => ?body)
  case len =>
    obtain ⟨l, fs, v, o, rfl, _⟩ := h
    rfl
  case body =>
    have hr_law_alike : Room 5 _ := hr.mono (by decide)
    have hr_law_refused : Room 9 _ := hr.mono (by decide)
    have hu := hu_of hr
    obtain ⟨l, fs, v, o, rfl, hl, hn, R, D, k⟩ := h
    refine ⟨_, PSs.nox (pss_one (ps_ret (pe_cmpR (op_eqD hr.units) (pe_lc (own := [("_law_work", 2)]) (g := gName 2) rfl sc_law_all.nd ((pi_list (pv 0))) (blkOk_by (own := [("_law_work", 2)]) (N := ["_law_works_here", "_law_due", "_law_work"]) (sc := defScope (top 59)) (by decide +kernel)) (fun _ _ _ _ _ => (by exact (pg_name (i := 2) sc_law_all.nd rfl (Or.inl rfl)))) (fun _ _ _ _ _ => (by exact (pts_one (pt_not (pt_val (pe_call G_law_alike hr_law_alike (by rfl) T.law_alike.g T.law_alike.fn.kp T.law_alike.bd .nil pass0 (pa_cons (pe_call G_law_refused hr_law_refused (by rfl) T.law_refused.g T.law_refused.fn.kp T.law_refused.bd .nil pass0 (pa_cons (pv 2) pa_nil)) (pa_cons (pv 1) pa_nil)))))))) (fun _ _ _ _ _ => (by exact (pv 2)))) (pe_lst pa_nil) (nomark _)))), ?_⟩
    refine ⟨_, rfl, l, rfl, ⟨_, SqL.of hl⟩, fun d hd => ?_⟩
    refine lc_list (K := K) (a := l) (xs := fs.map V.ref) (fun i H' => H' d = some (.lst []) ∧ Same H H') ⟨upd_same, Same.new hd⟩ (fun i H' _ h => SqL.of (h.2 _ _ hl)) ?_ ?_
    · rintro i x H1 hx ⟨h1, s1⟩
      rw [List.getElem?_map] at hx
      cases ef : fs[i]? with
      | none => rw [ef] at hx; cases hx
      | some f =>
        rw [ef] at hx
        obtain rfl := Option.some.inj hx
        refine ⟨rfl, _, rfl, f, o, rfl, (R i f ef).grow (Grow.of s1), fun v2 H2 s2 D2 => ⟨_, rfl, v2, v, o.data, rfl, D2.dp, (D.grow (Grow.of (s1.trans s2))).dp, (out_small o).1, (out_small o).2, ?_⟩⟩
        exact ⟨_, rfl, iteF ⟨s2 _ _ h1, s1.trans s2⟩⟩
    · rintro H1 ⟨h1, s1⟩
      refine ⟨szd rfl, fun e he => ?_⟩
      have s2 := Same.new (o := .lst []) he
      refine ⟨pd [], pd [], dp_il (ns := []) (SqL.of (s2 _ _ h1)), dp_il (ns := []) (SqL.of upd_same), shaped_il _, shaped_il _, ?_⟩
      rw [eqv_il]
      exact k _ (s1.trans s2)
end
end CK

/-! A draw below a number of up to two hundred bits. -/
namespace CKW
open PySem PySem.Spec PyProof.Rows L2 CK
def spTake : Sp := fun vs H Q _ => ∃ (b l : Addr) (m : Int), vs = [.ref b, .int m] ∧ BoxAt H b l ∧ 0 < m ∧ m.natAbs < 2 ^ 200 ∧
  ∀ (r : Int) (H' : Hp), 0 ≤ r → r < m → But [b, l] H H' → BoxAt H' b l → Q (.int r) H'
section
variable {P : Program} {w : World} {K : PySem.W.Frag} {mg : Str → Option Value} {base : Heap}
theorem sc_law_take : FnScope ["_law_box", "_law_many", "_law_number"] ["_law_box", "_law_many"] (defScope (top 54)) := ⟨rfl, rfl, rfl, by decide +kernel, rfl, by decide +kernel, by decide +kernel⟩
theorem ok_law_take (T : Prog K mg) : FnOk P w K mg base CX0 1 T.law_take.f T.law_take.fd ["_law_box", "_law_many"] spTake := by
  refine T.law_take.fn.ok sc_law_take (fun vs H Q E h => ?len) (fun cdv A outer s H vs Q E hr h => ?body)
  case len =>
    obtain ⟨b, l, m, rfl, _⟩ := h
    rfl
  case body =>
    have hu := hu_of hr
    obtain ⟨b, l, m, rfl, B, m0, m1, k⟩ := h
    refine ⟨_, PSs.nox (pss_cons (ps_if (pt_cmpR (op_eqD hr.units) (pe_ix ix_list (pv 0) pe_int (fun _ _ => rfl)) (pe_lst pa_nil) (nomark _))
        (pss_cons (ps_asg (pe_op op_mod (pe_op op_mul (pe_ix ix_list (pv 0) pe_int (fun _ _ => rfl)) pe_int) pe_int) (pg_sub (pv 0) pe_int set_list))
        (pss_one (ps_ret (pe_op op_mod (pe_op op_fdivW (pe_ix ix_list (pv 0) pe_int (fun _ _ => rfl)) pe_int) (pv 1)))))
        pss_nil)
        (pss_cons (ps_set (i := 2) sc_law_take.nd rfl (Or.inl rfl) (pe_ix ix_list (pe_ix ix_list (pv 0) pe_int (fun _ _ => rfl)) pe_int (fun _ _ => rfl)))
        (pss_cons (ps_asg (pe_op op_fdivW (pv 2) (pv 1)) (pg_sub (pe_ix ix_list (pv 0) pe_int (fun _ _ => rfl)) pe_int set_list))
        (pss_cons (ps_if (PW.pt (pw_or (pt_cmpR op_eq (pe_ix ix_list (pe_ix ix_list (pv 0) pe_int (fun _ _ => rfl)) pe_int (fun _ _ => rfl)) pe_int (nomark _)) (pw_or1 (pt_cmpR op_eq (pe_ix ix_list (pe_ix ix_list (pv 0) pe_int (fun _ _ => rfl)) pe_int (fun _ _ => rfl)) (pe_un un_neg pe_int) (nomark _)))))
        (pss_one (ps_expr (pe_bm PySem.F.plainAttrs_list PySem.F.slot_list_pop PySem.F.type_list_pop mt_popAt (pe_ix ix_list (pv 0) pe_int (fun _ _ => rfl)) (pa_cons pe_int pa_nil))))
        pss_nil)
        (pss_one (ps_ret (pe_op op_mod (pv 2) (pv 1)))))))), ?_⟩
    have B0 := B
    obtain ⟨ns, z, hb, hl, z0, z1⟩ := B.ex
    -- if box[0] == []
    refine ⟨_, rfl, b, _, _, _, rfl, rfl, SqL.of hb, atI_nat (j := 0) rfl, by decide, fun e he => ?_⟩
    have eb : b ≠ e := ne_fresh hb he
    have el : l ≠ e := ne_fresh hl he
    have s1 : But [b, l] H (upd H e (.lst [])) := But.new he
    have hb1 : upd H e (.lst []) b = some (.lst [.ref l, .int z]) := by rw [upd_ne eb]; exact hb
    have hl1 : upd H e (.lst []) l = some (.lst (il ns)) := by rw [upd_ne el]; exact hl
    refine ⟨pd ns, pd [], dp_il (SqL.of hl1), dp_il (ns := []) (SqL.of upd_same), shaped_il _, shaped_il _, _, rfl, ?_⟩
    rw [eqv_il]
    refine ite2 (fun hn => ?_) (fun hn => ?_)
    · -- box[1] = box[1] * 48271 % 2147483647; return box[1] // 7 % many
      refine ⟨_, rfl, b, _, _, _, rfl, rfl, SqL.of hb1, atI_nat (j := 1) rfl, _, _, rfl, rfl, .inl ⟨by omega, by omega⟩, _, _, rfl, rfl, int0 (by decide), ?_⟩
      refine ⟨_, rfl, b, _, 1, 1, rfl, rfl, hb1, rfl, ?_⟩
      refine ⟨_, rfl, b, _, _, _, rfl, rfl, SqL.of upd_same, atI_nat (j := 1) rfl, _, _, rfl, rfl, wide_div (b := 3) (by decide) (by decide) (by decide) (by decide), _, rfl, _, _, rfl, rfl, m0, ?_⟩
      refine k _ _ (Int.emod_nonneg _ (by omega)) (Int.emod_lt_of_pos _ m0) (s1.trans (But.put (by simp))) ⟨B.ne, ns, _, upd_same, ?_, Int.emod_nonneg _ (by decide), Int.emod_lt_of_pos _ (by decide)⟩
      rw [upd_ne (Ne.symm B.ne)]
      exact hl1
    · -- number = box[0][0]
      obtain ⟨n, r, rfl⟩ : ∃ n r, ns = n :: r := by
        cases ns with
        | nil => exact absurd (by simp) hn
        | cons n r => exact ⟨n, r, rfl⟩
      refine ⟨_, rfl, b, _, _, _, rfl, rfl, SqL.of hb1, atI_nat (j := 0) rfl, l, _, _, _, rfl, rfl, SqL.of hl1, atI_nat (j := 0) rfl, ?_⟩
      -- box[0][0] = number // many
      refine ⟨_, rfl, _, rfl, _, _, rfl, rfl, wide_div m0 m1 (by decide) (by decide), ?_⟩
      refine ⟨_, rfl, b, _, _, _, rfl, rfl, SqL.of hb1, atI_nat (j := 0) rfl, l, _, 0, 0, rfl, rfl, hl1, ixn rfl (by simp), ?_⟩
      have hb2 : ∀ o, upd (upd H e (.lst [])) l o b = some (.lst [.ref l, .int z]) := fun o => by rw [upd_ne B.ne]; exact hb1
      have hl2 : upd (upd H e (.lst [])) l (.lst ((il (n :: r)).set 0 (.int (n / m)))) l = some (.lst (il ((n / m) :: r))) := upd_same
      have s2 : But [b, l] H (upd (upd H e (.lst [])) l (.lst ((il (n :: r)).set 0 (.int (n / m))))) := s1.trans (But.put (by simp))
      have r0 : 0 ≤ n % m := Int.emod_nonneg _ (by omega)
      have r1 : n % m < m := Int.emod_lt_of_pos _ m0
      -- if box[0][0] == 0 or box[0][0] == -1
      refine ⟨_, rfl, b, _, _, _, rfl, rfl, SqL.of (hb2 _), atI_nat (j := 0) rfl, l, _, _, _, rfl, rfl, SqL.of hl2, atI_nat (j := 0) rfl, rfl, _, rfl, ?_⟩
      have pop : ∀ (σ : L2.St), ∀ D : Ends, σ[0]? = some (some (.ref b)) → (∀ H', But [b, l] H H' → BoxAt H' b l → D.nx σ H') → tDrop (tBM K "list" rPopAt (tOp (rIxL K) (tVar 0) (tC (.int 0))) (tCons (tC (.int 0)) tNil)) D σ (upd (upd H e (.lst [])) l (.lst ((il (n :: r)).set 0 (.int (n / m))))) := by
        intro σ D hσ hD
        refine ⟨_, hσ, b, _, _, _, rfl, rfl, SqL.of (hb2 _), atI_nat (j := 0) rfl, .inl ⟨rfl, _, SqL.of hl2⟩, l, _, 0, 0, _, rfl, rfl, hl2, by decide, by decide, seq_ix rfl (by simp), rfl, ?_⟩
        refine hD _ (s2.trans (But.put (by simp))) ⟨B.ne, r, z, ?_, upd_same, z0, z1⟩
        rw [upd_ne B.ne]
        exact hb2 _
      have out : ∀ H', But [b, l] H H' → BoxAt H' b l → tRet (tOp (rI (fun _ j => 0 < j) fun i j => V.int (i % j)) (tVar 2) (tVar 1)) { nx := fun _ H' => Q .non H', rt := Q } [some (.ref b), some (.int m), some (.int n)] H' := fun H' k1 B1 => by
        refine ⟨_, rfl, _, rfl, _, _, rfl, rfl, m0, ?_⟩
        exact k _ _ r0 r1 k1 B1
      refine ite2 (fun _ => iteT (pop _ _ rfl out)) (fun _ => ?_)
      refine ⟨_, rfl, b, _, _, _, rfl, rfl, SqL.of (hb2 _), atI_nat (j := 0) rfl, l, _, _, _, rfl, rfl, SqL.of hl2, atI_nat (j := 0) rfl, _, rfl, rfl, _, rfl, ?_⟩
      refine ite2 (fun _ => pop _ _ rfl out) (fun _ => ?_)
      exact out _ s2 ⟨B.ne, _, z, hb2 _, hl2, z0, z1⟩
end
theorem ten58 : ((10 : Int) ^ (58 : Int).toNat).natAbs < 2 ^ 200 := by decide +kernel
theorem ten58p : 0 < (10 : Int) ^ (58 : Int).toNat := by decide +kernel
end CKW

/-! What the law's rows come to; what stands while the law goes on. -/
namespace CK
open PySem PySem.Spec PyProof.Rows L2 CKX CKL LamX NdefX
theorem badAt_pre : ∀ {xs : List Int} {y : Int} {zs : List Int} {j : Nat}, (∀ p ∈ xs, 0 ≤ p ∧ p < 12) → j + xs.length ≤ 100 → (j + xs.length = 100 ∨ ¬ (0 ≤ y ∧ y < 12)) → badAt (xs ++ y :: zs) j = some (j + xs.length)
  | [], y, zs, j, _, _, h => by
    rw [List.nil_append, badAt_cons, if_pos (by simpa using h)]
    rfl
  | x :: r, y, zs, j, hp, hl, h => by
    rw [List.length_cons] at hl h ⊢
    rw [List.cons_append, badAt_cons, if_neg (fun z => z.elim (fun e => by omega) fun q => q (hp x List.mem_cons_self)), badAt_pre (fun p hq => hp p (List.mem_cons_of_mem _ hq)) (by omega) (by rw [show j + 1 + r.length = j + (r.length + 1) by omega]; exact h)]
    congr 1
    omega
theorem badAt_in {row : List Int} {out : Int} {i : Nat} (zs : List Int) (h : RowOk row) (hi : i ≤ row.length) (ho : ¬ (0 ≤ out ∧ out < 12)) : badAt (row.take i ++ [out] ++ row.drop i ++ zs) 0 = some i := by
  have l : (row.take i).length = i := by rw [List.length_take]; omega
  have h1 := h.1
  have e : row.take i ++ [out] ++ row.drop i ++ zs = row.take i ++ out :: (row.drop i ++ zs) := by simp
  rw [e, badAt_pre (fun p hp => h.2 p (List.mem_of_mem_take hp)) (by omega) (.inr ho), l, Nat.zero_add]
theorem badAt_long {row : List Int} (h : RowOk row) : badAt (row ++ List.replicate (101 - row.length) 0) 0 = some 100 := by
  have h1 := h.1
  have e : row ++ List.replicate (101 - row.length) 0 = (row ++ List.replicate (100 - row.length) 0) ++ (0 : Int) :: [] := by
    rw [show 101 - row.length = (100 - row.length) + 1 by omega, List.replicate_succ', List.append_assoc]
  have l : (row ++ List.replicate (100 - row.length) (0 : Int)).length = 100 := by rw [List.length_append, List.length_replicate]; omega
  rw [e, badAt_pre (fun p hp => ?_) (by omega) (.inl (by omega)), l]
  rcases List.mem_append.mp hp with z | z
  · exact h.2 p z
  · rw [(List.mem_replicate.mp z).2]
    decide
theorem cut_to (xs : List Int) {i : Nat} (h : i ≤ xs.length) : cutV (il xs) none (some (i : Int)) = il (xs.take i) := by
  unfold cutV
  rw [HT.sIx_none, HT.sIx_nat, il_len, Nat.min_eq_left h, List.drop_zero, Nat.sub_zero]
  show (xs.map V.int).take i = (xs.take i).map V.int
  rw [List.map_take]
theorem cut_on (xs : List Int) {i : Nat} (h : i ≤ xs.length) : cutV (il xs) (some (i : Int)) none = il (xs.drop i) := by
  unfold cutV
  rw [HT.sIx_none, HT.sIx_nat, il_len, Nat.min_eq_left h]
  show ((xs.map V.int).drop i).take _ = (xs.drop i).map V.int
  rw [List.map_drop]
  exact List.take_of_length_le (by rw [List.length_drop, List.length_map]; exact Nat.le_refl _)
theorem cut_5 (xs : List V) (h : 5 ≤ xs.length) : cutV xs (some 5) none = xs.drop 5 := by
  unfold cutV
  rw [HT.sIx_none]
  have e : HT.sIx xs.length 0 (some (5 : Int)) = min 5 xs.length := HT.sIx_nat _ _ 5
  rw [e, Nat.min_eq_left h]
  exact List.take_of_length_le (by rw [List.length_drop]; exact Nat.le_refl _)
theorem rep_il (k : Nat) (x : Int) : (List.replicate k [V.int x]).flatten = il (List.replicate k x) := by
  rw [rep_one]
  show _ = (List.replicate k x).map V.int
  rw [List.map_replicate]
theorem menuV {xs : List V} {r : Int} (h0 : 0 ≤ r) (h1 : r < xs.length) : ∃ v, v ∈ xs ∧ atI xs r = some v := by
  obtain ⟨j, rfl⟩ : ∃ j : Nat, r = (j : Int) := ⟨r.toNat, by omega⟩
  have hj : j < xs.length := by omega
  exact ⟨xs[j], List.getElem_mem hj, atI_nat (List.getElem?_eq_getElem hj)⟩
theorem rise_f {n : Nat} {b p : Int} {r : List Int} (h : ¬ b < p ∨ ¬ p < (n : Int) ∨ riseIn n p r = false) : riseIn n b (p :: r) = false := by
  unfold riseIn
  rcases h with h | h | h
  · rw [decide_eq_false h]; rfl
  · rw [decide_eq_false h, Bool.and_false]; rfl
  · rw [h, Bool.and_false]
theorem small200 {m : Int} (h : m.natAbs ≤ 1000) : m.natAbs < 2 ^ 200 := Nat.lt_of_le_of_lt h (by decide)
theorem nextS {D : Ends} {σ σ' : L2.St} {H : Hp} (e : σ = σ') (h : tNext D σ' H) : tNext D σ H := by
  rw [e]
  exact h
/-! ### what the functions come to -/
section
variable {P : Program} {w : World} {K : PySem.W.Frag} {mg : Str → Option Value} {base : Heap} {Z : Errs P K mg} {H : Hp} {fs : List Addr} {os : List Out} {o : Out}
theorem Refs.all (r : Refs P w K mg base Z H fs os) (h : ∀ u ∈ os, u = o) : ∀ (i : Nat) (f : Addr), fs[i]? = some f → RefZ P w K mg base Z H f o := fun i f e => by
  have hi : i < os.length := by rw [← r.1]; exact (List.getElem?_eq_some_iff.mp e).1
  have q := r.2 i f os[i] e (List.getElem?_eq_getElem hi)
  rw [h _ (List.getElem_mem hi)] at q
  exact q
end
section
variable {n : Int} {row ps : List Int} {u : RuW}
theorem works_out (h : ¬ (1 ≤ n ∧ n ≤ 8)) : ∀ o ∈ worksO n row ps u, o = .rooms := by
  intro o ho
  unfold worksO oRR oSh oLk at ho
  simp only [oIn_out h] at ho
  simpa using ho
theorem works_bad {i : Nat} (h1 : 1 ≤ n) (h8 : n ≤ 8) (h : badAt row 0 = some i) : ∀ o ∈ worksO n row ps u, o = .row i := by
  intro o ho
  unfold worksO oRR oSh oLk at ho
  simp only [oIn_in h1 h8, oRow_bad h] at ho
  simpa using ho
theorem works_rule (h1 : 1 ≤ n) (h8 : n ≤ 8) (h : RowOk row) (hu : u.good = false) : ∀ o ∈ (worksO n row ps u).drop 5, o = .rule := by
  intro o ho
  unfold worksO oRR oSh oLk at ho
  simp only [oIn_in h1 h8, oRow_ok h, hu] at ho
  simpa using ho
theorem works_fine (h1 : 1 ≤ n) (h8 : n ≤ 8) (h : RowOk row) (hu : u.good = true) (hp : riseIn row.length (-1) ps = true) : ∀ o ∈ worksO n row ps u, o = .fine := by
  intro o ho
  unfold worksO oRR oSh oLk at ho
  simp only [oIn_in h1 h8, oRow_ok h, hu, hp] at ho
  simpa using ho
theorem wo_row {p k : Int} (h1 : 1 ≤ n) (h8 : n ≤ 8) (h : ¬ (1 ≤ p ∧ p ≤ 12 ∧ 0 ≤ k)) : oWo n p k = .row 0 := by
  unfold oWo
  rw [oIn_in h1 h8, if_neg h]
theorem wo_many {p k : Int} (h1 : 1 ≤ n) (h8 : n ≤ 8) (h : 1 ≤ p ∧ p ≤ 12 ∧ 0 ≤ k) (ht : tooM p.toNat k.toNat = true) : oWo n p k = .many := by
  unfold oWo
  rw [oIn_in h1 h8, if_pos h, if_pos ht]
theorem wo_rule {p k : Int} (h1 : 1 ≤ n) (h8 : n ≤ 8) (h : 1 ≤ p ∧ p ≤ 12 ∧ 0 ≤ k) (ht : tooM p.toNat k.toNat = false) : oWo n p k = .rule := by
  unfold oWo
  rw [oIn_in h1 h8, if_pos h, if_neg (by rw [ht]; simp)]
theorem too_long {p k : Nat} (h : 5000 < k) : tooM p k = true := by
  unfold tooM
  rw [decide_eq_true h]
  rfl
theorem DueIs.tup {H : Hp} {v : V} {o : Out} (d : DueIs H v o) (n : o ≠ .fine) : ∃ t, v = .ref t ∧ H t = some (.tup [.str o.word, .int o.place]) := d.elim (fun z => absurd z.1 n) fun z => z.2
theorem too_12 {k : Nat} (h : 4 ≤ k) : tooM 12 k = true := by
  have q := Nat.pow_le_pow_right (show 1 ≤ 12 by decide) h
  unfold tooM
  rw [decide_eq_true (show 5000 < 12 ^ k from Nat.lt_of_lt_of_le (by decide) q), Bool.or_true]
end
/-! ### what stands while the law goes on -/
structure LawK (b l PL PW : Addr) (kn : List (Addr × List V)) (H : Hp) : Prop where
  box : BoxAt H b l
  tab : Tabs (TT PL PW) H
  kn : ∀ p ∈ kn, H p.1 = some (.lst p.2) ∧ p.1 ∉ [b, l]
section
variable {b l PL PW a : Addr} {kn : List (Addr × List V)} {H H' : Hp} {xs : List V}
theorem tB {T : List (Addr × Str)} (t : Tabs T H) (B : BoxAt H b l) (k : But [b, l] H H') : Tabs T H' := by
  obtain ⟨ns, z, q1, q2, _⟩ := B.ex
  have off : ∀ c o, H c = some o → (∀ xs, o ≠ .lst xs) → c ∉ [b, l] := fun c o e n z => by
    rcases List.mem_cons.mp z with y | y
    · rw [y, q1] at e
      exact n _ (Option.some.inj e).symm
    · rw [List.mem_singleton.mp y, q2] at e
      exact n _ (Option.some.inj e).symm
  intro p hp
  obtain ⟨ps, h1, h2, h3⟩ := t p hp
  refine ⟨ps, k _ _ h1 (off _ _ h1 fun xs z => by cases z), h2, fun pos cv hc => ?_⟩
  obtain ⟨c, e1, e2⟩ := h3 pos cv hc
  exact ⟨c, e1, k _ _ e2 (off _ _ e2 fun xs z => by unfold CodeO at z; cases z)⟩
theorem BoxAt.offT (B : BoxAt H b l) {c : Addr} {u : List V} (h : H c = some (.tup u)) : c ∉ [b, l] := fun z => B.notup c z u h
theorem LawK.same (k : LawK b l PL PW kn H) (s : Same H H') : LawK b l PL PW kn H' := ⟨k.box.same s, tS k.tab s, fun p hp => ⟨s _ _ (k.kn p hp).1, (k.kn p hp).2⟩⟩
theorem LawK.but (k : LawK b l PL PW kn H) (s : But [b, l] H H') (B : BoxAt H' b l) : LawK b l PL PW kn H' := ⟨B, tB k.tab k.box s, fun p hp => ⟨s _ _ (k.kn p hp).1 (k.kn p hp).2, (k.kn p hp).2⟩⟩
theorem LawK.grow (k : LawK b l PL PW kn H) (g : Grow H H') (t : Tabs (TT PL PW) H') : LawK b l PL PW kn H' := by
  obtain ⟨ns, z, q1, q2, q3⟩ := k.box.ex
  exact ⟨⟨k.box.ne, ns, z, g.at q1, g.at q2, q3⟩, t, fun p hp => ⟨g.at (k.kn p hp).1, (k.kn p hp).2⟩⟩
theorem LawK.add (k : LawK b l PL PW kn H) (h : H a = some (.lst xs)) (n : a ∉ [b, l]) : LawK b l PL PW ((a, xs) :: kn) H := ⟨k.box, k.tab, fun p hp => by
  rcases List.mem_cons.mp hp with z | z
  · rw [z]; exact ⟨h, n⟩
  · exact k.kn p z⟩
theorem LawK.put (k : LawK b l PL PW kn H) (n : H a = none) : LawK b l PL PW ((a, xs) :: kn) (upd H a (.lst xs)) := (k.same (Same.new n)).add upd_same (k.box.off n)
theorem LawK.at (k : LawK b l PL PW kn H) (h : (a, xs) ∈ kn := by simp) : H a = some (.lst xs) := (k.kn _ h).1
theorem LawK.sub {kn' : List (Addr × List V)} (k : LawK b l PL PW kn H) (h : ∀ p ∈ kn', p ∈ kn) : LawK b l PL PW kn' H := ⟨k.box, k.tab, fun p hp => k.kn p (h p hp)⟩
end
end CK

/-! The law of what is refused. -/
namespace CK
open PySem PySem.Spec PyProof.Rows L2 CKX CKL LamX NdefX
def spLawT (K : PySem.W.Frag) (PL PW : Addr) : Sp := fun vs H Q _ => ∃ (a : Addr) (ns : List Int), vs = [.ref a] ∧ SqL K H a (il ns) ∧ ns.length ≤ 63 ∧ Tabs (TT PL PW) H ∧ ∀ H', Q (.bl true) H'
section
variable {P : Program} {w : World} {K : PySem.W.Frag} {mg : Str → Option Value} {base : Heap}
/-- a def by its body, its code object told -/
theorem okC {x qual : Str} {params : Arguments} {body : List Stmt} {scope : Scope} {f : Addr} {fd : FuncData} {CX : CXT} {N ps : List Str} {k : Nat} {sp : Sp} (F : FunD K x qual params body scope [] [] f fd) (S : FnScope N ps scope) (len : ∀ vs H Q E, sp vs H Q E → vs.length = ps.length)
    (hbody : ∀ (cdv : Value) (A : Around) (outer : List Env) (s : Shared) (H : Hp) (vs : List V) (Q : VK) (E : XK), fd.code = cdv → Room k (A.deeper (envOfC qual scope s.heap.objs.size f cdv)) → sp vs H Q E →
      ∃ t, PSs (cxOf CX P w K mg base N qual scope f cdv A outer s H E) body t ∧ t { nx := fun _ H' => Q .non H', rt := Q } (L2.start N vs) H) : FnOk P w K mg base CX (k + 1) f fd ps sp := by
  obtain ⟨oc, od, dV, kV, doc, pm, an, cdv, ct, osl, fdE, look, code, -⟩ := F.ex
  subst fdE
  exact fn_of look code S len fun A outer s H vs Q E hr hsp => hbody cdv A outer s H vs Q E rfl hr hsp
theorem sc_law : FnScope ["_law_script", "_law_box", "_law_rooms", "_law_row_here", "_law_out", "_law_at", "_law_bad", "_law_none", "_law_works_here", "_law_long", "_law_places", "_law_rule", "_law_some", "_law_pages"] ["_law_script"] (defScope (top 61)) := ⟨rfl, rfl, rfl, by decide +kernel, rfl, by decide +kernel, by decide +kernel⟩
theorem ok_law (T : Prog K mg) {es : Array DictEntry} {nd : Nat} (TB_RULES : KDict K w T.a_RULES es nd) (Z : Errs P K mg) {cL cW PL PW : Addr} (hne : PL ≠ PW) (hcW : T.law_works.fd.code = .ref cW) (TBW : TabB base mg cW PW) (TBL : TabB base mg cL PL)
    {f : Addr} {fd : FuncData} (F : FunD K "law" "law" (defArgs (top 61)) (defBody (top 61)) (defScope (top 61)) [] [] f fd) (hcd : fd.code = .ref cL) : FnOk P w K mg base CX0 13 f fd ["_law_script"] (spLawT K PL PW) := by
  have G_law_begun := ok_law_begun (P := P) (w := w) (base := base) T
  have G_law_take := CKW.ok_law_take (P := P) (w := w) (base := base) T
  have G_law_row := ok_law_row (P := P) (w := w) (base := base) T
  have G_law_works := ok_law_works (P := P) (w := w) (base := base) T TB_RULES Z hcW TBW hne
  have G_law_all := ok_law_all (P := P) (w := w) (base := base) T Z
  have G_law_refused := ok_law_refused (P := P) (w := w) (base := base) T Z
  refine okC F sc_law (fun vs H Q E h => ?len) (fun cdv A outer s H vs Q E hcd2 hr h => ?body)
  case len =>
    obtain ⟨a, ns, rfl, _⟩ := h
    rfl
  case body =>
    obtain rfl : cdv = .ref cL := hcd2.symm.trans hcd
    have hr_law_begun : Room 1 _ := hr.mono (by decide)
    have hr_law_take : Room 1 _ := hr.mono (by decide)
    have hr_law_row : Room 2 _ := hr.mono (by decide)
    have hr_law_works : Room 1 _ := hr.mono (by decide)
    have hr_law_all : Room 10 _ := hr.mono (by decide)
    have hr_law_refused : Room 9 _ := hr.mono (by decide)
    have huL := hu_L hne
    have hcL : (cxOf CX0 P w K mg base ["_law_script", "_law_box", "_law_rooms", "_law_row_here", "_law_out", "_law_at", "_law_bad", "_law_none", "_law_works_here", "_law_long", "_law_places", "_law_rule", "_law_some", "_law_pages"] "law" (defScope (top 61)) f (.ref cL) A outer s H E).nox.env.code = .ref cL := rfl
    obtain ⟨a, ns, rfl, hS, hl63, hT, k⟩ := h
    refine ⟨_, PSs.nox (pss_cons (ps_set (i := 1) sc_law.nd rfl (Or.inl rfl) (pe_call G_law_begun hr_law_begun (by rfl) T.law_begun.g T.law_begun.fn.kp T.law_begun.bd .nil pass0 (pa_cons (pv 0) pa_nil)))
        (pss_cons (ps_set (i := 2) sc_law.nd rfl (Or.inr rfl) (pe_op op_add pe_int (pe_call G_law_take hr_law_take (by rfl) T.law_take.g T.law_take.fn.kp T.law_take.bd .nil pass0 (pa_cons (pv 1) (pa_cons pe_int pa_nil)))))
        (pss_cons (ps_set (i := 3) sc_law.nd rfl (Or.inr rfl) (pe_call G_law_row hr_law_row (by rfl) T.law_row.g T.law_row.fn.kp T.law_row.bd .nil pass0 (pa_cons (pv 1) (pa_cons pe_int pa_nil))))
        (pss_cons (ps_set (i := 4) sc_law.nd rfl (Or.inr rfl) (pe_ix ix_list (pe_lst (pa_cons (pe_un un_neg pe_int) (pa_cons pe_int (pa_cons (pe_op op_add pe_int (pe_call G_law_take hr_law_take (by rfl) T.law_take.g T.law_take.fn.kp T.law_take.bd .nil pass0 (pa_cons (pv 1) (pa_cons (pe_op op_pow pe_int pe_int) pa_nil)))) (pa_cons (pe_op op_sub (pe_un un_neg pe_int) (pe_call G_law_take hr_law_take (by rfl) T.law_take.g T.law_take.fn.kp T.law_take.bd .nil pass0 (pa_cons (pv 1) (pa_cons (pe_op op_pow pe_int pe_int) pa_nil)))) pa_nil))))) (pe_call G_law_take hr_law_take (by rfl) T.law_take.g T.law_take.fn.kp T.law_take.bd .nil pass0 (pa_cons (pv 1) (pa_cons pe_int pa_nil))) (fun _ _ => rfl)))
        (pss_cons (ps_set (i := 5) sc_law.nd rfl (Or.inr rfl) (pe_call G_law_take hr_law_take (by rfl) T.law_take.g T.law_take.fn.kp T.law_take.bd .nil pass0 (pa_cons (pv 1) (pa_cons (pe_op op_add (pe_callB call_len_seq (by rfl) T.len PySem.boot_len (pa_cons (pv 3) pa_nil)) pe_int) pa_nil))))
        (pss_cons (ps_set (i := 6) sc_law.nd rfl (Or.inr rfl) (pe_op op_cat (pe_op op_cat (pe_op op_cat (pe_slice sl_list (pv 3) po_none (po_some (pv 5))) (pe_lst (pa_cons (pv 4) pa_nil))) (pe_slice sl_list (pv 3) (po_some (pv 5)) po_none)) (pe_op op_rep (pe_lst (pa_cons pe_int pa_nil)) (pe_call G_law_take hr_law_take (by rfl) T.law_take.g T.law_take.fn.kp T.law_take.bd .nil pass0 (pa_cons (pv 1) (pa_cons pe_int pa_nil))))))
        (pss_cons (ps_set (i := 7) sc_law.nd rfl (Or.inr rfl) (pe_ix ix_list (pe_lst (pa_cons pe_int (pa_cons pe_int (pa_cons (pe_un un_neg pe_int) (pa_cons (pe_op op_add pe_int (pe_call G_law_take hr_law_take (by rfl) T.law_take.g T.law_take.fn.kp T.law_take.bd .nil pass0 (pa_cons (pv 1) (pa_cons (pe_op op_pow pe_int pe_int) pa_nil)))) pa_nil))))) (pe_call G_law_take hr_law_take (by rfl) T.law_take.g T.law_take.fn.kp T.law_take.bd .nil pass0 (pa_cons (pv 1) (pa_cons pe_int pa_nil))) (fun _ _ => rfl)))
        (pss_cons (ps_set (i := 8) sc_law.nd rfl (Or.inl rfl) (pe_op op_cat (pe_call G_law_works hr_law_works (by rfl) T.law_works.g T.law_works.fn.kp T.law_works.bd .nil pass0 (pa_cons (pv 7) (pa_cons (pv 6) (pa_cons pe_str (pa_cons (pe_lst (pa_cons (pe_un un_neg pe_int) pa_nil)) pa_nil))))) (pe_lst (pa_cons (pe_lam0 TBL hcL hmL huL rfl rfl (ndef_free (sc := defScope (top 61)) (fr := []) (by decide +kernel))) (pa_cons (pe_lam1 TBL hcL hmL huL rfl rfl (ndef_free (sc := defScope (top 61)) (fr := []) (by decide +kernel))) pa_nil)))))
        (pss_cons (ps_if (pt_not (pt_val (pe_callZ G_law_all hr_law_all (fun _ => rfl) (by rfl) T.law_all.g T.law_all.fn.kp T.law_all.bd (pa_cons (pv 8) (pa_cons (pe_tup (pa_cons pe_str (pa_cons pe_int pa_nil))) pa_nil)))))
        (pss_one (ps_ret pe_bl))
        pss_nil)
        (pss_cons (ps_if (pt_not (pt_val (pe_callZ G_law_all hr_law_all (fun _ => rfl) (by rfl) T.law_all.g T.law_all.fn.kp T.law_all.bd (pa_cons (pe_op op_cat (pe_call G_law_works hr_law_works (by rfl) T.law_works.g T.law_works.fn.kp T.law_works.bd .nil pass0 (pa_cons (pv 2) (pa_cons (pv 6) (pa_cons pe_str (pa_cons (pe_lst (pa_cons (pe_un un_neg pe_int) pa_nil)) pa_nil))))) (pe_lst (pa_cons (pe_lam0 TBL hcL hmL huL rfl rfl (ndef_free (sc := defScope (top 61)) (fr := []) (by decide +kernel))) pa_nil))) (pa_cons (pe_tup (pa_cons pe_str (pa_cons (pv 5) pa_nil))) pa_nil)))))
        (pss_one (ps_ret pe_bl))
        pss_nil)
        (pss_cons (ps_set (i := 9) sc_law.nd rfl (Or.inr rfl) (pe_op op_cat (pv 3) (pe_op op_rep (pe_lst (pa_cons pe_int pa_nil)) (pe_op op_sub pe_int (pe_callB call_len_seq (by rfl) T.len PySem.boot_len (pa_cons (pv 3) pa_nil))))))
        (pss_cons (ps_if (pt_not (pt_val (pe_callZ G_law_all hr_law_all (fun _ => rfl) (by rfl) T.law_all.g T.law_all.fn.kp T.law_all.bd (pa_cons (pe_op op_cat (pe_call G_law_works hr_law_works (by rfl) T.law_works.g T.law_works.fn.kp T.law_works.bd .nil pass0 (pa_cons (pv 2) (pa_cons (pv 9) (pa_cons pe_str (pa_cons (pe_lst (pa_cons (pe_un un_neg pe_int) pa_nil)) pa_nil))))) (pe_lst (pa_cons (pe_lam0 TBL hcL hmL huL rfl rfl (ndef_free (sc := defScope (top 61)) (fr := []) (by decide +kernel))) pa_nil))) (pa_cons (pe_tup (pa_cons pe_str (pa_cons pe_int pa_nil))) pa_nil)))))
        (pss_one (ps_ret pe_bl))
        pss_nil)
        (pss_cons (ps_set (i := 10) sc_law.nd rfl (Or.inr rfl) (pe_ix ix_list (pe_lst (pa_cons (pe_lst (pa_cons (pe_un un_neg pe_int) pa_nil)) (pa_cons (pe_lst (pa_cons (pe_callB call_len_seq (by rfl) T.len PySem.boot_len (pa_cons (pv 3) pa_nil)) pa_nil)) (pa_cons (pe_lst (pa_cons pe_int (pa_cons pe_int pa_nil))) (pa_cons (pe_lst (pa_cons pe_int (pa_cons pe_int pa_nil))) (pa_cons (pe_lst (pa_cons (pe_op op_add (pe_callB call_len_seq (by rfl) T.len PySem.boot_len (pa_cons (pv 3) pa_nil)) pe_int) pa_nil)) (pa_cons (pe_lst (pa_cons (pe_un un_neg pe_int) (pa_cons pe_int pa_nil))) pa_nil))))))) (pe_call G_law_take hr_law_take (by rfl) T.law_take.g T.law_take.fn.kp T.law_take.bd .nil pass0 (pa_cons (pv 1) (pa_cons pe_int pa_nil))) (fun _ _ => rfl)))
        (pss_cons (ps_if (pt_not (pt_val (pe_callZ G_law_all hr_law_all (fun _ => rfl) (by rfl) T.law_all.g T.law_all.fn.kp T.law_all.bd (pa_cons (pe_lst (pa_cons (pe_lam0 TBL hcL hmL huL rfl rfl (ndef_free (sc := defScope (top 61)) (fr := []) (by decide +kernel))) pa_nil)) (pa_cons (pe_tup (pa_cons pe_str (pa_cons (pe_callB call_len_seq (by rfl) T.len PySem.boot_len (pa_cons (pv 3) pa_nil)) pa_nil))) pa_nil)))))
        (pss_one (ps_ret pe_bl))
        pss_nil)
        (pss_cons (ps_set (i := 11) sc_law.nd rfl (Or.inr rfl) (pe_ix ix_list (pe_lst (pa_cons pe_str (pa_cons pe_str (pa_cons pe_str (pa_cons pe_str (pa_cons pe_str pa_nil)))))) (pe_call G_law_take hr_law_take (by rfl) T.law_take.g T.law_take.fn.kp T.law_take.bd .nil pass0 (pa_cons (pv 1) (pa_cons pe_int pa_nil))) (fun _ _ => rfl)))
        (pss_cons (ps_if (pt_not (pt_val (pe_callZ G_law_all hr_law_all (fun _ => rfl) (by rfl) T.law_all.g T.law_all.fn.kp T.law_all.bd (pa_cons (pe_slice sl_list (pe_call G_law_works hr_law_works (by rfl) T.law_works.g T.law_works.fn.kp T.law_works.bd .nil pass0 (pa_cons (pv 2) (pa_cons (pv 3) (pa_cons (pv 11) (pa_cons (pe_lst pa_nil) pa_nil))))) (po_some pe_int) po_none) (pa_cons (pe_tup (pa_cons pe_str (pa_cons pe_int pa_nil))) pa_nil)))))
        (pss_one (ps_ret pe_bl))
        pss_nil)
        (pss_cons (ps_set (i := 8) sc_law.nd rfl (Or.inl rfl) (pe_lst (pa_cons (pe_lam0 TBL hcL hmL huL rfl rfl (ndef_free (sc := defScope (top 61)) (fr := []) (by decide +kernel))) (pa_cons (pe_lam1 TBL hcL hmL huL rfl rfl (ndef_free (sc := defScope (top 61)) (fr := []) (by decide +kernel))) pa_nil))))
        (pss_cons (ps_if (pt_not (pt_val (pe_callZ G_law_all hr_law_all (fun _ => rfl) (by rfl) T.law_all.g T.law_all.fn.kp T.law_all.bd (pa_cons (pe_op op_cat (pv 8) (pe_lst (pa_cons (pe_lam1 TBL hcL hmL huL rfl rfl (ndef_free (sc := defScope (top 61)) (fr := []) (by decide +kernel))) pa_nil))) (pa_cons (pe_tup (pa_cons pe_str (pa_cons pe_int pa_nil))) pa_nil)))))
        (pss_one (ps_ret pe_bl))
        pss_nil)
        (pss_cons (ps_set (i := 8) sc_law.nd rfl (Or.inl rfl) (pe_lst (pa_cons (pe_lam0 TBL hcL hmL huL rfl rfl (ndef_free (sc := defScope (top 61)) (fr := []) (by decide +kernel))) (pa_cons (pe_lam1 TBL hcL hmL huL rfl rfl (ndef_free (sc := defScope (top 61)) (fr := []) (by decide +kernel))) pa_nil))))
        (pss_cons (ps_if (pt_not (pt_val (pe_callZ G_law_all hr_law_all (fun _ => rfl) (by rfl) T.law_all.g T.law_all.fn.kp T.law_all.bd (pa_cons (pe_op op_cat (pv 8) (pe_lst (pa_cons (pe_lam1 TBL hcL hmL huL rfl rfl (ndef_free (sc := defScope (top 61)) (fr := []) (by decide +kernel))) pa_nil))) (pa_cons (pe_tup (pa_cons pe_str (pa_cons pe_int pa_nil))) pa_nil)))))
        (pss_one (ps_ret pe_bl))
        pss_nil)
        (pss_cons (ps_set (i := 12) sc_law.nd rfl (Or.inl rfl) (pe_lst (pa_cons (pe_tup (pa_cons pe_int (pa_cons pe_int pa_nil))) (pa_cons (pe_tup (pa_cons pe_int (pa_cons pe_int pa_nil))) (pa_cons (pe_tup (pa_cons pe_int (pa_cons pe_int pa_nil))) (pa_cons (pe_tup (pa_cons pe_int (pa_cons pe_int pa_nil))) (pa_cons (pe_tup (pa_cons pe_int (pa_cons pe_int pa_nil))) (pa_cons (pe_tup (pa_cons pe_int (pa_cons pe_int pa_nil))) (pa_cons (pe_tup (pa_cons pe_int (pa_cons pe_int pa_nil))) pa_nil)))))))))
        (pss_cons (ps_asg (pe_ix ix_list (pv 12) (pe_call G_law_take hr_law_take (by rfl) T.law_take.g T.law_take.fn.kp T.law_take.bd .nil pass0 (pa_cons (pv 1) (pa_cons pe_int pa_nil))) (fun _ _ => rfl)) (pg_tup rfl (pgs_cons (pg_name (i := 13) sc_law.nd rfl (Or.inr rfl)) (pgs_cons (pg_name (i := 9) sc_law.nd rfl (Or.inr rfl)) pgs_nil))))
        (pss_cons (ps_if (pt_cmpR (op_neD hr.units) (pe_callZ G_law_refused hr_law_refused (fun _ => rfl) (by rfl) T.law_refused.g T.law_refused.fn.kp T.law_refused.bd (pa_cons (pe_lam0 TBL hcL hmL huL rfl rfl (ndef_free (sc := defScope (top 61)) (fr := []) (by decide +kernel))) pa_nil)) (pe_tup (pa_cons pe_str (pa_cons pe_int pa_nil))) (nomark _))
        (pss_one (ps_ret pe_bl))
        pss_nil)
        (pss_cons (ps_if (pt_cmpR (op_neD hr.units) (pe_callZ G_law_refused hr_law_refused (fun _ => rfl) (by rfl) T.law_refused.g T.law_refused.fn.kp T.law_refused.bd (pa_cons (pe_lam0 TBL hcL hmL huL rfl rfl (ndef_free (sc := defScope (top 61)) (fr := []) (by decide +kernel))) pa_nil)) (pe_tup (pa_cons pe_str (pa_cons pe_int pa_nil))) (nomark _))
        (pss_one (ps_ret pe_bl))
        pss_nil)
        (pss_one (ps_ret (pe_callZ G_law_all hr_law_all (fun _ => rfl) (by rfl) T.law_all.g T.law_all.fn.kp T.law_all.bd (pa_cons (pe_op op_cat (pe_call G_law_works hr_law_works (by rfl) T.law_works.g T.law_works.fn.kp T.law_works.bd .nil pass0 (pa_cons (pv 2) (pa_cons (pv 3) (pa_cons pe_str (pa_cons (pe_lst pa_nil) pa_nil))))) (pe_lst (pa_cons (pe_lam0 TBL hcL hmL huL rfl rfl (ndef_free (sc := defScope (top 61)) (fr := []) (by decide +kernel))) (pa_cons (pe_lam1 TBL hcL hmL huL rfl rfl (ndef_free (sc := defScope (top 61)) (fr := []) (by decide +kernel))) pa_nil)))) (pa_cons pe_non pa_nil))))))))))))))))))))))))))))), ?_⟩
    -- box = begun(script)
    refine ⟨_, rfl, a, ns, rfl, hS, hl63, fun b l H1 hb hl s1 B1 => ?_⟩
    have K1 : LawK b l PL PW [] H1 := ⟨B1, tS hT s1, by simp⟩
    -- rooms, row
    refine ⟨_, rfl, b, l, 8, rfl, K1.box, by decide, by decide, fun r0 H2 r00 r01 k2 B2 => ⟨_, _, rfl, rfl, ?_⟩⟩
    have K2 := K1.but k2 B2
    refine ⟨_, rfl, b, l, 100, rfl, K2.box, by decide, by decide, fun row r H3 hr3 hrow hlen k3 hrr B3 => ?_⟩
    have hR : RowOk row := ⟨by omega, hrow⟩
    have hR1 := hR.1
    have K3 := (K2.but k3 B3).add hrr (K2.box.off hr3)
    have n1 : 1 ≤ 1 + r0 := by omega
    have n8 : 1 + r0 ≤ 8 := by omega
    -- out = [-1, 12, 12 + take(box, 10 ** 58), -1 - take(box, 10 ** 58)][take(box, 4)]
    refine ⟨_, rfl, _, rfl, _, _, rfl, rfl, ⟨by decide, by decide, by decide⟩, b, l, _, rfl, K3.box, CKW.ten58p, CKW.ten58, fun x1 H4 x10 _ k4 B4 => ⟨_, _, rfl, rfl, ?_⟩⟩
    have K4 := K3.but k4 B4
    refine ⟨_, rfl, _, rfl, _, _, rfl, rfl, ⟨by decide, by decide, by decide⟩, b, l, _, rfl, K4.box, CKW.ten58p, CKW.ten58, fun x2 H5 x20 _ k5 B5 => ⟨_, _, rfl, rfl, szd rfl, fun e1 he1 => ?_⟩⟩
    have K5 : LawK b l PL PW ((e1, il [-1, 12, 12 + x1, -1 - x2]) :: _) _ := (K4.but k5 B5).put he1
    refine ⟨_, rfl, b, l, 4, rfl, K5.box, by decide, by decide, fun j1 H6 j10 j11 k6 B6 => ?_⟩
    have K6 := K5.but k6 B6
    obtain ⟨out, hout, hat1⟩ := il_menu (xs := [-1, 12, 12 + x1, -1 - x2]) j10 j11
    have outbad : ¬ (0 ≤ out ∧ out < 12) := by simp at hout; omega
    refine ⟨e1, _, _, _, rfl, rfl, SqL.of (K6.at List.mem_cons_self), hat1, ?_⟩
    -- at = take(box, len(row) + 1)
    refine ⟨_, rfl, _, rfl, r, _, rfl, .inl (SqL.of (K6.at (xs := il row) (by simp))), _, _, rfl, rfl, b, l, _, rfl, K6.box, by omega, small200 (by rw [il_len]; omega), fun at0 H7 a0 a1 k7 B7 => ?_⟩
    have K7 := (K6.but k7 B7).sub (kn' := [(r, il row)]) (by simp)
    obtain ⟨i, rfl⟩ : ∃ i : Nat, at0 = (i : Int) := ⟨at0.toNat, by omega⟩
    have hi : i ≤ row.length := by rw [il_len] at a1; omega
    -- bad = row[:at] + [out] + row[at:] + [99] * take(box, 2)
    refine ⟨_, rfl, _, rfl, _, rfl, r, _, rfl, SqL.of (K7.at (xs := il row) (by simp)), fun p1 hp1 => ?_⟩
    have K8 := K7.put (xs := cutV (il row) none (some (i : Int))) hp1
    have c1 := cutV_length (il row) none (some (i : Int))
    have c2 := cutV_length (il row) (some (i : Int)) none
    rw [il_len] at c1 c2
    refine ⟨_, rfl, szd rfl, fun p2 hp2 => ?_⟩
    have K9 := K8.put (xs := [.int out]) hp2
    refine ⟨p1, p2, _, _, rfl, rfl, K9.at (xs := cutV (il row) none (some (i : Int))) (by simp), K9.at List.mem_cons_self, sz (by simp only [List.length_append, List.length_cons, List.length_nil]; omega), fun p3 hp3 => ?_⟩
    have K10 := (K9.put (xs := cutV (il row) none (some (i : Int)) ++ [.int out]) hp3).sub (kn' := [(p3, cutV (il row) none (some (i : Int)) ++ [.int out]), (r, il row)]) (by simp)
    refine ⟨_, rfl, _, rfl, _, rfl, r, _, rfl, SqL.of (K10.at (xs := il row) (by simp)), fun p4 hp4 => ?_⟩
    have K11 := K10.put (xs := cutV (il row) (some (i : Int)) none) hp4
    refine ⟨p3, p4, _, _, rfl, rfl, K11.at (xs := cutV (il row) none (some (i : Int)) ++ [.int out]) (by simp), K11.at List.mem_cons_self, sz (by simp only [List.length_append, List.length_cons, List.length_nil]; omega), fun p5 hp5 => ?_⟩
    have K12 := (K11.put (xs := cutV (il row) none (some (i : Int)) ++ [.int out] ++ cutV (il row) (some (i : Int)) none) hp5).sub (kn' := [(p5, cutV (il row) none (some (i : Int)) ++ [.int out] ++ cutV (il row) (some (i : Int)) none), (r, il row)]) (by simp)
    refine ⟨szd rfl, fun p6 hp6 => ?_⟩
    have K13 := K12.put (xs := [.int 99]) hp6
    refine ⟨_, rfl, b, l, 2, rfl, K13.box, by decide, by decide, fun c H14 c0 c1' k14 B14 => ?_⟩
    have K14 := K13.but k14 B14
    refine ⟨p6, c, _, rfl, rfl, K14.at (xs := [.int 99]) (by simp), by omega, by omega, sz (by simp; omega), fun p7 hp7 => ?_⟩
    have K15 := K14.put (xs := (List.replicate c.toNat [V.int 99]).flatten) hp7
    refine ⟨p5, p7, _, _, rfl, rfl, K15.at (xs := cutV (il row) none (some (i : Int)) ++ [.int out] ++ cutV (il row) (some (i : Int)) none) (by simp), K15.at List.mem_cons_self, sz (by rw [rep_il]; simp only [List.length_append, List.length_cons, List.length_nil, il_len, List.length_replicate]; omega), fun pb hpb => ?_⟩
    have eb : cutV (il row) none (some (i : Int)) ++ [V.int out] ++ cutV (il row) (some (i : Int)) none ++ (List.replicate c.toNat [V.int 99]).flatten = il (row.take i ++ [out] ++ row.drop i ++ List.replicate c.toNat 99) := by
      rw [cut_to _ hi, cut_on _ hi, rep_il, ← il_app, ← il_app, ← il_app]
      rfl
    rw [eb]
    have hbad := badAt_in (List.replicate c.toNat 99) hR hi outbad
    generalize row.take i ++ [out] ++ row.drop i ++ List.replicate c.toNat 99 = bad at *
    have K16 := (K15.put (xs := il bad) hpb).sub (kn' := [(pb, il bad), (r, il row)]) (by simp)
    -- none = [0, 9, -1, 9 + take(box, 10 ** 58)][take(box, 4)]
    refine ⟨_, rfl, _, rfl, _, _, rfl, rfl, ⟨by decide, by decide, by decide⟩, b, l, _, rfl, K16.box, CKW.ten58p, CKW.ten58, fun x3 H17 x30 _ k17 B17 => ⟨_, _, rfl, rfl, szd rfl, fun e2 he2 => ?_⟩⟩
    have K17 := K16.but k17 B17
    have K18 : LawK b l PL PW ((e2, il [0, 9, -1, 9 + x3]) :: _) _ := K17.put he2
    refine ⟨_, rfl, b, l, 4, rfl, K18.box, by decide, by decide, fun j2 H19 j20 j21 k19 B19 => ?_⟩
    have K19 := K18.but k19 B19
    obtain ⟨none_, hnone, hat2⟩ := il_menu (xs := [0, 9, -1, 9 + x3]) j20 j21
    have nonebad : ¬ (1 ≤ none_ ∧ none_ ≤ 8) := by simp at hnone; omega
    refine ⟨e2, _, _, _, rfl, rfl, SqL.of (K19.at List.mem_cons_self), hat2, ?_⟩
    have K19 := K19.sub (kn' := [(pb, il bad), (r, il row)]) (by simp)
    -- works(none, bad, "far", [-1]) + [.., ..]
    refine ⟨_, rfl, _, rfl, _, rfl, szd rfl, fun q1 hq1 => ?_⟩
    have K20 : LawK b l PL PW ((q1, il [-1]) :: _) _ := K19.put hq1
    refine ⟨none_, pb, q1, bad, [-1], .no "far", rfl, by simp [RuW.At, noRules], SqL.of (K20.at (xs := il bad) (by simp)), SqL.of (K20.at List.mem_cons_self), K20.tab, fun d1 fs1 H21 g21 T21 _ hd1 R1 => ?_⟩
    refine ⟨T21, fun f1 H22 g22 T22 _ l1 => ⟨T22, fun f2 H23 g23 T23 _ l2 => ⟨szd rfl, fun e3 he3 => ?_⟩⟩⟩
    have len1 : fs1.length = 7 := R1.1
    have s24 : Same H23 (upd H23 e3 (.lst [.ref f1, .ref f2])) := Same.new he3
    have hd1' := ((g22.trans g23).trans (Grow.of s24)).at hd1
    refine ⟨d1, e3, _, _, rfl, rfl, hd1', upd_same, sz (by simp only [List.length_map, List.length_cons, List.length_nil]; omega), fun w1 hw1 => ?_⟩
    have s25 : Same (upd H23 e3 (.lst [.ref f1, .ref f2])) (upd (upd H23 e3 (.lst [.ref f1, .ref f2])) w1 (.lst (fs1.map V.ref ++ [.ref f1, .ref f2]))) := Same.new hw1
    have g25 : Grow H23 _ := (Grow.of s24).trans (Grow.of s25)
    have K25 := ((((K20.grow g21 T21).grow g22 T22).grow g23 T23).same s24).same s25
    -- if not all(works, ("BadRooms", 0))
    refine ⟨_, rfl, szd rfl, fun t1 ht1 Hz Fz => ?_⟩
    have s26 := Same.new (o := .tup [.str "BadRooms", .int 0]) ht1
    have gz : Grow H23 Hz := (g25.trans (Grow.of s26)).trans (Grow.of Fz.same)
    refine ⟨w1, fs1 ++ [f1, f2], _, .rooms, rfl, by rw [List.map_append]; exact Fz.same _ _ (s26 _ _ upd_same), by simp [len1], ?_, .inr ⟨(by intro z; cases z), t1, rfl, Fz.same _ _ upd_same⟩, fun H27 s27 H28 th => ⟨_, rfl, iteF ?_⟩⟩
    · refine ((R1.grow ((g22.trans g23).trans gz)).app (.cons (ref_dial T Z (l1.grow (g23.trans gz)) (Fz.capsB (sc := defScope (top 61)) (js := [7]) rfl (by decide +kernel) rfl rfl) nonebad) (.cons (ref_worst0 T Z TB_RULES (l2.grow gz) (Fz.capsB (sc := defScope (top 61)) (js := [7]) rfl (by decide +kernel) rfl rfl)) .nil))).all fun u hu => ?_
      rcases List.mem_append.mp hu with z | z
      · exact works_out nonebad u z
      · simp at z
        rcases z with z | z
        · exact z
        · rw [z]
          exact oIn_out nonebad
    have K28 := (K25.same (s26.trans (th.same Fz.same s27))).sub (kn' := [(pb, il bad), (r, il row)]) (by simp)
    refine nextS (σ' := [some (.ref a), some (.ref b), some (.int (1 + r0)), some (.ref r), some (.int out), some (.int (i : Int)), some (.ref pb), some (.int none_), some (.ref w1), none, none, none, none, none]) rfl ?_
    -- if not all(works(rooms, bad, "far", [-1]) + [..], ("BadRow", at))
    refine ⟨_, rfl, _, rfl, _, rfl, szd rfl, fun q2 hq2 => ?_⟩
    have K29 : LawK b l PL PW ((q2, il [-1]) :: _) _ := K28.put hq2
    refine ⟨1 + r0, pb, q2, bad, [-1], .no "far", rfl, by simp [RuW.At, noRules], SqL.of (K29.at (xs := il bad) (by simp)), SqL.of (K29.at List.mem_cons_self), K29.tab, fun d2 fs2 H30 g30 T30 _ hd2 R2 => ?_⟩
    refine ⟨T30, fun f3 H31 g31 T31 _ l3 => ⟨szd rfl, fun e4 he4 => ?_⟩⟩
    have len2 : fs2.length = 7 := R2.1
    have s32 : Same H31 (upd H31 e4 (.lst [.ref f3])) := Same.new he4
    have hd2' := (g31.trans (Grow.of s32)).at hd2
    refine ⟨d2, e4, _, _, rfl, rfl, hd2', upd_same, sz (by simp only [List.length_map, List.length_cons, List.length_nil]; omega), fun w2 hw2 => ?_⟩
    have s33 : Same (upd H31 e4 (.lst [.ref f3])) (upd (upd H31 e4 (.lst [.ref f3])) w2 (.lst (fs2.map V.ref ++ [.ref f3]))) := Same.new hw2
    have K33 := (((K29.grow g30 T30).grow g31 T31).same s32).same s33
    refine ⟨_, rfl, szd rfl, fun t2 ht2 Hz2 Fz2 => ?_⟩
    have s34 := Same.new (o := .tup [.str "BadRow", .int (i : Int)]) ht2
    have gz2 : Grow H31 Hz2 := ((Grow.of s32).trans (Grow.of s33)).trans ((Grow.of s34).trans (Grow.of Fz2.same))
    have hbadz : SqL K Hz2 pb (il bad) := SqL.of (Fz2.same _ _ (s34 _ _ (K33.at (xs := il bad) (by simp))))
    refine ⟨w2, fs2 ++ [f3], _, .row i, rfl, by rw [List.map_append]; exact Fz2.same _ _ (s34 _ _ upd_same), by simp [len2], ?_, .inr ⟨(by intro z; cases z), t2, rfl, Fz2.same _ _ upd_same⟩, fun H35 s35 H36 th => ⟨_, rfl, iteF ?_⟩⟩
    · refine ((R2.grow (g31.trans gz2)).app (.cons (ref_spells1 T Z (l3.grow gz2) (Fz2.capsB (sc := defScope (top 61)) (js := [6]) rfl (by decide +kernel) rfl rfl) hbadz) .nil)).all fun u hu => ?_
      rcases List.mem_append.mp hu with z | z
      · exact works_bad n1 n8 hbad u z
      · rw [List.mem_singleton.mp z]
        exact oRow_bad hbad
    have K36 := (K33.same (s34.trans (th.same Fz2.same s35))).sub (kn' := [(r, il row)]) (by simp)
    refine nextS (σ' := [some (.ref a), some (.ref b), some (.int (1 + r0)), some (.ref r), some (.int out), some (.int (i : Int)), some (.ref pb), some (.int none_), some (.ref w1), none, none, none, none, none]) rfl ?_
    -- long = row + [0] * (101 - len(row))
    refine ⟨_, rfl, szd rfl, fun e5 he5 => ?_⟩
    have K37 := K36.put (xs := [.int 0]) he5
    refine ⟨_, rfl, r, _, rfl, .inl (SqL.of (K37.at (xs := il row) (by simp))), _, _, rfl, rfl, ?_⟩
    refine ⟨e5, _, _, rfl, rfl, K37.at (xs := [.int 0]) (by simp), by rw [il_len]; omega, by rw [il_len]; omega, sz (by rw [il_len]; simp; omega), fun e6 he6 => ?_⟩
    rw [rep_il, il_len]
    have K38 := K37.put (xs := il (List.replicate ((101 : Int) - (row.length : Nat)).toNat 0)) he6
    refine ⟨r, e6, _, _, rfl, rfl, K38.at (xs := il row) (by simp), K38.at List.mem_cons_self, sz (by rw [il_len, il_len, List.length_replicate]; omega), fun pl hpl => ?_⟩
    rw [show ((101 : Int) - (row.length : Nat)).toNat = 101 - row.length by omega] at hpl K38 ⊢
    rw [il_app]
    have hlong := badAt_long hR
    generalize row ++ List.replicate (101 - row.length) 0 = long at *
    have K39 := (K38.put (xs := il long) hpl).sub (kn' := [(pl, il long), (r, il row)]) (by simp)
    -- if not all(works(rooms, long, "far", [-1]) + [..], ("BadRow", 100))
    refine ⟨_, rfl, _, rfl, _, rfl, szd rfl, fun q3 hq3 => ?_⟩
    have K40 : LawK b l PL PW ((q3, il [-1]) :: _) _ := K39.put hq3
    refine ⟨1 + r0, pl, q3, long, [-1], .no "far", rfl, by simp [RuW.At, noRules], SqL.of (K40.at (xs := il long) (by simp)), SqL.of (K40.at List.mem_cons_self), K40.tab, fun d3 fs3 H41 g41 T41 _ hd3 R3 => ?_⟩
    refine ⟨T41, fun f4 H42 g42 T42 _ l4 => ⟨szd rfl, fun e7 he7 => ?_⟩⟩
    have len3 : fs3.length = 7 := R3.1
    have s43 : Same H42 (upd H42 e7 (.lst [.ref f4])) := Same.new he7
    have hd3' := (g42.trans (Grow.of s43)).at hd3
    refine ⟨d3, e7, _, _, rfl, rfl, hd3', upd_same, sz (by simp only [List.length_map, List.length_cons, List.length_nil]; omega), fun w3 hw3 => ?_⟩
    have s44 : Same (upd H42 e7 (.lst [.ref f4])) (upd (upd H42 e7 (.lst [.ref f4])) w3 (.lst (fs3.map V.ref ++ [.ref f4]))) := Same.new hw3
    have K44 := (((K40.grow g41 T41).grow g42 T42).same s43).same s44
    refine ⟨szd rfl, fun t3 ht3 Hz3 Fz3 => ?_⟩
    have s45 := Same.new (o := .tup [.str "BadRow", .int 100]) ht3
    have gz3 : Grow H42 Hz3 := ((Grow.of s43).trans (Grow.of s44)).trans ((Grow.of s45).trans (Grow.of Fz3.same))
    have hlongz : SqL K Hz3 pl (il long) := SqL.of (Fz3.same _ _ (s45 _ _ (K44.at (xs := il long) (by simp))))
    refine ⟨w3, fs3 ++ [f4], _, .row 100, rfl, by rw [List.map_append]; exact Fz3.same _ _ (s45 _ _ upd_same), by simp [len3], ?_, .inr ⟨(by intro z; cases z), t3, rfl, Fz3.same _ _ upd_same⟩, fun H46 s46 H47 th => ⟨_, rfl, iteF ?_⟩⟩
    · refine ((R3.grow (g42.trans gz3)).app (.cons (ref_spells2 T Z (l4.grow gz3) (Fz3.capsB (sc := defScope (top 61)) (js := [9]) rfl (by decide +kernel) rfl rfl) hlongz) .nil)).all fun u hu => ?_
      rcases List.mem_append.mp hu with z | z
      · exact works_bad n1 n8 hlong u z
      · rw [List.mem_singleton.mp z]
        exact oRow_bad hlong
    have K47 := (K44.same (s45.trans (th.same Fz3.same s46))).sub (kn' := [(r, il row)]) (by simp)
    refine nextS (σ' := [some (.ref a), some (.ref b), some (.int (1 + r0)), some (.ref r), some (.int out), some (.int (i : Int)), some (.ref pb), some (.int none_), some (.ref w1), some (.ref pl), none, none, none, none]) rfl ?_
    -- places = [..][take(box, 6)]
    refine ⟨_, rfl, szd rfl, fun y1 hy1 => ?_⟩
    have K48 : LawK b l PL PW ((y1, il [-1]) :: _) _ := K47.put hy1
    refine ⟨_, rfl, r, _, rfl, .inl (SqL.of (K48.at (xs := il row) (by simp))), szd rfl, fun y2 hy2 => ?_⟩
    have K49 : LawK b l PL PW ((y2, il [((il row).length : Int)]) :: _) _ := K48.put hy2
    refine ⟨szd rfl, fun y3 hy3 => ?_⟩
    have K50 : LawK b l PL PW ((y3, il [0, 0]) :: _) _ := K49.put hy3
    refine ⟨szd rfl, fun y4 hy4 => ?_⟩
    have K51 : LawK b l PL PW ((y4, il [1, 0]) :: _) _ := K50.put hy4
    refine ⟨_, rfl, r, _, rfl, .inl (SqL.of (K51.at (xs := il row) (by simp))), _, _, rfl, rfl, szd rfl, fun y5 hy5 => ?_⟩
    have K52 : LawK b l PL PW ((y5, il [((il row).length : Int) + 7]) :: _) _ := K51.put hy5
    refine ⟨_, rfl, szd rfl, fun y6 hy6 => ?_⟩
    have K53 : LawK b l PL PW ((y6, il [-5, 0]) :: _) _ := K52.put hy6
    refine ⟨szd rfl, fun y7 hy7 => ?_⟩
    have K54 : LawK b l PL PW ((y7, [.ref y1, .ref y2, .ref y3, .ref y4, .ref y5, .ref y6]) :: _) _ := K53.put hy7
    refine ⟨_, rfl, b, l, 6, rfl, K54.box, by decide, by decide, fun j3 H55 j30 j31 k55 B55 => ?_⟩
    have K55 := K54.but k55 B55
    obtain ⟨vp, hvp, hat3⟩ := menuV (xs := [.ref y1, .ref y2, .ref y3, .ref y4, .ref y5, .ref y6]) j30 j31
    refine ⟨y7, _, _, _, rfl, rfl, SqL.of (K55.at List.mem_cons_self), hat3, ?_⟩
    obtain ⟨pp, ps, evp, hpp, hrise⟩ : ∃ (pp : Addr) (ps : List Int), vp = .ref pp ∧ (H55 pp = some (.lst (il ps)) ∧ pp ∉ [b, l]) ∧ riseIn row.length (-1) ps = false := by
      have kk := K55.kn
      simp only [List.mem_cons, List.not_mem_nil, or_false] at hvp
      rcases hvp with e | e | e | e | e | e
      · exact ⟨y1, [-1], e, kk (y1, il [-1]) (by simp), rise_f (.inl (by decide))⟩
      · exact ⟨y2, [((il row).length : Int)], e, kk (y2, il [((il row).length : Int)]) (by simp), rise_f (.inr (.inl (by rw [il_len]; omega)))⟩
      · exact ⟨y3, [0, 0], e, kk (y3, il [0, 0]) (by simp), rise_f (.inr (.inr (rise_f (.inl (by decide)))))⟩
      · exact ⟨y4, [1, 0], e, kk (y4, il [1, 0]) (by simp), rise_f (.inr (.inr (rise_f (.inl (by decide)))))⟩
      · exact ⟨y5, [((il row).length : Int) + 7], e, kk (y5, il [((il row).length : Int) + 7]) (by simp), rise_f (.inr (.inl (by rw [il_len]; omega)))⟩
      · exact ⟨y6, [-5, 0], e, kk (y6, il [-5, 0]) (by simp), rise_f (.inl (by decide))⟩
    subst evp
    have K56 := (K55.sub (kn' := [(r, il row)]) (by simp)).add hpp.1 hpp.2
    -- if not all([..], ("BadRow", len(row)))
    refine ⟨K56.tab, fun f5 H57 g57 T57 _ l5 => ⟨szd rfl, fun w4 hw4 => ?_⟩⟩
    have s58 : Same H57 (upd H57 w4 (.lst [.ref f5])) := Same.new hw4
    have K58 := (K56.grow g57 T57).same s58
    refine ⟨_, rfl, r, _, rfl, .inl (SqL.of (K58.at (xs := il row) (by simp))), szd rfl, fun t4 ht4 Hz4 Fz4 => ?_⟩
    have s59 := Same.new (o := .tup [.str "BadRow", .int ((il row).length : Int)]) ht4
    have gz4 : Grow H57 Hz4 := (Grow.of s58).trans ((Grow.of s59).trans (Grow.of Fz4.same))
    have K59 := (K58.same s59).same Fz4.same
    refine ⟨w4, [f5], _, .row row.length, rfl, Fz4.same _ _ (s59 _ _ upd_same), by simp, ?_, .inr ⟨(by intro z; cases z), t4, rfl, by rw [Fz4.same _ _ upd_same, il_len]; rfl⟩, fun H60 s60 H61 th => ⟨_, rfl, iteF ?_⟩⟩
    · refine Refs.all (os := [oSh (1 + r0) row ps]) (.cons (ref_shown0 T Z (l5.grow gz4) (Fz4.capsB (sc := defScope (top 61)) (js := [2, 3, 10]) rfl (by decide +kernel) rfl rfl) (SqL.of (K59.at (xs := il row) (by simp))) (SqL.of (K59.at (xs := il ps) (by simp)))) .nil) fun u hu => ?_
      rw [List.mem_singleton.mp hu]
      unfold oSh
      rw [oIn_in n1 n8, oRow_ok hR, hrise]
      rfl
    have K61 := (K58.same (s59.trans (th.same Fz4.same s60))).sub (kn' := [(r, il row)]) (by simp)
    refine nextS (σ' := [some (.ref a), some (.ref b), some (.int (1 + r0)), some (.ref r), some (.int out), some (.int (i : Int)), some (.ref pb), some (.int none_), some (.ref w1), some (.ref pl), some (.ref pp), none, none, none]) rfl ?_
    -- rule = [..][take(box, 5)]
    refine ⟨szd rfl, fun e8 he8 => ?_⟩
    have K62 : LawK b l PL PW ((e8, [.str "", .str "Hand", .str "seen", .str "handunseen", .str "last"]) :: _) _ := K61.put he8
    refine ⟨_, rfl, b, l, 5, rfl, K62.box, by decide, by decide, fun j4 H63 j40 j41 k63 B63 => ?_⟩
    have K63 := K62.but k63 B63
    obtain ⟨vr, hvr, hat4⟩ := menuV (xs := [.str "", .str "Hand", .str "seen", .str "handunseen", .str "last"]) j40 j41
    refine ⟨e8, _, _, _, rfl, rfl, SqL.of (K63.at List.mem_cons_self), hat4, ?_⟩
    obtain ⟨z, evr, hz⟩ : ∃ z : Str, vr = .str z ∧ z ∈ noRules := by
      simp only [List.mem_cons, List.not_mem_nil, or_false] at hvr
      rcases hvr with e | e | e | e | e
      · exact ⟨_, e, by simp [noRules]⟩
      · exact ⟨_, e, by simp [noRules]⟩
      · exact ⟨_, e, by simp [noRules]⟩
      · exact ⟨_, e, by simp [noRules]⟩
      · exact ⟨_, e, by simp [noRules]⟩
    subst evr
    have K63 := K63.sub (kn' := [(r, il row)]) (by simp)
    have hgz : (RuW.no z).good = false := rfl
    -- if not all(works(rooms, row, rule, [])[5:], ("BadRule", 0))
    refine ⟨_, rfl, _, rfl, _, rfl, szd rfl, fun q4 hq4 => ?_⟩
    have K64 : LawK b l PL PW ((q4, il []) :: _) _ := K63.put hq4
    refine ⟨1 + r0, r, q4, row, [], .no z, rfl, hz, SqL.of (K64.at (xs := il row) (by simp)), SqL.of (K64.at List.mem_cons_self), K64.tab, fun d4 fs4 H65 g65 T65 _ hd4 R4 => ?_⟩
    have len4 : fs4.length = 7 := R4.1
    refine ⟨_, rfl, d4, _, rfl, SqL.of hd4, fun w5 hw5 => ?_⟩
    rw [cut_5 _ (by rw [List.length_map]; omega), ← List.map_drop]
    have K65 := (K64.grow g65 T65)
    have s66 : Same H65 (upd H65 w5 (.lst ((fs4.drop 5).map V.ref))) := Same.new hw5
    refine ⟨szd rfl, fun t5 ht5 Hz5 Fz5 => ?_⟩
    have s67 := Same.new (o := .tup [.str "BadRule", .int 0]) ht5
    have gz5 : Grow H65 Hz5 := (Grow.of s66).trans ((Grow.of s67).trans (Grow.of Fz5.same))
    refine ⟨w5, fs4.drop 5, _, .rule, rfl, Fz5.same _ _ (s67 _ _ upd_same), by rw [List.length_drop]; omega, ?_, .inr ⟨(by intro z; cases z), t5, rfl, Fz5.same _ _ upd_same⟩, fun H68 s68 H69 th => ⟨_, rfl, iteF ?_⟩⟩
    · exact ((R4.grow gz5).drop 5).all fun u hu => works_rule n1 n8 hR hgz u hu
    have K69 := ((K65.same s66).same (s67.trans (th.same Fz5.same s68))).sub (kn' := [(r, il row)]) (by simp)
    refine nextS (σ' := [some (.ref a), some (.ref b), some (.int (1 + r0)), some (.ref r), some (.int out), some (.int (i : Int)), some (.ref pb), some (.int none_), some (.ref w1), some (.ref pl), some (.ref pp), some (.str z), none, none]) rfl ?_
    -- works = [.., ..]; if not all(works + [..], ("BadRow", 0))
    refine ⟨K69.tab, fun f6 H70 g70 T70 _ l6 => ⟨T70, fun f7 H71 g71 T71 _ l7 => ⟨szd rfl, fun w6 hw6 => ?_⟩⟩⟩
    have s72 : Same H71 (upd H71 w6 (.lst [.ref f6, .ref f7])) := Same.new hw6
    have K72 := ((K69.grow g70 T70).grow g71 T71).same s72
    refine ⟨_, rfl, K72.tab, fun f8 H73 g73 T73 _ l8 => ⟨szd rfl, fun e9 he9 => ?_⟩⟩
    have s74 : Same H73 (upd H73 e9 (.lst [.ref f8])) := Same.new he9
    have hw6' := (g73.trans (Grow.of s74)).at (b := w6) upd_same
    refine ⟨w6, e9, _, _, rfl, rfl, hw6', upd_same, szd rfl, fun w7 hw7 => ?_⟩
    have s75 : Same (upd H73 e9 (.lst [.ref f8])) (upd (upd H73 e9 (.lst [.ref f8])) w7 (.lst ([.ref f6, .ref f7] ++ [.ref f8]))) := Same.new hw7
    have K75 := ((K72.grow g73 T73).same s74).same s75
    refine ⟨szd rfl, fun t6 ht6 Hz6 Fz6 => ?_⟩
    have s76 := Same.new (o := .tup [.str "BadRow", .int 0]) ht6
    have gz6 : Grow H73 Hz6 := ((Grow.of s74).trans (Grow.of s75)).trans ((Grow.of s76).trans (Grow.of Fz6.same))
    have gw6 : Grow H71 Hz6 := ((Grow.of s72).trans g73).trans gz6
    refine ⟨w7, [f6, f7, f8], _, .row 0, rfl, Fz6.same _ _ (s76 _ _ upd_same), by simp, ?_, .inr ⟨(by intro z; cases z), t6, rfl, Fz6.same _ _ upd_same⟩, fun H77 s77 H78 th => ⟨_, rfl, iteF ?_⟩⟩
    · refine Refs.all (.cons (ref_ask T Z (l6.grow (g71.trans gw6)) (Fz6.capsB (sc := defScope (top 61)) (js := [2, 4]) rfl (by decide +kernel) rfl rfl) n1 n8) (.cons (ref_worst1 T Z TB_RULES (u := .no z) (l7.grow gw6) (Fz6.capsB (sc := defScope (top 61)) (js := [2, 5, 11]) rfl (by decide +kernel) rfl rfl) hz hgz n1 n8)
        (.cons (ref_worst2 T Z TB_RULES (u := .no z) (l8.grow gz6) (Fz6.capsB (sc := defScope (top 61)) (js := [2, 5, 11]) rfl (by decide +kernel) rfl rfl) hz hgz) .nil))) fun u hu => ?_
      simp only [List.mem_cons, List.not_mem_nil, or_false] at hu
      rcases hu with e | e | e
      · rw [e]; unfold oAsk; rw [if_neg outbad]
      · exact e
      · rw [e]; exact wo_row n1 n8 (by omega)
    have K78 := (K75.same (s76.trans (th.same Fz6.same s77))).sub (kn' := [(r, il row)]) (by simp)
    refine nextS (σ' := [some (.ref a), some (.ref b), some (.int (1 + r0)), some (.ref r), some (.int out), some (.int (i : Int)), some (.ref pb), some (.int none_), some (.ref w6), some (.ref pl), some (.ref pp), some (.str z), none, none]) rfl ?_
    -- works = [.., ..]; if not all(works + [..], ("TooMany", 0))
    refine ⟨K78.tab, fun f9 H80 g80 T80 _ l9 => ⟨T80, fun f10 H81 g81 T81 _ l10 => ⟨szd rfl, fun w8 hw8 => ?_⟩⟩⟩
    have s82 : Same H81 (upd H81 w8 (.lst [.ref f9, .ref f10])) := Same.new hw8
    have K82 := ((K78.grow g80 T80).grow g81 T81).same s82
    refine ⟨_, rfl, K82.tab, fun f11 H83 g83 T83 _ l11 => ⟨szd rfl, fun e10 he10 => ?_⟩⟩
    have s84 : Same H83 (upd H83 e10 (.lst [.ref f11])) := Same.new he10
    have hw8' := (g83.trans (Grow.of s84)).at (b := w8) upd_same
    refine ⟨w8, e10, _, _, rfl, rfl, hw8', upd_same, szd rfl, fun w9 hw9 => ?_⟩
    have s85 : Same (upd H83 e10 (.lst [.ref f11])) (upd (upd H83 e10 (.lst [.ref f11])) w9 (.lst ([.ref f9, .ref f10] ++ [.ref f11]))) := Same.new hw9
    have K85 := ((K82.grow g83 T83).same s84).same s85
    refine ⟨szd rfl, fun t7 ht7 Hz7 Fz7 => ?_⟩
    have s86 := Same.new (o := .tup [.str "TooMany", .int 0]) ht7
    have gz7 : Grow H83 Hz7 := ((Grow.of s84).trans (Grow.of s85)).trans ((Grow.of s86).trans (Grow.of Fz7.same))
    have gw7 : Grow H81 Hz7 := ((Grow.of s82).trans g83).trans gz7
    refine ⟨w9, [f9, f10, f11], _, .many, rfl, Fz7.same _ _ (s86 _ _ upd_same), by simp, ?_, .inr ⟨(by intro z; cases z), t7, rfl, Fz7.same _ _ upd_same⟩, fun H87 s87 H88 th => ⟨_, rfl, iteF ?_⟩⟩
    · refine Refs.all (.cons (ref_worst3 T Z TB_RULES (u := .no z) (l9.grow (g81.trans gw7)) (Fz7.capsB (sc := defScope (top 61)) (js := [2, 11]) rfl (by decide +kernel) rfl rfl) hz hgz) (.cons (ref_worst4 T Z TB_RULES (u := .no z) (l10.grow gw7) (Fz7.capsB (sc := defScope (top 61)) (js := [2, 5, 11]) rfl (by decide +kernel) rfl rfl) hz hgz)
        (.cons (ref_worst5 T Z TB_RULES (u := .no z) (l11.grow gz7) (Fz7.capsB (sc := defScope (top 61)) (js := [2, 5, 11]) rfl (by decide +kernel) rfl rfl) hz hgz) .nil))) fun u hu => ?_
      simp only [List.mem_cons, List.not_mem_nil, or_false] at hu
      rcases hu with e | e | e
      · rw [e]; exact wo_many n1 n8 (by omega) (by decide +kernel)
      · rw [e]; exact wo_many n1 n8 (by omega) (too_long (by omega))
      · rw [e]; exact wo_many n1 n8 (by omega) (too_12 (by omega))
    have K88 := (K85.same (s86.trans (th.same Fz7.same s87))).sub (kn' := [(r, il row)]) (by simp)
    refine nextS (σ' := [some (.ref a), some (.ref b), some (.int (1 + r0)), some (.ref r), some (.int out), some (.int (i : Int)), some (.ref pb), some (.int none_), some (.ref w8), some (.ref pl), some (.ref pp), some (.str z), none, none]) rfl ?_
    -- some = [..]; pages, long = some[take(box, 7)]
    refine ⟨szd rfl, fun z1 hz1 => ⟨szd rfl, fun z2 hz2 => ⟨szd rfl, fun z3 hz3 => ⟨szd rfl, fun z4 hz4 => ⟨szd rfl, fun z5 hz5 => ⟨szd rfl, fun z6 hz6 => ⟨szd rfl, fun z7 hz7 => ⟨szd rfl, fun e11 he11 => ?_⟩⟩⟩⟩⟩⟩⟩⟩
    have v1 := Same.new (o := .tup [.int 2, .int 3]) hz1
    have v2 := Same.new (o := .tup [.int 1, .int 0]) hz2
    have v3 := Same.new (o := .tup [.int 2, .int 12]) hz3
    have v4 := Same.new (o := .tup [.int 8, .int 4]) hz4
    have v5 := Same.new (o := .tup [.int 5, .int 5]) hz5
    have v6 := Same.new (o := .tup [.int 1, .int 5000]) hz6
    have v7 := Same.new (o := .tup [.int 12, .int 3]) hz7
    have v8 := Same.new (o := .lst [.ref z1, .ref z2, .ref z3, .ref z4, .ref z5, .ref z6, .ref z7]) he11
    have K89 : LawK b l PL PW ((e11, [.ref z1, .ref z2, .ref z3, .ref z4, .ref z5, .ref z6, .ref z7]) :: _) _ := (((((((K88.same v1).same v2).same v3).same v4).same v5).same v6).same v7).put he11
    have at7 := v8 _ _ (upd_same (a := z7) (o := HO.tup [.int 12, .int 3]))
    have at6 := v8 _ _ (v7 _ _ (upd_same (a := z6) (o := HO.tup [.int 1, .int 5000])))
    have at5 := v8 _ _ (v7 _ _ (v6 _ _ (upd_same (a := z5) (o := HO.tup [.int 5, .int 5]))))
    have at4 := v8 _ _ (v7 _ _ (v6 _ _ (v5 _ _ (upd_same (a := z4) (o := HO.tup [.int 8, .int 4])))))
    have at3 := v8 _ _ (v7 _ _ (v6 _ _ (v5 _ _ (v4 _ _ (upd_same (a := z3) (o := HO.tup [.int 2, .int 12]))))))
    have at2 := v8 _ _ (v7 _ _ (v6 _ _ (v5 _ _ (v4 _ _ (v3 _ _ (upd_same (a := z2) (o := HO.tup [.int 1, .int 0])))))))
    have at1 := v8 _ _ (v7 _ _ (v6 _ _ (v5 _ _ (v4 _ _ (v3 _ _ (v2 _ _ (upd_same (a := z1) (o := HO.tup [.int 2, .int 3]))))))))
    refine ⟨_, rfl, _, rfl, b, l, 7, rfl, K89.box, by decide, by decide, fun j5 H90 j50 j51 k90 B90 => ?_⟩
    have K90 := K89.but k90 B90
    obtain ⟨vt, hvt, hat5⟩ := menuV (xs := [.ref z1, .ref z2, .ref z3, .ref z4, .ref z5, .ref z6, .ref z7]) j50 j51
    refine ⟨e11, _, _, _, rfl, rfl, SqL.of (K90.at List.mem_cons_self), hat5, ?_⟩
    have keepT := fun (c : Addr) (u : List V) e => k90 c (HO.tup u) e (K89.box.offT (c := c) (u := u) e)
    obtain ⟨tt, p, m, evt, htt, pm1, pm2⟩ : ∃ (tt : Addr) (p m : Int), vt = .ref tt ∧ H90 tt = some (.tup [.int p, .int m]) ∧ (1 ≤ p ∧ p ≤ 12 ∧ 0 ≤ m) ∧ tooM p.toNat m.toNat = false := by
      simp only [List.mem_cons, List.not_mem_nil, or_false] at hvt
      rcases hvt with e | e | e | e | e | e | e
      · exact ⟨_, 2, 3, e, keepT _ _ at1, by decide, by decide +kernel⟩
      · exact ⟨_, 1, 0, e, keepT _ _ at2, by decide, by decide +kernel⟩
      · exact ⟨_, 2, 12, e, keepT _ _ at3, by decide, by decide +kernel⟩
      · exact ⟨_, 8, 4, e, keepT _ _ at4, by decide, by decide +kernel⟩
      · exact ⟨_, 5, 5, e, keepT _ _ at5, by decide, by decide +kernel⟩
      · exact ⟨_, 1, 5000, e, keepT _ _ at6, by decide, by decide +kernel⟩
      · exact ⟨_, 12, 3, e, keepT _ _ at7, by decide, by decide +kernel⟩
    subst evt
    refine ⟨tt, _, rfl, SqT.of htt, rfl, _, _, rfl, _, _, rfl, rfl, ?_⟩
    have K91 := K90.sub (kn' := [(r, il row)]) (by simp)
    -- if refused(..) != ("BadRule", 0)
    refine ⟨K91.tab, fun f12 H92 g92 T92 _ l12 Hz8 Fz8 => ⟨f12, .rule, rfl, ?_, fun v9 H93 s93 D9 H94 th => ?_⟩⟩
    · have q := ref_worst6 (P := P) (w := w) (base := base) T Z TB_RULES (u := .no z) (l12.grow (Grow.of Fz8.same)) (Fz8.capsB (sc := defScope (top 61)) (js := [2, 13, 9, 11]) rfl (by decide +kernel) rfl rfl) hz hgz
      rw [wo_rule n1 n8 pm1 pm2] at q
      exact q
    have K94 := ((K91.grow g92 T92).same (th.same Fz8.same s93))
    obtain ⟨t8, ev9, ht8⟩ := D9.tup (by intro z; cases z)
    subst ev9
    have ht8' := th.new _ _ ht8 (by intro u z; cases z)
    refine ⟨szd rfl, fun t9 ht9 => ?_⟩
    have s95 := Same.new (o := .tup [.str "BadRule", .int 0]) ht9
    refine ⟨.tuple [.str "BadRule", .int 0], .tuple [.str "BadRule", .int 0], .tup (SqT.of (s95 _ _ ht8')) (.cons (.str _) (.cons (.int _) .nil)), .tup (SqT.of upd_same) (.cons (.str _) (.cons (.int _) .nil)), by decide +kernel, by decide +kernel, _, rfl, ifF (by decide +kernel) ?_⟩
    have K95 := K94.same s95
    refine nextS (σ' := [some (.ref a), some (.ref b), some (.int (1 + r0)), some (.ref r), some (.int out), some (.int (i : Int)), some (.ref pb), some (.int none_), some (.ref w8), some (.int m), some (.ref pp), some (.str z), some (.ref e11), some (.int p)]) rfl ?_
    -- if refused(..) != ("TooMany", 0)
    refine ⟨K95.tab, fun f13 H96 g96 T96 _ l13 Hz9 Fz9 => ⟨f13, .many, rfl, ?_, fun v10 H97 s97 D10 H98 th2 => ?_⟩⟩
    · have q := ref_worst7 (P := P) (w := w) (base := base) T Z TB_RULES (u := .no z) (l13.grow (Grow.of Fz9.same)) (Fz9.capsB (sc := defScope (top 61)) (js := [2, 11]) rfl (by decide +kernel) rfl rfl) hz hgz
      rw [wo_many n1 n8 (by decide) (by decide +kernel)] at q
      exact q
    have K98 := ((K95.grow g96 T96).same (th2.same Fz9.same s97))
    obtain ⟨t10, ev10, ht10⟩ := D10.tup (by intro z; cases z)
    subst ev10
    have ht10' := th2.new _ _ ht10 (by intro u z; cases z)
    refine ⟨szd rfl, fun t11 ht11 => ?_⟩
    have s99 := Same.new (o := .tup [.str "TooMany", .int 0]) ht11
    refine ⟨.tuple [.str "TooMany", .int 0], .tuple [.str "TooMany", .int 0], .tup (SqT.of (s99 _ _ ht10')) (.cons (.str _) (.cons (.int _) .nil)), .tup (SqT.of upd_same) (.cons (.str _) (.cons (.int _) .nil)), by decide +kernel, by decide +kernel, _, rfl, ifF (by decide +kernel) ?_⟩
    have K99 := K98.same s99
    refine nextS (σ' := [some (.ref a), some (.ref b), some (.int (1 + r0)), some (.ref r), some (.int out), some (.int (i : Int)), some (.ref pb), some (.int none_), some (.ref w8), some (.int m), some (.ref pp), some (.str z), some (.ref e11), some (.int p)]) rfl ?_
    -- return all(works(rooms, row, "first", []) + [.., ..], None)
    refine ⟨_, rfl, _, rfl, szd rfl, fun q5 hq5 => ?_⟩
    have K100 : LawK b l PL PW ((q5, il []) :: _) _ := K99.put hq5
    refine ⟨1 + r0, r, q5, row, [], .ok .first, rfl, trivial, SqL.of (K100.at (xs := il row) (by simp)), SqL.of (K100.at List.mem_cons_self), K100.tab, fun d5 fs5 H101 g101 T101 _ hd5 R5 => ?_⟩
    refine ⟨T101, fun f14 H102 g102 T102 _ l14 => ⟨T102, fun f15 H103 g103 T103 _ l15 => ⟨szd rfl, fun e12 he12 => ?_⟩⟩⟩
    have len5 : fs5.length = 7 := R5.1
    have s104 : Same H103 (upd H103 e12 (.lst [.ref f14, .ref f15])) := Same.new he12
    have hd5' := ((g102.trans g103).trans (Grow.of s104)).at hd5
    refine ⟨d5, e12, _, _, rfl, rfl, hd5', upd_same, sz (by simp only [List.length_map, List.length_cons, List.length_nil]; omega), fun w10 hw10 Hz10 Fz10 => ?_⟩
    have s105 := Same.new (o := .lst (fs5.map V.ref ++ [.ref f14, .ref f15])) hw10
    have gz10 : Grow H103 Hz10 := ((Grow.of s104).trans (Grow.of s105)).trans (Grow.of Fz10.same)
    have K105 := ((((K100.grow g101 T101).grow g102 T102).grow g103 T103).grow gz10 (tS (tS (tS T103 s104) s105) Fz10.same))
    refine ⟨w10, fs5 ++ [f14, f15], _, .fine, rfl, by rw [List.map_append]; exact Fz10.same _ _ upd_same, by simp [len5], ?_, .inl ⟨rfl, rfl⟩, fun H106 s106 H107 th => k _⟩
    refine ((R5.grow ((g102.trans g103).trans gz10)).app (.cons (ref_spells3 T Z (l14.grow (g103.trans gz10)) (Fz10.capsB (sc := defScope (top 61)) (js := [3]) rfl (by decide +kernel) rfl rfl) (SqL.of (K105.at (xs := il row) (by simp)))) (.cons (ref_ask11 T Z (l15.grow gz10) (Fz10.capsB (sc := defScope (top 61)) (js := [2]) rfl (by decide +kernel) rfl rfl) n1 n8) .nil))).all fun u hu => ?_
    rcases List.mem_append.mp hu with z | z
    · exact works_fine n1 n8 hR rfl rfl u z
    · simp only [List.mem_cons, List.not_mem_nil, or_false] at z
      rcases z with z | z
      · rw [z]; exact oRow_ok hR
      · exact z
end
end CK

/-! The head's look at the errors' classes. -/
namespace CK
open PySem PySem.Spec PyProof.Rows L2 CKX
/-! ### the text of BadRow's __init__ as it stands -/
abbrev FnY : Type := Option (Str × Str × Arguments × FuncBody × Scope × Addr × Addr)
def fnY (K : PySem.W.Frag) : FnY := match K.lookup (He.ma K (He.ga K "BadRow") "__init__") with
  | some ⟨_, _, .func fd, _⟩ => some (fd.name, fd.qualname, fd.params, fd.body, fd.scope, fd.globals, fd.builtins)
  | _ => none
def valY : FnY := some ("__init__", "BadRow.__init__", iA, .stmts iB, iS, mainGlobals, builtinsNs)
/-- what else is known of the def at f, of the class at C, in the program's file -/
def initB (K : PySem.W.Frag) (C : Addr) (file : Str) (f : Addr) : Bool := match K.lookup f with
  | some ⟨_, _, .func fd, _⟩ => decide (fd.defaults = .none) && (decide (fd.kwdefaults = .none) && (match fd.code, fd.closure with
    | .ref cda, [(x, cc)] => decide (x = "__class__") && (PySem.W.codeIn K (.ref cda) "BadRow.__init__" && ((match K.lookup cda with
      | some ⟨_, _, .fields vs, _⟩ => (match vs[2]? with
        | some (Value.str z _) => file == z
        | _ => false)
      | _ => false) && (match K.lookup cc with
      | some ⟨_, _, .cell (some (Value.ref D)), _⟩ => decide (D = C)
      | _ => false)))
    | _, _ => false))
  | _ => false
theorem init_ok {K : PySem.W.Frag} {C : Addr} {file : Str} (e : fnY K = valY) (h : initB K C file (He.ma K (He.ga K "BadRow") "__init__") = true) : ∃ (cc cda : Addr),
    (∃ (oc : Value) (od : Option Addr) (doc pm : Value) (an : Option Addr) (ct : Value) (osl : Array (Option Value)),
      K.lookup (He.ma K (He.ga K "BadRow") "__init__") = some ⟨oc, od, .func (PySem.W.ksFn "__init__" "BadRow.__init__" iA iB iS .none .none doc pm an (.ref cda) ct cc), osl⟩ ∧ PySem.W.codeIn K (.ref cda) "BadRow.__init__" = true) ∧
    (∃ (ccl : Value) (cdd : Option Addr) (vs : Array Value) (ccs : Array (Option Value)) (z : Str) (tf : Tok), K.lookup cda = some ⟨ccl, cdd, .fields vs, ccs⟩ ∧ vs[2]? = some (.str z tf) ∧ (file == z) = true) ∧
    (∃ (cl : Value) (cld : Option Addr) (csl : Array (Option Value)), K.lookup cc = some ⟨cl, cld, .cell (some (.ref C)), csl⟩) := by
  unfold fnY at e
  unfold initB at h
  cases q : K.lookup (He.ma K (He.ga K "BadRow") "__init__") with
  | none => rw [q] at h; cases h
  | some o =>
    obtain ⟨oc, od, dt, osl⟩ := o
    rw [q] at h e
    cases dt with
    | func fd =>
      obtain ⟨n1, n2, n3, n4, n5, n6, n7, n8, n9, n10, n11, n12, n13, n14, n15⟩ := fd
      have e2 : (some (n1, n2, n3, n4, n5, n6, n15) : FnY) = valY := e
      unfold valY at e2
      simp only [Option.some.injEq, Prod.mk.injEq] at e2
      obtain ⟨h1, h2, h3, h4, h5, h6, h7⟩ := e2
      subst h1 h2 h3 h4 h5 h6 h7
      obtain ⟨d1, h⟩ := He.ba h
      obtain ⟨d2, h⟩ := He.ba h
      have z1 : n8 = Value.none := of_decide_eq_true d1
      have z2 : n9 = Value.none := of_decide_eq_true d2
      subst z1 z2
      cases n13 with
      | ref cda =>
        cases n7 with
        | nil => cases h
        | cons c r =>
          cases r with
          | cons _ _ => cases h
          | nil =>
            obtain ⟨x, cc⟩ := c
            obtain ⟨hx, h⟩ := He.ba h
            obtain ⟨hc, h⟩ := He.ba h
            obtain ⟨hf, hd⟩ := He.ba h
            have zx : x = "__class__" := of_decide_eq_true hx
            subst zx
            refine ⟨cc, cda, ⟨oc, od, n10, n11, n12, n14, osl, rfl, hc⟩, ?_, ?_⟩
            · cases q2 : K.lookup cda with
              | none => rw [q2] at hf; cases hf
              | some o2 =>
                obtain ⟨ccl, cdd, dt2, ccs⟩ := o2
                rw [q2] at hf
                cases dt2 with
                | fields vs =>
                  have hf : (match vs[2]? with
                    | some (Value.str z _) => file == z
                    | _ => false) = true := hf
                  cases q3 : vs[2]? with
                  | none => rw [q3] at hf; cases hf
                  | some u =>
                    rw [q3] at hf
                    cases u with
                    | str z tf => exact ⟨ccl, cdd, vs, ccs, z, tf, rfl, q3, hf⟩
                    | _ => cases hf
                | _ => cases hf
            · cases q2 : K.lookup cc with
              | none => rw [q2] at hd; cases hd
              | some o2 =>
                obtain ⟨cl, cld, dt2, csl⟩ := o2
                rw [q2] at hd
                cases dt2 with
                | cell v =>
                  cases v with
                  | none => cases hd
                  | some u =>
                    cases u with
                    | ref D =>
                      have zd : D = C := of_decide_eq_true hd
                      subst zd
                      exact ⟨cl, cld, csl, rfl⟩
                    | _ => cases hd
                | _ => cases hd
      | _ => cases n7 <;> cases h
    | _ => cases h
/-! ### the class object -/
def clsB (K : PySem.W.Frag) (C : Addr) : Bool := match K.lookup C with
  | some ⟨.type t, _, .cls cd, sl⟩ => decide (t = "type") && (cd.hasDict && (!cd.hasDel && ((match cd.mro with
    | .ref D :: bm => decide (D = C) && (HandSPX.refsVE bm && decide (PySem.W.alongIn K "__init__" bm = some (some (.builtin "ValueError.__init__"))))
    | _ => false) && (match sl.toList with
    | [_, _, _, _, some (.builtin n), _] => decide (n = "ValueError.__new__")
    | _ => false))))
  | _ => false
theorem cls_ok {K : PySem.W.Frag} {C : Addr} (h : clsB K C = true) : ∃ nm q N bs bm sn sub ab col dd k0 k1 k2 k3 k5, K.lookup C = some (excClassObj nm q C N bs bm true sn sub ab col dd k0 k1 k2 k3 k5 "ValueError.__new__") ∧ HandSPX.refsVE bm = true ∧ PySem.W.alongIn K "__init__" bm = some (some (.builtin "ValueError.__init__")) := by
  unfold clsB at h
  cases q : K.lookup C with
  | none => rw [q] at h; cases h
  | some o =>
    obtain ⟨oc, od, dt, osl⟩ := o
    rw [q] at h
    cases oc with
    | type t =>
      cases dt with
      | cls cd =>
        obtain ⟨nm, bs, mro, N, qn, hd, sn, sub, ab, col, del⟩ := cd
        obtain ⟨h1, h⟩ := He.ba h
        obtain ⟨h2, h⟩ := He.ba h
        obtain ⟨h3, h⟩ := He.ba h
        obtain ⟨h4, h5⟩ := He.ba h
        have e1 : t = "type" := of_decide_eq_true h1
        have e2 : hd = true := h2
        have e3 : del = false := by
          have z : (!del) = true := h3
          cases del with
          | false => rfl
          | true => cases z
        subst e1 e2 e3
        obtain ⟨sl⟩ := osl
        cases mro with
        | nil => cases h4
        | cons c bm =>
          cases c with
          | ref D =>
            obtain ⟨g1, h4⟩ := He.ba h4
            obtain ⟨g2, g3⟩ := He.ba h4
            have z1 : D = C := of_decide_eq_true g1
            subst z1
            match sl, h5 with
            | [k0, k1, k2, k3, some (.builtin n), k5], h5 =>
              have z5 : n = "ValueError.__new__" := of_decide_eq_true h5
              subst z5
              exact ⟨nm, qn, N, bs, bm, sn, sub, ab, col, od, k0, k1, k2, k3, k5, rfl, g2, of_decide_eq_true g3⟩
          | _ => cases h4
      | _ => cases h
    | _ => cases dt <;> cases h
/-! ### all the errors -/
def excB (K : PySem.W.Frag) (D : Addr) : Bool := He.eqO (PySem.W.findIn K (.ref D) "__getattribute__") (some (some (.builtin "BaseException.__getattribute__"))) && (He.eqO (PySem.W.findIn K (.ref D) "__getattr__") (some none) && (decide (PySem.W.subIn K (.ref D) (.type "BaseException") = some true) && (PySem.W.hasDictIn K D &&
  (He.eqO (PySem.W.findIn K (.ref D) "__class__") (some (some (.builtin "object.__class__"))) && (He.eqO (PySem.W.specialIn K (.builtin "object.__class__") "__get__") (some (some (.builtin "getset_descriptor.__get__"))) && (decide (PySem.W.takesIn K (.builtin "object.__class__") = some true) && decide (PySem.W.mroIn K D (.type "object") = some true)))))))
theorem excB_ok {K : PySem.W.Frag} {D : Addr} (h : excB K D = true) : ExcC K D := by
  obtain ⟨h1, h⟩ := He.ba h
  obtain ⟨h2, h⟩ := He.ba h
  obtain ⟨h3, h⟩ := He.ba h
  obtain ⟨h4, h⟩ := He.ba h
  obtain ⟨h5, h⟩ := He.ba h
  obtain ⟨h6, h⟩ := He.ba h
  obtain ⟨h7, h8⟩ := He.ba h
  exact ⟨He.eqO_ok h1, He.eqO_ok h2, of_decide_eq_true h3, h4, He.eqO_ok h5, He.eqO_ok h6, of_decide_eq_true h7, of_decide_eq_true h8⟩
def isErrB (K : PySem.W.Frag) (pe c0 c1 c2 c3 D : Addr) (i : Nat) : Bool := excB K D && (decide (PySem.W.kitOne K (.ref D) (.ref c0) = some (decide (i = 0))) && (decide (PySem.W.kitOne K (.ref D) (.ref c1) = some (decide (i = 1))) && (decide (PySem.W.kitOne K (.ref D) (.ref c2) = some (decide (i = 2))) &&
  (decide (PySem.W.kitOne K (.ref D) (.ref c3) = some (decide (i = 3))) && (decide (PySem.W.kitOne K (.ref D) (.type "ValueError") = some true) && decide (PySem.W.exmOne K (.ref D) (.ref pe) = some true))))))
theorem isErrB_ok {K : PySem.W.Frag} {pe c0 c1 c2 c3 D : Addr} {i : Nat} (h : isErrB K pe c0 c1 c2 c3 D i = true) : IsErr K pe c0 c1 c2 c3 D i := by
  obtain ⟨h1, h⟩ := He.ba h
  obtain ⟨h2, h⟩ := He.ba h
  obtain ⟨h3, h⟩ := He.ba h
  obtain ⟨h4, h⟩ := He.ba h
  obtain ⟨h5, h⟩ := He.ba h
  obtain ⟨h6, h7⟩ := He.ba h
  exact ⟨excB_ok h1, of_decide_eq_true h2, of_decide_eq_true h3, of_decide_eq_true h4, of_decide_eq_true h5, of_decide_eq_true h6, of_decide_eq_true h7⟩
def rowB (K : PySem.W.Frag) (C : Addr) : Bool := He.eqO (PySem.W.findIn K (.ref C) "__setattr__") (some (some (.builtin "object.__setattr__"))) && (He.eqO (PySem.W.findIn K (.ref C) "place") (some none) && (He.eqO (PySem.W.findIn K (.ref C) "__init__") (some (some (.ref (He.ma K C "__init__")))) &&
  (decide (PySem.W.typeIn K (.ref (He.ma K C "__init__")) = some (.type "function")) && (PySem.W.keepIn K (.ref C) && (decide (PySem.W.typeIn K (.ref C) = some (.type "type")) && (decide (PySem.W.subIn K (.ref C) (.type "ValueError") = some true) && He.eqO (PySem.W.nsIn K cStatics "thirdparty.any") (some none)))))))
def faE : List He.Fa := [.free "super", .free "ValueError", .glo "PageError", .glo "BadRooms", .glo "BadRow", .glo "BadRule", .glo "TooMany", .exc "BadRooms", .exc "BadRule", .exc "TooMany"]
def errB (K : PySem.W.Frag) (file : Str) : Bool := (faE.all fun f => f.ok K) && (clsB K (He.ga K "BadRow") && (rowB K (He.ga K "BadRow") && (initB K (He.ga K "BadRow") file (He.ma K (He.ga K "BadRow") "__init__") &&
  (isErrB K (He.ga K "PageError") (He.ga K "BadRooms") (He.ga K "BadRow") (He.ga K "BadRule") (He.ga K "TooMany") (He.ga K "BadRooms") 0 && (isErrB K (He.ga K "PageError") (He.ga K "BadRooms") (He.ga K "BadRow") (He.ga K "BadRule") (He.ga K "TooMany") (He.ga K "BadRow") 1 &&
  (isErrB K (He.ga K "PageError") (He.ga K "BadRooms") (He.ga K "BadRow") (He.ga K "BadRule") (He.ga K "TooMany") (He.ga K "BadRule") 2 && isErrB K (He.ga K "PageError") (He.ga K "BadRooms") (He.ga K "BadRow") (He.ga K "BadRule") (He.ga K "TooMany") (He.ga K "TooMany") 3))))))
theorem plain_ok {K : PySem.W.Frag} {x : Str} (h : (He.Fa.exc x).ok K = true) : PlainErr K (He.ga K x) := by
  obtain ⟨h1, h2, _, h4⟩ := He.exc_ok h
  exact ⟨h1, h2, h4⟩
theorem errs {p : Program} {K : PySem.W.Frag} {h : Heap} {mg : Str → Option Value} (X : K.In h) (G : h.Ns mainGlobals mg) (e : fnY K = valY) (c : errB K p.main.file = true) (top : (p.main.scope.names.lookup ("super" : Str)).isSome = false) : Nonempty (Errs p K mg) := by
  obtain ⟨c1, c⟩ := He.ba c
  obtain ⟨c2, c⟩ := He.ba c
  obtain ⟨c3, c⟩ := He.ba c
  obtain ⟨c4, c⟩ := He.ba c
  obtain ⟨c5, c⟩ := He.ba c
  obtain ⟨c6, c⟩ := He.ba c
  obtain ⟨c7, c8⟩ := He.ba c
  have fact : ∀ f ∈ faE, f.ok K = true := fun f hf => List.all_eq_true.mp c1 f hf
  obtain ⟨b1, c3⟩ := He.ba c3
  obtain ⟨b2, c3⟩ := He.ba c3
  obtain ⟨b3, c3⟩ := He.ba c3
  obtain ⟨b4, c3⟩ := He.ba c3
  obtain ⟨b5, c3⟩ := He.ba c3
  obtain ⟨b6, c3⟩ := He.ba c3
  obtain ⟨b7, b8⟩ := He.ba c3
  obtain ⟨cc, cda, f1, f2, f3⟩ := init_ok e c4
  have i1 := isErrB_ok c6
  have br : BrTxt p K mg (He.ga K "BadRow") (He.ma K (He.ga K "BadRow") "__init__") cc cda :=
    { gC := He.glo_ok X G (fact (.glo "BadRow") (by simp [faE])), gS := He.free_ok X G (fact (.free "super") (by simp [faE])), cls := cls_ok c2, sa := He.eqO_ok b1, ga := i1.ec.hg, gg := i1.ec.hk, noN := He.eqO_ok b2, iC := He.eqO_ok b3, tC := of_decide_eq_true b4,
      kC := b5, exC := i1.ec.hs, tyC := of_decide_eq_true b6, hdC := i1.ec.hd, subB := of_decide_eq_true b7, opq := He.eqO_ok b8, fn := f1, code := f2, cell := f3, top := top }
  exact ⟨⟨_, _, _, _, _, _, _, _, He.glo_ok X G (fact (.glo "PageError") (by simp [faE])), He.glo_ok X G (fact (.glo "BadRooms") (by simp [faE])), He.glo_ok X G (fact (.glo "BadRule") (by simp [faE])), He.glo_ok X G (fact (.glo "TooMany") (by simp [faE])),
    He.free_ok X G (fact (.free "ValueError") (by simp [faE])), br, isErrB_ok c5, i1, isErrB_ok c7, isErrB_ok c8, plain_ok (fact (.exc "BadRooms") (by simp [faE])), plain_ok (fact (.exc "BadRule") (by simp [faE])), plain_ok (fact (.exc "TooMany") (by simp [faE]))⟩⟩
/-! ### the head's look, with these -/
abbrev AlY : Type := He.AlT × (Bool × FnY)
def frY (n : Nat) (g : Addr → Option Obj) : PySem.W.Frag := He.frG g (cStatics :: He.asD g n)
def obsY (n : Nat) (fa : List He.Fa) (fn : List He.DefD) (ts : List He.Tab) (xt : PySem.W.Frag → Bool) (g : Addr → Option Obj) : AlY := (He.obsT fa fn ts (frY n g), (xt (frY n g), fnY (frY n g)))
def hookY (n : Nat) (fa : List He.Fa) (fn : List He.DefD) (ts : List He.Tab) (xt : PySem.W.Frag → Bool) : PySem.W.Hook where
  α := AlY
  obs := fun s => obsY n fa fn ts xt s.heap.get?
  val := fun w => (He.valT fn ts w, (true, valY))
  says := fun w h => ∃ K : PySem.W.Frag, K.In h ∧ He.SaysT fa fn ts w K ∧ xt K = true ∧ fnY K = valY
  of := fun _ _ e => ⟨_, He.frG_in, congrArg Prod.fst e, congrArg (fun z => z.2.1) e, congrArg (fun z => z.2.2) e⟩
  keeps := fun _ _ _ ⟨K, hK, c⟩ k => ⟨K, PySem.W.Frag.In.keeps hK k, c⟩
theorem obsY_eq {n : Nat} {fa : List He.Fa} {fn : List He.DefD} {ts : List He.Tab} {xt : PySem.W.Frag → Bool} {g : Addr → Option Obj} {s : Shared} (h : ∀ a, g a = s.heap.get? a) : obsY n fa fn ts xt g = (hookY n fa fn ts xt).obs s := by
  have e : g = s.heap.get? := funext h
  rw [e] <;> rfl
end CK

/-! The head's look, with the tables of two defs' code objects: empty, and not one. -/
namespace CK
open PySem PySem.Spec PyProof.Rows L2 CKX
abbrev two : List He.Defn := [("law", none), ("_law_works", none)]
def frZ (n : Nat) (g : Addr → Option Obj) : PySem.W.Frag := He.frT g (cStatics :: He.asD g n)
def apartB (K : PySem.W.Frag) : Bool := decide ((He.cT K ("law", none)).2 ≠ (He.cT K ("_law_works", none)).2)
structure SaysZ (fa : List He.Fa) (fn : List He.DefD) (ts : List He.Tab) (xt : PySem.W.Frag → Bool) (w : World) (h : Heap) (K : PySem.W.Frag) : Prop where
  t : He.SaysT fa fn ts w K
  more : xt K = true
  ap : apartB K = true
  y : fnY K = valY
  hd : ∀ p ∈ two, PySem.W.codeHdIn K (He.cT K p).1 (He.cT K p).2 = true
  out : ∀ p ∈ two, K.lookup (He.cT K p).2 = none
  empty : ∀ p ∈ two, h.get? (He.cT K p).2 = some { cls := .none, data := .fields #[] }
def obsZ (n : Nat) (fa : List He.Fa) (fn : List He.DefD) (ts : List He.Tab) (xt : PySem.W.Frag → Bool) (g : Addr → Option Obj) : AlY := (He.obsT fa fn ts (frZ n g), (xt (frZ n g) && (apartB (frZ n g) && He.tabsB g two (frZ n g)), fnY (frZ n g)))
theorem saysZ_of {n : Nat} {fa : List He.Fa} {fn : List He.DefD} {ts : List He.Tab} {xt : PySem.W.Frag → Bool} {w : World} {h : Heap} (e : obsZ n fa fn ts xt h.get? = (He.valT fn ts w, (true, valY))) : SaysZ fa fn ts xt w h (frZ n h.get?) := by
  have e1 : He.obsT fa fn ts (frZ n h.get?) = He.valT fn ts w := congrArg (fun z : AlY => z.1) e
  have e2 : (xt (frZ n h.get?) && (apartB (frZ n h.get?) && He.tabsB h.get? two (frZ n h.get?))) = true := congrArg (fun z : AlY => z.2.1) e
  have e3 : fnY (frZ n h.get?) = valY := congrArg (fun z : AlY => z.2.2) e
  obtain ⟨h1, h2⟩ := He.ba e2
  obtain ⟨h3, h4⟩ := He.ba h2
  have key : ∀ p ∈ two, PySem.W.codeHdIn (frZ n h.get?) (He.cT (frZ n h.get?) p).1 (He.cT (frZ n h.get?) p).2 = true ∧ ∃ o, h.get? (He.cT (frZ n h.get?) p).2 = some o ∧ He.emptyTab o = true := fun p hp => by
    obtain ⟨h5, h6⟩ := He.ba (List.all_eq_true.mp h4 p hp)
    refine ⟨h5, ?_⟩
    cases q : h.get? (He.cT (frZ n h.get?) p).2 with
    | none =>
      rw [q] at h6
      cases h6
    | some o =>
      rw [q] at h6
      exact ⟨o, rfl, h6⟩
  exact ⟨e1, h1, h3, e3, fun p hp => (key p hp).1, fun p hp => by
    obtain ⟨_, o, q, z⟩ := key p hp
    exact He.frT_none q z, fun p hp => by
    obtain ⟨_, o, q, z⟩ := key p hp
    rw [q, He.emptyTab_eq z]⟩
def hookZ (n : Nat) (fa : List He.Fa) (fn : List He.DefD) (ts : List He.Tab) (xt : PySem.W.Frag → Bool) : PySem.W.Hook where
  α := AlY
  obs := fun s => obsZ n fa fn ts xt s.heap.get?
  val := fun w => (He.valT fn ts w, (true, valY))
  says := fun w h => ∃ K : PySem.W.Frag, K.In h ∧ SaysZ fa fn ts xt w h K
  of := fun _ _ e => ⟨_, He.frT_in, saysZ_of e⟩
  keeps := fun _ _ _ ⟨K, hK, c⟩ k => ⟨K, PySem.W.Frag.In.keeps hK k, ⟨c.t, c.more, c.ap, c.y, c.hd, c.out, fun p hp => k _ _ (c.empty p hp)⟩⟩
theorem obsZ_eq {n : Nat} {fa : List He.Fa} {fn : List He.DefD} {ts : List He.Tab} {xt : PySem.W.Frag → Bool} {g : Addr → Option Obj} {s : Shared} (h : ∀ a, g a = s.heap.get? a) : obsZ n fa fn ts xt g = (hookZ n fa fn ts xt).obs s := by
  have e : g = s.heap.get? := funext h
  rw [e] <;> rfl
/-- a def's code object, as the look finds it -/
theorem code_of {K : PySem.W.Frag} {x qual : Str} {params : Arguments} {body : List Stmt} {scope : Scope} {f : Addr} {fd : FuncData} {p : He.Defn} (F : FunD K x qual params body scope [] [] f fd) (e : f = He.fAd K p) : fd.code = .ref (He.cT K p).1 := by
  obtain ⟨oc, od, dV, kV, doc, pm, an, cdv, ct, osl, fdE, lk, hcd, -⟩ := F.ex
  subst fdE
  obtain ⟨c, ec⟩ := He.codeIn_ref hcd
  rw [e] at lk
  show cdv = _
  rw [ec]
  exact congrArg Value.ref (He.codeOf_eq lk ec).symm
end CK

namespace CK
open PySem PySem.Spec PyProof.Rows L2
/-! ### the head: facts by names, one run of the top -/
def fn : List He.DefD := [
  ⟨("check_rooms", none), "check_rooms", "check_rooms", defArgs (top 11), defBody (top 11), defScope (top 11), [], []⟩,
  ⟨("is_page", none), "is_page", "is_page", defArgs (top 12), defBody (top 12), defScope (top 12), [], []⟩,
  ⟨("check_page", none), "check_page", "check_page", defArgs (top 13), defBody (top 13), defScope (top 13), [], []⟩,
  ⟨("check_row", none), "check_row", "check_row", defArgs (top 14), defBody (top 14), defScope (top 14), [], []⟩,
  ⟨("told", none), "told", "told", defArgs (top 17), defBody (top 17), defScope (top 17), [], []⟩,
  ⟨("spells", none), "spells", "spells", defArgs (top 19), defBody (top 19), defScope (top 19), [], []⟩,
  ⟨("shown", none), "shown", "shown", defArgs (top 20), defBody (top 20), defScope (top 20), [], []⟩,
  ⟨("paper", none), "paper", "paper", defArgs (top 21), defBody (top 21), defScope (top 21), [], []⟩,
  ⟨("find_spells", none), "find_spells", "find_spells", defArgs (top 22), defBody (top 22), defScope (top 22), [], []⟩,
  ⟨("_check_paper", none), "_check_paper", "_check_paper", defArgs (top 23), defBody (top 23), defScope (top 23), [], []⟩,
  ⟨("_has_within", none), "_has_within", "_has_within", defArgs (top 24), defBody (top 24), defScope (top 24), [], []⟩,
  ⟨("_cheapest_step", none), "_cheapest_step", "_cheapest_step", defArgs (top 25), defBody (top 25), defScope (top 25), [], []⟩,
  ⟨("_way_back", none), "_way_back", "_way_back", defArgs (top 26), defBody (top 26), defScope (top 26), [], []⟩,
  ⟨("best", none), "best", "best", defArgs (top 28), defBody (top 28), defScope (top 28), [], []⟩,
  ⟨("find_best", none), "find_best", "find_best", defArgs (top 29), defBody (top 29), defScope (top 29), [], []⟩,
  ⟨("_farthest", none), "_farthest", "_farthest", defArgs (top 30), defBody (top 30), defScope (top 30), [], []⟩,
  ⟨("_by_hand", none), "_by_hand", "_by_hand", defArgs (top 32), defBody (top 32), defScope (top 32), [], []⟩,
  ⟨("_by_unseen", none), "_by_unseen", "_by_unseen", defArgs (top 33), defBody (top 33), defScope (top 33), [], []⟩,
  ⟨("_by_first", none), "_by_first", "_by_first", defArgs (top 34), defBody (top 34), defScope (top 34), [], []⟩,
  ⟨("_by_line", none), "_by_line", "_by_line", defArgs (top 35), defBody (top 35), defScope (top 35), [], []⟩,
  ⟨("check_rule", none), "check_rule", "check_rule", defArgs (top 37), defBody (top 37), defScope (top 37), [], []⟩,
  ⟨("lacking", none), "lacking", "lacking", defArgs (top 38), defBody (top 38), defScope (top 38), [], []⟩,
  ⟨("find_lacks", none), "find_lacks", "find_lacks", defArgs (top 39), defBody (top 39), defScope (top 39), [], []⟩,
  ⟨("stretches", none), "stretches", "stretches", defArgs (top 41), defBody (top 41), defScope (top 41), [], []⟩,
  ⟨("lacking_in", none), "lacking_in", "lacking_in", defArgs (top 42), defBody (top 42), defScope (top 42), [], []⟩,
  ⟨("_begins", none), "_begins", "_begins", defArgs (top 43), defBody (top 43), defScope (top 43), [], []⟩,
  ⟨("worst", none), "worst", "worst", defArgs (top 47), defBody (top 47), defScope (top 47), [], []⟩,
  ⟨("_check_size", none), "_check_size", "_check_size", defArgs (top 48), defBody (top 48), defScope (top 48), [], []⟩,
  ⟨("_are_too_many", none), "_are_too_many", "_are_too_many", defArgs (top 49), defBody (top 49), defScope (top 49), [], []⟩,
  ⟨("_all_rows", none), "_all_rows", "_all_rows", defArgs (top 50), defBody (top 50), defScope (top 50), [], []⟩,
  ⟨("_more_lacks", none), "_more_lacks", "_more_lacks", defArgs (top 51), defBody (top 51), defScope (top 51), [], []⟩,
  ⟨("_law_begun", none), "_law_begun", "_law_begun", defArgs (top 53), defBody (top 53), defScope (top 53), [], []⟩,
  ⟨("_law_take", none), "_law_take", "_law_take", defArgs (top 54), defBody (top 54), defScope (top 54), [], []⟩,
  ⟨("_law_alike", none), "_law_alike", "_law_alike", defArgs (top 55), defBody (top 55), defScope (top 55), [], []⟩,
  ⟨("_law_class", none), "_law_class", "_law_class", defArgs (top 56), defBody (top 56), defScope (top 56), [], []⟩,
  ⟨("_law_row", none), "_law_row", "_law_row", defArgs (top 57), defBody (top 57), defScope (top 57), [], []⟩,
  ⟨("_law_refused", none), "_law_refused", "_law_refused", defArgs (top 58), defBody (top 58), defScope (top 58), [], []⟩,
  ⟨("_law_all", none), "_law_all", "_law_all", defArgs (top 59), defBody (top 59), defScope (top 59), [], []⟩,
  ⟨("_law_works", none), "_law_works", "_law_works", defArgs (top 60), defBody (top 60), defScope (top 60), [], []⟩,
  ⟨("law", none), "law", "law", defArgs (top 61), defBody (top 61), defScope (top 61), [], []⟩,
  ⟨("Dial", some "__init__"), "__init__", "Dial.__init__", defArgs (inClass (top 16) 0), defBody (inClass (top 16) 0), defScope (inClass (top 16) 0), [], []⟩,
  ⟨("Dial", some "ask"), "ask", "Dial.ask", defArgs (inClass (top 16) 1), defBody (inClass (top 16) 1), defScope (inClass (top 16) 1), [], []⟩,
  ⟨("Dial", some "pages"), "pages", "Dial.pages", defArgs (inClass (top 16) 2), defBody (inClass (top 16) 2), defScope (inClass (top 16) 2), [], []⟩,
  ⟨("Dial", some "looked"), "looked", "Dial.looked", defArgs (inClass (top 16) 3), defBody (inClass (top 16) 3), defScope (inClass (top 16) 3), [], []⟩,
  ⟨("Dial", some "points"), "points", "Dial.points", defArgs (inClass (top 16) 4), defBody (inClass (top 16) 4), defScope (inClass (top 16) 4), [], []⟩,
  ⟨("Dial", some "_pass_marked"), "_pass_marked", "Dial._pass_marked", defArgs (inClass (top 16) 6), defBody (inClass (top 16) 6), defScope (inClass (top 16) 6), [], []⟩,
  ⟨("Dial", some "_exchange"), "_exchange", "Dial._exchange", defArgs (inClass (top 16) 7), defBody (inClass (top 16) 7), defScope (inClass (top 16) 7), [], []⟩,
  ⟨("Dial", some "_go_on"), "_go_on", "Dial._go_on", defArgs (inClass (top 16) 8), defBody (inClass (top 16) 8), defScope (inClass (top 16) 8), [], []⟩]
def fa : List He.Fa := [
  .glo "check_rooms", .glo "is_page", .glo "check_page", .glo "check_row", .glo "told", .glo "spells", .glo "shown", .glo "paper", .glo "find_spells", .glo "_check_paper", .glo "_has_within", .glo "_cheapest_step", .glo "_way_back", .glo "best", .glo "find_best", .glo "_farthest", .glo "_by_hand", .glo "_by_unseen", .glo "_by_first", .glo "_by_line", .glo "check_rule", .glo "lacking", .glo "find_lacks", .glo "stretches", .glo "lacking_in", .glo "_begins", .glo "worst", .glo "_check_size", .glo "_are_too_many", .glo "_all_rows", .glo "_more_lacks", .glo "_law_begun", .glo "_law_take", .glo "_law_alike", .glo "_law_class", .glo "_law_row", .glo "_law_refused", .glo "_law_all", .glo "_law_works", .glo "law", .cls "Dial", .glo "Dial", .noat "Dial" "_hand", .noat "Dial" "_held", .noat "Dial" "_lacks", .noat "Dial" "_marks", .meth "Dial" "__init__", .meth "Dial" "ask", .meth "Dial" "pages", .meth "Dial" "looked", .meth "Dial" "points", .meth "Dial" "_pass_marked", .meth "Dial" "_exchange", .meth "Dial" "_go_on", .mkr "Dial", .int "MOST_ROOMS" 8, .int "PAGES" 12, .int "MOST_ASKS" 100, .int "MOST_ROWS" 5000, .int "LONGEST" 5000, .free "any", .free "bool", .free "dict", .free "enumerate", .free "int", .free "isinstance", .free "len", .free "list", .free "max", .free "min", .free "range", .free "reversed", .free "str", .free "tuple", .free "zip", .glo "RULES"]
def tb_RULES : List (Str × He.Dv) := [("hand", .glo "_by_hand"), ("unseen", .glo "_by_unseen"), ("first", .glo "_by_first")]
abbrev R : PySem.W.OpenRow := PySem.W.OpenLaw.row PySem.Challenge.rw_clockhand_k01_refused
def xt (K : PySem.W.Frag) : Bool := errB K R.prog.main.file && He.valsB K (He.ga K "RULES") tb_RULES && ((["far", "", "Hand", "seen", "handunseen", "last"] : List Str).all fun z => decide (PySem.W.nsIn K (He.ga K "RULES") z = some none))
theorem mkProg {K : PySem.W.Frag} {h : Heap} {mg : Str → Option Value} (X : K.In h) (G : h.Ns mainGlobals mg) (c : He.SaysD fa fn K) (cx : xt K = true) : Nonempty (Prog K mg) := by
  have m_RULES := (He.ba cx).2
  have cx := (He.ba cx).1
  have x_RULES : He.valsB K (He.ga K "RULES") tb_RULES = true := (He.ba cx).2
  obtain ⟨_, F0⟩ := c.def_ 0 rfl
  obtain ⟨_, F1⟩ := c.def_ 1 rfl
  obtain ⟨_, F2⟩ := c.def_ 2 rfl
  obtain ⟨_, F3⟩ := c.def_ 3 rfl
  obtain ⟨_, F4⟩ := c.def_ 4 rfl
  obtain ⟨_, F5⟩ := c.def_ 5 rfl
  obtain ⟨_, F6⟩ := c.def_ 6 rfl
  obtain ⟨_, F7⟩ := c.def_ 7 rfl
  obtain ⟨_, F8⟩ := c.def_ 8 rfl
  obtain ⟨_, F9⟩ := c.def_ 9 rfl
  obtain ⟨_, F10⟩ := c.def_ 10 rfl
  obtain ⟨_, F11⟩ := c.def_ 11 rfl
  obtain ⟨_, F12⟩ := c.def_ 12 rfl
  obtain ⟨_, F13⟩ := c.def_ 13 rfl
  obtain ⟨_, F14⟩ := c.def_ 14 rfl
  obtain ⟨_, F15⟩ := c.def_ 15 rfl
  obtain ⟨_, F16⟩ := c.def_ 16 rfl
  obtain ⟨_, F17⟩ := c.def_ 17 rfl
  obtain ⟨_, F18⟩ := c.def_ 18 rfl
  obtain ⟨_, F19⟩ := c.def_ 19 rfl
  obtain ⟨_, F20⟩ := c.def_ 20 rfl
  obtain ⟨_, F21⟩ := c.def_ 21 rfl
  obtain ⟨_, F22⟩ := c.def_ 22 rfl
  obtain ⟨_, F23⟩ := c.def_ 23 rfl
  obtain ⟨_, F24⟩ := c.def_ 24 rfl
  obtain ⟨_, F25⟩ := c.def_ 25 rfl
  obtain ⟨_, F26⟩ := c.def_ 26 rfl
  obtain ⟨_, F27⟩ := c.def_ 27 rfl
  obtain ⟨_, F28⟩ := c.def_ 28 rfl
  obtain ⟨_, F29⟩ := c.def_ 29 rfl
  obtain ⟨_, F30⟩ := c.def_ 30 rfl
  obtain ⟨_, F31⟩ := c.def_ 31 rfl
  obtain ⟨_, F32⟩ := c.def_ 32 rfl
  obtain ⟨_, F33⟩ := c.def_ 33 rfl
  obtain ⟨_, F34⟩ := c.def_ 34 rfl
  obtain ⟨_, F35⟩ := c.def_ 35 rfl
  obtain ⟨_, F36⟩ := c.def_ 36 rfl
  obtain ⟨_, F37⟩ := c.def_ 37 rfl
  obtain ⟨_, F38⟩ := c.def_ 38 rfl
  obtain ⟨_, F40⟩ := c.def_ 40 rfl
  obtain ⟨_, F41⟩ := c.def_ 41 rfl
  obtain ⟨_, F42⟩ := c.def_ 42 rfl
  obtain ⟨_, F43⟩ := c.def_ 43 rfl
  obtain ⟨_, F44⟩ := c.def_ 44 rfl
  obtain ⟨_, F45⟩ := c.def_ 45 rfl
  obtain ⟨_, F46⟩ := c.def_ 46 rfl
  obtain ⟨_, F47⟩ := c.def_ 47 rfl
  obtain ⟨t_MOST_ROOMS, i_MOST_ROOMS⟩ := He.int_ok X G (c.fact 55 rfl)
  obtain ⟨t_PAGES, i_PAGES⟩ := He.int_ok X G (c.fact 56 rfl)
  obtain ⟨t_MOST_ASKS, i_MOST_ASKS⟩ := He.int_ok X G (c.fact 57 rfl)
  obtain ⟨t_MOST_ROWS, i_MOST_ROWS⟩ := He.int_ok X G (c.fact 58 rfl)
  obtain ⟨t_LONGEST, i_LONGEST⟩ := He.int_ok X G (c.fact 59 rfl)
  exact ⟨{
    check_rooms := ⟨_, _, F0, (FunD.bindsN F0 fun _ _ _ _ _ _ us hl => match us, hl with | [_], _ => rfl), He.glo_ok X G (c.fact 0 rfl)⟩,
    is_page := ⟨_, _, F1, (FunD.bindsN F1 fun _ _ _ _ _ _ us hl => match us, hl with | [_], _ => rfl), He.glo_ok X G (c.fact 1 rfl)⟩,
    check_page := ⟨_, _, F2, (FunD.bindsN F2 fun _ _ _ _ _ _ us hl => match us, hl with | [_], _ => rfl), He.glo_ok X G (c.fact 2 rfl)⟩,
    check_row := ⟨_, _, F3, (FunD.bindsN F3 fun _ _ _ _ _ _ us hl => match us, hl with | [_], _ => rfl), He.glo_ok X G (c.fact 3 rfl)⟩,
    told := ⟨_, _, F4, (FunD.bindsN F4 fun _ _ _ _ _ _ us hl => match us, hl with | [_, _], _ => rfl), He.glo_ok X G (c.fact 4 rfl)⟩,
    spells := ⟨_, _, F5, (FunD.bindsN F5 fun _ _ _ _ _ _ us hl => match us, hl with | [_], _ => rfl), He.glo_ok X G (c.fact 5 rfl)⟩,
    shown := ⟨_, _, F6, (FunD.bindsN F6 fun _ _ _ _ _ _ us hl => match us, hl with | [_, _, _], _ => rfl), He.glo_ok X G (c.fact 6 rfl)⟩,
    paper := ⟨_, _, F7, (FunD.bindsN F7 fun _ _ _ _ _ _ us hl => match us, hl with | [_, _], _ => rfl), He.glo_ok X G (c.fact 7 rfl)⟩,
    find_spells := ⟨_, _, F8, (FunD.bindsN F8 fun _ _ _ _ _ _ us hl => match us, hl with | [_], _ => rfl), He.glo_ok X G (c.fact 8 rfl)⟩,
    check_paper := ⟨_, _, F9, (FunD.bindsN F9 fun _ _ _ _ _ _ us hl => match us, hl with | [_, _], _ => rfl), He.glo_ok X G (c.fact 9 rfl)⟩,
    has_within := ⟨_, _, F10, (FunD.bindsN F10 fun _ _ _ _ _ _ us hl => match us, hl with | [_, _], _ => rfl), He.glo_ok X G (c.fact 10 rfl)⟩,
    cheapest_step := ⟨_, _, F11, (FunD.bindsN F11 fun _ _ _ _ _ _ us hl => match us, hl with | [_, _, _], _ => rfl), He.glo_ok X G (c.fact 11 rfl)⟩,
    way_back := ⟨_, _, F12, (FunD.bindsN F12 fun _ _ _ _ _ _ us hl => match us, hl with | [_], _ => rfl), He.glo_ok X G (c.fact 12 rfl)⟩,
    best := ⟨_, _, F13, (FunD.bindsN F13 fun _ _ _ _ _ _ us hl => match us, hl with | [_, _], _ => rfl), He.glo_ok X G (c.fact 13 rfl)⟩,
    find_best := ⟨_, _, F14, (FunD.bindsN F14 fun _ _ _ _ _ _ us hl => match us, hl with | [_, _], _ => rfl), He.glo_ok X G (c.fact 14 rfl)⟩,
    farthest := ⟨_, _, F15, (FunD.bindsN F15 fun _ _ _ _ _ _ us hl => match us, hl with | [_], _ => rfl), He.glo_ok X G (c.fact 15 rfl)⟩,
    by_hand := ⟨_, _, F16, (FunD.bindsN F16 fun _ _ _ _ _ _ us hl => match us, hl with | [_, _], _ => rfl), He.glo_ok X G (c.fact 16 rfl)⟩,
    by_unseen := ⟨_, _, F17, (FunD.bindsN F17 fun _ _ _ _ _ _ us hl => match us, hl with | [_, _], _ => rfl), He.glo_ok X G (c.fact 17 rfl)⟩,
    by_first := ⟨_, _, F18, (FunD.bindsN F18 fun _ _ _ _ _ _ us hl => match us, hl with | [_, _], _ => rfl), He.glo_ok X G (c.fact 18 rfl)⟩,
    by_line := ⟨_, _, F19, (FunD.bindsN F19 fun _ _ _ _ _ _ us hl => match us, hl with | [_, _, _], _ => rfl), He.glo_ok X G (c.fact 19 rfl)⟩,
    check_rule := ⟨_, _, F20, (FunD.bindsN F20 fun _ _ _ _ _ _ us hl => match us, hl with | [_], _ => rfl), He.glo_ok X G (c.fact 20 rfl)⟩,
    lacking := ⟨_, _, F21, (FunD.bindsN F21 fun _ _ _ _ _ _ us hl => match us, hl with | [_, _, _], _ => rfl), He.glo_ok X G (c.fact 21 rfl)⟩,
    find_lacks := ⟨_, _, F22, (FunD.bindsN F22 fun _ _ _ _ _ _ us hl => match us, hl with | [_, _, _], _ => rfl), He.glo_ok X G (c.fact 22 rfl)⟩,
    stretches := ⟨_, _, F23, (FunD.bindsN F23 fun _ _ _ _ _ _ us hl => match us, hl with | [_, _], _ => rfl), He.glo_ok X G (c.fact 23 rfl)⟩,
    lacking_in := ⟨_, _, F24, (FunD.bindsN F24 fun _ _ _ _ _ _ us hl => match us, hl with | [_, _, _], _ => rfl), He.glo_ok X G (c.fact 24 rfl)⟩,
    begins := ⟨_, _, F25, (FunD.bindsN F25 fun _ _ _ _ _ _ us hl => match us, hl with | [_, _], _ => rfl), He.glo_ok X G (c.fact 25 rfl)⟩,
    worst := ⟨_, _, F26, (FunD.bindsN F26 fun _ _ _ _ _ _ us hl => match us, hl with | [_, _, _, _], _ => rfl), He.glo_ok X G (c.fact 26 rfl)⟩,
    check_size := ⟨_, _, F27, (FunD.bindsN F27 fun _ _ _ _ _ _ us hl => match us, hl with | [_, _], _ => rfl), He.glo_ok X G (c.fact 27 rfl)⟩,
    are_too_many := ⟨_, _, F28, (FunD.bindsN F28 fun _ _ _ _ _ _ us hl => match us, hl with | [_, _], _ => rfl), He.glo_ok X G (c.fact 28 rfl)⟩,
    all_rows := ⟨_, _, F29, (FunD.bindsN F29 fun _ _ _ _ _ _ us hl => match us, hl with | [_, _], _ => rfl), He.glo_ok X G (c.fact 29 rfl)⟩,
    more_lacks := ⟨_, _, F30, (FunD.bindsN F30 fun _ _ _ _ _ _ us hl => match us, hl with | [_, _, _], _ => rfl), He.glo_ok X G (c.fact 30 rfl)⟩,
    law_begun := ⟨_, _, F31, (FunD.bindsN F31 fun _ _ _ _ _ _ us hl => match us, hl with | [_], _ => rfl), He.glo_ok X G (c.fact 31 rfl)⟩,
    law_take := ⟨_, _, F32, (FunD.bindsN F32 fun _ _ _ _ _ _ us hl => match us, hl with | [_, _], _ => rfl), He.glo_ok X G (c.fact 32 rfl)⟩,
    law_alike := ⟨_, _, F33, (FunD.bindsN F33 fun _ _ _ _ _ _ us hl => match us, hl with | [_, _], _ => rfl), He.glo_ok X G (c.fact 33 rfl)⟩,
    law_class := ⟨_, _, F34, (FunD.bindsN F34 fun _ _ _ _ _ _ us hl => match us, hl with | [_], _ => rfl), He.glo_ok X G (c.fact 34 rfl)⟩,
    law_row := ⟨_, _, F35, (FunD.bindsN F35 fun _ _ _ _ _ _ us hl => match us, hl with | [_, _], _ => rfl), He.glo_ok X G (c.fact 35 rfl)⟩,
    law_refused := ⟨_, _, F36, (FunD.bindsN F36 fun _ _ _ _ _ _ us hl => match us, hl with | [_], _ => rfl), He.glo_ok X G (c.fact 36 rfl)⟩,
    law_all := ⟨_, _, F37, (FunD.bindsN F37 fun _ _ _ _ _ _ us hl => match us, hl with | [_, _], _ => rfl), He.glo_ok X G (c.fact 37 rfl)⟩,
    law_works := ⟨_, _, F38, (FunD.bindsN F38 fun _ _ _ _ _ _ us hl => match us, hl with | [_, _, _, _], _ => rfl), He.glo_ok X G (c.fact 38 rfl)⟩,
    Dial := { C := _, cl := He.cls_ok (c.fact 40 rfl), g := He.glo_ok X G (c.fact 41 rfl), n_hand := He.noat_ok (c.fact 42 rfl), n_held := He.noat_ok (c.fact 43 rfl), n_lacks := He.noat_ok (c.fact 44 rfl), n_marks := He.noat_ok (c.fact 45 rfl), init := ⟨_, _, F40, (FunD.bindsN F40 fun _ _ _ _ _ _ us hl => match us, hl with | [_, _], _ => rfl), He.meth_ok (c.fact 46 rfl)⟩, ask := ⟨_, _, F41, (FunD.bindsN F41 fun _ _ _ _ _ _ us hl => match us, hl with | [_, _], _ => rfl), He.meth_ok (c.fact 47 rfl)⟩, pages := ⟨_, _, F42, (FunD.bindsN F42 fun _ _ _ _ _ _ us hl => match us, hl with | [_], _ => rfl), He.meth_ok (c.fact 48 rfl)⟩, looked := ⟨_, _, F43, (FunD.bindsN F43 fun _ _ _ _ _ _ us hl => match us, hl with | [_], _ => rfl), He.meth_ok (c.fact 49 rfl)⟩, points := ⟨_, _, F44, (FunD.bindsN F44 fun _ _ _ _ _ _ us hl => match us, hl with | [_], _ => rfl), He.meth_ok (c.fact 50 rfl)⟩, pass_marked := ⟨_, _, F45, (FunD.bindsN F45 fun _ _ _ _ _ _ us hl => match us, hl with | [_], _ => rfl), He.meth_ok (c.fact 51 rfl)⟩, exchange := ⟨_, _, F46, (FunD.bindsN F46 fun _ _ _ _ _ _ us hl => match us, hl with | [_, _], _ => rfl), He.meth_ok (c.fact 52 rfl)⟩, go_on := ⟨_, _, F47, (FunD.bindsN F47 fun _ _ _ _ _ _ us hl => match us, hl with | [_], _ => rfl), He.meth_ok (c.fact 53 rfl)⟩, mkr := He.mkr_ok (c.fact 54 rfl), bI := (FunD.bindsN F40 fun _ _ _ _ _ _ us hl => match us, hl with | [_, _], _ => rfl) },
    t_MOST_ROOMS := t_MOST_ROOMS, g_MOST_ROOMS := i_MOST_ROOMS,
    t_PAGES := t_PAGES, g_PAGES := i_PAGES,
    t_MOST_ASKS := t_MOST_ASKS, g_MOST_ASKS := i_MOST_ASKS,
    t_MOST_ROWS := t_MOST_ROWS, g_MOST_ROWS := i_MOST_ROWS,
    t_LONGEST := t_LONGEST, g_LONGEST := i_LONGEST,
    any := He.free_ok X G (c.fact 60 rfl),
    bool_ := He.free_ok X G (c.fact 61 rfl),
    dict_ := He.free_ok X G (c.fact 62 rfl),
    enumerate := He.free_ok X G (c.fact 63 rfl),
    int_ := He.free_ok X G (c.fact 64 rfl),
    isinstance := He.free_ok X G (c.fact 65 rfl),
    len := He.free_ok X G (c.fact 66 rfl),
    list_ := He.free_ok X G (c.fact 67 rfl),
    max := He.free_ok X G (c.fact 68 rfl),
    min := He.free_ok X G (c.fact 69 rfl),
    range := He.free_ok X G (c.fact 70 rfl),
    reversed := He.free_ok X G (c.fact 71 rfl),
    str_ := He.free_ok X G (c.fact 72 rfl),
    tuple_ := He.free_ok X G (c.fact 73 rfl),
    zip := He.free_ok X G (c.fact 74 rfl),
    a_RULES := _, g_RULES := He.glo_ok X G (c.fact 75 rfl),
    r_RULES_hand := He.valsB_ok (q := ("hand", .glo "_by_hand")) x_RULES (by simp [tb_RULES]),
    r_RULES_unseen := He.valsB_ok (q := ("unseen", .glo "_by_unseen")) x_RULES (by simp [tb_RULES]),
    r_RULES_first := He.valsB_ok (q := ("first", .glo "_by_first")) x_RULES (by simp [tb_RULES]),
    m_RULES := fun z hz => of_decide_eq_true (List.all_eq_true.mp m_RULES z hz) }⟩

def ts : List He.Tab := [(fun K => He.ga K "RULES", ["hand", "unseen", "first"])]
abbrev hk : PySem.W.Hook := hookZ 5 fa fn ts xt
def ob (s : PySem.W.SharedT) : AlY := obsZ 5 fa fn ts xt (HandSHeadRun.getT s)
theorem ob_eq (s : PySem.W.SharedT) : ob s = hk.obs s.abs := obsZ_eq (HandSHeadRun.getT_eq s)
theorem run (w : World) : HandSHeadRun.RunEq R (PySem.W.view R.prog [61]) hk ob 4000 ((["_wall", "__name__", "PageError", "BadRooms", "BadRow", "BadRule", "TooMany", "MOST_ROOMS", "PAGES", "MOST_ASKS", "check_rooms", "is_page", "check_page", "check_row", "Dial", "told", "spells", "shown", "paper", "find_spells", "_check_paper", "_has_within", "_cheapest_step", "_way_back", "best"] : List PySem.Str) ++ (["find_best", "_farthest", "_by_hand", "_by_unseen", "_by_first", "_by_line", "RULES", "check_rule", "lacking", "find_lacks", "stretches", "lacking_in", "_begins", "MOST_ROWS", "LONGEST", "worst", "_check_size", "_are_too_many", "_all_rows", "_more_lacks", "_law_begun", "_law_take", "_law_alike", "_law_class", "_law_row"] : List PySem.Str) ++ (["_law_refused", "_law_all", "_law_works"] : List PySem.Str)) w := by
  refine PySem.W.byRow2 "special-get-raises" (P := fun w => HandSHeadRun.RunEq R (PySem.W.view R.prog [61]) hk ob 4000 ((["_wall", "__name__", "PageError", "BadRooms", "BadRow", "BadRule", "TooMany", "MOST_ROOMS", "PAGES", "MOST_ASKS", "check_rooms", "is_page", "check_page", "check_row", "Dial", "told", "spells", "shown", "paper", "find_spells", "_check_paper", "_has_within", "_cheapest_step", "_way_back", "best"] : List PySem.Str) ++ (["find_best", "_farthest", "_by_hand", "_by_unseen", "_by_first", "_by_line", "RULES", "check_rule", "lacking", "find_lacks", "stretches", "lacking_in", "_begins", "MOST_ROWS", "LONGEST", "worst", "_check_size", "_are_too_many", "_all_rows", "_more_lacks", "_law_begun", "_law_take", "_law_alike", "_law_class", "_law_row"] : List PySem.Str) ++ (["_law_refused", "_law_all", "_law_works"] : List PySem.Str)) w) (fun w => ?_) (fun w => ?_) w
  all_goals
    intro os
    kernel_rfl
end CK

namespace CK
open PySem PySem.Spec PyProof.Rows L2
theorem facts {w : World} {K : PySem.W.Frag} {h : Heap} {mg : Str → Option Value} {f : Addr} (X : K.In h) (G : h.Ns mainGlobals mg) (hfa : mg ("law" : Str) = some (.ref f)) (c : SaysZ fa fn ts xt w h K) :
    ∃ fd : FuncData, (∀ (s : Shared) (v : Value), BindsTo s fd ⟨[v], []⟩ [("_law_script", v)]) ∧ ∀ base : Heap, K.In base → base.Ns mainGlobals mg → (∀ p ∈ two.map (He.cT K), LamX.TabB base mg p.1 p.2) →
      FnOk R.prog w K mg base CX0 13 f fd ["_law_script"] (spLawT K (He.cT K ("law", none)).2 (He.cT K ("_law_works", none)).2) := by
  obtain ⟨T⟩ := mkProg X G c.t.d c.more
  obtain ⟨Z⟩ := errs (p := R.prog) X G c.y (He.ba (He.ba c.more).1).1 (by decide +kernel)
  obtain ⟨es0, nd0, TB0⟩ := c.t.tab 0 rfl
  have ea0 : T.a_RULES = He.ga K "RULES" := by
    have q := T.g_RULES.symm.trans (He.glo_ok (x := "RULES") X G (He.SaysD.facts c.t.d (by simp [fa])))
    injection q with q
    injection q
  have TB0 : KDict K w T.a_RULES es0 nd0 := by rw [ea0]; exact TB0
  obtain ⟨fd, F⟩ := c.t.d.def_ 39 rfl
  have e := hfa.symm.trans (He.glo_ok X G (c.t.d.fact 39 rfl))
  cases e
  have eW : T.law_works.f = He.fAd K ("_law_works", none) := by
    have q := T.law_works.g.symm.trans (He.glo_ok (x := "_law_works") X G (He.SaysD.facts c.t.d (by simp [fa])))
    injection q with q
    injection q
  have b := FunD.bindsA (ps := ["_law_script"]) F fun _ _ _ _ _ _ us hl => match us, hl with | [_], _ => rfl
  refine ⟨fd, fun s v => b s [v] rfl, fun base _ _ tb => ?_⟩
  exact ok_law T TB0 Z (of_decide_eq_true c.ap) (code_of T.law_works.fn eW) (tb _ (by simp)) (tb _ (by simp)) F (code_of (p := ("law", none)) F rfl)
end CK
open PySem PySem.W PySem.Calls PyProof.Rows
set_option maxRecDepth 100000 in
set_option maxHeartbeats 0 in
theorem PySem.Challenge.cw_clockhand_k01_refused_holds : PySem.Challenge.rw_clockhand_k01_refused.Holds := by
  w_on; o_law
  refine HandSHeadRun.head_any (r := OpenLaw.row PySem.Challenge.rw_clockhand_k01_refused) (q := view (OpenLaw.row PySem.Challenge.rw_clockhand_k01_refused).prog [61]) (H := CK.hk) (ob := CK.ob) (M := 4000) (loose := ((["_wall", "__name__", "PageError", "BadRooms", "BadRow", "BadRule", "TooMany", "MOST_ROOMS", "PAGES", "MOST_ASKS", "check_rooms", "is_page", "check_page", "check_row", "Dial", "told", "spells", "shown", "paper", "find_spells", "_check_paper", "_has_within", "_cheapest_step", "_way_back", "best"] : List PySem.Str) ++ (["find_best", "_farthest", "_by_hand", "_by_unseen", "_by_first", "_by_line", "RULES", "check_rule", "lacking", "find_lacks", "stretches", "lacking_in", "_begins", "MOST_ROWS", "LONGEST", "worst", "_check_size", "_are_too_many", "_all_rows", "_more_lacks", "_law_begun", "_law_take", "_law_alike", "_law_class", "_law_row"] : List PySem.Str) ++ (["_law_refused", "_law_all", "_law_works"] : List PySem.Str))) (d := HandSHeadRun.topDef (OpenLaw.row PySem.Challenge.rw_clockhand_k01_refused).prog 61) (kwd := []) CK.ob_eq
    (by kernel_rfl) (fun s => by kernel_rfl) CK.run (by kernel_rfl) (by kernel_rfl) (by kernel_rfl) (by rfl) (by first | assumption | decide +kernel) (by decide +kernel) ⟨rfl, rfl, rfl, rfl, rfl, by decide +kernel⟩ ?hw ?hc
  case hw => w_witness2
  case hc =>
    refine LamX.walk_ofTsE (l := PySem.Challenge.rw_clockhand_k01_refused) (n := 63) (k := 13) (x := "_law_script") (CX := fun _ => L2.CX0) rfl (by decide) (by kernel_rfl) ⟨rfl, by decide, by decide⟩ ?F (fun _ _ _ _ _ z => z)
    intro w mg fa h Y G hmg0
    obtain ⟨K, KX, c⟩ := Y
    have hmg : mg ("law" : PySem.Str) = some (.ref fa) := by
      have e : (HandSHeadRun.topDef (OpenLaw.row PySem.Challenge.rw_clockhand_k01_refused).prog 61).name = ("law" : PySem.Str) := by kernel_rfl
      rw [← e]
      exact hmg0
    obtain ⟨fd, hb, hF⟩ := CK.facts (w := w) KX G hmg c
    refine ⟨K, KX, fd, CK.two.map (He.cT K), CK.spLawT K (He.cT K ("law", none)).2 (He.cT K ("_law_works", none)).2, fun p hp => ?_, fun p hp => ?_, fun p hp => ?_, hb, fun H a ns hl _ hH hS => ?_, hF⟩
    · obtain ⟨d, hd, rfl⟩ := List.mem_map.mp hp
      exact c.empty d hd
    · obtain ⟨d, hd, rfl⟩ := List.mem_map.mp hp
      exact c.out d hd
    · obtain ⟨d, hd, rfl⟩ := List.mem_map.mp hp
      exact PySem.W.codeHd_of_K KX (c.hd d hd)
    · refine ⟨a, ns, rfl, hS, hl, fun p hp => ?_, fun _ => rfl⟩
      rcases List.mem_cons.mp hp with z | z
      · rw [z]
        exact LamX.TabS.nil (hH _ (by simp))
      · rw [List.mem_singleton.mp z]
        exact LamX.TabS.nil (hH _ (by simp))
