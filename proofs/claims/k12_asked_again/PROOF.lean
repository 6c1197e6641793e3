import PyProof.Rows.All
import Wide.All
import OpenK.AllK
import Wide.FinOn
import KE.KStateDown
import Lean
import HandS.ForMost
import HandS.SortInts
import HandS.SetFor
import HandS.Wide
import HandS.Defaults
import HandS.IsInst
import HandS.CallLocal
import HandS.More
import HandS.Codes
import HandS.Sort
import HandS.Head0
import HandS.Head1
import HandS.Head2
import HandS.HeadEnd
import HandS.HeadHook1
import HandS.HeadHook2
import HandS.HeadHook3
import HandS.Walk
import KE.KDictZip
import KE.KTurns
import KE.KItemsList
import PyProof.ListNew
import HandS.ListItems
import HandS.Rev
import KE.DataMinMax
import HandS.RevRange
import HandS.Style
import PySem.Challenge.RW_clockhand_k12_asked_again
set_option Elab.async false
set_option linter.all false
set_option maxRecDepth 100000
set_option maxHeartbeats 0
/-! Clockhand: the shared ground of its laws: where a def stands, heaps, the box of the draws. -/
namespace CK
open PySem PySem.Spec PyProof.Rows L2
def top (i : Nat) : Stmt := PySem.Challenge.pw_clockhand_k12_asked_again.main.body.getD i (.Pass ⟨0, 0, 0, 0⟩)

/-- a def of the text, behind the top -/
structure DAt (K : PySem.W.Frag) (mg : Str → Option Value) (x : Str) (st : Stmt) (ps : List Str) where
  f : Addr
  fd : FuncData
  fn : FunD K x x (defArgs st) (defBody st) (defScope st) [] [] f fd
  bd : Binds K fd ps []
  g : mg x = some (.ref f)
/-- a method of the class at C -/
structure MAt (K : PySem.W.Frag) (C : Addr) (x q : Str) (st : Stmt) (ps : List Str) where
  f : Addr
  fd : FuncData
  fn : FunD K x q (defArgs st) (defBody st) (defScope st) [] [] f fd
  bd : Binds K fd ps []
  me : Meth K C x f

/-! ### the head's look, by one more Bool -/
def obsX (n : Nat) (fa : List He.Fa) (fn : List He.DefD) (ts : List He.Tab) (xt : PySem.W.Frag → Bool) (g : Addr → Option Obj) : He.AlT × Bool := (He.obsTG n fa fn ts g, xt (He.frG g (He.asD g n)))
def hookX (n : Nat) (fa : List He.Fa) (fn : List He.DefD) (ts : List He.Tab) (xt : PySem.W.Frag → Bool) : PySem.W.Hook where
  α := He.AlT × Bool
  obs := fun s => obsX n fa fn ts xt s.heap.get?
  val := fun w => (He.valT fn ts w, true)
  says := fun w h => ∃ K : PySem.W.Frag, K.In h ∧ He.SaysT fa fn ts w K ∧ xt K = true
  of := fun _ _ e => ⟨_, He.frG_in, congrArg Prod.fst e, congrArg Prod.snd e⟩
  keeps := fun _ _ _ ⟨K, hK, c⟩ k => ⟨K, PySem.W.Frag.In.keeps hK k, c⟩
theorem obsX_eq {n : Nat} {fa : List He.Fa} {fn : List He.DefD} {ts : List He.Tab} {xt : PySem.W.Frag → Bool} {g : Addr → Option Obj} {s : Shared} (h : ∀ a, g a = s.heap.get? a) : obsX n fa fn ts xt g = (hookX n fa fn ts xt).obs s := by
  have e : g = s.heap.get? := funext h
  rw [e] <;> rfl
/-! ### where all stands behind the top -/
structure DialAt (K : PySem.W.Frag) (mg : Str → Option Value) where
  C : Addr
  cl : Cls K C
  g : mg "Dial" = some (.ref C)
  n_hand : NoAttr K C "_hand"
  n_held : NoAttr K C "_held"
  n_lacks : NoAttr K C "_lacks"
  n_marks : NoAttr K C "_marks"
  init : MAt K C "__init__" "Dial.__init__" (inClass (top 28) 0) ["self", "rooms"]
  ask : MAt K C "ask" "Dial.ask" (inClass (top 28) 1) ["self", "page"]
  pages : MAt K C "pages" "Dial.pages" (inClass (top 28) 2) ["self"]
  looked : MAt K C "looked" "Dial.looked" (inClass (top 28) 3) ["self"]
  points : MAt K C "points" "Dial.points" (inClass (top 28) 4) ["self"]
  lacked : MAt K C "lacked" "Dial.lacked" (inClass (top 28) 5) ["self"]
  pass_marked : MAt K C "_pass_marked" "Dial._pass_marked" (inClass (top 28) 6) ["self"]
  exchange : MAt K C "_exchange" "Dial._exchange" (inClass (top 28) 7) ["self", "page"]
  go_on : MAt K C "_go_on" "Dial._go_on" (inClass (top 28) 8) ["self"]
  mkr : Mk K C init.f
  bI : Binds K init.fd ["self", "rooms"] []
structure Prog (K : PySem.W.Frag) (mg : Str → Option Value) where
  check_rooms : DAt K mg "check_rooms" (top 10) ["rooms"]
  is_page : DAt K mg "is_page" (top 11) ["page"]
  check_page : DAt K mg "check_page" (top 12) ["page"]
  check_row : DAt K mg "check_row" (top 13) ["row"]
  spells : DAt K mg "spells" (top 15) ["row"]
  shown : DAt K mg "shown" (top 16) ["rooms", "row", "places"]
  paper : DAt K mg "paper" (top 17) ["rooms", "row"]
  find_spells : DAt K mg "find_spells" (top 18) ["row"]
  check_paper : DAt K mg "_check_paper" (top 19) ["row", "places"]
  has_within : DAt K mg "_has_within" (top 20) ["spell", "places"]
  cheapest_step : DAt K mg "_cheapest_step" (top 21) ["stop", "ends", "least"]
  way_back : DAt K mg "_way_back" (top 22) ["ahead"]
  best : DAt K mg "best" (top 24) ["rooms", "row"]
  find_best : DAt K mg "find_best" (top 25) ["rooms", "row"]
  farthest : DAt K mg "_farthest" (top 26) ["there"]
  told : DAt K mg "told" (top 29) ["rooms", "row"]
  by_hand : DAt K mg "_by_hand" (top 31) ["rooms", "row"]
  by_unseen : DAt K mg "_by_unseen" (top 32) ["rooms", "row"]
  by_first : DAt K mg "_by_first" (top 33) ["rooms", "row"]
  by_line : DAt K mg "_by_line" (top 34) ["rooms", "row", "renewed"]
  check_rule : DAt K mg "check_rule" (top 36) ["rule"]
  lacking : DAt K mg "lacking" (top 37) ["rooms", "row", "rule"]
  find_lacks : DAt K mg "find_lacks" (top 38) ["rooms", "row", "rule"]
  stretches : DAt K mg "stretches" (top 40) ["rooms", "row"]
  lacking_in : DAt K mg "lacking_in" (top 41) ["rooms", "row", "rule"]
  begins : DAt K mg "_begins" (top 42) ["rooms", "row"]
  worst : DAt K mg "worst" (top 46) ["rooms", "pages", "long", "rule"]
  check_size : DAt K mg "_check_size" (top 47) ["pages", "long"]
  are_too_many : DAt K mg "_are_too_many" (top 48) ["pages", "long"]
  all_rows : DAt K mg "_all_rows" (top 49) ["pages", "long"]
  more_lacks : DAt K mg "_more_lacks" (top 50) ["rooms", "row", "rule"]
  law_begun : DAt K mg "_law_begun" (top 52) ["_law_script"]
  law_take : DAt K mg "_law_take" (top 53) ["_law_box", "_law_many"]
  law_row : DAt K mg "_law_row" (top 54) ["_law_box", "_law_most"]
  law_told : DAt K mg "_law_told" (top 55) ["_law_case"]
  law_kept : DAt K mg "_law_kept" (top 56) ["_law_found"]
  law_spoil : DAt K mg "_law_spoil" (top 57) ["_law_found"]
  Dial : DialAt K mg
  t_MOST_ROOMS : Tok
  g_MOST_ROOMS : mg "MOST_ROOMS" = some (.int 8 t_MOST_ROOMS)
  t_PAGES : Tok
  g_PAGES : mg "PAGES" = some (.int 12 t_PAGES)
  t_MOST_ASKS : Tok
  g_MOST_ASKS : mg "MOST_ASKS" = some (.int 100 t_MOST_ASKS)
  t_MOST_ROWS : Tok
  g_MOST_ROWS : mg "MOST_ROWS" = some (.int 5000 t_MOST_ROWS)
  t_LONGEST : Tok
  g_LONGEST : mg "LONGEST" = some (.int 5000 t_LONGEST)
  any : mg "any" = none
  dict_ : mg "dict" = none
  enumerate : mg "enumerate" = none
  int_ : mg "int" = none
  isinstance : mg "isinstance" = none
  len : mg "len" = none
  list_ : mg "list" = none
  max : mg "max" = none
  min : mg "min" = none
  range : mg "range" = none
  reversed : mg "reversed" = none
  tuple_ : mg "tuple" = none
  zip : mg "zip" = none
  a_RULES : Addr
  g_RULES : mg "RULES" = some (.ref a_RULES)
  r_RULES_hand : ∃ u, PySem.W.nsIn K a_RULES "hand" = some (some u) ∧ RelV (.ref by_hand.f) u
  r_RULES_unseen : ∃ u, PySem.W.nsIn K a_RULES "unseen" = some (some u) ∧ RelV (.ref by_unseen.f) u
  r_RULES_first : ∃ u, PySem.W.nsIn K a_RULES "first" = some (some u) ∧ RelV (.ref by_first.f) u

/-! ### heaps -/
/-- all that H knows stands in H' as it stood, but for what stands at the places S -/
def But (S : List Addr) (H H' : Hp) : Prop := ∀ b o, H b = some o → b ∉ S → H' b = some o
theorem But.refl (S : List Addr) (H : Hp) : But S H H := fun _ _ h _ => h
theorem But.trans {S : List Addr} {H H1 H2 : Hp} (a : But S H H1) (b : But S H1 H2) : But S H H2 := fun c o h n => b c o (a c o h n) n
theorem But.mono {S T : List Addr} {H H1 : Hp} (a : But S H H1) (h : ∀ x, x ∈ S → x ∈ T) : But T H H1 := fun c o e n => a c o e fun z => n (h c z)
theorem But.same {H H1 : Hp} (a : But [] H H1) : Same H H1 := fun c o e => a c o e (by simp)
theorem But.of {S : List Addr} {H H1 : Hp} (a : Same H H1) : But S H H1 := fun c o e _ => a c o e
theorem But.new {S : List Addr} {H : Hp} {p : Addr} {o : HO} (h : H p = none) : But S H (upd H p o) := fun b u e _ => by
  rw [upd_ne (ne_of_none e h)]
  exact e
theorem But.put {S : List Addr} {H : Hp} {p : Addr} {o : HO} (h : p ∈ S) : But S H (upd H p o) := fun b u e n => by
  rw [upd_ne (fun z => n (by rw [z]; exact h))]
  exact e
/-- a place that H did not know may change -/
theorem But.free {S : List Addr} {p : Addr} {H H' : Hp} (a : But (p :: S) H H') (h : H p = none) : But S H H' := fun b o e n => a b o e fun z => by
  rcases List.mem_cons.mp z with z | z
  · rw [z, h] at e
    cases e
  · exact n z
theorem But.at {S : List Addr} {H H' : Hp} (a : But S H H') {b : Addr} {o : HO} (e : H b = some o) (n : b ∉ S := by first | assumption | simp) : H' b = some o := a b o e n
/-- what is new behind was free ahead, if it isn't of S -/
theorem But.back {S : List Addr} {H H' : Hp} (a : But S H H') {p : Addr} (h : H' p = none) (n : p ∉ S) : H p = none := by
  cases e : H p with
  | none => rfl
  | some o => rw [a p o e n] at h; cases h
theorem Same.new {H : Hp} {p : Addr} {o : HO} (h : H p = none) : Same H (upd H p o) := fun b u e => by
  rw [upd_ne (ne_of_none e h)]
  exact e
theorem Same.back {H H' : Hp} (a : Same H H') {p : Addr} (h : H' p = none) : H p = none := by
  cases e : H p with
  | none => rfl
  | some o => rw [a p o e] at h; cases h
theorem Same.put {H H' : Hp} {p : Addr} {o : HO} (a : Same H H') (h : H p = none) : Same H (upd H' p o) := fun b u e => by
  rw [upd_ne (ne_of_none e h)]
  exact a b u e
theorem ne_fresh {H : Hp} {a b : Addr} {o : HO} (h : H a = some o) (h' : H b = none) : a ≠ b := ne_of_none h h'

/-! ### lists of ints -/
abbrev il (ns : List Int) : List V := ns.map V.int
theorem il_at {ns : List Int} {j : Nat} {n : Int} (h : ns[j]? = some n) : (il ns)[j]? = some (V.int n) := by
  rw [List.getElem?_map, h]
  rfl
theorem il_set {ns : List Int} {j : Nat} {n : Int} : (il ns).set j (V.int n) = il (ns.set j n) := by
  show (ns.map V.int).set j (V.int n) = (ns.set j n).map V.int
  rw [List.map_set]
theorem il_get {ns : List Int} {j : Nat} {y : V} (h : (il ns)[j]? = some y) : ∃ n, ns[j]? = some n ∧ y = V.int n := by
  rw [List.getElem?_map] at h
  cases e : ns[j]? with
  | none => rw [e] at h; cases h
  | some n => rw [e] at h; exact ⟨n, rfl, (Option.some.inj h).symm⟩
theorem il_snoc {ns : List Int} {n : Int} : il ns ++ [V.int n] = il (ns ++ [n]) := by
  show ns.map V.int ++ [V.int n] = (ns ++ [n]).map V.int
  rw [List.map_append]
  rfl
theorem il_app {ns ms : List Int} : il ns ++ il ms = il (ns ++ ms) := by
  show ns.map V.int ++ ms.map V.int = (ns ++ ms).map V.int
  rw [List.map_append]
theorem il_len {ns : List Int} : (il ns).length = ns.length := List.length_map _
theorem flat_il (ns : List Int) : (il ns).all flatV = true := by
  rw [List.all_eq_true]
  intro x hx
  obtain ⟨n, _, rfl⟩ := List.mem_map.mp hx
  rfl
theorem inV_il (n : Int) (ns : List Int) : inV (V.int n) (il ns) = decide (n ∈ ns) := by
  induction ns with
  | nil => rfl
  | cons a r ih =>
    show (eqV (V.int a) (V.int n) || inV (V.int n) (il r)) = _
    rw [ih]
    have e : eqV (V.int a) (V.int n) = decide (a = n) := by
      first
        | rfl
        | (simp [eqV])
    rw [e]
    by_cases h : a = n
    · simp [h]
    · have h2 : ¬ n = a := fun z => h z.symm
      simp [h, h2]
/-! ### data that is read -/
def pd (ns : List Int) : PyData := .list (ns.map PyData.int)
theorem dp_all (K : PySem.W.Frag) (H : Hp) : ∀ ns : List Int, DpAll K H (il ns) (ns.map PyData.int)
  | [] => .nil
  | _ :: r => .cons (.int _) (dp_all K H r)
theorem dp_il {K : PySem.W.Frag} {H : Hp} {a : Addr} {ns : List Int} (h : SqL K H a (il ns)) : Dp K H (.ref a) (pd ns) := .lst h (dp_all K H ns)
theorem eqv_pd : ∀ a b : List Int, PyData.eqvAll (a.map PyData.int) (b.map PyData.int) = decide (a = b)
  | [], [] => rfl
  | [], _ :: _ => rfl
  | _ :: _, [] => rfl
  | x :: r, y :: s => by
    show ((x == y) && PyData.eqvAll (r.map PyData.int) (s.map PyData.int)) = _
    rw [eqv_pd r s]
    by_cases h : x = y
    · by_cases h2 : r = s
      · simp [h, h2]
      · simp [h, h2]
    · simp [h]
theorem eqv_il (a b : List Int) : PyData.eqv (pd a) (pd b) = decide (a = b) := eqv_pd a b
theorem lay_il : ∀ a : List Int, PyData.canLayAll0 (a.map PyData.int) = true
  | [] => rfl
  | _ :: r => by
    show (true && PyData.canLayAll0 (r.map PyData.int)) = true
    rw [lay_il r]
    rfl
theorem dep_il : ∀ a : List Int, PyData.depthAll (a.map PyData.int) = 0
  | [] => rfl
  | _ :: r => by
    show max 0 (PyData.depthAll (r.map PyData.int)) = 0
    rw [dep_il r]
    rfl
theorem shaped_il (a : List Int) : SeqAt.shaped (pd a) = true := by
  unfold SeqAt.shaped pd
  rw [Bool.and_eq_true]
  constructor
  · show PyData.canLayAll0 _ = true
    exact lay_il a
  · apply decide_eq_true
    show PyData.depthAll _ + 1 ≤ 64
    rw [dep_il a]
    decide
theorem sz {n : Nat} (h : n ≤ 100000) : n ≤ sizeLine := Nat.le_trans h (by decide)
theorem szl {n : Nat} (h : n < 100000) : n < sizeLine := Nat.lt_of_lt_of_le h (by decide)

theorem ixn {n : Nat} {i : Int} {j : Nat} (e : i = (j : Int)) (h : j < n) : ixN n i = some j := by
  unfold ixN
  rw [if_pos (by omega), if_pos (by omega), e]
  rfl
theorem seq_ix {n : Nat} {i : Int} {j : Nat} (e : i = (j : Int)) (h : j < n) : seqIndex? i n = some j := (ixN_seq (ixn e h)).1
theorem szd {n : Nat} (h : Nat.ble n 1000 = true) : n ≤ sizeLine := Nat.le_trans (Nat.le_of_ble_eq_true h) (by decide)
theorem il_menu {xs : List Int} {r : Int} (h0 : 0 ≤ r) (h1 : r < xs.length) : ∃ v, v ∈ xs ∧ atI (il xs) r = some (V.int v) := by
  obtain ⟨j, rfl⟩ : ∃ j : Nat, r = (j : Int) := ⟨r.toNat, by omega⟩
  have hj : j < xs.length := by omega
  exact ⟨xs[j], List.getElem_mem hj, atI_nat (il_at (List.getElem?_eq_getElem hj))⟩
theorem il_last {xs : List Int} (h : xs ≠ []) : ∃ v, v ∈ xs ∧ atI (il xs) (-1) = some (V.int v) := by
  obtain ⟨ys, y, rfl⟩ : ∃ ys y, xs = ys ++ [y] := ⟨xs.dropLast, xs.getLast h, (List.dropLast_concat_getLast h).symm⟩
  refine ⟨y, by simp, ?_⟩
  rw [← il_snoc]
  exact atI_last _ _
theorem ifT {c : Bool} {A B : Prop} (e : c = true) (h : A) : if c = true then A else B := by
  rw [if_pos e]
  exact h
theorem ifF {c : Bool} {A B : Prop} (e : c = false) (h : B) : if c = true then A else B := by
  rw [e]
  exact iteF h
theorem int0 {a b : Int} (h : a < b) : a < b := h
/-! ### the box of the draws -/
/-- the box at b: the numbers left, in the list at l, and a number by which draws go on -/
structure BoxAt (H : Hp) (b l : Addr) : Prop where
  ne : b ≠ l
  ex : ∃ (ns : List Int) (z : Int), H b = some (.lst [.ref l, .int z]) ∧ H l = some (.lst (il ns)) ∧ 0 ≤ z ∧ z < 2147483647
theorem BoxAt.but {S : List Addr} {H H' : Hp} {b l : Addr} (B : BoxAt H b l) (k : But S H H') (hb : b ∉ S) (hl : l ∉ S) : BoxAt H' b l := by
  obtain ⟨ns, z, h1, h2, h3⟩ := B.ex
  exact ⟨B.ne, ns, z, k _ _ h1 hb, k _ _ h2 hl, h3⟩
theorem BoxAt.same {H H' : Hp} {b l : Addr} (B : BoxAt H b l) (k : Same H H') : BoxAt H' b l := by
  obtain ⟨ns, z, h1, h2, h3⟩ := B.ex
  exact ⟨B.ne, ns, z, k _ _ h1, k _ _ h2, h3⟩

/-! ### the promises of the draws -/
/-- a new box over the script's ints -/
def spBegun (K : PySem.W.Frag) : Sp := fun vs H Q _ => ∃ (a : Addr) (ns : List Int), vs = [.ref a] ∧ SqL K H a (il ns) ∧ ns.length ≤ 63 ∧
  ∀ (b l : Addr) (H' : Hp), H b = none → H l = none → Same H H' → BoxAt H' b l → Q (.ref b) H'
/-- a draw: some number below m, and the box is still one -/
def spTake : Sp := fun vs H Q _ => ∃ (b l : Addr) (m : Int), vs = [.ref b, .int m] ∧ BoxAt H b l ∧ 0 < m ∧ m < 1000000000 ∧
  ∀ (r : Int) (H' : Hp), 0 ≤ r → r < m → But [b, l] H H' → BoxAt H' b l → Q (.int r) H'
/-- a row: asks for pages below twelve, at most as many as asked for -/
def spRow : Sp := fun vs H Q _ => ∃ (b l : Addr) (m : Int), vs = [.ref b, .int m] ∧ BoxAt H b l ∧ 0 ≤ m ∧ m ≤ 100 ∧
  ∀ (row : List Int) (r : Addr) (H' : Hp), H r = none → (∀ p ∈ row, 0 ≤ p ∧ p < 12) → (row.length : Int) ≤ m → But [b, l] H H' → H' r = some (.lst (il row)) → BoxAt H' b l → Q (.ref r) H'
end CK

namespace CK
open PySem PySem.Spec PyProof.Rows L2
section
variable {P : Program} {w : World} {K : PySem.W.Frag} {mg : Str → Option Value} {base : Heap}
/-! ### a draw -/
theorem sc_law_take : FnScope ["_law_box", "_law_many", "_law_number"] ["_law_box", "_law_many"] (defScope (top 53)) := ⟨rfl, rfl, rfl, by decide +kernel, rfl, by decide +kernel, by decide +kernel⟩
theorem ok_law_take (T : Prog K mg) : FnOk P w K mg base CX0 1 T.law_take.f T.law_take.fd ["_law_box", "_law_many"] spTake := by
  refine T.law_take.fn.ok sc_law_take (fun vs H Q E h => ?len) (fun cdv A outer s H vs Q E hr h => ?body)
  case len =>
    obtain ⟨b, l, m, rfl, _⟩ := h
    rfl
  case body =>
    have hu := hu_of hr
    obtain ⟨b, l, m, rfl, B, m0, m1, k⟩ := h
    refine ⟨_, PSs.nox (pss_cons (ps_if (pt_cmpR (op_eqD hr.units) (pe_ix ix_list (pv 0) pe_int (fun _ _ => rfl)) (pe_lst pa_nil) (nomark _))
        (pss_cons (ps_asg (pe_op op_mod (pe_op op_mul (pe_ix ix_list (pv 0) pe_int (fun _ _ => rfl)) pe_int) pe_int) (pg_sub (pv 0) pe_int set_list))
        (pss_one (ps_ret (pe_op op_mod (pe_op op_fdiv (pe_ix ix_list (pv 0) pe_int (fun _ _ => rfl)) pe_int) (pv 1)))))
        pss_nil)
        (pss_cons (ps_set (i := 2) sc_law_take.nd rfl (Or.inl rfl) (pe_ix ix_list (pe_ix ix_list (pv 0) pe_int (fun _ _ => rfl)) pe_int (fun _ _ => rfl)))
        (pss_cons (ps_asg (pe_op op_fdiv (pv 2) (pv 1)) (pg_sub (pe_ix ix_list (pv 0) pe_int (fun _ _ => rfl)) pe_int set_list))
        (pss_cons (ps_if (PW.pt (pw_or (pt_cmpR op_eq (pe_ix ix_list (pe_ix ix_list (pv 0) pe_int (fun _ _ => rfl)) pe_int (fun _ _ => rfl)) pe_int (nomark _)) (pw_or1 (pt_cmpR op_eq (pe_ix ix_list (pe_ix ix_list (pv 0) pe_int (fun _ _ => rfl)) pe_int (fun _ _ => rfl)) (pe_un un_neg pe_int) (nomark _)))))
        (pss_one (ps_expr (pe_bm PySem.F.plainAttrs_list PySem.F.slot_list_pop PySem.F.type_list_pop mt_popAt (pe_ix ix_list (pv 0) pe_int (fun _ _ => rfl)) (pa_cons pe_int pa_nil))))
        pss_nil)
        (pss_one (ps_ret (pe_op op_mod (pv 2) (pv 1)))))))), ?_⟩
    have B0 := B
    obtain ⟨ns, z, hb, hl, z0, z1⟩ := B.ex
    -- if box[0] == []
    refine ⟨_, rfl, b, _, _, _, rfl, rfl, SqL.of hb, atI_nat (j := 0) rfl, by decide, fun e he => ?_⟩
    have eb : b ≠ e := ne_fresh hb he
    have el : l ≠ e := ne_fresh hl he
    have s1 : But [b, l] H (upd H e (.lst [])) := But.new he
    have hb1 : upd H e (.lst []) b = some (.lst [.ref l, .int z]) := by rw [upd_ne eb]; exact hb
    have hl1 : upd H e (.lst []) l = some (.lst (il ns)) := by rw [upd_ne el]; exact hl
    refine ⟨pd ns, pd [], dp_il (SqL.of hl1), dp_il (ns := []) (SqL.of upd_same), shaped_il _, shaped_il _, _, rfl, ?_⟩
    rw [eqv_il]
    refine ite2 (fun hn => ?_) (fun hn => ?_)
    · -- box[1] = box[1] * 48271 % 2147483647; return box[1] // 7 % many
      refine ⟨_, rfl, b, _, _, _, rfl, rfl, SqL.of hb1, atI_nat (j := 1) rfl, _, _, rfl, rfl, .inl ⟨by omega, by omega⟩, _, _, rfl, rfl, int0 (by decide), ?_⟩
      refine ⟨_, rfl, b, _, 1, 1, rfl, rfl, hb1, rfl, ?_⟩
      refine ⟨_, rfl, b, _, _, _, rfl, rfl, SqL.of upd_same, atI_nat (j := 1) rfl, _, _, rfl, rfl, ⟨by decide, by decide⟩, _, rfl, _, _, rfl, rfl, m0, ?_⟩
      refine k _ _ (Int.emod_nonneg _ (by omega)) (Int.emod_lt_of_pos _ m0) (s1.trans (But.put (by simp))) ⟨B.ne, ns, _, upd_same, ?_, Int.emod_nonneg _ (by decide), Int.emod_lt_of_pos _ (by decide)⟩
      rw [upd_ne (Ne.symm B.ne)]
      exact hl1
    · -- number = box[0][0]
      obtain ⟨n, r, rfl⟩ : ∃ n r, ns = n :: r := by
        cases ns with
        | nil => exact absurd (by simp) hn
        | cons n r => exact ⟨n, r, rfl⟩
      refine ⟨_, rfl, b, _, _, _, rfl, rfl, SqL.of hb1, atI_nat (j := 0) rfl, l, _, _, _, rfl, rfl, SqL.of hl1, atI_nat (j := 0) rfl, ?_⟩
      -- box[0][0] = number // many
      refine ⟨_, rfl, _, rfl, _, _, rfl, rfl, ⟨m0, by omega⟩, ?_⟩
      refine ⟨_, rfl, b, _, _, _, rfl, rfl, SqL.of hb1, atI_nat (j := 0) rfl, l, _, 0, 0, rfl, rfl, hl1, ixn rfl (by simp), ?_⟩
      have hb2 : ∀ o, upd (upd H e (.lst [])) l o b = some (.lst [.ref l, .int z]) := fun o => by rw [upd_ne B.ne]; exact hb1
      have hl2 : upd (upd H e (.lst [])) l (.lst ((il (n :: r)).set 0 (.int (n / m)))) l = some (.lst (il ((n / m) :: r))) := upd_same
      have s2 : But [b, l] H (upd (upd H e (.lst [])) l (.lst ((il (n :: r)).set 0 (.int (n / m))))) := s1.trans (But.put (by simp))
      have r0 : 0 ≤ n % m := Int.emod_nonneg _ (by omega)
      have r1 : n % m < m := Int.emod_lt_of_pos _ m0
      -- if box[0][0] == 0 or box[0][0] == -1
      refine ⟨_, rfl, b, _, _, _, rfl, rfl, SqL.of (hb2 _), atI_nat (j := 0) rfl, l, _, _, _, rfl, rfl, SqL.of hl2, atI_nat (j := 0) rfl, rfl, _, rfl, ?_⟩
      have pop : ∀ (σ : L2.St), ∀ D : Ends, σ[0]? = some (some (.ref b)) → (∀ H', But [b, l] H H' → BoxAt H' b l → D.nx σ H') → tDrop (tBM K "list" rPopAt (tOp (rIxL K) (tVar 0) (tC (.int 0))) (tCons (tC (.int 0)) tNil)) D σ (upd (upd H e (.lst [])) l (.lst ((il (n :: r)).set 0 (.int (n / m))))) := by
        intro σ D hσ hD
        refine ⟨_, hσ, b, _, _, _, rfl, rfl, SqL.of (hb2 _), atI_nat (j := 0) rfl, .inl ⟨rfl, _, SqL.of hl2⟩, l, _, 0, 0, _, rfl, rfl, hl2, by decide, by decide, seq_ix rfl (by simp), rfl, ?_⟩
        refine hD _ (s2.trans (But.put (by simp))) ⟨B.ne, r, z, ?_, upd_same, z0, z1⟩
        rw [upd_ne B.ne]
        exact hb2 _
      have out : ∀ H', But [b, l] H H' → BoxAt H' b l → tRet (tOp (rI (fun _ j => 0 < j) fun i j => V.int (i % j)) (tVar 2) (tVar 1)) { nx := fun _ H' => Q .non H', rt := Q } [some (.ref b), some (.int m), some (.int n)] H' := fun H' k1 B1 => by
        refine ⟨_, rfl, _, rfl, _, _, rfl, rfl, m0, ?_⟩
        exact k _ _ r0 r1 k1 B1
      refine ite2 (fun _ => iteT (pop _ _ rfl out)) (fun _ => ?_)
      refine ⟨_, rfl, b, _, _, _, rfl, rfl, SqL.of (hb2 _), atI_nat (j := 0) rfl, l, _, _, _, rfl, rfl, SqL.of hl2, atI_nat (j := 0) rfl, _, rfl, rfl, _, rfl, ?_⟩
      refine ite2 (fun _ => pop _ _ rfl out) (fun _ => ?_)
      exact out _ s2 ⟨B.ne, _, z, hb2 _, hl2, z0, z1⟩
/-! ### the box -/
theorem sc_law_begun : FnScope ["_law_script", "_law_stirred", "_law_cell"] ["_law_script"] (defScope (top 52)) := ⟨rfl, rfl, rfl, by decide +kernel, rfl, by decide +kernel, by decide +kernel⟩
theorem ok_law_begun (T : Prog K mg) : FnOk P w K mg base CX0 1 T.law_begun.f T.law_begun.fd ["_law_script"] (spBegun K) := by
  refine T.law_begun.fn.ok sc_law_begun (fun vs H Q E h => ?len) (fun cdv A outer s H vs Q E hr h => ?body)
  case len =>
    obtain ⟨a, ns, rfl, _⟩ := h
    rfl
  case body =>
    have hu := hu_of hr
    obtain ⟨a, ns, rfl, hS, hlen, k⟩ := h
    refine ⟨_, PSs.nox (pss_cons (ps_set (i := 1) sc_law_begun.nd rfl (Or.inl rfl) pe_int)
        (pss_cons (ps_for PassesOwn.never rfl (pi_list (pv 0)) (pg_name (i := 2) sc_law_begun.nd rfl (Or.inl rfl))
        (pss_one (ps_set (i := 1) sc_law_begun.nd rfl (Or.inl rfl) (pe_op op_mod (pe_op op_add (pe_op op_add (pe_op op_mul (pv 1) pe_int) (pe_op op_mul (pv 2) pe_int)) pe_int) pe_int))))
        (pss_one (ps_ret (pe_lst (pa_cons (pe_callTy call_list_of (by rfl) T.list_ (by decide +kernel) (pa_cons (pv 0) pa_nil)) (pa_cons (pe_op op_mul (pv 1) (pe_callTy call_int1 (by rfl) T.int_ (by decide +kernel) (pa_cons (pe_cmpR op_gt (pe_callB call_len_seq (by rfl) T.len PySem.boot_len (pa_cons (pv 0) pa_nil)) pe_int (nomark _)) pa_nil))) pa_nil))))))), ?_⟩
    refine ⟨_, rfl, a, rfl, ⟨_, hS⟩, for_list (K := K) (a := a) (xs := il ns) (fun i σ H2 => ∃ (z : Int) (v : Option V), σ = [some (.ref a), some (.int z), v] ∧ H2 = H ∧ 0 ≤ z ∧ z < 2147483647)
      ⟨0, none, rfl, rfl, by decide, by decide⟩ (fun i σ H2 _ ⟨_, _, _, e, _⟩ => by rw [e]; exact hS) ?_ ?_⟩
    · rintro i y σ H2 hi ⟨z, v, rfl, rfl, z0, z1⟩
      obtain ⟨n, _, rfl⟩ := il_get hi
      refine ⟨_, rfl, _, _, rfl, rfl, .inl ⟨by omega, by omega⟩, _, rfl, _, _, rfl, rfl, .inr ⟨by omega, by omega⟩, _, _, rfl, rfl, _, _, rfl, rfl, _, _, rfl, rfl, int0 (by decide), ?_⟩
      exact ⟨_, _, rfl, rfl, Int.emod_nonneg _ (by decide), Int.emod_lt_of_pos _ (by decide)⟩
    · rintro σ H2 ⟨z, v, rfl, rfl, z0, z1⟩
      refine ⟨_, rfl, a, _, rfl, .inl hS, fun l hl => ?_⟩
      have s1 : Same H2 (upd H2 l (.lst (il ns))) := Same.new hl
      refine ⟨_, rfl, _, rfl, a, _, rfl, .inl (s1.seq hS), _, _, rfl, rfl, .inr ⟨_, rfl, _, _, rfl, rfl, .inl ⟨by omega, by omega⟩, ?_⟩⟩
      refine ⟨szd rfl, fun b hb => ?_⟩
      have lb : l ≠ b := ne_fresh (H := upd H2 l (.lst (il ns))) upd_same hb
      have hl2 : upd (upd H2 l (.lst (il ns))) b (.lst [V.ref l, V.int (z * (if decide ((2 : Int) < ((il ns).length : Int)) = true then 1 else 0))]) l = some (.lst (il ns)) := by
        rw [upd_ne lb]
        exact upd_same
      refine k b l _ (Same.back s1 hb) hl (s1.trans (Same.new hb)) ⟨Ne.symm lb, ns, _, upd_same, hl2, ?_, ?_⟩
      · by_cases h2 : decide ((2 : Int) < ((il ns).length : Int)) = true
        · rw [if_pos h2]; omega
        · rw [if_neg h2]; omega
      · by_cases h2 : decide ((2 : Int) < ((il ns).length : Int)) = true
        · rw [if_pos h2]; omega
        · rw [if_neg h2]; omega
/-! ### a row -/
theorem sc_law_row : FnScope ["_law_box", "_law_most", "_law_pages", "_law_found", "_law_way", "_law_turn", "_law_page"] ["_law_box", "_law_most"] (defScope (top 54)) := ⟨rfl, rfl, rfl, by decide +kernel, rfl, by decide +kernel, by decide +kernel⟩
theorem ok_law_row (T : Prog K mg) : FnOk P w K mg base CX0 2 T.law_row.f T.law_row.fd ["_law_box", "_law_most"] spRow := by
  have G_law_take := ok_law_take (P := P) (w := w) (base := base) T
  refine T.law_row.fn.ok sc_law_row (fun vs H Q E h => ?len) (fun cdv A outer s H vs Q E hr h => ?body)
  case len =>
    obtain ⟨b, l, m, rfl, _⟩ := h
    rfl
  case body =>
    have hr_law_take : Room 1 _ := hr.mono (by decide)
    have hu := hu_of hr
    obtain ⟨b, l, m, rfl, B, m0, m1, k⟩ := h
    refine ⟨_, PSs.nox (pss_cons (ps_set (i := 2) sc_law_row.nd rfl (Or.inl rfl) (pe_op op_add pe_int (pe_call G_law_take hr_law_take (by rfl) T.law_take.g T.law_take.fn.kp T.law_take.bd .nil pass0 (pa_cons (pv 0) (pa_cons (pe_ix ix_list (pe_lst (pa_cons pe_int (pa_cons pe_int (pa_cons pe_int pa_nil)))) (pe_call G_law_take hr_law_take (by rfl) T.law_take.g T.law_take.fn.kp T.law_take.bd .nil pass0 (pa_cons (pv 0) (pa_cons pe_int pa_nil))) (fun _ _ => rfl)) pa_nil)))))
        (pss_cons (ps_set (i := 3) sc_law_row.nd rfl (Or.inl rfl) (pe_lst pa_nil))
        (pss_cons (ps_set (i := 4) sc_law_row.nd rfl (Or.inl rfl) (pe_call G_law_take hr_law_take (by rfl) T.law_take.g T.law_take.fn.kp T.law_take.bd .nil pass0 (pa_cons (pv 0) (pa_cons pe_int pa_nil))))
        (pss_cons (ps_for PassesOwn.never rfl (pi_range1 (by rfl) T.range (pa_cons (pe_call G_law_take hr_law_take (by rfl) T.law_take.g T.law_take.fn.kp T.law_take.bd .nil pass0 (pa_cons (pv 0) (pa_cons (pe_op op_add (pv 1) pe_int) pa_nil))) pa_nil)) (pg_name (i := 5) sc_law_row.nd rfl (Or.inl rfl))
        (pss_cons (ps_set (i := 6) sc_law_row.nd rfl (Or.inl rfl) (pe_call G_law_take hr_law_take (by rfl) T.law_take.g T.law_take.fn.kp T.law_take.bd .nil pass0 (pa_cons (pv 0) (pa_cons (pv 2) pa_nil))))
        (C8.pss_cut (ps_if (PW.pt (pw_and (pt_cmpR op_eq (pv 4) pe_int (nomark _)) (pw_and (pt_cmpR (op_neD hr.units) (pv 3) (pe_lst pa_nil) (nomark _)) (pw_and1 (pt_cmpR op_gt (pe_call G_law_take hr_law_take (by rfl) T.law_take.g T.law_take.fn.kp T.law_take.bd .nil pass0 (pa_cons (pv 0) (pa_cons pe_int pa_nil))) pe_int (nomark _))))))
        (pss_one (ps_set (i := 6) sc_law_row.nd rfl (Or.inl rfl) (pe_ix ix_list (pv 3) (pe_op op_sub (pe_op op_sub (pe_callB call_len_seq (by rfl) T.len PySem.boot_len (pa_cons (pv 3) pa_nil)) pe_int) (pe_call G_law_take hr_law_take (by rfl) T.law_take.g T.law_take.fn.kp T.law_take.bd .nil pass0 (pa_cons (pv 0) (pa_cons (pe_callB (call_min2 rfl) (by rfl) T.min (by decide +kernel) (pa_cons pe_int (pa_cons (pe_callB call_len_seq (by rfl) T.len PySem.boot_len (pa_cons (pv 3) pa_nil)) pa_nil))) pa_nil)))) (fun _ _ => rfl))))
        pss_nil)
        (C8.pss_cut (ps_if (PW.pt (pw_and (pt_cmpR op_eq (pv 4) pe_int (nomark _)) (pw_and1 (pt_cmpR op_gt (pe_call G_law_take hr_law_take (by rfl) T.law_take.g T.law_take.fn.kp T.law_take.bd .nil pass0 (pa_cons (pv 0) (pa_cons pe_int pa_nil))) pe_int (nomark _)))))
        (pss_one (ps_set (i := 6) sc_law_row.nd rfl (Or.inl rfl) (pe_op op_mod (pv 5) (pv 2))))
        pss_nil)
        (C8.pss_cut (ps_if (PW.pt (pw_and (pt_cmpR op_eq (pv 4) pe_int (nomark _)) (pw_and (pt_cmpR (op_neD hr.units) (pv 3) (pe_lst pa_nil) (nomark _)) (pw_and1 (pt_cmpR op_gt (pe_call G_law_take hr_law_take (by rfl) T.law_take.g T.law_take.fn.kp T.law_take.bd .nil pass0 (pa_cons (pv 0) (pa_cons pe_int pa_nil))) pe_int (nomark _))))))
        (pss_one (ps_set (i := 6) sc_law_row.nd rfl (Or.inl rfl) (pe_op op_mod (pe_op op_add (pe_op op_add (pe_ix ix_list (pv 3) (pe_un un_neg pe_int) (fun _ _ => rfl)) pe_int) (pe_call G_law_take hr_law_take (by rfl) T.law_take.g T.law_take.fn.kp T.law_take.bd .nil pass0 (pa_cons (pv 0) (pa_cons pe_int pa_nil)))) (pv 2))))
        pss_nil)
        (pss_one (ps_expr (pe_bm PySem.F.plainAttrs_list PySem.F.slot_list_append PySem.F.type_list_append mt_append (pv 3) (pa_cons (pv 6) pa_nil)))))))))
        (pss_one (ps_ret (pv 3))))))), ?_⟩
    -- pages = 1 + take(box, [4, 6, 12][take(box, 3)])
    refine ⟨_, rfl, ⟨szd rfl, fun e he => ?_⟩⟩
    have eb : b ≠ e := by obtain ⟨_, _, h1, _⟩ := B.ex; exact ne_fresh h1 he
    have el : l ≠ e := by obtain ⟨_, _, _, h1, _⟩ := B.ex; exact ne_fresh h1 he
    have s1 : But [b, l] H (upd H e (.lst (il [4, 6, 12]))) := But.new he
    refine ⟨_, rfl, b, l, 3, rfl, B.same (Same.new he), by decide, by decide, fun r H1 r0 r1 k1 B1 => ?_⟩
    have he1 : H1 e = some (.lst (il [4, 6, 12])) := k1 e _ upd_same (by simp [Ne.symm eb, Ne.symm el])
    obtain ⟨v, hv, hat⟩ := il_menu (xs := [4, 6, 12]) r0 r1
    have v0 : 0 < v ∧ v ≤ 12 := by simp at hv; omega
    refine ⟨e, _, _, _, rfl, rfl, SqL.of he1, hat, b, l, v, rfl, B1, v0.1, by omega, fun pg H2 p0 p1 k2 B2 => ?_⟩
    have k02 : But [b, l] H H2 := (s1.trans k1).trans k2
    refine ⟨_, _, rfl, rfl, ?_⟩
    have pgs0 : 0 < 1 + pg ∧ 1 + pg ≤ 12 := by omega
    -- found = []; way = take(box, 4)
    refine ⟨szd rfl, fun f hf => ?_⟩
    have hfH : H f = none := k02.back hf (by
      obtain ⟨_, _, h1, h2, _⟩ := B2.ex
      have := ne_fresh h1 hf
      have := ne_fresh h2 hf
      simp only [List.mem_cons, List.not_mem_nil, or_false, not_or]
      exact ⟨Ne.symm ‹b ≠ f›, Ne.symm ‹l ≠ f›⟩)
    have fb : f ≠ b := by obtain ⟨_, _, h1, _⟩ := B2.ex; exact Ne.symm (ne_fresh h1 hf)
    have fl : f ≠ l := by obtain ⟨_, _, _, h1, _⟩ := B2.ex; exact Ne.symm (ne_fresh h1 hf)
    have fS : f ∉ [b, l] := by simp [fb, fl]
    refine ⟨_, rfl, b, l, 4, rfl, B2.same (Same.new hf), by decide, by decide, fun way H3 w0 w1 k3 B3 => ?_⟩
    -- for turn in range(take(box, most + 1))
    refine ⟨_, rfl, _, rfl, _, _, rfl, rfl, b, l, _, rfl, B3, by omega, by omega, fun j H4 j0 j1 k4 B4 => ?_⟩
    have hf4 : H4 f = some (.lst (il [])) := k4 f _ (k3 f _ upd_same fS) fS
    have k04 : But [b, l] H H4 := ((k02.trans (But.new hf)).trans k3).trans k4
    refine ⟨_, rfl, by omega, by omega, for_range (lo := 0) (n := j.toNat) (fun i σ H' => ∃ (row : List Int) (v5 v6 : Option V), σ = [some (.ref b), some (.int m), some (.int (1 + pg)), some (.ref f), some (.int way), v5, v6] ∧
      H' f = some (.lst (il row)) ∧ BoxAt H' b l ∧ But [b, l] H H' ∧ row.length = i ∧ ∀ p ∈ row, 0 ≤ p ∧ p < (1 + pg)) ⟨[], _, _, rfl, hf4, B4, k04, rfl, by simp⟩ ?_ ?_⟩
    · rintro i σ H5 hi ⟨row, v5, v6, rfl, hf5, B5, k05, hlen, hrow⟩
      -- page = take(box, pages)
      refine ⟨_, rfl, _, rfl, b, l, _, rfl, B5, pgs0.1, by omega, fun pg1 H6 q0 q1 k6 B6 => ?_⟩
      -- what stands between the ifs
      let S : L2.Hp → Prop := fun H' => H' f = some (.lst (il row)) ∧ BoxAt H' b l ∧ But [b, l] H H'
      let M : L2.St → Hp → Prop := fun σ' H' => ∃ p : Int, σ' = [some (.ref b), some (.int m), some (.int (1 + pg)), some (.ref f), some (.int way), some (.int (0 + (i : Int))), some (.int p)] ∧ S H' ∧ 0 ≤ p ∧ p < 1 + pg
      have sNew : ∀ {H' : Hp} {e : Addr} {o : HO}, S H' → H' e = none → S (upd H' e o) := fun {H' e o} h he => ⟨by rw [upd_ne (ne_fresh h.1 he)]; exact h.1, h.2.1.same (Same.new he), h.2.2.trans (But.new he)⟩
      have sTake : ∀ {H' H'' : Hp}, S H' → But [b, l] H' H'' → BoxAt H'' b l → S H'' := fun h k B => ⟨k f _ h.1 fS, B, h.2.2.trans k⟩
      have sM : ∀ {H' : Hp} {p : Int}, S H' → 0 ≤ p → p < 1 + pg → M [some (.ref b), some (.int m), some (.int (1 + pg)), some (.ref f), some (.int way), some (.int (0 + (i : Int))), some (.int p)] H' := fun h p0 p1 => ⟨_, rfl, h, p0, p1⟩
      have s6 : S H6 := ⟨k6 f _ hf5 fS, B6, k05.trans k6⟩
      refine ⟨M, ?_, ?_⟩
      · -- way == 1 and found != [] and take(box, 3) > 0
        refine ⟨_, rfl, rfl, _, rfl, ?_⟩
        refine ite2 (fun _ => ?_) (fun _ => iteF (sM s6 q0 q1))
        refine ⟨_, rfl, szd rfl, fun e he => ?_⟩
        have s7 := sNew (o := .lst []) s6 he
        refine ⟨pd row, pd [], dp_il (SqL.of s7.1), dp_il (ns := []) (SqL.of upd_same), shaped_il _, shaped_il _, _, rfl, ?_⟩
        rw [eqv_il]
        by_cases hr0 : row = []
        · exact ifF (by simp [hr0]) (iteF (sM s7 q0 q1))
        refine ifT (by simp [hr0]) ?_
        have hpos : 0 < row.length := List.length_pos_iff.mpr hr0
        refine ⟨_, rfl, b, l, 3, rfl, s7.2.1, by decide, by decide, fun c H8 c0 c1 k8 B8 => ?_⟩
        have s8 := sTake s7 k8 B8
        refine ⟨_, _, rfl, rfl, _, rfl, ?_⟩
        refine ite2 (fun _ => ?_) (fun _ => sM s8 q0 q1)
        refine ⟨_, rfl, _, rfl, f, _, rfl, .inl (SqL.of s8.1), _, _, rfl, rfl, _, rfl, _, rfl, f, _, rfl, .inl (SqL.of s8.1), _, _, rfl, b, l, _, rfl, B8, ?_, ?_, fun u H9 u0 u1 k9 B9 => ?_⟩
        · rw [il_len]; split <;> omega
        · rw [il_len]; split <;> omega
        have s9 := sTake s8 k9 B9
        rw [il_len] at u1
        have hat : ∃ v, v ∈ row ∧ atI (il row) ((((il row).length : Int) - 1) - u) = some (V.int v) := by
          rw [il_len]
          refine il_menu ?_ ?_
          · split at u1 <;> omega
          · omega
        obtain ⟨v, hv, hat⟩ := hat
        refine ⟨_, _, rfl, rfl, f, _, _, _, rfl, rfl, SqL.of s9.1, hat, ?_⟩
        exact sM s9 (hrow v hv).1 (hrow v hv).2
      · rintro σ' H7 ⟨p, rfl, s7, p0, p1⟩
        refine ⟨M, ?_, ?_⟩
        · -- way == 2 and take(box, 5) > 0
          refine ⟨_, rfl, rfl, _, rfl, ?_⟩
          refine ite2 (fun _ => ?_) (fun _ => iteF (sM s7 p0 p1))
          refine ⟨_, rfl, b, l, 5, rfl, s7.2.1, by decide, by decide, fun c H8 c0 c1 k8 B8 => ?_⟩
          have s8 := sTake s7 k8 B8
          refine ⟨_, _, rfl, rfl, _, rfl, ?_⟩
          refine ite2 (fun _ => ?_) (fun _ => sM s8 p0 p1)
          refine ⟨_, rfl, _, rfl, _, _, rfl, rfl, pgs0.1, ?_⟩
          exact sM s8 (Int.emod_nonneg _ (by omega)) (Int.emod_lt_of_pos _ pgs0.1)
        · rintro σ' H7 ⟨p, rfl, s7, p0, p1⟩
          refine ⟨M, ?_, ?_⟩
          · -- way == 3 and found != [] and take(box, 3) > 0
            refine ⟨_, rfl, rfl, _, rfl, ?_⟩
            refine ite2 (fun _ => ?_) (fun _ => iteF (sM s7 p0 p1))
            refine ⟨_, rfl, szd rfl, fun e he => ?_⟩
            have s8 := sNew (o := .lst []) s7 he
            refine ⟨pd row, pd [], dp_il (SqL.of s8.1), dp_il (ns := []) (SqL.of upd_same), shaped_il _, shaped_il _, _, rfl, ?_⟩
            rw [eqv_il]
            by_cases hr0 : row = []
            · exact ifF (by simp [hr0]) (iteF (sM s8 p0 p1))
            refine ifT (by simp [hr0]) ?_
            refine ⟨_, rfl, b, l, 3, rfl, s8.2.1, by decide, by decide, fun c H9 c0 c1 k9 B9 => ?_⟩
            have s9 := sTake s8 k9 B9
            refine ⟨_, _, rfl, rfl, _, rfl, ?_⟩
            refine ite2 (fun _ => ?_) (fun _ => sM s9 p0 p1)
            obtain ⟨v, hv, hat⟩ := il_last hr0
            refine ⟨_, rfl, _, rfl, f, _, _, _, rfl, rfl, SqL.of s9.1, hat, _, _, rfl, rfl, _, rfl, b, l, 2, rfl, B9, by decide, by decide, fun u H10 u0 u1 k10 B10 => ?_⟩
            have s10 := sTake s9 k10 B10
            refine ⟨_, _, rfl, rfl, _, rfl, _, _, rfl, rfl, pgs0.1, ?_⟩
            exact sM s10 (Int.emod_nonneg _ (by omega)) (Int.emod_lt_of_pos _ pgs0.1)
          · -- found.append(page)
            rintro σ' H8 ⟨p, rfl, s8, p0, p1⟩
            refine ⟨_, rfl, .inl ⟨rfl, _, SqL.of s8.1⟩, _, rfl, f, _, _, rfl, rfl, s8.1, szl (by rw [il_len]; omega), ?_⟩
            refine ⟨row ++ [p], _, _, rfl, ?_, s8.2.1.but (S := [f]) (But.put (by simp)) (by simp [Ne.symm fb]) (by simp [Ne.symm fl]), ?_, by simp [hlen], ?_⟩
            · rw [upd_same, il_snoc]
            · intro c o hc hn
              rw [upd_ne (ne_fresh hc hfH)]
              exact s8.2.2 c o hc hn
            · intro x hx
              rcases List.mem_append.mp hx with hx | hx
              · exact hrow x hx
              · rw [List.mem_singleton.mp hx]
                exact ⟨p0, p1⟩
    · rintro σ H' ⟨row, v5, v6, rfl, hf', B', k', hlen, hrow⟩
      exact ⟨_, rfl, k row f H' hfH (fun p hp => by have := hrow p hp; omega) (by omega) k' hf' B'⟩
end
end CK

namespace CK
open PySem PySem.Spec PyProof.Rows L2
/-! ### two things that read as the same data are alike -/
mutual
/-- no list of it is longer than a thousand -/
def smallD : PyData → Prop
  | .list ds => ds.length ≤ 1000 ∧ smallAll ds
  | .tuple ds => ds.length ≤ 1000 ∧ smallAll ds
  | _ => True
def smallAll : List PyData → Prop
  | [] => True
  | d :: ds => smallD d ∧ smallAll ds
end
theorem small_at : ∀ {ds : List PyData} {i : Nat} {d : PyData}, smallAll ds → ds[i]? = some d → smallD d
  | [], _, _, _, h => by simp at h
  | a :: r, 0, d, s, h => by
    have e : a = d := Option.some.inj h
    rw [← e]
    exact s.1
  | a :: r, i + 1, d, s, h => small_at (ds := r) (i := i) s.2 h
def spAlike (K : PySem.W.Frag) (n : Nat) : Sp := fun vs H Q _ => ∃ (x y : V) (d : PyData), vs = [x, y] ∧ Dp K H x d ∧ Dp K H y d ∧ d.depth < n ∧ smallD d ∧ Q (.bl true) H
theorem dpAll_len {K : PySem.W.Frag} {H : Hp} : ∀ {xs : List V} {ds : List PyData}, DpAll K H xs ds → xs.length = ds.length
  | _, _, .nil => rfl
  | _, _, .cons _ t => congrArg Nat.succ (dpAll_len t)
theorem dpAll_at {K : PySem.W.Frag} {H : Hp} : ∀ {xs : List V} {ds : List PyData} {i : Nat}, DpAll K H xs ds → i < ds.length → ∃ x d, xs[i]? = some x ∧ ds[i]? = some d ∧ Dp K H x d
  | _, _, _, .nil, h => absurd h (Nat.not_lt_zero _)
  | x :: _, d :: _, 0, .cons a _, _ => ⟨x, d, rfl, rfl, a⟩
  | _ :: xs, _ :: ds, i + 1, .cons _ t, h => by
    obtain ⟨x, d, e1, e2, e3⟩ := dpAll_at (i := i) t (Nat.lt_of_succ_lt_succ h)
    exact ⟨x, d, e1, e2, e3⟩
theorem dep_at : ∀ {ds : List PyData} {i : Nat} {d : PyData}, ds[i]? = some d → d.depth ≤ PyData.depthAll ds
  | [], _, _, h => by simp at h
  | a :: r, 0, d, h => by
    have e : a = d := Option.some.inj h
    rw [← e]
    exact Nat.le_max_left _ _
  | a :: r, i + 1, d, h => Nat.le_trans (dep_at (ds := r) (i := i) h) (Nat.le_max_right _ _)
theorem ty_list {K : PySem.W.Frag} {H : Hp} {a : Addr} {xs : List V} (h : SqL K H a xs) : TyX K H (.ref a) (.type "list") := by
  rcases h with (h | ⟨o, h⟩) | ⟨o, its, n, hk, hc, _⟩
  · exact .base (.lst h)
  · exact .base (.frz h)
  · exact .kList hk hc
theorem ty_tup {K : PySem.W.Frag} {H : Hp} {a : Addr} {xs : List V} (h : SqT K H a xs) : TyX K H (.ref a) (.type "tuple") := by
  rcases h with (h | ⟨o, h⟩) | ⟨o, its, n, hk, hc, _⟩
  · exact .base (.tup h)
  · exact .fTuple h
  · exact .kTuple hk hc
section
variable {P : Program} {w : World} {K : PySem.W.Frag} {mg : Str → Option Value} {base : Heap}
-- _law_alike is not in this text
end
end CK

/-! The dial as plain data, and what an ask does to it. -/
namespace CK
structure DS where
  held : List (Option Int)
  marks : List Bool
  hand : Nat
  lacks : Nat
structure DS.WF (s : DS) (n : Nat) : Prop where
  h : s.held.length = n
  m : s.marks.length = n
  n : s.hand < n
def DS.new (n : Nat) : DS := ⟨List.replicate n none, List.replicate n false, 0, 0⟩
/-- the hand past the marked rooms: so many rounds at most -/
def passF : Nat → List Bool → Nat → List Bool × Nat × List Nat
  | 0, m, h => (m, h, [])
  | k + 1, m, h => if m[h]? = some true then
      let r := passF k (m.set h false) ((h + 1) % m.length)
      (r.1, r.2.1, h :: r.2.2)
    else (m, h, [])
def DS.pass (s : DS) : List Bool × Nat × List Nat := passF (s.marks.count true) s.marks s.hand
def DS.lack (s : DS) (p : Int) : DS :=
  ⟨s.held.set s.pass.2.1 (some p), s.pass.1.set s.pass.2.1 true, (s.pass.2.1 + 1) % s.held.length, s.lacks + 1⟩
def DS.hit (s : DS) (p : Int) : DS := { s with marks := s.marks.set (s.held.idxOf (some p)) true }
def DS.ask (s : DS) (p : Int) : DS := if some p ∈ s.held then s.hit p else s.lack p
/-- what an ask tells -/
def DS.tells (s : DS) (p : Int) : Bool × Option Int × List Nat :=
  if some p ∈ s.held then (false, none, []) else (true, (s.held[s.pass.2.1]?).getD none, s.pass.2.2)
def afterL (s : DS) (row : List Int) : DS := row.foldl DS.ask s
def tellsL : DS → List Int → List (Bool × Option Int × List Nat)
  | _, [] => []
  | s, p :: r => s.tells p :: tellsL (s.ask p) r
theorem afterL_snoc (s : DS) (xs : List Int) (p : Int) : afterL s (xs ++ [p]) = (afterL s xs).ask p := by
  unfold afterL
  rw [List.foldl_append]
  rfl
theorem tellsL_snoc : ∀ (s : DS) (xs : List Int) (p : Int), tellsL s (xs ++ [p]) = tellsL s xs ++ [(afterL s xs).tells p]
  | _, [], _ => rfl
  | s, x :: r, p => congrArg (s.tells x :: ·) (tellsL_snoc (s.ask x) r p)
theorem tellsL_len : ∀ (s : DS) (xs : List Int), (tellsL s xs).length = xs.length
  | _, [] => rfl
  | s, x :: r => congrArg Nat.succ (tellsL_len (s.ask x) r)
/-- the places of what is true -/
def placesT : Nat → List Bool → List Nat
  | _, [] => []
  | i, b :: r => if b = true then i :: placesT (i + 1) r else placesT (i + 1) r
theorem placesT_snoc : ∀ (i : Nat) (xs : List Bool) (b : Bool), placesT i (xs ++ [b]) = placesT i xs ++ (if b = true then [i + xs.length] else [])
  | i, [], b => by
    show (if b = true then i :: [] else []) = [] ++ _
    rfl
  | i, x :: r, b => by
    show (if x = true then i :: placesT (i + 1) (r ++ [b]) else placesT (i + 1) (r ++ [b])) = (if x = true then i :: placesT (i + 1) r else placesT (i + 1) r) ++ _
    rw [placesT_snoc (i + 1) r b]
    have e : i + 1 + r.length = i + (x :: r).length := by simp; omega
    rw [e]
    by_cases h : x = true
    · rw [if_pos h, if_pos h]; rfl
    · rw [if_neg h, if_neg h]
theorem placesT_le : ∀ (i : Nat) (xs : List Bool), (placesT i xs).length ≤ xs.length
  | _, [] => Nat.le_refl _
  | i, x :: r => by
    have q := placesT_le (i + 1) r
    unfold placesT
    split
    · simpa using q
    · simp; omega
/-- the line of the other rules -/
def lineStep (n : Nat) (re : Bool) (l : List Int) (p : Int) : List Int :=
  if p ∈ l then (if re = true then l.eraseIdx (l.idxOf p) ++ [p] else l) else (if l.length = n then l.eraseIdx 0 else l) ++ [p]
def lineAt (n : Nat) (re : Bool) (row : List Int) : List Int := row.foldl (lineStep n re) []
def lineL (n : Nat) (re : Bool) : List Int → List Int → List Bool
  | _, [] => []
  | l, p :: r => (!decide (p ∈ l)) :: lineL n re (lineStep n re l p) r
theorem lineAt_snoc (n : Nat) (re : Bool) (xs : List Int) (p : Int) : lineAt n re (xs ++ [p]) = lineStep n re (lineAt n re xs) p := by
  unfold lineAt
  rw [List.foldl_append]
  rfl
theorem lineL_snoc : ∀ (n : Nat) (re : Bool) (l xs : List Int) (p : Int), lineL n re l (xs ++ [p]) = lineL n re l xs ++ [!decide (p ∈ xs.foldl (lineStep n re) l)]
  | _, _, _, [], _ => rfl
  | n, re, l, x :: r, p => congrArg (_ :: ·) (lineL_snoc n re (lineStep n re l x) r p)
theorem lineL_len : ∀ (n : Nat) (re : Bool) (l xs : List Int), (lineL n re l xs).length = xs.length
  | _, _, _, [] => rfl
  | n, re, l, x :: r => congrArg Nat.succ (lineL_len n re (lineStep n re l x) r)
structure LineOk (n : Nat) (l : List Int) : Prop where
  nd : l.Nodup
  le : l.length ≤ n
theorem erase_line {l : List Int} (nd : l.Nodup) (p : Int) : l.eraseIdx (l.idxOf p) = l.filter (· != p) := by
  rw [← List.erase_eq_eraseIdx_of_idxOf (a := p) (l := l) (i := l.idxOf p) rfl]
  exact nd.erase_eq_filter p
theorem line_ok {n : Nat} {re : Bool} {l : List Int} {p : Int} (h : LineOk n l) (hn : 0 < n) : LineOk n (lineStep n re l p) := by
  unfold lineStep
  split
  · rename_i hp
    split
    · have hlt := List.idxOf_lt_length_of_mem hp
      have e := erase_line h.nd p
      refine ⟨?_, ?_⟩
      · rw [e]
        rw [List.nodup_append]
        refine ⟨h.nd.filter _, by simp, fun a ha b hb => ?_⟩
        have hb' : b = p := by simpa using hb
        have ha' : a ≠ p := by
          have := (List.mem_filter.mp ha).2
          simpa using this
        rw [hb']
        exact ha'
      · rw [List.length_append, List.length_eraseIdx_of_lt hlt]
        have := h.le
        simp
        omega
    · exact h
  · rename_i hp
    split
    · rename_i hl
      refine ⟨?_, ?_⟩
      · rw [List.nodup_append]
        refine ⟨h.nd.sublist (List.eraseIdx_sublist _ _), by simp, fun a ha b hb => ?_⟩
        have hb' : b = p := by simpa using hb
        intro z
        rw [z, hb'] at ha
        exact hp ((List.eraseIdx_sublist l 0).subset ha)
      · rw [List.length_append, List.length_eraseIdx_of_lt (by omega)]
        have := h.le
        simp
        omega
    · refine ⟨?_, ?_⟩
      · rw [List.nodup_append]
        refine ⟨h.nd, by simp, fun a ha b hb => ?_⟩
        have hb' : b = p := by simpa using hb
        intro z
        rw [z, hb'] at ha
        exact hp ha
      · rw [List.length_append]
        have := h.le
        simp
        omega
theorem lineAt_ok {n : Nat} {re : Bool} (hn : 0 < n) (row : List Int) : LineOk n (lineAt n re row) := by
  have q : ∀ (row l : List Int), LineOk n l → LineOk n (row.foldl (lineStep n re) l) := by
    intro row
    induction row with
    | nil => exact fun l h => h
    | cons p r ih => exact fun l h => ih _ (line_ok h hn)
  exact q row [] ⟨by simp, by simp⟩
/-- the lacks by a rule: which asks, their places -/
inductive Rl where
  | hand | unseen | first
def Rl.s : Rl → PySem.Str
  | .hand => "hand"
  | .unseen => "unseen"
  | .first => "first"
def lackB (n : Nat) : Rl → List Int → List Bool
  | .hand, row => (tellsL (DS.new n) row).map (·.1)
  | .unseen, row => lineL n true [] row
  | .first, row => lineL n false [] row
def lacksR (n : Nat) (rule : Rl) (row : List Int) : List Nat := placesT 0 (lackB n rule row)
/-- what the law's own going keeps by a rule -/
def keptR (n : Nat) : Rl → List Int → List Int
  | .hand, _ => []
  | .unseen, row => lineAt n true row
  | .first, row => lineAt n false row
def dialR (n : Nat) : Rl → List Int → DS
  | .hand, row => afterL (DS.new n) row
  | _, _ => DS.new n
def lackR (n : Nat) (rule : Rl) (row : List Int) (p : Int) : Bool := match rule with
  | .hand => ((afterL (DS.new n) row).tells p).1
  | _ => !decide (p ∈ keptR n rule row)
theorem lackB_snoc (n : Nat) (rule : Rl) (row : List Int) (p : Int) : lackB n rule (row ++ [p]) = lackB n rule row ++ [lackR n rule row p] := by
  cases rule
  · show (tellsL (DS.new n) (row ++ [p])).map (·.1) = _
    rw [tellsL_snoc, List.map_append]
    rfl
  · exact lineL_snoc n true [] row p
  · exact lineL_snoc n false [] row p
theorem lackB_len (n : Nat) (rule : Rl) (row : List Int) : (lackB n rule row).length = row.length := by
  cases rule
  · show ((tellsL (DS.new n) row).map (·.1)).length = _
    rw [List.length_map, tellsL_len]
  · exact lineL_len _ _ _ _
  · exact lineL_len _ _ _ _
theorem lacksR_le (n : Nat) (rule : Rl) (row : List Int) : (lacksR n rule row).length ≤ row.length := by
  have q := placesT_le 0 (lackB n rule row)
  rw [lackB_len] at q
  exact q
theorem count_set {m : List Bool} {h : Nat} (e : m[h]? = some true) : (m.set h false).count true + 1 = m.count true := by
  induction m generalizing h with
  | nil => simp at e
  | cons a r ih =>
    cases h with
    | zero =>
      have ea : a = true := Option.some.inj e
      subst ea
      simp
    | succ h =>
      have e' : r[h]? = some true := e
      have q := ih e'
      simp only [List.set_cons_succ, List.count_cons]
      omega
theorem count_pos {m : List Bool} {h : Nat} (e : m[h]? = some true) : 0 < m.count true := by
  have := count_set e
  omega
theorem passF_len : ∀ (k : Nat) (m : List Bool) (h : Nat), (passF k m h).1.length = m.length
  | 0, _, _ => rfl
  | k + 1, m, h => by
    unfold passF
    split
    · have q := passF_len k (m.set h false) ((h + 1) % m.length)
      rw [List.length_set] at q
      exact q
    · rfl
theorem passF_lt : ∀ (k : Nat) (m : List Bool) (h : Nat), h < m.length → (passF k m h).2.1 < m.length
  | 0, _, _, l => l
  | k + 1, m, h, l => by
    unfold passF
    split
    · have q := passF_lt k (m.set h false) ((h + 1) % m.length) (by rw [List.length_set]; exact Nat.mod_lt _ (by omega))
      rw [List.length_set] at q
      exact q
    · exact l
/-- the loop's own word: from (m, h), with l passed so far, the end is e -/
structure PassInv (e : List Bool × Nat × List Nat) (m : List Bool) (h : Nat) (l : List Nat) : Prop where
  a : (passF (m.count true) m h).1 = e.1
  b : (passF (m.count true) m h).2.1 = e.2.1
  c : l ++ (passF (m.count true) m h).2.2 = e.2.2
theorem PassInv.start (m : List Bool) (h : Nat) : PassInv (passF (m.count true) m h) m h [] := ⟨rfl, rfl, rfl⟩
theorem passF_step {m : List Bool} {h : Nat} (e : m[h]? = some true) : passF (m.count true) m h =
    ((passF ((m.set h false).count true) (m.set h false) ((h + 1) % m.length)).1, (passF ((m.set h false).count true) (m.set h false) ((h + 1) % m.length)).2.1, h :: (passF ((m.set h false).count true) (m.set h false) ((h + 1) % m.length)).2.2) := by
  rw [← count_set e]
  show (if m[h]? = some true then _ else _) = _
  rw [if_pos e]
theorem passF_stop {m : List Bool} {h k : Nat} (e : m[h]? = some false) : passF k m h = (m, h, []) := by
  cases k with
  | zero => rfl
  | succ k =>
    show (if m[h]? = some true then _ else _) = _
    rw [if_neg (by rw [e]; simp)]
theorem PassInv.go {e : List Bool × Nat × List Nat} {m : List Bool} {h : Nat} {l : List Nat} (I : PassInv e m h l) (t : m[h]? = some true) : PassInv e (m.set h false) ((h + 1) % m.length) (l ++ [h]) := by
  obtain ⟨a, b, c⟩ := I
  rw [passF_step t] at a b c
  refine ⟨a, b, ?_⟩
  rw [← c, List.append_assoc]
  rfl
theorem PassInv.end {e : List Bool × Nat × List Nat} {m : List Bool} {h : Nat} {l : List Nat} (I : PassInv e m h l) (t : m[h]? = some false) : e = (m, h, l) := by
  obtain ⟨a, b, c⟩ := I
  rw [passF_stop t] at a b c
  obtain ⟨x, y, z⟩ := e
  simp only [List.append_nil] at a b c
  rw [a, b, c]
theorem DS.WF.pos {s : DS} {n : Nat} (w : s.WF n) : 0 < n := Nat.lt_of_le_of_lt (Nat.zero_le _) w.n
theorem DS.WF.passlt {s : DS} {n : Nat} (w : s.WF n) : s.pass.2.1 < n := by
  have q := passF_lt (s.marks.count true) s.marks s.hand (by rw [w.m]; exact w.n)
  rw [w.m] at q
  exact q
theorem DS.WF.passm {s : DS} {n : Nat} (w : s.WF n) : s.pass.1.length = n := by
  have q := passF_len (s.marks.count true) s.marks s.hand
  rw [w.m] at q
  exact q
theorem DS.new_wf {n : Nat} (h : 0 < n) : (DS.new n).WF n := ⟨List.length_replicate, List.length_replicate, h⟩
theorem DS.lack_wf {s : DS} {n : Nat} {p : Int} (w : s.WF n) : (s.lack p).WF n := by
  refine ⟨?_, ?_, ?_⟩
  · show (s.held.set _ _).length = n
    rw [List.length_set]; exact w.h
  · show (s.pass.1.set _ _).length = n
    rw [List.length_set]; exact w.passm
  · show (s.pass.2.1 + 1) % s.held.length < n
    rw [w.h]; exact Nat.mod_lt _ w.pos
theorem DS.hit_wf {s : DS} {n : Nat} {p : Int} (w : s.WF n) : (s.hit p).WF n :=
  ⟨w.h, by show (s.marks.set _ _).length = n; rw [List.length_set]; exact w.m, w.n⟩
theorem DS.ask_wf {s : DS} {n : Nat} {p : Int} (w : s.WF n) : (s.ask p).WF n := by
  unfold DS.ask
  split
  · exact hit_wf w
  · exact lack_wf w
theorem afterL_wf {s : DS} {n : Nat} (w : s.WF n) : ∀ row : List Int, (afterL s row).WF n := by
  intro row
  induction row generalizing s with
  | nil => exact w
  | cons p r ih => exact ih (DS.ask_wf w)
/-- the first place of a thing -/
theorem idx_at {α : Type} [BEq α] [LawfulBEq α] {l : List α} {x : α} (h : x ∈ l) : l[l.idxOf x]? = some x := by
  have q := List.idxOf_lt_length_of_mem h
  rw [List.getElem?_eq_getElem q]
  exact congrArg some (List.getElem_idxOf q)
theorem idx_no {α : Type} [BEq α] [LawfulBEq α] : ∀ {l : List α} {x y : α} {m : Nat}, m < l.idxOf x → l[m]? = some y → ¬ y = x
  | [], _, _, _, h, _ => by simp at h
  | a :: r, x, y, m, h, e => by
    intro q
    subst q
    by_cases ha : a = y
    · subst ha
      simp [List.idxOf_cons] at h
    · have hb : (a == y) = false := by simpa using ha
      rw [List.idxOf_cons, hb] at h
      cases m with
      | zero => exact ha (Option.some.inj e)
      | succ m => exact idx_no (l := r) (m := m) (by simpa using h) e rfl
theorem take_snoc {α : Type} {l : List α} {i : Nat} {x : α} (h : l[i]? = some x) : l.take (i + 1) = l.take i ++ [x] := by
  rw [List.take_add_one, h]
  rfl
/-! ### as values -/
open PySem L2
def pgV : Option Int → V
  | none => .non
  | some p => .int p
abbrev HL (l : List (Option Int)) : List V := l.map pgV
abbrev BL (l : List Bool) : List V := l.map V.bl
theorem flat_hl (l : List (Option Int)) : (HL l).all flatV = true := by
  rw [List.all_eq_true]
  intro x hx
  obtain ⟨n, _, rfl⟩ := List.mem_map.mp hx
  cases n <;> rfl
theorem eqV_pg (a : Option Int) (p : Int) : eqV (pgV a) (.int p) = decide (a = some p) := by
  cases a with
  | none => rfl
  | some n =>
    show (n == p) = _
    by_cases h : n = p <;> simp [h]
theorem inV_hl (p : Int) (l : List (Option Int)) : inV (V.int p) (HL l) = decide (some p ∈ l) := by
  induction l with
  | nil => rfl
  | cons a r ih =>
    show (eqV (pgV a) (V.int p) || inV (V.int p) (HL r)) = _
    rw [ih, eqV_pg]
    by_cases h : a = some p
    · simp [h]
    · have h2 : ¬ some p = a := fun z => h z.symm
      simp [h, h2]
theorem hl_set {l : List (Option Int)} {j : Nat} {p : Int} : (HL l).set j (V.int p) = HL (l.set j (some p)) := by
  show (l.map pgV).set j (pgV (some p)) = (l.set j (some p)).map pgV
  rw [List.map_set]
theorem bl_set {l : List Bool} {j : Nat} {b : Bool} : (BL l).set j (V.bl b) = BL (l.set j b) := by
  show (l.map V.bl).set j (V.bl b) = (l.set j b).map V.bl
  rw [List.map_set]
theorem bl_at {l : List Bool} {j : Nat} {b : Bool} (h : l[j]? = some b) : (BL l)[j]? = some (V.bl b) := by
  rw [List.getElem?_map, h]
  rfl
theorem hl_at {l : List (Option Int)} {j : Nat} {b : Option Int} (h : l[j]? = some b) : (HL l)[j]? = some (pgV b) := by
  rw [List.getElem?_map, h]
  rfl
abbrev NL (l : List Nat) : List V := l.map fun n : Nat => V.int (n : Int)
/-- rReps: n times one thing -/
theorem rep_one {x : V} {n : Nat} : (List.replicate n [x]).flatten = List.replicate n x := by
  induction n with
  | zero => rfl
  | succ n ih =>
    rw [List.replicate_succ, List.flatten_cons, ih, List.replicate_succ]
    rfl
theorem hl_new (n : Nat) : HL (DS.new n).held = List.replicate n .non := by
  show (List.replicate n none).map pgV = _
  rw [List.map_replicate]
  rfl
theorem bl_new (n : Nat) : BL (DS.new n).marks = List.replicate n (.bl false) := by
  show (List.replicate n false).map V.bl = _
  rw [List.map_replicate]
end CK

/-! The program's checks. -/
namespace CK
open PySem PySem.Spec PyProof.Rows L2
theorem NL_snoc {ns : List Nat} {n : Nat} : NL ns ++ [V.int (n : Int)] = NL (ns ++ [n]) := by
  show ns.map _ ++ _ = (ns ++ [n]).map _
  rw [List.map_append]
  rfl
theorem NL_il (ns : List Nat) : NL ns = il (ns.map fun n : Nat => (n : Int)) := by
  show ns.map _ = (ns.map _).map V.int
  rw [List.map_map]
  rfl
theorem NL_at {ns : List Nat} {j : Nat} {y : V} (h : (NL ns)[j]? = some y) : ∃ n, ns[j]? = some n ∧ y = V.int (n : Int) := by
  rw [List.getElem?_map] at h
  cases e : ns[j]? with
  | none => rw [e] at h; cases h
  | some n => rw [e] at h; exact ⟨n, rfl, (Option.some.inj h).symm⟩
abbrev rLenQ (K : PySem.W.Frag) : List V → Hp → VK → Prop := fun xs H Q => ∃ p ys, xs = [.ref p] ∧ (SqL K H p ys ∨ SqT K H p ys) ∧ Q (.int ys.length) H
/-! ### places in the text -/
def sub (s : Stmt) (i : Nat) : Stmt := match s with
  | .FunctionDef _ _ b _ _ _ _ _ _ _ => b.getD i (.Pass ⟨0, 0, 0, 0⟩)
  | .For _ _ b _ _ => b.getD i (.Pass ⟨0, 0, 0, 0⟩)
  | .While _ b _ _ => b.getD i (.Pass ⟨0, 0, 0, 0⟩)
  | .If _ b o _ => (b ++ o).getD i (.Pass ⟨0, 0, 0, 0⟩)
  | s => s
def valE : Stmt → Expr
  | .Return (some e) _ => e
  | .Assign _ e _ => e
  | .Expr e _ => e
  | _ => .Name "" ⟨0, 0, 0, 0⟩
def lcSc : Expr → Scope
  | .ListComp _ _ sc _ => sc
  | _ => { kind := .function, names := [], isGenerator := false, isCoroutine := false }
theorem BoxAt.off {H : Hp} {b l c : Addr} (B : BoxAt H b l) (h : H c = none) : c ∉ [b, l] := by
  obtain ⟨_, _, q1, q2, _⟩ := B.ex
  have z1 := ne_fresh q1 h
  have z2 := ne_fresh q2 h
  simp [Ne.symm z1, Ne.symm z2]
theorem BoxAt.notup {H : Hp} {b l : Addr} (B : BoxAt H b l) : ∀ d ∈ [b, l], ∀ u, H d ≠ some (.tup u) := by
  obtain ⟨_, _, q1, q2, _⟩ := B.ex
  intro d hd u z
  rcases List.mem_cons.mp hd with e | e
  · rw [e, q1] at z; cases z
  · rw [List.mem_singleton.mp e, q2] at z; cases z
def spCheckRooms : Sp := fun vs H Q _ => ∃ n : Int, vs = [.int n] ∧ 1 ≤ n ∧ n ≤ 8 ∧ Q .non H
def spIsPage : Sp := fun vs H Q _ => ∃ p : Int, vs = [.int p] ∧ Q (.bl (decide (0 ≤ p ∧ p < 12))) H
/-- a row as it may be handed in -/
def RowOk (row : List Int) : Prop := row.length ≤ 100 ∧ ∀ p ∈ row, 0 ≤ p ∧ p < 12
def spCheckRow (K : PySem.W.Frag) : Sp := fun vs H Q _ => ∃ (r : Addr) (row : List Int), vs = [.ref r] ∧ SqL K H r (il row) ∧ RowOk row ∧ ∀ H', Same H H' → Q .non H'
def spLaw (K : PySem.W.Frag) : Sp := fun vs H Q _ => ∃ (a : Addr) (ns : List Int), vs = [.ref a] ∧ SqL K H a (il ns) ∧ ns.length ≤ 63 ∧ ∀ H', Q (.bl true) H'
theorem depth_pd (a : List Int) : (pd a).depth = 1 := by
  show PyData.depthAll _ + 1 = 1
  rw [dep_il]
theorem small_ints : ∀ a : List Int, smallAll (a.map PyData.int)
  | [] => trivial
  | _ :: r => ⟨trivial, small_ints r⟩
theorem small_pd {a : List Int} (h : a.length ≤ 1000) : smallD (pd a) := ⟨by rw [List.length_map]; exact h, small_ints a⟩
section
variable {P : Program} {w : World} {K : PySem.W.Frag} {mg : Str → Option Value} {base : Heap}
theorem sc_check_rooms : FnScope ["rooms"] ["rooms"] (defScope (top 10)) := ⟨rfl, rfl, rfl, by decide +kernel, rfl, by decide +kernel, by decide +kernel⟩
theorem ok_check_rooms (T : Prog K mg) : FnOk P w K mg base CX0 1 T.check_rooms.f T.check_rooms.fd ["rooms"] spCheckRooms := by
  refine T.check_rooms.fn.ok sc_check_rooms (fun vs H Q E h => ?len) (fun cdv A outer s H vs Q E hr h => ?body)
  case len =>
    obtain ⟨n, rfl, _⟩ := h
    rfl
  case body =>
    have hu := hu_of hr
    obtain ⟨n, rfl, n1, n8, k⟩ := h
    refine ⟨_, PSs.nox (pss_one (ps_if (pt_not (pt_chain op_le op_le pe_int (pv 0) (pe_glob (v := L2.V.int 8) rfl T.g_MOST_ROOMS ⟨_, rfl⟩)))
        (pss_one ps_never)
        pss_nil)), ?_⟩
    refine ⟨_, rfl, _, _, rfl, rfl, _, rfl, ifT (decide_eq_true n1) ⟨_, _, rfl, rfl, _, rfl, ?_⟩⟩
    exact ifF (by rw [decide_eq_true n8]; rfl) k
theorem sc_is_page : FnScope ["page"] ["page"] (defScope (top 11)) := ⟨rfl, rfl, rfl, by decide +kernel, rfl, by decide +kernel, by decide +kernel⟩
theorem ok_is_page (T : Prog K mg) : FnOk P w K mg base CX0 1 T.is_page.f T.is_page.fd ["page"] spIsPage := by
  refine T.is_page.fn.ok sc_is_page (fun vs H Q E h => ?len) (fun cdv A outer s H vs Q E hr h => ?body)
  case len =>
    obtain ⟨n, rfl, _⟩ := h
    rfl
  case body =>
    have hu := hu_of hr
    obtain ⟨p, rfl, k⟩ := h
    refine ⟨_, PSs.nox (pss_one (ps_ret (pe_chain op_le op_lt pe_int (pv 0) (pe_glob (v := L2.V.int 12) rfl T.g_PAGES ⟨_, rfl⟩)))), ?_⟩
    refine ⟨_, rfl, _, _, rfl, rfl, _, rfl, ?_⟩
    by_cases h0 : 0 ≤ p
    · refine ifT (decide_eq_true h0) ⟨_, _, rfl, rfl, ?_⟩
      have e : decide (p < 12) = decide (0 ≤ p ∧ p < 12) := by simp [h0]
      rw [← e] at k
      exact k
    · refine ifF (decide_eq_false h0) ?_
      have e : false = decide (0 ≤ p ∧ p < 12) := by simp [h0]
      rw [← e] at k
      exact k
theorem sc_check_row : FnScope ["row", "place", "page"] ["row"] (defScope (top 13)) := ⟨rfl, rfl, rfl, by decide +kernel, rfl, by decide +kernel, by decide +kernel⟩
theorem ok_check_row (T : Prog K mg) : FnOk P w K mg base CX0 2 T.check_row.f T.check_row.fd ["row"] (spCheckRow K) := by
  have G_is_page := ok_is_page (P := P) (w := w) (base := base) T
  refine T.check_row.fn.ok sc_check_row (fun vs H Q E h => ?len) (fun cdv A outer s H vs Q E hr h => ?body)
  case len =>
    obtain ⟨r, row, rfl, _⟩ := h
    rfl
  case body =>
    have hr_is_page : Room 1 _ := hr.mono (by decide)
    have hu := hu_of hr
    obtain ⟨r, row, rfl, hS, hR, k⟩ := h
    refine ⟨_, PSs.nox (pss_one (ps_for PassesOwn.never rfl (pi_enum (by rfl) T.enumerate (pa_cons (pv 0) pa_nil)) (pg_tup rfl (pgs_cons (pg_name (i := 1) sc_check_row.nd rfl (Or.inl rfl)) (pgs_cons (pg_name (i := 2) sc_check_row.nd rfl (Or.inl rfl)) pgs_nil)))
        (pss_one (ps_if (PW.pt (pw_or (pt_cmpR op_eq (pv 1) (pe_glob (v := L2.V.int 100) rfl T.g_MOST_ASKS ⟨_, rfl⟩) (nomark _)) (pw_or1 (pt_not (pt_val (pe_call G_is_page hr_is_page (by rfl) T.is_page.g T.is_page.fn.kp T.is_page.bd .nil pass0 (pa_cons (pv 2) pa_nil)))))))
        (pss_one ps_never)
        pss_nil)))), ?_⟩
    refine ⟨_, rfl, r, _, rfl, hS, for_it (walk_enum (K := K) (a := r) (xs := il row)) (fun i σ H' => (∃ v1 v2, σ = [some (.ref r), v1, v2]) ∧ Same H H') ⟨⟨_, _, rfl⟩, Same.refl H⟩ (fun i σ H' _ h => h.2.seq hS) ?_ ?_⟩
    · rintro i x σ H1 H2 hi ⟨⟨v1, v2, rfl⟩, s1⟩ ⟨t, a, b, rfl, ht, rfl, ha, hb⟩
      have ea : V.int (i : Nat) = a := Option.some.inj ha
      subst ea
      obtain ⟨p, hp, rfl⟩ := il_get hb
      have hpg := hR.2 p (List.mem_of_getElem? hp)
      rw [il_len] at hi
      have hlen := hR.1
      refine ⟨t, _, rfl, SqT.of upd_same, rfl, _, _, rfl, _, _, rfl, rfl, ?_⟩
      refine ⟨_, rfl, rfl, _, rfl, ifF (decide_eq_false (by intro z; injection z with z; omega)) ?_⟩
      refine ⟨_, rfl, p, rfl, _, rfl, ifF (by rw [decide_eq_true hpg]; rfl) ?_⟩
      exact ⟨⟨_, _, rfl⟩, s1.trans (Same.new ht)⟩
    · rintro σ H' ⟨⟨v1, v2, rfl⟩, s1⟩
      exact k H' s1
end
end CK

/-! The program's dial. -/
namespace CK
open PySem PySem.Spec PyProof.Rows L2
def spCheckPage : Sp := fun vs H Q _ => ∃ p : Int, vs = [.int p] ∧ 0 ≤ p ∧ p < 12 ∧ Q .non H
section
variable {P : Program} {w : World} {K : PySem.W.Frag} {mg : Str → Option Value} {base : Heap}
theorem sc_check_page : FnScope ["page"] ["page"] (defScope (top 12)) := ⟨rfl, rfl, rfl, by decide +kernel, rfl, by decide +kernel, by decide +kernel⟩
theorem ok_check_page (T : Prog K mg) : FnOk P w K mg base CX0 2 T.check_page.f T.check_page.fd ["page"] spCheckPage := by
  have G_is_page := ok_is_page (P := P) (w := w) (base := base) T
  refine T.check_page.fn.ok sc_check_page (fun vs H Q E h => ?len) (fun cdv A outer s H vs Q E hr h => ?body)
  case len =>
    obtain ⟨n, rfl, _⟩ := h
    rfl
  case body =>
    have hr_is_page : Room 1 _ := hr.mono (by decide)
    have hu := hu_of hr
    obtain ⟨p, rfl, p0, p1, k⟩ := h
    refine ⟨_, PSs.nox (pss_one (ps_if (pt_not (pt_val (pe_call G_is_page hr_is_page (by rfl) T.is_page.g T.is_page.fn.kp T.is_page.bd .nil pass0 (pa_cons (pv 0) pa_nil))))
        (pss_one ps_never)
        pss_nil)), ?_⟩
    refine ⟨_, rfl, p, rfl, _, rfl, ?_⟩
    exact ifF (by rw [decide_eq_true ⟨p0, p1⟩]; rfl) k
/-! ### the dial -/
abbrev flD (a b : Addr) (h k : Int) : List (Str × V) := [("_held", .ref a), ("_marks", .ref b), ("_hand", .int h), ("_lacks", .int k)]
/-- a Dial of the class at C stands at p, its rooms' pages at a, their marks at b: s -/
structure DialIs (C : Addr) (H : Hp) (p a b : Addr) (s : DS) : Prop where
  ne : a ≠ b
  ob : ∃ dx, H p = some (.ins C dx (flD a b s.hand s.lacks))
  he : H a = some (.lst (HL s.held))
  ma : H b = some (.lst (BL s.marks))
theorem DialIs.pa {C : Addr} {H : Hp} {p a b : Addr} {s : DS} (D : DialIs C H p a b s) : p ≠ a := by
  obtain ⟨dx, h⟩ := D.ob
  exact ne_of h D.he (by intro z; cases z)
theorem DialIs.pb {C : Addr} {H : Hp} {p a b : Addr} {s : DS} (D : DialIs C H p a b s) : p ≠ b := by
  obtain ⟨dx, h⟩ := D.ob
  exact ne_of h D.ma (by intro z; cases z)
theorem DialIs.but {S : List Addr} {C : Addr} {H H' : Hp} {p a b : Addr} {s : DS} (D : DialIs C H p a b s) (k : But S H H') (h1 : p ∉ S) (h2 : a ∉ S) (h3 : b ∉ S) : DialIs C H' p a b s := by
  obtain ⟨dx, h⟩ := D.ob
  exact ⟨D.ne, ⟨dx, k _ _ h h1⟩, k _ _ D.he h2, k _ _ D.ma h3⟩
theorem DialIs.same {C : Addr} {H H' : Hp} {p a b : Addr} {s : DS} (D : DialIs C H p a b s) (k : Same H H') : DialIs C H' p a b s := D.but (S := []) (But.of k) (by simp) (by simp) (by simp)
/-- the hand goes on by one -/
def spGoOn (C : Addr) : Sp := fun vs H Q _ => ∃ (p a b dx : Addr) (xs : List V) (h k : Nat), vs = [.ref p] ∧ H p = some (.ins C dx (flD a b h k)) ∧ H a = some (.lst xs) ∧ 0 < xs.length ∧
  Q .non (upd H p (.ins C dx (flD a b ((h + 1) % xs.length : Nat) k)))
theorem sc_Dial_go_on : FnScope ["self"] ["self"] (defScope (inClass (top 28) 8)) := ⟨rfl, rfl, rfl, by decide +kernel, rfl, by decide +kernel, by decide +kernel⟩
theorem ok_Dial_go_on (T : Prog K mg) : FnOk P w K mg base CX0 1 T.Dial.go_on.f T.Dial.go_on.fd ["self"] (spGoOn T.Dial.C) := by
  refine T.Dial.go_on.fn.ok sc_Dial_go_on (fun vs H Q E h => ?len) (fun cdv A outer s H vs Q E hr h => ?body)
  case len =>
    obtain ⟨p, a, b, dx, xs, h, k, rfl, _⟩ := h
    rfl
  case body =>
    have hu := hu_of hr
    obtain ⟨p, a, b, dx, xs, h, k, rfl, hp, ha, hx, q⟩ := h
    refine ⟨_, PSs.nox (pss_one (ps_fld (pv 0) (pe_op op_mod (pe_op op_add (pe_fld (pv 0) rfl) pe_int) (pe_callB call_len_seq (by rfl) T.len PySem.boot_len (pa_cons (pe_fld (pv 0) rfl) pa_nil))) rfl)), ?_⟩
    refine ⟨_, rfl, p, _, dx, _, _, rfl, hp, T.Dial.cl, T.Dial.n_hand, rfl, _, _, rfl, rfl, ?_⟩
    refine ⟨_, rfl, p, _, dx, _, _, rfl, hp, T.Dial.cl, T.Dial.n_held, rfl, a, xs, rfl, .inl (SqL.of ha), _, _, rfl, rfl, int0 (by omega), ?_⟩
    refine ⟨_, rfl, p, _, dx, _, rfl, hp, T.Dial.cl, T.Dial.n_hand, by show 4 < 1000; decide, ?_⟩
    have e : (((h : Nat) : Int) + 1) % ((xs.length : Nat) : Int) = (((h + 1) % xs.length : Nat) : Int) := by
      rw [Int.natCast_emod]
      rfl
    have e2 : putF "_hand" (V.int ((((h : Nat) : Int) + 1) % ((xs.length : Nat) : Int))) (flD a b h k) = flD a b ((h + 1) % xs.length : Nat) k := by
      rw [e]
      rfl
    exact e2 ▸ q
/-- a new dial of n rooms -/
def spDInit (C : Addr) : Sp := fun vs H Q _ => ∃ (p dx : Addr) (n : Int), vs = [.ref p, .int n] ∧ H p = some (.ins C dx []) ∧ 1 ≤ n ∧ n ≤ 8 ∧
  ∀ (a b : Addr) (H' : Hp), H a = none → H b = none → DialIs C H' p a b (DS.new n.toNat) → But [p] H H' → Q .non H'
theorem sc_Dial_init : FnScope ["self", "rooms"] ["self", "rooms"] (defScope (inClass (top 28) 0)) := ⟨rfl, rfl, rfl, by decide +kernel, rfl, by decide +kernel, by decide +kernel⟩
theorem ok_Dial_init (T : Prog K mg) : FnOk P w K mg base CX0 2 T.Dial.init.f T.Dial.init.fd ["self", "rooms"] (spDInit T.Dial.C) := by
  have G_check_rooms := ok_check_rooms (P := P) (w := w) (base := base) T
  refine T.Dial.init.fn.ok sc_Dial_init (fun vs H Q E h => ?len) (fun cdv A outer s H vs Q E hr h => ?body)
  case len =>
    obtain ⟨p, dx, n, rfl, _⟩ := h
    rfl
  case body =>
    have hr_check_rooms : Room 1 _ := hr.mono (by decide)
    have hu := hu_of hr
    obtain ⟨p, dx, n, rfl, hp, n1, n8, k⟩ := h
    refine ⟨_, PSs.nox (pss_cons (ps_expr (pe_call G_check_rooms hr_check_rooms (by rfl) T.check_rooms.g T.check_rooms.fn.kp T.check_rooms.bd .nil pass0 (pa_cons (pv 1) pa_nil)))
        (pss_cons (ps_fld (pv 0) (pe_op op_rep (pe_lst (pa_cons pe_non pa_nil)) (pv 1)) rfl)
        (pss_cons (ps_fld (pv 0) (pe_op op_rep (pe_lst (pa_cons pe_bl pa_nil)) (pv 1)) rfl)
        (pss_cons (ps_fld (pv 0) pe_int rfl)
        (pss_one (ps_fld (pv 0) pe_int rfl)))))), ?_⟩
    refine ⟨_, rfl, n, rfl, n1, n8, ?_⟩
    -- self._held = [None] * rooms
    refine ⟨szd rfl, fun e he => ?_⟩
    have pe : p ≠ e := ne_fresh hp he
    refine ⟨_, rfl, e, n, _, rfl, rfl, upd_same, by omega, by omega, sz (by show 1 * n.toNat ≤ 100000; omega), fun a ha => ?_⟩
    have s1 : Same H (upd H e (.lst [.non])) := Same.new he
    have haH := Same.back s1 ha
    have hp1 : upd H e (.lst [.non]) p = some (.ins T.Dial.C dx []) := s1 _ _ hp
    have pa : p ≠ a := ne_fresh hp1 ha
    have ea : e ≠ a := ne_fresh (H := upd H e (.lst [.non])) upd_same ha
    refine ⟨_, rfl, p, _, dx, _, rfl, by rw [upd_ne pa]; exact hp1, T.Dial.cl, T.Dial.n_held, by show 0 < 1000; decide, ?_⟩
    -- self._marks = [False] * rooms
    refine ⟨szd rfl, fun e2 he2 => ?_⟩
    have pe2 : p ≠ e2 := ne_fresh upd_same he2
    have ae2 : a ≠ e2 := ne_fresh (by rw [upd_ne (Ne.symm pa)]; exact upd_same) he2
    refine ⟨_, rfl, e2, n, _, rfl, rfl, upd_same, by omega, by omega, sz (by show 1 * n.toNat ≤ 100000; omega), fun b hb => ?_⟩
    have pb : p ≠ b := ne_fresh (by rw [upd_ne pe2]; exact upd_same) hb
    have ab : a ≠ b := ne_fresh (by rw [upd_ne ae2, upd_ne (Ne.symm pa)]; exact upd_same) hb
    refine ⟨_, rfl, p, _, dx, _, rfl, by rw [upd_ne pb, upd_ne pe2]; exact upd_same, T.Dial.cl, T.Dial.n_marks, by show 1 < 1000; decide, ?_⟩
    -- self._hand = 0; self._lacks = 0
    refine ⟨_, rfl, p, _, dx, _, rfl, upd_same, T.Dial.cl, T.Dial.n_hand, by show 2 < 1000; decide, ?_⟩
    refine ⟨_, rfl, p, _, dx, _, rfl, upd_same, T.Dial.cl, T.Dial.n_lacks, by show 3 < 1000; decide, ?_⟩
    rw [upd_upd, upd_upd]
    have bH : H b = none := by
      have q := hb
      by_cases z1 : b = e2
      · rw [z1] at q; rw [upd_same] at q; cases q
      rw [upd_ne z1, upd_ne (Ne.symm pb), upd_ne (Ne.symm ab)] at q
      exact Same.back s1 q
    refine k a b _ haH bH ⟨ab, ⟨dx, ?_⟩, ?_, ?_⟩ ?_
    · rw [upd_same]; rfl
    · rw [upd_ne (Ne.symm pa), upd_ne ab, upd_ne ae2, upd_ne (Ne.symm pa), upd_same, rep_one, hl_new]
    · rw [upd_ne (Ne.symm pb), upd_same, rep_one, bl_new]
    · intro c o hc hn
      have c1 : c ≠ p := by simpa using hn
      have c2 : c ≠ e := ne_fresh hc he
      have c3 : c ≠ a := ne_fresh hc haH
      have c4 : c ≠ b := ne_fresh hc bH
      have c5 : c ≠ e2 := by
        intro z
        rw [z] at hc c1 c3
        rw [upd_ne c1, upd_ne c3] at he2
        have := s1 _ _ hc
        rw [he2] at this
        cases this
      rw [upd_ne c1, upd_ne c4, upd_ne c5, upd_ne c1, upd_ne c3, upd_ne c2]
      exact hc
/-- the hand past the marked rooms -/
def spPass (C : Addr) : Sp := fun vs H Q _ => ∃ (p a b : Addr) (s : DS) (n : Nat), vs = [.ref p] ∧ DialIs C H p a b s ∧ s.WF n ∧ n ≤ 8 ∧
  ∀ (l : Addr) (H' : Hp), H l = none → H' l = some (.lst (NL s.pass.2.2)) → DialIs C H' p a b { s with marks := s.pass.1, hand := s.pass.2.1 } → But [p, b] H H' → Q (.ref l) H'
theorem sc_Dial_pass_marked : FnScope ["self", "passed"] ["self"] (defScope (inClass (top 28) 6)) := ⟨rfl, rfl, rfl, by decide +kernel, rfl, by decide +kernel, by decide +kernel⟩
theorem ok_Dial_pass_marked (T : Prog K mg) : FnOk P w K mg base CX0 2 T.Dial.pass_marked.f T.Dial.pass_marked.fd ["self"] (spPass T.Dial.C) := by
  have G_go_on := ok_Dial_go_on (P := P) (w := w) (base := base) T
  refine T.Dial.pass_marked.fn.ok sc_Dial_pass_marked (fun vs H Q E h => ?len) (fun cdv A outer s H vs Q E hr h => ?body)
  case len =>
    obtain ⟨p, a, b, s, n, rfl, _⟩ := h
    rfl
  case body =>
    have hr_go_on : Room 1 _ := hr.mono (by decide)
    have hu := hu_of hr
    obtain ⟨p, a, b, s, n, rfl, D, W, n8, k⟩ := h
    refine ⟨_, PSs.nox (pss_cons (ps_set (i := 1) sc_Dial_pass_marked.nd rfl (Or.inl rfl) (pe_lst pa_nil))
        (pss_cons (ps_while PassesOwn.never (pt_val (pe_ix ix_list (pe_fld (pv 0) rfl) (pe_fld (pv 0) rfl) (fun _ _ => rfl)))
        (pss_cons (ps_asg pe_bl (pg_sub (pe_fld (pv 0) rfl) (pe_fld (pv 0) rfl) set_list))
        (pss_cons (ps_expr (pe_bm PySem.F.plainAttrs_list PySem.F.slot_list_append PySem.F.type_list_append mt_append (pv 1) (pa_cons (pe_fld (pv 0) rfl) pa_nil)))
        (pss_one (ps_expr (pe_meth0 (pv 0) T.Dial.cl T.Dial.go_on.me G_go_on hr_go_on T.Dial.go_on.bd .nil pass0))))))
        (pss_one (ps_ret (pv 1))))), ?_⟩
    refine ⟨szd rfl, fun l hl => ?_⟩
    have s0 : Same H (upd H l (.lst [])) := Same.new hl
    let St : Nat → L2.St → Hp → Prop := fun c σ H' => ∃ (m : List Bool) (h : Nat) (acc : List Nat), σ = [some (.ref p), some (.ref l)] ∧ PassInv s.pass m h acc ∧ m.length = n ∧ h < n ∧ c = m.count true ∧ acc.length + c = s.marks.count true ∧
      DialIs T.Dial.C H' p a b { s with marks := m, hand := h } ∧ H' l = some (.lst (NL acc)) ∧ But [p, b] H H'
    refine ⟨St, ⟨_, s.marks, s.hand, [], rfl, PassInv.start _ _, W.m, W.n, rfl, by simp, D.same s0, upd_same, But.of s0⟩, ?_⟩
    rintro c σ H1 ⟨m, h, acc, rfl, I, hm, hh, rfl, hc, D1, hl1, k1⟩
    obtain ⟨dx, hp1⟩ := D1.ob
    have hcm : s.marks.count true ≤ 8 := Nat.le_trans List.count_le_length (by rw [W.m]; exact n8)
    have hat : m[h]? = some (m[h]'(by omega)) := List.getElem?_eq_getElem _
    refine ⟨_, rfl, p, _, dx, _, _, rfl, hp1, T.Dial.cl, T.Dial.n_marks, rfl, _, rfl, p, _, dx, _, _, rfl, hp1, T.Dial.cl, T.Dial.n_hand, rfl, b, _, _, _, rfl, rfl, SqL.of D1.ma, atI_nat (bl_at hat), _, rfl, ?_⟩
    have pb := D1.pb
    have pa := D1.pa
    have lp : l ≠ p := by intro z; rw [z] at hl1; rw [hp1] at hl1; cases hl1
    have lb : l ≠ b := by
      obtain ⟨dx0, hp0⟩ := D.ob
      intro z
      rw [z] at hl
      rw [D.ma] at hl
      cases hl
    have la : l ≠ a := by
      intro z
      rw [z] at hl
      rw [D.he] at hl
      cases hl
    by_cases ht : m[h]'(by omega) = true
    · rw [ht] at hat ⊢
      refine iteT ⟨fun σ' H' => ∃ c', c' < m.count true ∧ St c' σ' H', fun σ' H' q => q, ?_⟩
      -- self._marks[self._hand] = False
      refine ⟨_, rfl, p, _, dx, _, _, rfl, hp1, T.Dial.cl, T.Dial.n_marks, rfl, _, rfl, p, _, dx, _, _, rfl, hp1, T.Dial.cl, T.Dial.n_hand, rfl, b, _, _, _, rfl, rfl, D1.ma, ixn rfl (by simp; omega), ?_⟩
      rw [bl_set]
      -- passed.append(self._hand)
      have hp2 : upd H1 b (.lst (BL (m.set h false))) p = some (.ins T.Dial.C dx (flD a b h s.lacks)) := by rw [upd_ne pb]; exact hp1
      have hl2 : upd H1 b (.lst (BL (m.set h false))) l = some (.lst (NL acc)) := by rw [upd_ne lb]; exact hl1
      refine ⟨_, rfl, .inl ⟨rfl, _, SqL.of hl2⟩, _, rfl, p, _, dx, _, _, rfl, hp2, T.Dial.cl, T.Dial.n_hand, rfl, l, _, _, rfl, rfl, hl2, szl (by simp; omega), ?_⟩
      -- self._go_on()
      have hp3 : upd (upd H1 b (.lst (BL (m.set h false)))) l (.lst (NL acc ++ [V.int h])) p = some (.ins T.Dial.C dx (flD a b h s.lacks)) := by rw [upd_ne (Ne.symm lp)]; exact hp2
      have ha3 : upd (upd H1 b (.lst (BL (m.set h false)))) l (.lst (NL acc ++ [V.int h])) a = some (.lst (HL s.held)) := by rw [upd_ne (Ne.symm la), upd_ne D1.ne]; exact D1.he
      refine ⟨_, rfl, p, dx, _, rfl, hp3, rfl, p, a, b, dx, _, h, s.lacks, rfl, hp3, ha3, by simp [W.h]; omega, ?_⟩
      have cs := count_set hat
      have hn0 : 0 < n := by omega
      refine ⟨_, by omega, m.set h false, (h + 1) % m.length, acc ++ [h], rfl, I.go hat, by rw [List.length_set]; exact hm, by rw [hm]; exact Nat.mod_lt _ hn0, rfl, by rw [List.length_append]; simp; omega, ⟨D1.ne, ⟨dx, ?_⟩, ?_, ?_⟩, ?_, ?_⟩
      · rw [upd_same]
        have e : (HL s.held).length = m.length := by simp [W.h, hm]
        rw [e]
      · rw [upd_ne (Ne.symm pa)]; exact ha3
      · rw [upd_ne (Ne.symm pb), upd_ne (Ne.symm lb), upd_same]
      · rw [upd_ne lp, upd_same]
        show _ = some (HO.lst ((acc ++ [h]).map fun n : Nat => V.int (n : Int)))
        rw [List.map_append]
        rfl
      · intro c o hc hn
        have hn' : c ≠ p ∧ c ≠ b := by simpa using hn
        rw [upd_ne hn'.1, upd_ne (ne_fresh hc hl), upd_ne hn'.2]
        exact k1 c o hc hn
    · have hf : m[h]'(by omega) = false := by simpa using ht
      rw [hf] at hat ⊢
      have e := I.end hat
      refine iteF ⟨_, rfl, k l H1 hl (by rw [e]; exact hl1) ?_ k1⟩
      rw [e]
      exact D1
/-- the asked page to the room of the hand; the one that was there -/
def spExch (C : Addr) : Sp := fun vs H Q _ => ∃ (p a b : Addr) (s : DS) (n : Nat) (pg : Int), vs = [.ref p, .int pg] ∧ DialIs C H p a b s ∧ s.WF n ∧
  ∀ H' : Hp, DialIs C H' p a b ⟨s.held.set s.hand (some pg), s.marks.set s.hand true, (s.hand + 1) % s.held.length, s.lacks⟩ → But [p, a, b] H H' → Q (pgV ((s.held[s.hand]?).getD none)) H'
theorem sc_Dial_exchange : FnScope ["self", "page", "gone"] ["self", "page"] (defScope (inClass (top 28) 7)) := ⟨rfl, rfl, rfl, by decide +kernel, rfl, by decide +kernel, by decide +kernel⟩
theorem ok_Dial_exchange (T : Prog K mg) : FnOk P w K mg base CX0 2 T.Dial.exchange.f T.Dial.exchange.fd ["self", "page"] (spExch T.Dial.C) := by
  have G_go_on := ok_Dial_go_on (P := P) (w := w) (base := base) T
  refine T.Dial.exchange.fn.ok sc_Dial_exchange (fun vs H Q E h => ?len) (fun cdv A outer s H vs Q E hr h => ?body)
  case len =>
    obtain ⟨p, a, b, s, n, pg, rfl, _⟩ := h
    rfl
  case body =>
    have hr_go_on : Room 1 _ := hr.mono (by decide)
    have hu := hu_of hr
    obtain ⟨p, a, b, s, n, pg, rfl, D, W, k⟩ := h
    refine ⟨_, PSs.nox (pss_cons (ps_set (i := 2) sc_Dial_exchange.nd rfl (Or.inl rfl) (pe_ix ix_list (pe_fld (pv 0) rfl) (pe_fld (pv 0) rfl) (fun _ _ => rfl)))
        (pss_cons (ps_asg (pv 1) (pg_sub (pe_fld (pv 0) rfl) (pe_fld (pv 0) rfl) set_list))
        (pss_cons (ps_asg pe_bl (pg_sub (pe_fld (pv 0) rfl) (pe_fld (pv 0) rfl) set_list))
        (pss_cons (ps_expr (pe_meth0 (pv 0) T.Dial.cl T.Dial.go_on.me G_go_on hr_go_on T.Dial.go_on.bd .nil pass0))
        (pss_one (ps_ret (pv 2))))))), ?_⟩
    obtain ⟨dx, hp⟩ := D.ob
    have pb := D.pb
    have pa := D.pa
    have hlt : s.hand < s.held.length := by rw [W.h]; exact W.n
    have hat : s.held[s.hand]? = some (s.held[s.hand]'hlt) := List.getElem?_eq_getElem _
    rw [hat] at k
    -- gone = self._held[self._hand]
    refine ⟨_, rfl, p, _, dx, _, _, rfl, hp, T.Dial.cl, T.Dial.n_held, rfl, _, rfl, p, _, dx, _, _, rfl, hp, T.Dial.cl, T.Dial.n_hand, rfl, a, _, _, _, rfl, rfl, SqL.of D.he, atI_nat (hl_at hat), ?_⟩
    -- self._held[self._hand] = page
    refine ⟨_, rfl, _, rfl, p, _, dx, _, _, rfl, hp, T.Dial.cl, T.Dial.n_held, rfl, _, rfl, p, _, dx, _, _, rfl, hp, T.Dial.cl, T.Dial.n_hand, rfl, a, _, _, _, rfl, rfl, D.he, ixn rfl (by simp; exact hlt), ?_⟩
    rw [hl_set]
    have hp1 : upd H a (.lst (HL (s.held.set s.hand (some pg)))) p = some (.ins T.Dial.C dx (flD a b s.hand s.lacks)) := by rw [upd_ne pa]; exact hp
    have hb1 : upd H a (.lst (HL (s.held.set s.hand (some pg)))) b = some (.lst (BL s.marks)) := by rw [upd_ne (Ne.symm D.ne)]; exact D.ma
    -- self._marks[self._hand] = True
    refine ⟨_, rfl, p, _, dx, _, _, rfl, hp1, T.Dial.cl, T.Dial.n_marks, rfl, _, rfl, p, _, dx, _, _, rfl, hp1, T.Dial.cl, T.Dial.n_hand, rfl, b, _, _, _, rfl, rfl, hb1, ixn rfl (by simp [W.m]; exact W.n), ?_⟩
    rw [bl_set]
    have hp2 : ∀ o, upd (upd H a (.lst (HL (s.held.set s.hand (some pg))))) b o p = some (.ins T.Dial.C dx (flD a b s.hand s.lacks)) := fun o => by rw [upd_ne pb]; exact hp1
    have ha2 : ∀ o, upd (upd H a (.lst (HL (s.held.set s.hand (some pg))))) b o a = some (.lst (HL (s.held.set s.hand (some pg)))) := fun o => by rw [upd_ne D.ne, upd_same]
    refine ⟨_, rfl, p, dx, _, rfl, hp2 _, rfl, p, a, b, dx, _, s.hand, s.lacks, rfl, hp2 _, ha2 _, by simp [W.h]; exact W.pos, ?_⟩
    refine ⟨_, rfl, k _ ⟨D.ne, ⟨dx, ?_⟩, ?_, ?_⟩ ?_⟩
    · rw [upd_same]
      have e : (HL (s.held.set s.hand (some pg))).length = s.held.length := by simp
      rw [e]
    · rw [upd_ne (Ne.symm pa)]; exact ha2 _
    · rw [upd_ne (Ne.symm pb), upd_same]
    · exact ((But.put (by simp)).trans (But.put (by simp))).trans (But.put (by simp))
/-- an ask -/
def spAsk (C : Addr) : Sp := fun vs H Q _ => ∃ (p a b : Addr) (s : DS) (n : Nat) (pg : Int), vs = [.ref p, .int pg] ∧ DialIs C H p a b s ∧ s.WF n ∧ n ≤ 8 ∧ 0 ≤ pg ∧ pg < 12 ∧
  ∀ (t l : Addr) (H' : Hp), H t = none → H l = none → t ≠ l → H' t = some (.tup [.bl (s.tells pg).1, pgV (s.tells pg).2.1, .ref l]) → H' l = some (.lst (NL (s.tells pg).2.2)) → DialIs C H' p a b (s.ask pg) → But [p, a, b] H H' → Q (.ref t) H'
theorem sc_Dial_ask : FnScope ["self", "page", "passed", "gone"] ["self", "page"] (defScope (inClass (top 28) 1)) := ⟨rfl, rfl, rfl, by decide +kernel, rfl, by decide +kernel, by decide +kernel⟩
theorem ok_Dial_ask (T : Prog K mg) : FnOk P w K mg base CX0 3 T.Dial.ask.f T.Dial.ask.fd ["self", "page"] (spAsk T.Dial.C) := by
  have G_check_page := ok_check_page (P := P) (w := w) (base := base) T
  have G_pass_marked := ok_Dial_pass_marked (P := P) (w := w) (base := base) T
  have G_exchange := ok_Dial_exchange (P := P) (w := w) (base := base) T
  refine T.Dial.ask.fn.ok sc_Dial_ask (fun vs H Q E h => ?len) (fun cdv A outer s H vs Q E hr h => ?body)
  case len =>
    obtain ⟨p, a, b, s, n, pg, rfl, _⟩ := h
    rfl
  case body =>
    have hr_check_page : Room 2 _ := hr.mono (by decide)
    have hr_pass_marked : Room 2 _ := hr.mono (by decide)
    have hr_exchange : Room 2 _ := hr.mono (by decide)
    have hu := hu_of hr
    obtain ⟨p, a, b, s, n, pg, rfl, D, W, n8, g0, g1, k⟩ := h
    refine ⟨_, PSs.nox (pss_cons (ps_expr (pe_call G_check_page hr_check_page (by rfl) T.check_page.g T.check_page.fn.kp T.check_page.bd .nil pass0 (pa_cons (pv 1) pa_nil)))
        (pss_cons (ps_if (pt_cmpR op_in_seq (pv 1) (pe_fld (pv 0) rfl) (by rfl))
        (pss_cons (ps_asg pe_bl (pg_sub (pe_fld (pv 0) rfl) (pe_bm PySem.F.plainAttrs_list PySem.F.slot_list_index PySem.F.type_list_index mt_index (pe_fld (pv 0) rfl) (pa_cons (pv 1) pa_nil)) set_list))
        (pss_one (ps_ret (pe_tup (pa_cons pe_bl (pa_cons pe_non (pa_cons (pe_lst pa_nil) pa_nil)))))))
        pss_nil)
        (pss_cons (ps_fldaug (pv 0) pe_int in_add)
        (pss_cons (ps_set (i := 2) sc_Dial_ask.nd rfl (Or.inl rfl) (pe_meth0 (pv 0) T.Dial.cl T.Dial.pass_marked.me G_pass_marked hr_pass_marked T.Dial.pass_marked.bd .nil pass0))
        (pss_cons (ps_set (i := 3) sc_Dial_ask.nd rfl (Or.inl rfl) (pe_meth (pv 0) T.Dial.cl T.Dial.exchange.me G_exchange hr_exchange T.Dial.exchange.bd .nil pass0 (pa_cons (pv 1) pa_nil)))
        (pss_one (ps_ret (pe_tup (pa_cons pe_bl (pa_cons (pv 3) (pa_cons (pv 2) pa_nil))))))))))), ?_⟩
    obtain ⟨dx, hp⟩ := D.ob
    have pb := D.pb
    have pa := D.pa
    refine ⟨_, rfl, pg, rfl, g0, g1, ?_⟩
    -- if page in self._held
    refine ⟨_, rfl, _, rfl, p, _, dx, _, _, rfl, hp, T.Dial.cl, T.Dial.n_held, rfl, a, _, rfl, .inl (SqL.of D.he), rfl, flat_hl _, _, rfl, ?_⟩
    have e0 : (if false = true then !inV (V.int pg) (HL s.held) else inV (V.int pg) (HL s.held)) = decide (some pg ∈ s.held) := by
      rw [if_neg (by simp), inV_hl]
    by_cases hin : some pg ∈ s.held
    · refine ifT (by rw [e0]; exact decide_eq_true hin) ?_
      have eT : s.tells pg = (false, none, []) := by unfold DS.tells; rw [if_pos hin]
      have eA : s.ask pg = s.hit pg := by unfold DS.ask; rw [if_pos hin]
      rw [eT, eA] at k
      have hj : s.held.idxOf (some pg) < n := by rw [← W.h]; exact List.idxOf_lt_length_of_mem hin
      -- self._marks[self._held.index(page)] = True
      refine ⟨_, rfl, p, _, dx, _, _, rfl, hp, T.Dial.cl, T.Dial.n_marks, rfl, _, rfl, p, _, dx, _, _, rfl, hp, T.Dial.cl, T.Dial.n_held, rfl, .inl ⟨rfl, _, SqL.of D.he⟩, _, rfl, a, _, _, s.held.idxOf (some pg), _, rfl, rfl, SqL.of D.he, rfl, flat_hl _, hl_at (idx_at hin), ?_, ?_, ?_⟩
      · rw [eqV_pg]; exact decide_eq_true rfl
      · intro m z' hm hz
        rw [List.getElem?_map] at hz
        cases q : s.held[m]? with
        | none => rw [q] at hz; cases hz
        | some y =>
          rw [q] at hz
          have ez : pgV y = z' := Option.some.inj hz
          rw [← ez, eqV_pg]
          exact decide_eq_false (idx_no hm q)
      refine ⟨b, _, _, _, rfl, rfl, D.ma, ixn rfl (by simp [W.m]; exact hj), ?_⟩
      rw [bl_set]
      -- return False, None, []
      refine ⟨szd rfl, fun l hl => ⟨szd rfl, fun t ht => ?_⟩⟩
      have s1 : But [p, a, b] H (upd H b (.lst (BL (s.marks.set (s.held.idxOf (some pg)) true)))) := But.put (by simp)
      have lb : l ≠ b := by intro z; rw [z, upd_same] at hl; cases hl
      have tb : t ≠ b := by intro z; rw [z, upd_ne (Ne.symm lb), upd_same] at ht; cases ht
      have tl : t ≠ l := by intro z; rw [z, upd_same] at ht; cases ht
      have hl' : H l = none := by rw [upd_ne lb] at hl; exact hl
      have ht' : H t = none := by rw [upd_ne tl, upd_ne tb] at ht; exact ht
      have hit : DialIs T.Dial.C (upd H b (.lst (BL (s.marks.set (s.held.idxOf (some pg)) true)))) p a b (s.hit pg) :=
        ⟨D.ne, ⟨dx, by rw [upd_ne pb]; exact hp⟩, by rw [upd_ne D.ne]; exact D.he, upd_same⟩
      exact k t l _ ht' hl' tl upd_same (by rw [upd_ne (Ne.symm tl)]; exact upd_same) ((hit.same (Same.new hl)).same (Same.new ht)) ((s1.trans (But.new hl)).trans (But.new ht))
    · refine ifF (by rw [e0]; exact decide_eq_false hin) ?_
      have eT : s.tells pg = (true, (s.held[s.pass.2.1]?).getD none, s.pass.2.2) := by unfold DS.tells; rw [if_neg hin]
      have eA : s.ask pg = s.lack pg := by unfold DS.ask; rw [if_neg hin]
      rw [eT, eA] at k
      -- self._lacks += 1
      refine ⟨_, rfl, p, _, dx, _, _, rfl, hp, T.Dial.cl, T.Dial.n_lacks, rfl, _, _, rfl, rfl, dx, _, hp, by show 4 < 1000; decide, ?_⟩
      have D1 : DialIs T.Dial.C (upd H p (.ins T.Dial.C dx (putF "_lacks" (V.int ((s.lacks : Int) + 1)) (flD a b s.hand s.lacks)))) p a b { s with lacks := s.lacks + 1 } :=
        ⟨D.ne, ⟨dx, by rw [upd_same]; rfl⟩, by rw [upd_ne (Ne.symm pa)]; exact D.he, by rw [upd_ne (Ne.symm pb)]; exact D.ma⟩
      have k1 : But [p, a, b] H (upd H p (.ins T.Dial.C dx (putF "_lacks" (V.int ((s.lacks : Int) + 1)) (flD a b s.hand s.lacks)))) := But.put (by simp)
      have W1 : DS.WF { s with lacks := s.lacks + 1 } n := ⟨W.h, W.m, W.n⟩
      -- passed = self._pass_marked()
      obtain ⟨dx1, hp1⟩ := D1.ob
      refine ⟨_, rfl, p, dx1, _, rfl, hp1, rfl, p, a, b, _, n, rfl, D1, W1, n8, fun l H2 hl hl2 D2 k2 => ?_⟩
      have hlH : H l = none := k1.back hl (by
        obtain ⟨_, q⟩ := D1.ob
        have z1 := ne_fresh q hl
        have z2 := ne_fresh D1.he hl
        have z3 := ne_fresh D1.ma hl
        simp [Ne.symm z1, Ne.symm z2, Ne.symm z3])
      -- gone = self._exchange(page)
      obtain ⟨dx2, hp2⟩ := D2.ob
      have W2 : DS.WF { s with lacks := s.lacks + 1, marks := s.pass.1, hand := s.pass.2.1 } n := ⟨W.h, W.passm, W.passlt⟩
      refine ⟨_, rfl, p, dx2, _, rfl, hp2, rfl, _, rfl, p, a, b, _, n, pg, rfl, D2, W2, fun H3 D3 k3 => ?_⟩
      have lS : l ∉ [p, a, b] := by
        have z1 := ne_fresh hp hlH
        have z2 := ne_fresh D.he hlH
        have z3 := ne_fresh D.ma hlH
        simp [Ne.symm z1, Ne.symm z2, Ne.symm z3]
      have hl3 : H3 l = some (.lst (NL s.pass.2.2)) := k3 l _ hl2 lS
      have k03 : But [p, a, b] H H3 := (k1.trans (k2.mono (by simp))).trans k3
      -- return True, gone, passed
      refine ⟨_, rfl, _, rfl, szd rfl, fun t ht => ?_⟩
      have tl : t ≠ l := Ne.symm (ne_fresh hl3 ht)
      have htH : H t = none := k03.back ht (by
        obtain ⟨_, q⟩ := D3.ob
        have z1 := ne_fresh q ht
        have z2 := ne_fresh D3.he ht
        have z3 := ne_fresh D3.ma ht
        simp [Ne.symm z1, Ne.symm z2, Ne.symm z3])
      exact k t l _ htH hlH tl upd_same (by rw [upd_ne (Ne.symm tl)]; exact hl3) (D3.same (Same.new ht)) (k03.trans (But.new ht))
/-- what an ask told stands at t -/
def TellAt (H : Hp) (t : Addr) (x : Bool × Option Int × List Nat) : Prop := ∃ l : Addr, t ≠ l ∧ H t = some (.tup [.bl x.1, pgV x.2.1, .ref l]) ∧ H l = some (.lst (NL x.2.2))
/-- the tuples at as are what was told, xs: new since H, none of them at a place of S -/
structure TellsAt (S : List Addr) (H H' : Hp) (as : List Addr) (xs : List (Bool × Option Int × List Nat)) : Prop where
  len : as.length = xs.length
  at_ : ∀ (i : Nat) (a : Addr) (x : Bool × Option Int × List Nat), as[i]? = some a → xs[i]? = some x → H a = none ∧ a ∉ S ∧ ∃ l : Addr, H l = none ∧ l ∉ S ∧ a ≠ l ∧ H' a = some (.tup [.bl x.1, pgV x.2.1, .ref l]) ∧ H' l = some (.lst (NL x.2.2))
theorem TellsAt.but {S S' : List Addr} {H H' H'' : Hp} {as : List Addr} {xs : List (Bool × Option Int × List Nat)} (t : TellsAt S H H' as xs) (k : But S' H' H'') (hS : ∀ a ∈ S', a ∈ S) : TellsAt S H H'' as xs := by
  refine ⟨t.len, fun i a x ha hx => ?_⟩
  obtain ⟨h1, n1, l, h2, n2, h3, h4, h5⟩ := t.at_ i a x ha hx
  exact ⟨h1, n1, l, h2, n2, h3, k _ _ h4 fun z => n1 (hS _ z), k _ _ h5 fun z => n2 (hS _ z)⟩
theorem TellsAt.snoc {S : List Addr} {H H' : Hp} {as : List Addr} {xs : List (Bool × Option Int × List Nat)} {t l : Addr} {x : Bool × Option Int × List Nat} (T : TellsAt S H H' as xs) (h1 : H t = none) (n1 : t ∉ S) (h2 : H l = none) (n2 : l ∉ S) (h3 : t ≠ l)
    (h4 : H' t = some (.tup [.bl x.1, pgV x.2.1, .ref l])) (h5 : H' l = some (.lst (NL x.2.2))) : TellsAt S H H' (as ++ [t]) (xs ++ [x]) := by
  refine ⟨by simp [T.len], fun j c y hc hy => ?_⟩
  by_cases hj : j < as.length
  · rw [List.getElem?_append_left hj] at hc
    rw [List.getElem?_append_left (by rw [← T.len]; exact hj)] at hy
    exact T.at_ j c y hc hy
  · have ej : j = as.length := by
      have := (List.getElem?_eq_some_iff.mp hc).1
      simp at this
      omega
    subst ej
    rw [List.getElem?_append_right (Nat.le_refl _), Nat.sub_self] at hc
    rw [List.getElem?_append_right (by rw [T.len]; exact Nat.le_refl _), T.len, Nat.sub_self] at hy
    have ec : t = c := Option.some.inj hc
    have ex := Option.some.inj hy
    subst ec
    rw [← ex]
    exact ⟨h1, n1, l, h2, n2, h3, h4, h5⟩
end
end CK

/-! What a new dial tells of a row. -/
namespace CK
open PySem PySem.Spec PyProof.Rows L2
section
variable {P : Program} {w : World} {K : PySem.W.Frag} {mg : Str → Option Value} {base : Heap}
/-- all that a new dial tells of a row -/
def spTold (K : PySem.W.Frag) : Sp := fun vs H Q _ => ∃ (n : Int) (r : Addr) (row : List Int), vs = [.int n, .ref r] ∧ 1 ≤ n ∧ n ≤ 8 ∧ SqL K H r (il row) ∧ RowOk row ∧
  ∀ (d : Addr) (as : List Addr) (H' : Hp), H d = none → Same H H' → H' d = some (.lst (as.map V.ref)) → TellsAt [d] H H' as (tellsL (DS.new n.toNat) row) → Q (.ref d) H'
theorem sc_told : FnScope ["rooms", "row", "dial", "page"] ["rooms", "row"] (defScope (top 29)) := ⟨rfl, rfl, rfl, by decide +kernel, rfl, by decide +kernel, by decide +kernel⟩
theorem ok_told (T : Prog K mg) : FnOk P w K mg base CX0 4 T.told.f T.told.fd ["rooms", "row"] (spTold K) := by
  have G_check_rooms := ok_check_rooms (P := P) (w := w) (base := base) T
  have G_check_row := ok_check_row (P := P) (w := w) (base := base) T
  have G_Dial := ok_Dial_init (P := P) (w := w) (base := base) T
  have G_ask := ok_Dial_ask (P := P) (w := w) (base := base) T
  refine T.told.fn.ok sc_told (fun vs H Q E h => ?len) (fun cdv A outer s H vs Q E hr h => ?body)
  case len =>
    obtain ⟨n, r, row, rfl, _⟩ := h
    rfl
  case body =>
    have hr_check_rooms : Room 1 _ := hr.mono (by decide)
    have hr_check_row : Room 2 _ := hr.mono (by decide)
    have hr_ask : Room 3 _ := hr.mono (by decide)
    have hu := hu_of hr
    obtain ⟨n, r, row, rfl, n1, n8, hS, hR, k⟩ := h
    refine ⟨_, PSs.nox (pss_cons (ps_expr (pe_call G_check_rooms hr_check_rooms (by rfl) T.check_rooms.g T.check_rooms.fn.kp T.check_rooms.bd .nil pass0 (pa_cons (pv 0) pa_nil)))
        (pss_cons (ps_expr (pe_call G_check_row hr_check_row (by rfl) T.check_row.g T.check_row.fn.kp T.check_row.bd .nil pass0 (pa_cons (pv 1) pa_nil)))
        (pss_cons (ps_set (i := 2) sc_told.nd rfl (Or.inr rfl) (pe_make T.Dial.mkr G_Dial (hr.mono (by decide)) (by rfl) T.Dial.g T.Dial.bI .nil pass0 (pa_cons (pv 0) pa_nil)))
        (pss_one (ps_ret (pe_lc (own := [("page", 3)]) (g := gName 3) rfl sc_told.nd ((pi_list (pv 1))) (blkOk_by (own := [("page", 3)]) (N := ["rooms", "row", "dial", "page"]) (sc := defScope (top 29)) (by decide +kernel)) (fun _ _ _ _ _ => (by exact (pg_name (i := 3) sc_told.nd rfl (Or.inl rfl)))) (fun _ _ _ _ _ => (by exact pts_nil)) (fun _ _ _ _ _ => (by exact (pe_meth (pv 2) T.Dial.cl T.Dial.ask.me G_ask hr_ask T.Dial.ask.bd .nil pass0 (pa_cons (pv 3) pa_nil)))))))))), ?_⟩
    refine ⟨_, rfl, n, rfl, n1, n8, ?_⟩
    refine ⟨_, rfl, r, row, rfl, hS, hR, fun H1 s1 => ?_⟩
    -- dial = Dial(rooms)
    refine ⟨_, rfl, fun p dx np ndx nex => ?_⟩
    refine ⟨p, dx, n, rfl, upd_same, n1, n8, fun a b H2 ha hb D2 k2 => ⟨rfl, ?_⟩⟩
    have s0 : Same H1 (upd (upd H1 dx (.own p)) p (.ins T.Dial.C dx [])) := fun c o e => by
      rw [upd_ne (ne_fresh e np), upd_ne (ne_fresh e ndx)]
      exact e
    have s2 : Same H1 H2 := fun c o e => k2 c o (s0 c o e) (by simpa using ne_fresh e np)
    have s02 : Same H H2 := s1.trans s2
    have pH : H p = none := Same.back s1 np
    have aH : H a = none := Same.back (s1.trans s0) ha
    have bH : H b = none := Same.back (s1.trans s0) hb
    have W0 : (DS.new n.toNat).WF n.toNat := DS.new_wf (by omega)
    -- [dial.ask(page) for page in row]
    refine ⟨_, rfl, r, rfl, ⟨_, s02.seq hS⟩, fun d hd => ?_⟩
    have dH : H d = none := Same.back s02 hd
    have dp : d ≠ p := by obtain ⟨_, q⟩ := D2.ob; exact Ne.symm (ne_fresh q hd)
    have da : d ≠ a := Ne.symm (ne_fresh D2.he hd)
    have db : d ≠ b := Ne.symm (ne_fresh D2.ma hd)
    have dS : d ∉ [p, a, b] := by simp [dp, da, db]
    refine lc_list (K := K) (a := r) (xs := il row) (fun i H' => ∃ as : List Addr, H' d = some (.lst (as.map V.ref)) ∧ DialIs T.Dial.C H' p a b (afterL (DS.new n.toNat) (row.take i)) ∧ Same H H' ∧ TellsAt [d, p, a, b] H H' as (tellsL (DS.new n.toNat) (row.take i)) ∧ as.length = i) ?_ ?_ ?_ ?_
    · exact ⟨[], upd_same, D2.same (Same.new hd), s02.trans (Same.new hd), ⟨rfl, fun i a x h => by simp at h⟩, rfl⟩
    · rintro i H' _ ⟨as, _, _, q, _⟩
      exact q.seq hS
    · rintro i x H3 hx ⟨as, hd3, D3, s3, t3, hl3⟩
      obtain ⟨pg, hpg, rfl⟩ := il_get hx
      have hpl := hR.2 pg (List.mem_of_getElem? hpg)
      have hi : i < row.length := (List.getElem?_eq_some_iff.mp hpg).1
      have hR1 := hR.1
      obtain ⟨dx3, hp3⟩ := D3.ob
      refine ⟨rfl, _, rfl, p, dx3, _, rfl, hp3, rfl, _, rfl, p, a, b, _, n.toNat, pg, rfl, D3, afterL_wf W0 _, by omega, hpl.1, hpl.2, fun t l H4 ht hl tl ht4 hl4 D4 k4 => ?_⟩
      have hd4 : H4 d = some (.lst (as.map V.ref)) := k4 _ _ hd3 dS
      have s4 : Same H H4 := fun c o e => k4 _ _ (s3 _ _ e) (by
        have z1 := ne_fresh e pH
        have z2 := ne_fresh e aH
        have z3 := ne_fresh e bH
        simp [z1, z2, z3])
      have td : t ≠ d := Ne.symm (ne_fresh hd3 ht)
      have ld : l ≠ d := Ne.symm (ne_fresh hd3 hl)
      refine ⟨_, hd4, szl (by simp; omega), as ++ [t], ?_, ?_, ?_, ?_, by simp [hl3]⟩
      · rw [upd_same, List.map_append]
        rfl
      · rw [take_snoc hpg, afterL_snoc]
        exact D4.but (S := [d]) (But.put (by simp)) (by simp [Ne.symm dp]) (by simp [Ne.symm da]) (by simp [Ne.symm db])
      · exact Same.put s4 dH
      · rw [take_snoc hpg, tellsL_snoc]
        have tS : t ∉ [d, p, a, b] := by
          have q1 : t ≠ p := by obtain ⟨_, q⟩ := D3.ob; exact Ne.symm (ne_fresh q ht)
          have q2 : t ≠ a := Ne.symm (ne_fresh D3.he ht)
          have q3 : t ≠ b := Ne.symm (ne_fresh D3.ma ht)
          simp [td, q1, q2, q3]
        have lS : l ∉ [d, p, a, b] := by
          have q1 : l ≠ p := by obtain ⟨_, q⟩ := D3.ob; exact Ne.symm (ne_fresh q hl)
          have q2 : l ≠ a := Ne.symm (ne_fresh D3.he hl)
          have q3 : l ≠ b := Ne.symm (ne_fresh D3.ma hl)
          simp [ld, q1, q2, q3]
        exact ((t3.but k4 (by simp)).snoc (Same.back s3 ht) tS (Same.back s3 hl) lS tl ht4 hl4).but (S' := [d]) (But.put (by simp)) (by simp)
    · rintro H' ⟨as, z1, z2, z3, z4, z5⟩
      rw [List.take_of_length_le (by simp)] at z4
      exact k d as H' dH z3 z1 ⟨z4.len, fun i c x hc hx => by
        obtain ⟨y1, y2, l, y3, y4, y5⟩ := z4.at_ i c x hc hx
        simp at y2 y4
        exact ⟨y1, by simp [y2.1], l, y3, by simp [y4.1], y5⟩⟩
end
end CK

/-! Spells as plain data. -/
namespace CK
open PySem PySem.Spec PyProof.Rows L2
/-- where p was asked for last, ahead of i -/
def lastB (row : List Int) (p : Int) : Nat → Option Nat
  | 0 => none
  | i + 1 => if row[i]? = some p then some i else lastB row p i
theorem lastB_lt {row : List Int} {p : Int} : ∀ {i b : Nat}, lastB row p i = some b → b < i ∧ row[b]? = some p
  | 0, b, h => by cases h
  | i + 1, b, h => by
    unfold lastB at h
    by_cases q : row[i]? = some p
    · rw [if_pos q] at h
      have e := Option.some.inj h
      subst e
      exact ⟨Nat.lt_succ_self _, q⟩
    · rw [if_neg q] at h
      have ⟨z1, z2⟩ := lastB_lt h
      exact ⟨Nat.lt_succ_of_lt z1, z2⟩
def spOf : Option Nat → Nat → List (Nat × Nat)
  | some b, i => [(b, i)]
  | none, _ => []
/-- the spell that ends at i -/
def spellAt (row : List Int) (i : Nat) : List (Nat × Nat) :=
  match row[i]? with
  | some p => spOf (lastB row p i) i
  | none => []
theorem spellAt_eq {row : List Int} {i : Nat} {p : Int} (hp : row[i]? = some p) : spellAt row i = spOf (lastB row p i) i := by
  unfold spellAt
  rw [hp]
def spellsTo (row : List Int) : Nat → List (Nat × Nat)
  | 0 => []
  | i + 1 => spellsTo row i ++ spellAt row i
def spellsL (row : List Int) : List (Nat × Nat) := spellsTo row row.length
theorem spellAt_one (row : List Int) (i : Nat) : (spellAt row i).length ≤ 1 := by
  cases hp : row[i]? with
  | none => unfold spellAt; rw [hp]; exact Nat.zero_le _
  | some p =>
    rw [spellAt_eq hp]
    cases lastB row p i with
    | none => exact Nat.zero_le _
    | some b => exact Nat.le_refl _
theorem spellsTo_le (row : List Int) : ∀ i, (spellsTo row i).length ≤ i
  | 0 => Nat.le_refl _
  | i + 1 => by
    have h1 := spellsTo_le row i
    have h2 := spellAt_one row i
    show (spellsTo row i ++ spellAt row i).length ≤ i + 1
    rw [List.length_append]
    omega
theorem spellsL_le (row : List Int) : (spellsL row).length ≤ row.length := spellsTo_le row _
theorem spellAt_lt {row : List Int} {i : Nat} {x : Nat × Nat} (h : x ∈ spellAt row i) : x.1 < x.2 ∧ x.2 = i := by
  cases hp : row[i]? with
  | none => unfold spellAt at h; rw [hp] at h; simp at h
  | some p =>
    rw [spellAt_eq hp] at h
    cases hb : lastB row p i with
    | none => rw [hb] at h; simp [spOf] at h
    | some b =>
      rw [hb] at h
      have e : x = (b, i) := by simpa [spOf] using h
      rw [e]
      exact ⟨(lastB_lt hb).1, rfl⟩
/-! ### lists of pairs -/
/-- the tuples at as are the pairs xs -/
structure PairsAt (H : Hp) (as : List Addr) (xs : List (Nat × Nat)) : Prop where
  len : as.length = xs.length
  at_ : ∀ (i : Nat) (a : Addr) (x : Nat × Nat), as[i]? = some a → xs[i]? = some x → H a = some (.tup [.int (x.1 : Nat), .int (x.2 : Nat)])
theorem PairsAt.nil {H : Hp} : PairsAt H [] [] := ⟨rfl, fun i a x h => by simp at h⟩
theorem PairsAt.mem {H : Hp} {as : List Addr} {xs : List (Nat × Nat)} (h : PairsAt H as xs) {a : Addr} (ha : a ∈ as) : ∃ u, H a = some (.tup u) := by
  obtain ⟨i, hi, e⟩ := List.mem_iff_getElem.mp ha
  have hx : i < xs.length := by rw [← h.len]; exact hi
  exact ⟨_, h.at_ i a _ (by rw [List.getElem?_eq_getElem hi, e]) (List.getElem?_eq_getElem hx)⟩
theorem PairsAt.same {H H' : Hp} {as : List Addr} {xs : List (Nat × Nat)} (h : PairsAt H as xs) (k : Same H H') : PairsAt H' as xs :=
  ⟨h.len, fun i a x ha hx => k _ _ (h.at_ i a x ha hx)⟩
/-- a list that is written is none of the tuples -/
theorem PairsAt.put {H : Hp} {as : List Addr} {xs : List (Nat × Nat)} (h : PairsAt H as xs) {d : Addr} {o o' : HO} (e : H d = some o) (ne : ∀ u, o ≠ .tup u) : PairsAt (upd H d o') as xs :=
  ⟨h.len, fun i a x ha hx => by
    have q := h.at_ i a x ha hx
    rw [upd_ne (ne_of q e fun z => ne _ z.symm)]
    exact q⟩
theorem PairsAt.but {S : List Addr} {H H' : Hp} {as : List Addr} {xs : List (Nat × Nat)} (h : PairsAt H as xs) (k : But S H H') (n : ∀ d ∈ S, ∀ u, H d ≠ some (.tup u)) : PairsAt H' as xs :=
  ⟨h.len, fun i a x ha hx => by
    have q := h.at_ i a x ha hx
    exact k _ _ q fun z => n _ z _ q⟩
theorem PairsAt.snoc {H : Hp} {as : List Addr} {xs : List (Nat × Nat)} (h : PairsAt H as xs) {t : Addr} {x : Nat × Nat} (e : H t = some (.tup [.int (x.1 : Nat), .int (x.2 : Nat)])) : PairsAt H (as ++ [t]) (xs ++ [x]) := by
  refine ⟨by simp [h.len], fun j c y hc hy => ?_⟩
  by_cases hj : j < as.length
  · rw [List.getElem?_append_left hj] at hc
    rw [List.getElem?_append_left (by rw [← h.len]; exact hj)] at hy
    exact h.at_ j c y hc hy
  · have ej : j = as.length := by
      have := (List.getElem?_eq_some_iff.mp hc).1
      simp at this
      omega
    subst ej
    rw [List.getElem?_append_right (Nat.le_refl _), Nat.sub_self] at hc
    rw [List.getElem?_append_right (by rw [h.len]; exact Nat.le_refl _), h.len, Nat.sub_self] at hy
    have ec : t = c := Option.some.inj hc
    have ex : x = y := Option.some.inj hy
    rw [← ec, ← ex]
    exact e
theorem PairsAt.tail {H : Hp} {a : Addr} {x : Nat × Nat} {as : List Addr} {xs : List (Nat × Nat)} (h : PairsAt H (a :: as) (x :: xs)) : H a = some (.tup [.int (x.1 : Nat), .int (x.2 : Nat)]) ∧ PairsAt H as xs :=
  ⟨h.at_ 0 a x rfl rfl, Nat.succ.inj h.len, fun i c y hc hy => h.at_ (i + 1) c y hc hy⟩
theorem PairsAt.app {H : Hp} : ∀ {as bs : List Addr} {xs ys : List (Nat × Nat)}, PairsAt H as xs → PairsAt H bs ys → PairsAt H (as ++ bs) (xs ++ ys) := by
  intro as bs
  induction bs generalizing as with
  | nil =>
    intro xs ys h1 h2
    cases ys with
    | nil => rw [List.append_nil, List.append_nil]; exact h1
    | cons y ys => exact absurd h2.len (by simp)
  | cons b bs ih =>
    intro xs ys h1 h2
    cases ys with
    | nil => exact absurd h2.len (by simp)
    | cons y ys =>
      have q := ih (h1.snoc h2.tail.1) h2.tail.2
      rw [List.append_assoc, List.append_assoc] at q
      exact q
/-! ### pairs as data -/
def pdp (x : Nat × Nat) : PyData := .tuple [.int (x.1 : Nat), .int (x.2 : Nat)]
def pds (xs : List (Nat × Nat)) : PyData := .list (xs.map pdp)
theorem dp_pairsAll {K : PySem.W.Frag} {H : Hp} : ∀ {as : List Addr} {xs : List (Nat × Nat)}, PairsAt H as xs → DpAll K H (as.map V.ref) (xs.map pdp)
  | [], [], _ => .nil
  | [], _ :: _, h => absurd h.len (by simp)
  | _ :: _, [], h => absurd h.len (by simp)
  | a :: as, x :: xs, h => .cons (.tup (SqT.of h.tail.1) (.cons (.int _) (.cons (.int _) .nil))) (dp_pairsAll h.tail.2)
theorem dp_pairs {K : PySem.W.Frag} {H : Hp} {d : Addr} {as : List Addr} {xs : List (Nat × Nat)} (e : SqL K H d (as.map V.ref)) (h : PairsAt H as xs) : Dp K H (.ref d) (pds xs) := .lst e (dp_pairsAll h)
theorem depAll_pairs : ∀ xs : List (Nat × Nat), PyData.depthAll (xs.map pdp) ≤ 1
  | [] => Nat.zero_le _
  | x :: xs => Nat.max_le.mpr ⟨Nat.le_refl _, depAll_pairs xs⟩
theorem depth_pds (xs : List (Nat × Nat)) : (pds xs).depth ≤ 2 := Nat.succ_le_succ (depAll_pairs xs)
theorem small_pairsAll : ∀ xs : List (Nat × Nat), smallAll (xs.map pdp)
  | [] => trivial
  | _ :: xs => ⟨⟨by show 2 ≤ 1000; decide, trivial, trivial, trivial⟩, small_pairsAll xs⟩
theorem small_pds {xs : List (Nat × Nat)} (h : xs.length ≤ 1000) : smallD (pds xs) := ⟨by rw [List.length_map]; exact h, small_pairsAll xs⟩
end CK

/-! What was told, as data. -/
namespace CKD
open PySem PySem.Spec PyProof.Rows L2 CK
def pdO : Option Int → PyData
  | none => .none
  | some p => .int p
theorem dp_o {K : PySem.W.Frag} {H : Hp} (o : Option Int) : Dp K H (pgV o) (pdO o) := by
  cases o with
  | none => exact .non
  | some p => exact .int p
theorem dp_nl {K : PySem.W.Frag} {H : Hp} : ∀ l : List Nat, DpAll K H (NL l) (l.map fun n : Nat => PyData.int (n : Int))
  | [] => .nil
  | n :: r => .cons (.int n) (dp_nl r)
theorem dep_most {k : Nat} : ∀ {ds : List PyData}, (∀ d ∈ ds, d.depth ≤ k) → PyData.depthAll ds ≤ k
  | [], _ => Nat.zero_le _
  | d :: r, h => Nat.max_le.mpr ⟨h d List.mem_cons_self, dep_most fun x hx => h x (List.mem_cons_of_mem _ hx)⟩
theorem lay_all : ∀ {ds : List PyData}, (∀ d ∈ ds, d.canLay0 = true) → PyData.canLayAll0 ds = true
  | [], _ => rfl
  | d :: r, h => by
    show (d.canLay0 && PyData.canLayAll0 r) = true
    rw [h d List.mem_cons_self, lay_all fun x hx => h x (List.mem_cons_of_mem _ hx)]
    rfl
def pdN (l : List Nat) : PyData := .list (l.map fun n : Nat => PyData.int (n : Int))
theorem lay_n (l : List Nat) : (pdN l).canLay0 = true := lay_all fun d hd => by
  obtain ⟨n, _, rfl⟩ := List.mem_map.mp hd
  rfl
theorem dep_n (l : List Nat) : (pdN l).depth ≤ 1 := by
  have : PyData.depthAll (l.map fun n : Nat => PyData.int (n : Int)) ≤ 0 := dep_most fun d hd => by
    obtain ⟨n, _, rfl⟩ := List.mem_map.mp hd
    exact Nat.le_refl _
  show PyData.depthAll _ + 1 ≤ 1
  omega
/-- one telling -/
def pdT (x : Bool × Option Int × List Nat) : PyData := .tuple [.bool x.1, pdO x.2.1, pdN x.2.2]
theorem lay_t (x : Bool × Option Int × List Nat) : (pdT x).canLay0 = true := lay_all fun d hd => by
  simp only [List.mem_cons, List.not_mem_nil, or_false] at hd
  rcases hd with rfl | rfl | rfl
  · rfl
  · cases x.2.1 <;> rfl
  · exact lay_n _
theorem dep_t (x : Bool × Option Int × List Nat) : (pdT x).depth ≤ 2 := by
  have : PyData.depthAll [.bool x.1, pdO x.2.1, pdN x.2.2] ≤ 1 := dep_most fun d hd => by
    simp only [List.mem_cons, List.not_mem_nil, or_false] at hd
    rcases hd with rfl | rfl | rfl
    · exact Nat.zero_le _
    · cases x.2.1 <;> exact Nat.zero_le _
    · exact dep_n _
  show PyData.depthAll _ + 1 ≤ 2
  omega
theorem dp_t {K : PySem.W.Frag} {H : Hp} {t l : Addr} {x : Bool × Option Int × List Nat} (ht : H t = some (.tup [.bl x.1, pgV x.2.1, .ref l])) (hl : H l = some (.lst (NL x.2.2))) : Dp K H (.ref t) (pdT x) :=
  .tup (SqT.of ht) (.cons (.bl _) (.cons (dp_o _) (.cons (.lst (SqL.of hl) (dp_nl _)) .nil)))
/-- a list of data that lie in a list of depth at most 8 -/
theorem shaped_list {ds : List PyData} (h1 : ∀ d ∈ ds, d.canLay0 = true) (h2 : ∀ d ∈ ds, d.depth ≤ 8) : SeqAt.shaped (.list ds) = true := by
  unfold SeqAt.shaped
  rw [Bool.and_eq_true]
  refine ⟨lay_all h1, decide_eq_true ?_⟩
  have := dep_most h2
  show PyData.depthAll ds + 1 ≤ 64
  omega
theorem eqv_same {d : PyData} (h : SeqAt.shaped d = true) : PyData.eqv d d = true := SeqAt.eqv_refl d (SeqAt.canLay_of_shaped h)
def pdTs (xs : List (Bool × Option Int × List Nat)) : PyData := .list (xs.map pdT)
theorem shaped_ts (xs : List (Bool × Option Int × List Nat)) : SeqAt.shaped (pdTs xs) = true := shaped_list (fun d hd => by
    obtain ⟨x, _, rfl⟩ := List.mem_map.mp hd
    exact lay_t x) (fun d hd => by
    obtain ⟨x, _, rfl⟩ := List.mem_map.mp hd
    have := dep_t x
    omega)
theorem shaped_pds (xs : List (Nat × Nat)) : SeqAt.shaped (pds xs) = true := shaped_list (fun d hd => by
    obtain ⟨x, _, rfl⟩ := List.mem_map.mp hd
    rfl) (fun d hd => by
    obtain ⟨x, _, rfl⟩ := List.mem_map.mp hd
    show (max 0 (max 0 0)) + 1 ≤ 8
    decide)
/-- the tuples at as are the tellings xs, all off d -/
structure TLd (d : Addr) (H : Hp) (as : List Addr) (xs : List (Bool × Option Int × List Nat)) : Prop where
  len : as.length = xs.length
  at_ : ∀ (i : Nat) (a : Addr) (x : Bool × Option Int × List Nat), as[i]? = some a → xs[i]? = some x → ∃ l : Addr, a ≠ d ∧ l ≠ d ∧ H a = some (.tup [.bl x.1, pgV x.2.1, .ref l]) ∧ H l = some (.lst (NL x.2.2))
theorem TLd.nil {d : Addr} {H : Hp} : TLd d H [] [] := ⟨rfl, fun i a x h => by simp at h⟩
theorem TLd.of {d c : Addr} {H H' : Hp} {as : List Addr} {xs : List (Bool × Option Int × List Nat)} {o : HO} (t : TellsAt [c] H H' as xs) (hd : H d = some o) : TLd d H' as xs := ⟨t.len, fun i a x ha hx => by
  obtain ⟨h1, _, l, h2, _, _, h4, h5⟩ := t.at_ i a x ha hx
  exact ⟨l, fun z => (nomatch (z ▸ h1).symm.trans hd), fun z => (nomatch (z ▸ h2).symm.trans hd), h4, h5⟩⟩
theorem TLd.but {d : Addr} {H H' : Hp} {as : List Addr} {xs : List (Bool × Option Int × List Nat)} (t : TLd d H as xs) (k : But [d] H H') : TLd d H' as xs := ⟨t.len, fun i a x ha hx => by
  obtain ⟨l, h1, h2, h4, h5⟩ := t.at_ i a x ha hx
  exact ⟨l, h1, h2, k _ _ h4 (by simpa using h1), k _ _ h5 (by simpa using h2)⟩⟩
theorem TLd.snoc {d : Addr} {H : Hp} {as : List Addr} {xs : List (Bool × Option Int × List Nat)} {a l : Addr} {x : Bool × Option Int × List Nat} (t : TLd d H as xs) (h1 : a ≠ d) (h2 : l ≠ d) (h4 : H a = some (.tup [.bl x.1, pgV x.2.1, .ref l])) (h5 : H l = some (.lst (NL x.2.2))) : TLd d H (as ++ [a]) (xs ++ [x]) := by
  refine ⟨by rw [List.length_append, List.length_append, t.len]; rfl, fun i b y hb hy => ?_⟩
  by_cases hi : i < as.length
  · rw [List.getElem?_append_left hi] at hb
    rw [List.getElem?_append_left (by rw [← t.len]; exact hi)] at hy
    exact t.at_ i b y hb hy
  · rw [List.getElem?_append_right (by omega)] at hb
    rw [List.getElem?_append_right (by rw [← t.len]; omega)] at hy
    have e0 : i - as.length = 0 := by
      have := (List.getElem?_eq_some_iff.mp hb).1
      simp at this
      omega
    rw [← t.len] at hy
    rw [e0] at hb hy
    cases Option.some.inj hb
    cases Option.some.inj hy
    exact ⟨l, h1, h2, h4, h5⟩
theorem dp_tells {K : PySem.W.Frag} {H : Hp} : ∀ {as : List Addr} {xs : List (Bool × Option Int × List Nat)}, as.length = xs.length →
    (∀ (i : Nat) (a : Addr) (x : Bool × Option Int × List Nat), as[i]? = some a → xs[i]? = some x → ∃ l : Addr, H a = some (.tup [.bl x.1, pgV x.2.1, .ref l]) ∧ H l = some (.lst (NL x.2.2))) → DpAll K H (as.map V.ref) (xs.map pdT)
  | [], [], _, _ => .nil
  | [], _ :: _, h, _ => by cases h
  | _ :: _, [], h, _ => by cases h
  | a :: as, x :: xs, h, k => by
    obtain ⟨l, h1, h2⟩ := k 0 a x rfl rfl
    exact .cons (dp_t h1 h2) (dp_tells (Nat.succ.inj h) fun i b y hb hy => k (i + 1) b y hb hy)
theorem TLd.dp {K : PySem.W.Frag} {d : Addr} {H : Hp} {as : List Addr} {xs : List (Bool × Option Int × List Nat)} (t : TLd d H as xs) : DpAll K H (as.map V.ref) (xs.map pdT) := dp_tells t.len fun i a x ha hx => by
  obtain ⟨l, _, _, h4, h5⟩ := t.at_ i a x ha hx
  exact ⟨l, h4, h5⟩
theorem dp_ts {K : PySem.W.Frag} {d q : Addr} {H : Hp} {as : List Addr} {xs : List (Bool × Option Int × List Nat)} (hd : H d = some (.lst (as.map V.ref))) (t : TLd q H as xs) : Dp K H (.ref d) (pdTs xs) := .lst (SqL.of hd) t.dp
end CKD

/-! The best, as plain data. -/
namespace CK
open PySem PySem.Spec PyProof.Rows L2
theorem lastB_max {row : List Int} {p : Int} : ∀ {e b : Nat}, lastB row p e = some b → ∀ j, b < j → j < e → row[j]? ≠ some p
  | 0, b, h, _, _, _ => by cases h
  | e + 1, b, h, j, hj, hl => by
    unfold lastB at h
    by_cases q : row[e]? = some p
    · rw [if_pos q] at h
      have e1 := Option.some.inj h
      omega
    · rw [if_neg q] at h
      by_cases z : j = e
      · rw [z]; exact q
      · exact lastB_max h j hj (by omega)
theorem lastB_some {row : List Int} {p : Int} {i : Nat} (hi : row[i]? = some p) : ∀ {e : Nat}, i < e → ∃ b, lastB row p e = some b ∧ i ≤ b
  | 0, h => absurd h (Nat.not_lt_zero _)
  | e + 1, h => by
    unfold lastB
    by_cases q : row[e]? = some p
    · rw [if_pos q]
      exact ⟨e, rfl, by omega⟩
    · rw [if_neg q]
      have z : i ≠ e := fun z => q (by rw [← z]; exact hi)
      exact lastB_some hi (by omega)
/-- the place of the next ask for y, from i on; the number of asks where there is none -/
def nxt (row : List Int) (y : Int) (i : Nat) : Nat := i + (row.drop i).idxOf y
theorem drop_at {row : List Int} {i : Nat} {p : Int} (h : row[i]? = some p) : row.drop i = p :: row.drop (i + 1) := by
  have hi := (List.getElem?_eq_some_iff.mp h).1
  rw [List.drop_eq_getElem_cons hi, (List.getElem?_eq_some_iff.mp h).2]
theorem nxt_ge (row : List Int) (y : Int) (i : Nat) : i ≤ nxt row y i := Nat.le_add_right _ _
theorem nxt_le {row : List Int} {y : Int} {i : Nat} (h : i ≤ row.length) : nxt row y i ≤ row.length := by
  have := List.idxOf_le_length (a := y) (l := row.drop i)
  rw [List.length_drop] at this
  unfold nxt
  omega
theorem nxt_hit {row : List Int} {i : Nat} {p : Int} (h : row[i]? = some p) : nxt row p i = i := by
  unfold nxt
  rw [drop_at h, List.idxOf_cons_self]
  rfl
theorem nxt_on {row : List Int} {i : Nat} {p y : Int} (h : row[i]? = some p) (ne : y ≠ p) : nxt row y i = nxt row y (i + 1) := by
  unfold nxt
  rw [drop_at h, List.idxOf_cons]
  have e : (p == y) = false := by simpa using fun z => ne z.symm
  rw [e]
  show i + ((row.drop (i + 1)).idxOf y + 1) = _
  omega
theorem nxt_at {row : List Int} {y : Int} {i : Nat} (h : nxt row y i < row.length) : row[nxt row y i]? = some y := by
  unfold nxt at h ⊢
  have hl : (row.drop i).idxOf y < (row.drop i).length := by
    rw [List.length_drop]
    omega
  have q := List.getElem_idxOf hl
  rw [← List.getElem?_drop, List.getElem?_eq_getElem hl, q]
theorem idx_before {xs : List Int} {y : Int} {k : Nat} (h : k < xs.idxOf y) : xs[k]? ≠ some y := by
  induction xs generalizing k with
  | nil => simp
  | cons a r ih =>
    by_cases e : a = y
    · rw [e, List.idxOf_cons_self] at h
      exact absurd h (Nat.not_lt_zero _)
    · rw [List.idxOf_cons] at h
      have e1 : (a == y) = false := by simpa using e
      rw [e1] at h
      cases k with
      | zero =>
        intro z
        exact e (Option.some.inj z)
      | succ k => exact ih (k := k) (Nat.lt_of_succ_lt_succ h)
theorem nxt_before {row : List Int} {y : Int} {i j : Nat} (h1 : i ≤ j) (h2 : j < nxt row y i) : row[j]? ≠ some y := by
  unfold nxt at h2
  have q := idx_before (xs := row.drop i) (y := y) (k := j - i) (by omega)
  rw [List.getElem?_drop] at q
  have e : i + (j - i) = j := by omega
  rw [e] at q
  exact q
/-! ### the dict of the next asks -/
def kvS (xs : List (Nat × Nat)) : List (Key × V) := xs.map fun x => (Sum.inl (x.1 : Int), V.int (x.2 : Nat))
theorem merge_snoc (a more : List (Key × V)) (x : Key × V) : mergeK a (more ++ [x]) = putK (mergeK a more) x.1 x.2 := by
  unfold mergeK
  rw [List.foldl_append]
  rfl
theorem next_asks {row : List Int} {i : Nat} {p : Int} (hi : row[i]? = some p) : ∀ e, e ≤ row.length → valV (mergeK [] (kvS (spellsTo row e))) (Sum.inl (i : Int)) = if nxt row p (i + 1) < e then some (V.int (nxt row p (i + 1) : Nat)) else none
  | 0, _ => by rw [if_neg (Nat.not_lt_zero _)]; rfl
  | e + 1, he => by
    have ih := next_asks hi e (by omega)
    have he' : e < row.length := by omega
    have eq : row[e]? = some (row[e]'he') := List.getElem?_eq_getElem he'
    have e0 : spellsTo row (e + 1) = spellsTo row e ++ spellAt row e := rfl
    rw [e0, spellAt_eq eq]
    generalize row[e]'he' = q at *
    have ge := nxt_ge row p (i + 1)
    -- where the page's next ask is e, the spell that ends there begins at i
    have back : nxt row p (i + 1) = e → lastB row q e = some i := by
      intro h
      have hp : row[e]? = some p := by
        rw [← h]
        exact nxt_at (by omega)
      have eqp : q = p := Option.some.inj (eq.symm.trans hp)
      rw [eqp]
      obtain ⟨b, hb, hib⟩ := lastB_some hi (show i < e by omega)
      have hb2 := lastB_lt hb
      by_cases z : b = i
      · rw [← z]; exact hb
      · exact absurd hb2.2 (nxt_before (i := i + 1) (by omega) (by omega))
    cases hb : lastB row q e with
    | none =>
      show valV (mergeK [] (kvS (spellsTo row e ++ []))) _ = _
      rw [List.append_nil, ih]
      by_cases h : nxt row p (i + 1) < e
      · rw [if_pos h, if_pos (by omega)]
      · rw [if_neg h, if_neg (fun z => by
          have := back (by omega)
          rw [hb] at this
          cases this)]
    | some b =>
      have ek : kvS (spellsTo row e ++ spOf (some b) e) = kvS (spellsTo row e) ++ [(Sum.inl (b : Int), V.int (e : Nat))] := by
        unfold kvS
        rw [List.map_append]
        rfl
      rw [ek, merge_snoc, valV_put]
      have hb2 := lastB_lt hb
      by_cases z : b = i
      · subst z
        rw [if_pos rfl]
        have eqp : q = p := Option.some.inj (hb2.2.symm.trans hi)
        have h1 : nxt row p (b + 1) = e := by
          have a1 : ¬ e < nxt row p (b + 1) := fun a1 => nxt_before (i := b + 1) (by omega) a1 (by rw [eq, eqp])
          have a2 : ¬ nxt row p (b + 1) < e := fun a2 => by
            have := nxt_at (row := row) (y := p) (i := b + 1) (by omega)
            rw [← eqp] at this
            rw [eqp] at hb this
            exact lastB_max hb _ (by omega) a2 this
          omega
        rw [if_pos (by omega), h1]
      · rw [if_neg (by intro h; injection h with h; omega), ih]
        by_cases h : nxt row p (i + 1) < e
        · rw [if_pos h, if_pos (by omega)]
        · rw [if_neg h, if_neg (fun h2 => by
            have := back (by omega)
            rw [hb] at this
            exact z (Option.some.inj this))]
theorem next_get {row : List Int} {i : Nat} {p : Int} (hi : row[i]? = some p) : ((valV (mergeK [] (kvS (spellsL row))) (Sum.inl (i : Int))).getD (V.int (row.length : Nat))) = V.int (nxt row p (i + 1) : Nat) := by
  have h := next_asks hi row.length (Nat.le_refl _)
  unfold spellsL
  rw [h]
  have hl := (List.getElem?_eq_some_iff.mp hi).1
  have le := nxt_le (row := row) (y := p) (i := i + 1) (by omega)
  by_cases z : nxt row p (i + 1) < row.length
  · rw [if_pos z]; rfl
  · rw [if_neg z]
    have e : nxt row p (i + 1) = row.length := by omega
    rw [e]; rfl
/-! ### who is let go -/
/-- f is the one of C whose next ask is farthest, of several the least -/
structure IsFar (row : List Int) (i : Nat) (C : List Int) (f : Int) : Prop where
  mem : f ∈ C
  far : ∀ y ∈ C, nxt row y i ≤ nxt row f i
  least : ∀ y ∈ C, nxt row y i = nxt row f i → f ≤ y
theorem IsFar.one {row : List Int} {i : Nat} {C : List Int} {f g : Int} (h : IsFar row i C f) (k : IsFar row i C g) : f = g := by
  have h1 := h.far g k.mem
  have h2 := k.far f h.mem
  have e : nxt row f i = nxt row g i := by omega
  have h3 := h.least g k.mem e.symm
  have h4 := k.least f h.mem e
  omega
theorem far_is {row : List Int} {i : Nat} : ∀ {C : List Int}, C ≠ [] → ∃ f, IsFar row i C f
  | [], h => absurd rfl h
  | [a], _ => ⟨a, by simp, fun y hy => by rw [List.mem_singleton.mp hy]; exact Nat.le_refl _, fun y hy _ => by rw [List.mem_singleton.mp hy]; exact Int.le_refl _⟩
  | a :: b :: C, _ => by
    obtain ⟨f, hf⟩ := far_is (row := row) (i := i) (C := b :: C) (by simp)
    by_cases h : nxt row a i < nxt row f i ∨ (nxt row a i = nxt row f i ∧ f ≤ a)
    · refine ⟨f, List.mem_cons_of_mem _ hf.mem, fun y hy => ?_, fun y hy e => ?_⟩
      · rcases List.mem_cons.mp hy with z | z
        · rw [z]; omega
        · exact hf.far y z
      · rcases List.mem_cons.mp hy with z | z
        · rw [z] at e ⊢; omega
        · exact hf.least y z e
    · refine ⟨a, List.mem_cons_self, fun y hy => ?_, fun y hy e => ?_⟩
      · rcases List.mem_cons.mp hy with z | z
        · rw [z]; exact Nat.le_refl _
        · have := hf.far y z; omega
      · rcases List.mem_cons.mp hy with z | z
        · rw [z]; exact Int.le_refl _
        · have q := hf.far y z
          have e2 : nxt row y i = nxt row f i := by omega
          have := hf.least y z e2
          omega
noncomputable def far (row : List Int) (i : Nat) (C : List Int) : Int := if h : C ≠ [] then Classical.choose (far_is (row := row) (i := i) h) else 0
theorem far_ok {row : List Int} {i : Nat} {C : List Int} (h : C ≠ []) : IsFar row i C (far row i C) := by
  unfold far
  rw [dif_pos h]
  exact Classical.choose_spec (far_is h)
/-- the pages there, the places of the lacks, what was let go -/
structure BS where
  C : List Int
  lacks : List Nat
  gone : List (Nat × Int)
noncomputable def BS.step (n : Nat) (row : List Int) (i : Nat) (p : Int) (s : BS) : BS :=
  if p ∈ s.C then s else if s.C.length = n then ⟨s.C.filter (· != far row i s.C) ++ [p], s.lacks ++ [i], s.gone ++ [(i, far row i s.C)]⟩ else ⟨s.C ++ [p], s.lacks ++ [i], s.gone⟩
noncomputable def bestTo (n : Nat) (row : List Int) : Nat → BS
  | 0 => ⟨[], [], []⟩
  | i + 1 => match row[i]? with
    | some p => (bestTo n row i).step n row i p
    | none => bestTo n row i
theorem bestTo_succ {n : Nat} {row : List Int} {i : Nat} {p : Int} (h : row[i]? = some p) : bestTo n row (i + 1) = (bestTo n row i).step n row i p := by
  show (match row[i]? with | some p => (bestTo n row i).step n row i p | none => bestTo n row i) = _
  rw [h]
noncomputable def bestS (n : Nat) (row : List Int) : BS := bestTo n row row.length
structure BS.Ok (n i : Nat) (s : BS) : Prop where
  nd : s.C.Nodup
  le : s.C.length ≤ n
  lk : s.lacks.length ≤ i
  gn : s.gone.length ≤ i
theorem filter_less {C : List Int} {f : Int} (h : f ∈ C) : (C.filter (· != f)).length < C.length := by
  rcases Nat.lt_or_ge (C.filter (· != f)).length C.length with z | z
  · exact z
  · have e := List.length_filter_eq_length_iff.mp (Nat.le_antisymm (List.length_filter_le _ _) z)
    have := e f h
    simp at this
theorem nodup_snoc {C : List Int} {p : Int} (h : C.Nodup) (hp : p ∉ C) : (C ++ [p]).Nodup := by
  rw [List.nodup_append]
  refine ⟨h, by simp, fun a ha b hb => ?_⟩
  rw [List.mem_singleton.mp hb]
  intro z
  exact hp (by rw [← z]; exact ha)
theorem bestTo_ok {n : Nat} (hn : 0 < n) (row : List Int) : ∀ i, (bestTo n row i).Ok n i
  | 0 => ⟨List.nodup_nil, Nat.zero_le _, Nat.le_refl _, Nat.le_refl _⟩
  | i + 1 => by
    have ih := bestTo_ok hn row i
    cases hp : row[i]? with
    | none =>
      have e : bestTo n row (i + 1) = bestTo n row i := by
        show (match row[i]? with | some p => (bestTo n row i).step n row i p | none => bestTo n row i) = _
        rw [hp]
      rw [e]
      exact ⟨ih.nd, ih.le, Nat.le_succ_of_le ih.lk, Nat.le_succ_of_le ih.gn⟩
    | some p =>
      rw [bestTo_succ hp]
      unfold BS.step
      have h1 := ih.lk
      have h2 := ih.gn
      have h3 := ih.le
      split
      · exact ⟨ih.nd, ih.le, Nat.le_succ_of_le ih.lk, Nat.le_succ_of_le ih.gn⟩
      · rename_i hC
        split
        · rename_i hl
          have hne : (bestTo n row i).C ≠ [] := by intro z; rw [z] at hl; simp at hl; omega
          have hf := filter_less (far_ok (row := row) (i := i) hne).mem
          refine ⟨nodup_snoc (ih.nd.filter _) (fun z => hC (List.mem_filter.mp z).1), ?_, ?_, ?_⟩
          · show (_ ++ [p]).length ≤ n
            rw [List.length_append]; simp; omega
          · show (_ ++ [i]).length ≤ i + 1
            rw [List.length_append]; simp; omega
          · show (_ ++ [_]).length ≤ i + 1
            rw [List.length_append]; simp; omega
        · rename_i hl
          refine ⟨nodup_snoc ih.nd hC, ?_, ?_, Nat.le_succ_of_le ih.gn⟩
          · show (_ ++ [p]).length ≤ n
            rw [List.length_append]; simp; omega
          · show (_ ++ [i]).length ≤ i + 1
            rw [List.length_append]; simp; omega
/-! ### the dict of the pages there -/
def kvN (row : List Int) (i : Nat) (C : List Int) : List (Key × V) := C.map fun y => (Sum.inl y, V.int (nxt row y i : Nat))
theorem kvN_val (row : List Int) (i : Nat) : ∀ (C : List Int) (p : Int), valV (kvN row i C) (Sum.inl p) = if p ∈ C then some (V.int (nxt row p i : Nat)) else none
  | [], p => rfl
  | a :: C, p => by
    by_cases h : a = p
    · subst h
      rw [if_pos List.mem_cons_self]
      exact valV_pos rfl
    · have e : valV (kvN row i (a :: C)) (Sum.inl p) = valV (kvN row i C) (Sum.inl p) := valV_neg (by intro z; injection z with z; exact h z)
      rw [e, kvN_val row i C p]
      by_cases h2 : p ∈ C
      · rw [if_pos h2, if_pos (List.mem_cons_of_mem _ h2)]
      · rw [if_neg h2, if_neg (by intro z; rcases List.mem_cons.mp z with z | z; · exact h z.symm
                                  · exact h2 z)]
theorem kvN_drop (row : List Int) (i : Nat) (f : Int) : ∀ C : List Int, dropK (kvN row i C) (Sum.inl f) = kvN row i (C.filter (· != f))
  | [] => rfl
  | a :: C => by
    by_cases h : a = f
    · subst h
      have e : dropK (kvN row i (a :: C)) (Sum.inl a) = dropK (kvN row i C) (Sum.inl a) := dropK_pos rfl
      rw [e, kvN_drop row i a C]
      simp
    · have e : dropK (kvN row i (a :: C)) (Sum.inl f) = (Sum.inl a, V.int (nxt row a i : Nat)) :: dropK (kvN row i C) (Sum.inl f) := dropK_neg (by intro z; injection z with z; exact h z)
      have e2 : (a :: C).filter (· != f) = a :: C.filter (· != f) := by simp [h]
      rw [e, kvN_drop row i f C, e2]
      rfl
/-- the asked page's next ask is written; all others' stay -/
theorem kvN_put {row : List Int} {i : Nat} {p : Int} (hp : row[i]? = some p) {C : List Int} (h : p ∈ C) : putK (kvN row i C) (Sum.inl p) (V.int (nxt row p (i + 1) : Nat)) = kvN row (i + 1) C := by
  have ha : ((kvN row i C).any fun kv => decide (kv.1 = Sum.inl p)) = true := by
    rw [valV_any, kvN_val, if_pos h]
    rfl
  unfold putK
  rw [if_pos ha]
  unfold kvN
  rw [List.map_map]
  refine List.map_congr_left fun y hy => ?_
  show (if (Sum.inl y : Key) = Sum.inl p then _ else _) = _
  by_cases e : y = p
  · subst e
    rw [if_pos rfl]
  · rw [if_neg (by intro z; injection z with z; exact e z), nxt_on hp e]
theorem kvN_new {row : List Int} {i : Nat} {p : Int} (hp : row[i]? = some p) {C : List Int} (h : p ∉ C) : putK (kvN row i C) (Sum.inl p) (V.int (nxt row p (i + 1) : Nat)) = kvN row (i + 1) (C ++ [p]) := by
  rw [putK_new _ (by rw [kvN_val, if_neg h])]
  unfold kvN
  rw [List.map_append]
  congr 1
  refine List.map_congr_left fun y hy => ?_
  rw [nxt_on hp (by intro z; rw [z] at hy; exact h hy)]
/-! ### lists of tuples -/
structure TupsAt (H : Hp) (as : List Addr) (xs : List (List V)) : Prop where
  len : as.length = xs.length
  at_ : ∀ (i : Nat) (a : Addr) (x : List V), as[i]? = some a → xs[i]? = some x → H a = some (.tup x)
theorem TupsAt.nil {H : Hp} : TupsAt H [] [] := ⟨rfl, fun i a x h => by simp at h⟩
theorem TupsAt.but {S : List Addr} {H H' : Hp} {as : List Addr} {xs : List (List V)} (h : TupsAt H as xs) (k : But S H H') (n : ∀ d ∈ S, ∀ u, H d ≠ some (.tup u)) : TupsAt H' as xs :=
  ⟨h.len, fun i a x ha hx => by
    have q := h.at_ i a x ha hx
    exact k _ _ q fun z => n _ z _ q⟩
theorem TupsAt.same {H H' : Hp} {as : List Addr} {xs : List (List V)} (h : TupsAt H as xs) (k : Same H H') : TupsAt H' as xs := h.but (S := []) (But.of k) (fun d hd => by simp at hd)
theorem TupsAt.put {H : Hp} {as : List Addr} {xs : List (List V)} (h : TupsAt H as xs) {d : Addr} {o o' : HO} (e : H d = some o) (ne : ∀ u, o ≠ .tup u) : TupsAt (upd H d o') as xs :=
  h.but (S := [d]) (But.put (by simp)) (fun c hc u z => by rw [List.mem_singleton.mp hc, e] at z; exact ne u (Option.some.inj z))
theorem TupsAt.snoc {H : Hp} {as : List Addr} {xs : List (List V)} (h : TupsAt H as xs) {t : Addr} {x : List V} (e : H t = some (.tup x)) : TupsAt H (as ++ [t]) (xs ++ [x]) := by
  refine ⟨by simp [h.len], fun j c y hc hy => ?_⟩
  by_cases hj : j < as.length
  · rw [List.getElem?_append_left hj] at hc
    rw [List.getElem?_append_left (by rw [← h.len]; exact hj)] at hy
    exact h.at_ j c y hc hy
  · have ej : j = as.length := by
      have := (List.getElem?_eq_some_iff.mp hc).1
      simp at this
      omega
    subst ej
    rw [List.getElem?_append_right (Nat.le_refl _), Nat.sub_self] at hc
    rw [List.getElem?_append_right (by rw [h.len]; exact Nat.le_refl _), h.len, Nat.sub_self] at hy
    have ec : t = c := Option.some.inj hc
    have ex : x = y := Option.some.inj hy
    rw [← ec, ← ex]
    exact e
theorem TupsAt.tail {H : Hp} {a : Addr} {x : List V} {as : List Addr} {xs : List (List V)} (h : TupsAt H (a :: as) (x :: xs)) : H a = some (.tup x) ∧ TupsAt H as xs :=
  ⟨h.at_ 0 a x rfl rfl, Nat.succ.inj h.len, fun i c y hc hy => h.at_ (i + 1) c y hc hy⟩
abbrev gV (xs : List (Nat × Int)) : List (List V) := xs.map fun x => [V.int (x.1 : Nat), V.int x.2]
theorem gV_snoc {xs : List (Nat × Int)} {x : Nat × Int} : gV (xs ++ [x]) = gV xs ++ [[V.int (x.1 : Nat), V.int x.2]] := by
  show (xs ++ [x]).map _ = _
  rw [List.map_append]
  rfl
end CK

/-! The program's spells. -/
namespace CK
open PySem PySem.Spec PyProof.Rows L2
/-- a new list of the spells of a row -/
def spFind (K : PySem.W.Frag) : Sp := fun vs H Q _ => ∃ (r : Addr) (row : List Int), vs = [.ref r] ∧ SqL K H r (il row) ∧ row.length ≤ 1000 ∧
  ∀ (d : Addr) (as : List Addr) (H' : Hp), H d = none → Same H H' → H' d = some (.lst (as.map V.ref)) → PairsAt H' as (spellsL row) → Q (.ref d) H'
def lastV (row : List Int) (i : Nat) (p : Int) : Option V := (lastB row p i).map fun n => V.int (n : Nat)
section
variable {P : Program} {w : World} {K : PySem.W.Frag} {mg : Str → Option Value} {base : Heap}
theorem sc_find_spells : FnScope ["row", "latest", "found", "place", "page"] ["row"] (defScope (top 18)) := ⟨rfl, rfl, rfl, by decide +kernel, rfl, by decide +kernel, by decide +kernel⟩
theorem ok_find_spells (T : Prog K mg) : FnOk P w K mg base CX0 1 T.find_spells.f T.find_spells.fd ["row"] (spFind K) := by
  refine T.find_spells.fn.ok sc_find_spells (fun vs H Q E h => ?len) (fun cdv A outer s H vs Q E hr h => ?body)
  case len =>
    obtain ⟨r, row, rfl, _⟩ := h
    rfl
  case body =>
    have hu := hu_of hr
    obtain ⟨r, row, rfl, hS, hlen, k⟩ := h
    refine ⟨_, PSs.nox (pss_cons (ps_set (i := 1) sc_find_spells.nd rfl (Or.inl rfl) pe_dnewK)
        (pss_cons (ps_set (i := 2) sc_find_spells.nd rfl (Or.inl rfl) (pe_lst pa_nil))
        (pss_cons (ps_for PassesOwn.never rfl (pi_enum (by rfl) T.enumerate (pa_cons (pv 0) pa_nil)) (pg_tup rfl (pgs_cons (pg_name (i := 3) sc_find_spells.nd rfl (Or.inl rfl)) (pgs_cons (pg_name (i := 4) sc_find_spells.nd rfl (Or.inl rfl)) pgs_nil)))
        (C8.pss_cut (ps_if (pt_cmp (pc_din hu (pv 4) (pv 1)))
        (pss_one (ps_expr (pe_bm PySem.F.plainAttrs_list PySem.F.slot_list_append PySem.F.type_list_append mt_append (pv 2) (pa_cons (pe_tup (pa_cons (pe_dget hu (pv 1) (pv 4) (fun _ _ => rfl)) (pa_cons (pv 3) pa_nil))) pa_nil))))
        pss_nil)
        (pss_one (ps_dput hu (pv 1) (pv 4) (pv 3) rfl))))
        (pss_one (ps_ret (pv 2)))))), ?_⟩
    refine fun l hl => ⟨szd rfl, fun c hc => ?_⟩
    have s1 : Same H (upd (upd H l (.dK [])) c (.lst [])) := (Same.new hl).trans (Same.new hc)
    have lc : l ≠ c := ne_fresh (H := upd H l (.dK [])) upd_same hc
    have cH : H c = none := Same.back (Same.new hl) hc
    refine ⟨_, rfl, r, _, rfl, s1.seq hS, for_it (walk_enum (K := K) (a := r) (xs := il row)) (fun i σ H' => (∃ v3 v4, σ = [some (.ref r), some (.ref l), some (.ref c), v3, v4]) ∧ Same H H' ∧ (∃ kvs : List (Key × V), H' l = some (.dK kvs) ∧ kvs.length ≤ i ∧ ∀ p, valV kvs (Sum.inl p) = lastV row i p) ∧
      ∃ as : List Addr, H' c = some (.lst (as.map V.ref)) ∧ PairsAt H' as (spellsTo row i))
      ⟨⟨_, _, rfl⟩, s1, ⟨[], by rw [upd_ne lc]; exact upd_same, Nat.le_refl _, fun p => rfl⟩, [], upd_same, PairsAt.nil⟩ (fun i σ H' _ h => h.2.1.seq hS) ?_ ?_⟩
    · rintro i x σ H1 H2 hi ⟨⟨v3, v4, rfl⟩, s2, ⟨kvs, hl1, hkl, hkv⟩, as, hc1, hp1⟩ ⟨t, x1, x2, rfl, ht, rfl, ha, hb⟩
      have ea : V.int (i : Nat) = x1 := Option.some.inj ha
      subst ea
      obtain ⟨p, hp, rfl⟩ := il_get hb
      rw [il_len] at hi
      have sT := Same.new (o := .tup [V.int (i : Nat), V.int p]) ht
      have hl2 := sT _ _ hl1
      have hc2 := sT _ _ hc1
      have hp2 := hp1.same sT
      have hal : as.length ≤ i := by rw [hp1.len]; exact spellsTo_le row i
      refine ⟨t, _, rfl, SqT.of upd_same, rfl, _, _, rfl, _, _, rfl, rfl, ?_⟩
      refine ⟨fun σ' H' => σ' = [some (.ref r), some (.ref l), some (.ref c), some (.int (i : Nat)), some (.int p)] ∧ Same H H' ∧ H' l = some (.dK kvs) ∧ ∃ as : List Addr, H' c = some (.lst (as.map V.ref)) ∧ PairsAt H' as (spellsTo row (i + 1)), ?_, ?_⟩
      · refine ⟨_, rfl, _, rfl, l, _, rfl, DGet.k (k := Sum.inl p) hl2, _, rfl, ?_⟩
        have e0 : spellsTo row (i + 1) = spellsTo row i ++ spellAt row i := rfl
        have e1 := spellAt_eq hp
        rw [e0, e1]
        have ev := hkv p
        unfold lastV at ev
        cases eb : lastB row p i with
        | none =>
          rw [eb] at ev
          refine ifF (by rw [ev]; rfl) ?_
          refine ⟨rfl, s2.trans sT, hl2, as, hc2, ?_⟩
          show PairsAt _ as (spellsTo row i ++ [])
          rw [List.append_nil]
          exact hp2
        | some b =>
          rw [eb] at ev
          refine ifT (by rw [ev]; rfl) ?_
          refine ⟨_, rfl, .inl ⟨rfl, _, SqL.of hc2⟩, _, rfl, _, rfl, l, V.int (b : Nat), rfl, (by have q := DGet.k (k := Sum.inl p) hl2; rw [ev] at q; exact q), _, rfl, szd rfl, fun q hq => ?_⟩
          have sQ := Same.new (o := .tup [V.int (b : Nat), V.int (i : Nat)]) hq
          have hc3 := sQ _ _ hc2
          refine ⟨c, _, _, rfl, rfl, hc3, szl (by rw [List.length_map]; omega), ?_⟩
          refine ⟨rfl, Same.put ((s2.trans sT).trans sQ) cH, ?_, as ++ [q], ?_, ?_⟩
          · rw [upd_ne lc]; exact sQ _ _ hl2
          · rw [upd_same, List.map_append]; rfl
          · exact ((hp2.same sQ).snoc (x := (b, i)) upd_same).put hc3 (by intro u z; cases z)
      · rintro σ' H' ⟨rfl, s3, hl3, as', hc3, hp3⟩
        refine ⟨_, rfl, _, rfl, _, rfl, l, _, rfl, DPut.k (k := Sum.inl p) hl3 (szl (by omega)), ?_⟩
        refine ⟨⟨_, _, rfl⟩, Same.put s3 hl, ⟨_, upd_same, ?_, fun q => ?_⟩, as', ?_, hp3.put hl3 (by intro u z; cases z)⟩
        · have := length_putK kvs (Sum.inl p) (V.int (i : Nat))
          omega
        · rw [valV_put]
          unfold lastV lastB
          by_cases e : p = q
          · subst e
            rw [if_pos rfl, if_pos hp]
            rfl
          · rw [if_neg (by intro z; injection z with z; exact e z.symm), if_neg (by intro z; rw [hp] at z; exact e (Option.some.inj z))]
            exact hkv q
        · rw [upd_ne (Ne.symm lc)]; exact hc3
    · rintro σ H' ⟨⟨v3, v4, rfl⟩, s2, _, as, hc1, hp1⟩
      rw [il_len] at hp1
      exact ⟨_, rfl, k c as H' cH s2 hc1 hp1⟩
end
end CK

/-! max(d.values()). -/
namespace CKZ
open PySem PySem.Spec PyProof.Rows L2
open PySem.Sem (wp)
variable {X : Cx}
/-- a dict of ints, one at least: the greatest -/
def tMaxVals (td : TE) : TE := fun σ H Q => td σ H fun x H1 => ∃ (a : Addr) (ds : List (Key × V)) (ns : List Int), x = V.ref a ∧ H1 a = some (.dK ds) ∧ ds.map (·.2) = ns.map V.int ∧ ns ≠ [] ∧ ∀ m, m ∈ ns → (∀ j ∈ ns, j ≤ m) → Q (.int m) H1
theorem pe_maxVals {o : Expr} {p pos apos mpos : Pos} {td : TE} (hc : X.calm = true) (hg : Gl X "max") (hm : X.mg "max" = none) (hd : PE X o td) (hb : attributeBase o "values" X.env (eval o X.env) = eval o X.env := by rfl) (hl : (apos.endLine == mpos.line) = true := by rfl)
    (hs : starEach [Expr.Call (.Attribute o "values" apos) [] [] mpos] X.env = [(false, eval (Expr.Call (.Attribute o "values" apos) [] [] mpos) X.env)] := by rfl) :
    PE X (.Call (.Name "max" p) [.Call (.Attribute o "values" apos) [] [] mpos] [] pos) (tMaxVals td) := by
  constructor; intro pins s σ H Q I h
  refine wpAny_Call_Name_kw (ld_blt I hg hm (u := .builtin "max") (by first | rfl | decide +kernel) ?_ (by first | decide +kernel | decide) (by first | decide +kernel | decide)); rw [hs]
  refine PySem.callWith_builtin1 (wpAny_Call_method0_late hb hl (thn (hd.run pins s σ H _ I h) fun v s1 ⟨x, H1, I1, r1, a, ds, ns, ex, ha, hv, hne, q⟩ => ?_))
  subst ex; obtain rfl : v = Value.ref a := r1
  obtain ⟨_, hsys, vs, rel, dof⟩ := dk_of I1.hok ha
  obtain ⟨ep, dat⟩ := dof.dictAt
  obtain ⟨ob, es, ho, ex, hdat, hko, hpr, hnd⟩ := id dat
  refine ⟨"dict", "dict.values", F.plainAttrs_dict, F.slot_dict_values, F.type_dict_values, ⟨ob, ho, ex.1⟩, fun b e => ?_, Calls.callWith_builtin rfl (PySem.evalArgs_none ?_)⟩
  · cases e; exact ⟨ob, ho, ex.2.1⟩
  refine call_meetsIn F.slot_dict_values ⟨ob, ho, ex.1⟩ F.entry_dict_values (F.args_dict_values_1 _) (meets_dict_values (mixKind X.prog X.w) a hsys) ⟨⟨vs, dof⟩, ?_⟩
  generalize eo : ({ cls := .type "dict_values", data := .fields #[.ref a] } : Obj) = vo
  have k1 : ∀ b u, s1.heap.get? b = some u → (s1.heap.push vo).get? b = some u := fun b u e => Heap.get?_push_of_some _ e
  have dat1 : (s1.heap.push vo).DictAt (mixKind X.prog X.w) a vs ep := dat.keep k1
  have hlv : vs.length = ns.length := by
    have e1 := congrArg List.length hv
    rw [List.length_map, List.length_map] at e1
    exact (KV.length rel).symm.trans e1
  have hpos : 0 < vs.length := by rw [hlv]; exact List.length_pos_iff.mpr hne
  have hval : ∀ (i : Nat) (v : Value), (∃ k, vs[i]? = some (k, v)) → ∃ t, v = Value.int (ns.getD i 0) t := fun i v ⟨k, hk⟩ => by
    obtain ⟨x, f1, f2⟩ := KV.at' rel hk
    have e1 : (ds.map (·.2))[i]? = some x := by rw [List.getElem?_map, f1] <;> rfl
    rw [hv, List.getElem?_map] at e1
    obtain ⟨j, hj, e2⟩ := Option.map_eq_some_iff.mp e1
    subst e2
    obtain ⟨t, e3⟩ := f2
    exact ⟨t, by rw [e3, List.getD_eq_getElem?_getD, hj] <;> rfl⟩
  have hlt : a < s1.heap.objs.size := Heap.lt_size ho
  have hsz : (s1.heap.push vo).objs.size = s1.heap.objs.size + 1 := Heap.size_push _ _
  refine call_max_walk (wpAny_pyIter_values (v := s1.heap.objs.size) (d := a) ⟨_, Heap.get?_push_size _ (by rw [← eo] <;> rfl), by rw [← eo], by rw [← eo]⟩ dat1 ?_)
  refine ⟨_, _, _, _, _, _, _, rfl, Walks.dictValues (knd := mixKind X.prog X.w) (A := X.A.in1) (I.ok.hd hc) (s1.heap.push vo).objs.size a (by rw [hsz]; exact Nat.ne_of_lt (Nat.lt_succ_of_lt hlt)) vs ep,
    ⟨⟨_, Heap.get?_push_size _ rfl, rfl, rfl⟩, dat1.keep fun b u e => Heap.get?_push_of_some _ e⟩, fun b hb => ?_, hpos, CmpOf.ints_gt (fun i => ns.getD i 0) hval, fun v h' tk hP hk => ?_⟩
  · show b < ((s1.heap.push _).push _).objs.size
    rw [Heap.size_push, Heap.size_push]
    rw [hsz] at hb
    rcases List.mem_cons.mp hb with e | hb
    · rw [e]; exact Nat.lt_succ_self _
    · rw [List.mem_singleton.mp hb]; exact Nat.lt_succ_of_lt (Nat.lt_succ_of_lt hlt)
  · obtain ⟨t, rfl⟩ := hval _ v hP
    obtain ⟨b1, b2⟩ := argBest_gt (fun i => ns.getD i 0) (vs.length - 1)
    refine ⟨.int _, H1, I1.kept (t' := tk) fun b u e => hk b u (fun hmem => ?_) (Heap.get?_push_of_some _ (k1 b u e)), ⟨t, rfl⟩, q _ ?_ fun j hj => ?_⟩
    · have e1 : b = (s1.heap.push vo).objs.size := List.mem_singleton.mp hmem
      have e2 := Heap.lt_size e
      rw [e1, hsz] at e2
      exact absurd e2 (Nat.not_lt.mpr (Nat.le_succ _))
    · have hb : argBest (fun i j => decide (ns.getD i 0 > ns.getD j 0)) (vs.length - 1) < ns.length := by omega
      rw [List.getD_eq_getElem?_getD, List.getElem?_eq_getElem hb]; exact List.getElem_mem hb
    · obtain ⟨i, hi, e⟩ := List.mem_iff_getElem.mp hj
      have e2 : ns.getD i 0 = j := by rw [List.getD_eq_getElem?_getD, List.getElem?_eq_getElem hi, ← e] <;> rfl
      rw [← e2]
      exact b2 i (by omega)
end CKZ

/-! The program's best. -/
namespace CK
open PySem PySem.Spec PyProof.Rows L2
def spFarthest : Sp := fun vs H Q _ => ∃ (d : Addr) (row : List Int) (i : Nat) (C : List Int), vs = [.ref d] ∧ H d = some (.dK (kvN row i C)) ∧ C ≠ [] ∧ C.length ≤ 1000 ∧
  ∀ H' : Hp, Same H H' → Q (.int (far row i C)) H'
/-- a new tuple of the places of the lacks, and of what was let go -/
def spFindBest (K : PySem.W.Frag) : Sp := fun vs H Q _ => ∃ (n : Int) (r : Addr) (row : List Int), vs = [.int n, .ref r] ∧ 1 ≤ n ∧ n ≤ 8 ∧ SqL K H r (il row) ∧ row.length ≤ 1000 ∧
  ∀ (t l g : Addr) (as : List Addr) (H' : Hp), H t = none → H l = none → H g = none → l ≠ g → Same H H' → H' t = some (.tup [.ref l, .ref g]) → H' l = some (.lst (NL (bestS n.toNat row).lacks)) → H' g = some (.lst (as.map V.ref)) → TupsAt H' as (gV (bestS n.toNat row).gone) → Q (.ref t) H'
def spBest (K : PySem.W.Frag) : Sp := fun vs H Q _ => ∃ (n : Int) (r : Addr) (row : List Int), vs = [.int n, .ref r] ∧ 1 ≤ n ∧ n ≤ 8 ∧ SqL K H r (il row) ∧ RowOk row ∧
  ∀ (t l g : Addr) (as : List Addr) (H' : Hp), H t = none → H l = none → H g = none → l ≠ g → Same H H' → H' t = some (.tup [.ref l, .ref g]) → H' l = some (.lst (NL (bestS n.toNat row).lacks)) → H' g = some (.lst (as.map V.ref)) → TupsAt H' as (gV (bestS n.toNat row).gone) → Q (.ref t) H'
theorem kvN_vals (row : List Int) (i : Nat) (C : List Int) : (kvN row i C).map (·.2) = (C.map fun y => ((nxt row y i : Nat) : Int)).map V.int := by
  unfold kvN
  rw [List.map_map, List.map_map]
  rfl
theorem pairs_kv {K : PySem.W.Frag} {H : Hp} : ∀ {as : List Addr} {xs : List (Nat × Nat)}, PairsAt H as xs → Paired (fun p kv => SqT K H p [kV kv.1, kv.2]) as (kvS xs)
  | [], [], _ => .nil
  | [], _ :: _, h => absurd h.len (by simp)
  | _ :: _, [], h => absurd h.len (by simp)
  | a :: as, x :: xs, h => .cons (SqT.of h.tail.1) (pairs_kv h.tail.2)
section
variable {P : Program} {w : World} {K : PySem.W.Frag} {mg : Str → Option Value} {base : Heap}
theorem sc_farthest : FnScope ["there", "farthest", "page"] ["there"] (defScope (top 26)) := ⟨rfl, rfl, rfl, by decide +kernel, rfl, by decide +kernel, by decide +kernel⟩
theorem ok_farthest (T : Prog K mg) : FnOk P w K mg base CX0 1 T.farthest.f T.farthest.fd ["there"] spFarthest := by
  refine T.farthest.fn.ok sc_farthest (fun vs H Q E h => ?len) (fun cdv A outer s H vs Q E hr h => ?body)
  case len =>
    obtain ⟨d, row, i, C, rfl, _⟩ := h
    rfl
  case body =>
    have hu := hu_of hr
    obtain ⟨d, row, i, C, rfl, hd, hC, hl, k⟩ := h
    refine ⟨_, PSs.nox (pss_cons (ps_set (i := 1) sc_farthest.nd rfl (Or.inr rfl) (CKZ.pe_maxVals rfl (by rfl) T.max (pv 0)))
        (pss_one (ps_ret (pe_callB (cr_min rfl) (by rfl) T.min (by decide +kernel) (pa_cons (pe_lock (pe_lc (own := [("page", 2)]) (g := gName 2) (tt := (tTest (tOp _ (tDGet (tVar 0) (tVar 2)) (tVar 1)))) (te := (tVar 2)) rfl sc_farthest.nd ((pi_keys (pv 0))) (blkOk_by (own := [("page", 2)]) (N := ["there", "farthest", "page"]) (sc := defScope (top 26)) (by decide +kernel)) (fun _ _ _ _ _ => (by exact (pg_name (i := 2) sc_farthest.nd rfl (Or.inl rfl)))) (fun _ _ _ _ _ => (by exact (pts_one (pt_cmpR op_eq (pe_dget hu (pv 0) (pv 2) (fun _ _ => rfl)) (pv 1) (nomark _))))) (fun _ _ _ _ _ => (by exact (pv 2))))) pa_nil))))), ?_⟩
    have F := far_ok (row := row) (i := i) hC
    have hmem : ((nxt row (far row i C) i : Nat) : Int) ∈ C.map fun y => ((nxt row y i : Nat) : Int) := List.mem_map.mpr ⟨_, F.mem, rfl⟩
    refine ⟨_, rfl, d, _, _, rfl, hd, kvN_vals row i C, by simpa using hC, fun m hm hmax => ?_⟩
    have em : m = ((nxt row (far row i C) i : Nat) : Int) := by
      obtain ⟨y, hy, e⟩ := List.mem_map.mp hm
      have h1 := hmax _ hmem
      have h2 := F.far y hy
      omega
    subst em
    -- [page for page in there if there[page] == farthest], the dict locked
    refine ⟨d, _, hd, trivial, fun od => ?_⟩
    have hd1 : upd H d (.frz od (.dK (kvN row i C))) d = some (.frz od (.dK (kvN row i C))) := upd_same
    refine ⟨_, rfl, d, od, rfl, .inl ⟨_, hd1, fun D hD => ?_⟩⟩
    have Dd : D ≠ d := by intro z; rw [z, upd_same] at hD; cases hD
    have hDH : H D = none := by rw [upd_ne Dd] at hD; exact hD
    have hlk : (kvN row i C).length = C.length := List.length_map _
    refine lc_it (walk_keys (d := d) (o := od) (kvs := kvN row i C)) (fun j H' => H' D = some (.lst (il ((C.take j).filter fun y => decide (nxt row y i = nxt row (far row i C) i)))) ∧ H' d = some (.frz od (.dK (kvN row i C))) ∧ ∀ c o, c ≠ d → H c = some o → H' c = some o) ?_ (fun j H' _ h => h.2.1) ?_ ?_
    · refine ⟨upd_same, by rw [upd_ne (Ne.symm Dd)]; exact hd1, fun c o h1 h2 => ?_⟩
      rw [upd_ne (ne_fresh h2 hDH), upd_ne h1]
      exact h2
    · rintro j x H1 H2 hj ⟨hD1, hd1, hk⟩ ⟨rfl, k0, v0, hkv, rfl⟩
      rw [hlk] at hj
      have ej : C[j]? = some (C[j]'hj) := List.getElem?_eq_getElem hj
      have ekv : (kvN row i C)[j]? = some (Sum.inl (C[j]'hj), V.int (nxt row (C[j]'hj) i : Nat)) := by
        unfold kvN
        rw [List.getElem?_map, ej]
        rfl
      have e1 := Option.some.inj (hkv.symm.trans ekv)
      have e2 : k0 = Sum.inl (C[j]'hj) := congrArg Prod.fst e1
      subst e2
      have hm := List.getElem_mem hj
      rw [take_snoc ej, List.filter_append]
      have hle := List.length_filter_le (fun y => decide (nxt row y i = nxt row (far row i C) i)) (C.take j)
      rw [List.length_take] at hle
      have hv : valV (kvN row i C) (Sum.inl (C[j]'hj)) = some (V.int (nxt row (C[j]'hj) i : Nat)) := by rw [kvN_val, if_pos hm]
      generalize C[j]'hj = y at *
      refine ⟨rfl, _, rfl, _, rfl, d, _, rfl, .inl ⟨_, Sum.inl y, .inr ⟨_, hd1⟩, rfl, hv.symm⟩, _, rfl, rfl, _, rfl, ?_⟩
      by_cases q : nxt row y i = nxt row (far row i C) i
      · refine ifT (decide_eq_true (by rw [q])) ⟨_, rfl, _, hD1, szl (by rw [il_len]; omega), ?_, ?_, fun c o h1 h2 => ?_⟩
        · rw [upd_same]
          show some (HO.lst (il _ ++ [V.int y])) = _
          rw [il_snoc]
          simp [q]
        · rw [upd_ne (Ne.symm Dd)]; exact hd1
        · rw [upd_ne (ne_fresh h2 hDH)]; exact hk c o h1 h2
      · refine ifF (decide_eq_false (by intro z; injection z with z; omega)) ⟨?_, hd1, hk⟩
        simpa [q] using hD1
    · rintro H1 ⟨hD1, hd1, hk⟩
      rw [hlk, List.take_length] at hD1
      refine ⟨hd1, ?_⟩
      have hDm : upd H1 d (.dK (kvN row i C)) D = some (.lst (il (C.filter fun y => decide (nxt row y i = nxt row (far row i C) i)))) := by rw [upd_ne Dd]; exact hD1
      have fm : far row i C ∈ C.filter fun y => decide (nxt row y i = nxt row (far row i C) i) := List.mem_filter.mpr ⟨F.mem, by simp⟩
      refine ⟨D, _, rfl, SqL.of hDm, List.length_pos_of_mem fm, fun m hm hmin => ?_⟩
      have e : m = far row i C := by
        have h1 := hmin _ fm
        have h2 := List.mem_filter.mp hm
        have h3 := F.least m h2.1 (by simpa using h2.2)
        omega
      rw [e]
      refine k _ fun c o hc => ?_
      by_cases z : c = d
      · rw [z] at hc ⊢
        rw [hd] at hc
        rw [upd_same]
        exact hc
      · rw [upd_ne z]
        exact hk c o z hc
theorem sc_find_best : FnScope ["rooms", "row", "next_asks", "there", "lacks", "gone", "place", "page", "leaving"] ["rooms", "row"] (defScope (top 25)) := ⟨rfl, rfl, rfl, by decide +kernel, rfl, by decide +kernel, by decide +kernel⟩
theorem ok_find_best (T : Prog K mg) : FnOk P w K mg base CX0 2 T.find_best.f T.find_best.fd ["rooms", "row"] (spFindBest K) := by
  have G_find_spells := ok_find_spells (P := P) (w := w) (base := base) T
  have G_farthest := ok_farthest (P := P) (w := w) (base := base) T
  refine T.find_best.fn.ok sc_find_best (fun vs H Q E h => ?len) (fun cdv A outer s H vs Q E hr h => ?body)
  case len =>
    obtain ⟨n, r, row, rfl, _⟩ := h
    rfl
  case body =>
    have hr_find_spells : Room 1 _ := hr.mono (by decide)
    have hr_farthest : Room 1 _ := hr.mono (by decide)
    have hu := hu_of hr
    obtain ⟨n, r, row, rfl, n1, n8, hS, hl, k⟩ := h
    refine ⟨_, PSs.nox (pss_cons (ps_set (i := 2) sc_find_best.nd rfl (Or.inl rfl) (pe_callTy (call_dictP rfl) (by rfl) T.dict_ (by decide +kernel) (pa_cons (pe_call G_find_spells hr_find_spells (by rfl) T.find_spells.g T.find_spells.fn.kp T.find_spells.bd .nil pass0 (pa_cons (pv 1) pa_nil)) pa_nil)))
        (pss_cons (ps_set (i := 3) sc_find_best.nd rfl (Or.inl rfl) pe_dnewK)
        (pss_cons (ps_set (i := 4) sc_find_best.nd rfl (Or.inl rfl) (pe_lst pa_nil))
        (pss_cons (ps_set (i := 5) sc_find_best.nd rfl (Or.inl rfl) (pe_lst pa_nil))
        (pss_cons (ps_for PassesOwn.never rfl (pi_enum (by rfl) T.enumerate (pa_cons (pv 1) pa_nil)) (pg_tup rfl (pgs_cons (pg_name (i := 6) sc_find_best.nd rfl (Or.inl rfl)) (pgs_cons (pg_name (i := 7) sc_find_best.nd rfl (Or.inl rfl)) pgs_nil)))
        (pss_cons (ps_if (pt_cmp (pc_dnotin hu (pv 7) (pv 3)))
        (pss_cons (ps_expr (pe_bm PySem.F.plainAttrs_list PySem.F.slot_list_append PySem.F.type_list_append mt_append (pv 4) (pa_cons (pv 6) pa_nil)))
        (pss_one (ps_if (pt_cmpR op_eq (pe_callB call_lenD (by rfl) T.len PySem.boot_len (pa_cons (pv 3) pa_nil)) (pv 0) (nomark _))
        (pss_cons (ps_set (i := 8) sc_find_best.nd rfl (Or.inl rfl) (pe_call G_farthest hr_farthest (by rfl) T.farthest.g T.farthest.fn.kp T.farthest.bd .nil pass0 (pa_cons (pv 3) pa_nil)))
        (pss_cons (ps_expr (pe_bm PySem.F.plainAttrs_list PySem.F.slot_list_append PySem.F.type_list_append mt_append (pv 5) (pa_cons (pe_tup (pa_cons (pv 6) (pa_cons (pv 8) pa_nil))) pa_nil)))
        (pss_one (ps_ddel (pv 3) (pv 8)))))
        pss_nil)))
        pss_nil)
        (pss_one (ps_dput hu (pv 3) (pv 7) (pe_dget2 hu (pv 2) (pv 6) (pe_callB call_len_seq (by rfl) T.len PySem.boot_len (pa_cons (pv 1) pa_nil)) ⟨rfl, rfl, rfl, rfl⟩) rfl))))
        (pss_one (ps_ret (pe_tup (pa_cons (pv 4) (pa_cons (pv 5) pa_nil)))))))))), ?_⟩
    have hn0 : 0 < n.toNat := by omega
    -- next_asks = dict(find_spells(row))
    refine ⟨_, rfl, r, row, rfl, hS, hl, fun s as0 H1 hs1 s1 hs hp0 => ?_⟩
    refine ⟨s, as0, kvS (spellsL row), rfl, SqL.of hs, pairs_kv hp0, fun nd hnd => ?_⟩
    have s2 := Same.new (o := .dK (mergeK [] (kvS (spellsL row)))) hnd
    -- there = {}; lacks = []; gone = []
    refine fun th hth => ?_
    have s3 := Same.new (o := .dK []) hth
    refine ⟨szd rfl, fun la hla => ?_⟩
    have s4 := Same.new (o := .lst []) hla
    refine ⟨szd rfl, fun go hgo => ?_⟩
    have s5 := Same.new (o := .lst []) hgo
    have s15 := (((s1.trans s2).trans s3).trans s4).trans s5
    have thH : H th = none := Same.back (s1.trans s2) hth
    have laH : H la = none := Same.back ((s1.trans s2).trans s3) hla
    have goH : H go = none := Same.back (((s1.trans s2).trans s3).trans s4) hgo
    have ndth : nd ≠ th := ne_fresh (H := upd H1 nd _) upd_same hth
    have ndla : nd ≠ la := ne_fresh (s3 _ _ (upd_same (H := H1) (a := nd))) hla
    have ndgo : nd ≠ go := ne_fresh (s4 _ _ (s3 _ _ (upd_same (H := H1) (a := nd)))) hgo
    have thla : th ≠ la := ne_fresh (H := upd _ th _) upd_same hla
    have thgo : th ≠ go := ne_fresh (s4 _ _ upd_same) hgo
    have lago : la ≠ go := ne_fresh (H := upd _ la _) upd_same hgo
    refine ⟨_, rfl, r, _, rfl, s15.seq hS, for_it (walk_enum (K := K) (a := r) (xs := il row)) (fun i σ H' => (∃ v6 v7 v8, σ = [some (.int n), some (.ref r), some (.ref nd), some (.ref th), some (.ref la), some (.ref go), v6, v7, v8]) ∧ Same H H' ∧ H' nd = some (.dK (mergeK [] (kvS (spellsL row)))) ∧ H' th = some (.dK (kvN row i (bestTo n.toNat row i).C)) ∧
      H' la = some (.lst (NL (bestTo n.toNat row i).lacks)) ∧ ∃ as : List Addr, H' go = some (.lst (as.map V.ref)) ∧ TupsAt H' as (gV (bestTo n.toNat row i).gone)) ?_ (fun i σ H' _ h => h.2.1.seq hS) ?_ ?_⟩
    · refine ⟨⟨_, _, _, rfl⟩, s15, ?_, ?_, ?_, [], upd_same, TupsAt.nil⟩
      · rw [upd_ne ndgo, upd_ne ndla, upd_ne ndth, upd_same]
      · rw [upd_ne thgo, upd_ne thla, upd_same]; rfl
      · rw [upd_ne lago, upd_same]; rfl
    · rintro i x σ H2 H3 hi ⟨⟨v6, v7, v8, rfl⟩, s6, hnd2, hth2, hla2, as, hgo2, hg2⟩ ⟨t, x1, x2, rfl, ht, rfl, ha, hb⟩
      have ea : V.int (i : Nat) = x1 := Option.some.inj ha
      subst ea
      obtain ⟨p, hp, rfl⟩ := il_get hb
      rw [il_len] at hi
      have sT := Same.new (o := .tup [V.int (i : Nat), V.int p]) ht
      have Ok := bestTo_ok hn0 row i
      rw [bestTo_succ hp]
      unfold BS.step
      generalize hB : bestTo n.toNat row i = B at *
      have o1 := Ok.le
      have o2 := Ok.lk
      have o3 := Ok.gn
      have s7 := s6.trans sT
      have hnd3 := sT _ _ hnd2
      have hth3 := sT _ _ hth2
      have hla3 := sT _ _ hla2
      have hgo3 := sT _ _ hgo2
      have hg3 := hg2.same sT
      have hal : as.length ≤ i := by rw [hg2.len, List.length_map]; exact o3
      generalize hH3 : upd H2 t (.tup [V.int (i : Nat), V.int p]) = H3 at *
      refine ⟨t, _, rfl, SqT.of (by rw [← hH3]; exact upd_same), rfl, _, _, rfl, _, _, rfl, rfl, ?_⟩
      -- there[page] = next_asks.get(place, len(row))
      have ge := next_get hp
      refine ⟨_, rfl, _, rfl, th, _, rfl, DGet.k (k := Sum.inl p) hth3, _, rfl, ?_⟩
      rw [kvN_val]
      by_cases hin : p ∈ B.C
      · refine ifF (by rw [if_pos hin]; rfl) ?_
        rw [if_pos hin]
        refine ⟨_, rfl, nd, rfl, .inl ⟨_, .inl hnd3⟩, _, rfl, _, rfl, r, _, rfl, .inl (s7.seq hS), _, DGet.k (k := Sum.inl (i : Int)) hnd3, ?_⟩
        rw [il_len, ge]
        refine ⟨_, rfl, _, rfl, th, _, rfl, DPut.k (k := Sum.inl p) hth3 (szl (by unfold kvN; rw [List.length_map]; omega)), ?_⟩
        rw [kvN_put hp hin]
        refine ⟨⟨_, _, _, rfl⟩, Same.put s7 thH, by rw [upd_ne ndth]; exact hnd3, upd_same, by rw [upd_ne (Ne.symm thla)]; exact hla3, as, by rw [upd_ne (Ne.symm thgo)]; exact hgo3, hg3.put hth3 (by intro u z; cases z)⟩
      · refine ifT (by rw [if_neg hin]; rfl) ?_
        rw [if_neg hin]
        -- lacks.append(place)
        refine ⟨_, rfl, .inl ⟨rfl, _, SqL.of hla3⟩, _, rfl, la, _, _, rfl, rfl, hla3, szl (by rw [List.length_map]; omega), ?_⟩
        rw [NL_snoc]
        have s8 : Same H (upd H3 la (.lst (NL (B.lacks ++ [i])))) := Same.put s7 laH
        have hth4 : upd H3 la (.lst (NL (B.lacks ++ [i]))) th = some (.dK (kvN row i B.C)) := by rw [upd_ne thla]; exact hth3
        have hnd4 : upd H3 la (.lst (NL (B.lacks ++ [i]))) nd = some (.dK (mergeK [] (kvS (spellsL row)))) := by rw [upd_ne ndla]; exact hnd3
        have hgo4 : upd H3 la (.lst (NL (B.lacks ++ [i]))) go = some (.lst (as.map V.ref)) := by rw [upd_ne (Ne.symm lago)]; exact hgo3
        have hg4 : TupsAt (upd H3 la (.lst (NL (B.lacks ++ [i])))) as (gV B.gone) := hg3.put hla3 (by intro u z; cases z)
        have hla4 : upd H3 la (.lst (NL (B.lacks ++ [i]))) la = some (.lst (NL (B.lacks ++ [i]))) := upd_same
        generalize hH4 : upd H3 la (.lst (NL (B.lacks ++ [i]))) = H4 at *
        -- if len(there) == rooms
        refine ⟨_, rfl, th, _, rfl, hth4, _, rfl, rfl, _, rfl, ?_⟩
        have elen : (kvN row i B.C).length = B.C.length := List.length_map _
        by_cases hfull : B.C.length = n.toNat
        · refine ifT (decide_eq_true (by rw [elen]; exact congrArg V.int (by omega))) ?_
          rw [if_pos hfull]
          have hne : B.C ≠ [] := by intro z; rw [z] at hfull; simp at hfull; omega
          have F := far_ok (row := row) (i := i) hne
          -- leaving = _farthest(there)
          refine ⟨_, rfl, th, row, i, B.C, rfl, hth4, hne, by omega, fun H5 s9 => ?_⟩
          generalize hfar : far row i B.C = f at *
          have hgo5 := s9 _ _ hgo4
          -- gone.append((place, leaving))
          refine ⟨_, rfl, .inl ⟨rfl, _, SqL.of hgo5⟩, _, rfl, _, rfl, szd rfl, fun u hu' => ?_⟩
          have sU := Same.new (o := .tup [V.int (i : Nat), V.int f]) hu'
          have hgo6 := sU _ _ hgo5
          refine ⟨go, _, _, rfl, rfl, hgo6, szl (by rw [List.length_map]; omega), ?_⟩
          have s10 : Same H (upd (upd H5 u (.tup [V.int (i : Nat), V.int f])) go (.lst (as.map V.ref ++ [V.ref u]))) := Same.put ((s8.trans s9).trans sU) goH
          have hth6 : upd (upd H5 u (.tup [V.int (i : Nat), V.int f])) go (.lst (as.map V.ref ++ [V.ref u])) th = some (.dK (kvN row i B.C)) := by rw [upd_ne thgo]; exact (s9.trans sU) _ _ hth4
          have hnd6 : upd (upd H5 u (.tup [V.int (i : Nat), V.int f])) go (.lst (as.map V.ref ++ [V.ref u])) nd = some (.dK (mergeK [] (kvS (spellsL row)))) := by rw [upd_ne ndgo]; exact (s9.trans sU) _ _ hnd4
          have hla6 : upd (upd H5 u (.tup [V.int (i : Nat), V.int f])) go (.lst (as.map V.ref ++ [V.ref u])) la = some (.lst (NL (B.lacks ++ [i]))) := by rw [upd_ne lago]; exact (s9.trans sU) _ _ hla4
          have hgo7 : upd (upd H5 u (.tup [V.int (i : Nat), V.int f])) go (.lst (as.map V.ref ++ [V.ref u])) go = some (.lst ((as ++ [u]).map V.ref)) := by rw [upd_same, List.map_append]; rfl
          have hg6 : TupsAt (upd (upd H5 u (.tup [V.int (i : Nat), V.int f])) go (.lst (as.map V.ref ++ [V.ref u]))) (as ++ [u]) (gV (B.gone ++ [(i, f)])) := by
            rw [gV_snoc]
            exact ((hg4.same (s9.trans sU)).snoc (t := u) upd_same).put hgo6 (by intro u z; cases z)
          generalize hH6 : upd (upd H5 u (.tup [V.int (i : Nat), V.int f])) go (.lst (as.map V.ref ++ [V.ref u])) = H6 at *
          -- del there[leaving]
          refine ⟨_, rfl, _, rfl, th, _, Sum.inl f, rfl, hth6, rfl, by rw [kvN_val, if_pos F.mem]; rfl, ?_⟩
          rw [kvN_drop]
          have s11 : Same H (upd H6 th (.dK (kvN row i (B.C.filter (· != f))))) := Same.put s10 thH
          have hnd7 : upd H6 th (.dK (kvN row i (B.C.filter (· != f)))) nd = some (.dK (mergeK [] (kvS (spellsL row)))) := by rw [upd_ne ndth]; exact hnd6
          have hin2 : p ∉ B.C.filter (· != f) := fun z => hin (List.mem_filter.mp z).1
          have hfl := List.length_filter_le (· != f) B.C
          refine ⟨_, rfl, nd, rfl, .inl ⟨_, .inl hnd7⟩, _, rfl, _, rfl, r, _, rfl, .inl (s11.seq hS), _, DGet.k (k := Sum.inl (i : Int)) hnd7, ?_⟩
          rw [il_len, ge]
          refine ⟨_, rfl, _, rfl, th, _, rfl, DPut.k (k := Sum.inl p) upd_same (szl (by unfold kvN; rw [List.length_map]; omega)), ?_⟩
          rw [kvN_new hp hin2, upd_upd]
          exact ⟨⟨_, _, _, rfl⟩, Same.put s10 thH, by rw [upd_ne ndth]; exact hnd6, upd_same, by rw [upd_ne (Ne.symm thla)]; exact hla6, as ++ [u], by rw [upd_ne (Ne.symm thgo)]; exact hgo7, hg6.put hth6 (by intro u z; cases z)⟩
        · refine ifF (decide_eq_false (by intro z; injection z with z; rw [elen] at z; omega)) ?_
          rw [if_neg hfull]
          refine ⟨_, rfl, nd, rfl, .inl ⟨_, .inl hnd4⟩, _, rfl, _, rfl, r, _, rfl, .inl (s8.seq hS), _, DGet.k (k := Sum.inl (i : Int)) hnd4, ?_⟩
          rw [il_len, ge]
          refine ⟨_, rfl, _, rfl, th, _, rfl, DPut.k (k := Sum.inl p) hth4 (szl (by unfold kvN; rw [List.length_map]; omega)), ?_⟩
          rw [kvN_new hp hin]
          exact ⟨⟨_, _, _, rfl⟩, Same.put s8 thH, by rw [upd_ne ndth]; exact hnd4, upd_same, by rw [upd_ne (Ne.symm thla)]; exact hla4, as, by rw [upd_ne (Ne.symm thgo)]; exact hgo4, hg4.put hth4 (by intro u z; cases z)⟩
    · rintro σ H2 ⟨⟨v6, v7, v8, rfl⟩, s6, hnd2, hth2, hla2, as, hgo2, hg2⟩
      rw [il_len] at hla2 hg2
      refine ⟨_, rfl, _, rfl, szd rfl, fun t ht => ?_⟩
      have sT := Same.new (o := .tup [V.ref la, V.ref go]) ht
      exact k t la go as _ (Same.back s6 ht) laH goH lago (s6.trans sT) upd_same (sT _ _ hla2) (sT _ _ hgo2) (hg2.same sT)
theorem sc_best : FnScope ["rooms", "row"] ["rooms", "row"] (defScope (top 24)) := ⟨rfl, rfl, rfl, by decide +kernel, rfl, by decide +kernel, by decide +kernel⟩
theorem ok_best (T : Prog K mg) : FnOk P w K mg base CX0 3 T.best.f T.best.fd ["rooms", "row"] (spBest K) := by
  have G_check_rooms := ok_check_rooms (P := P) (w := w) (base := base) T
  have G_check_row := ok_check_row (P := P) (w := w) (base := base) T
  have G_find_best := ok_find_best (P := P) (w := w) (base := base) T
  refine T.best.fn.ok sc_best (fun vs H Q E h => ?len) (fun cdv A outer s H vs Q E hr h => ?body)
  case len =>
    obtain ⟨n, r, row, rfl, _⟩ := h
    rfl
  case body =>
    have hr_check_rooms : Room 1 _ := hr.mono (by decide)
    have hr_check_row : Room 2 _ := hr.mono (by decide)
    have hr_find_best : Room 2 _ := hr.mono (by decide)
    have hu := hu_of hr
    obtain ⟨n, r, row, rfl, n1, n8, hS, hR, k⟩ := h
    refine ⟨_, PSs.nox (pss_cons (ps_expr (pe_call G_check_rooms hr_check_rooms (by rfl) T.check_rooms.g T.check_rooms.fn.kp T.check_rooms.bd .nil pass0 (pa_cons (pv 0) pa_nil)))
        (pss_cons (ps_expr (pe_call G_check_row hr_check_row (by rfl) T.check_row.g T.check_row.fn.kp T.check_row.bd .nil pass0 (pa_cons (pv 1) pa_nil)))
        (pss_one (ps_ret (pe_call G_find_best hr_find_best (by rfl) T.find_best.g T.find_best.fn.kp T.find_best.bd .nil pass0 (pa_cons (pv 0) (pa_cons (pv 1) pa_nil))))))), ?_⟩
    have hR1 := hR.1
    refine ⟨_, rfl, n, rfl, n1, n8, ?_⟩
    refine ⟨_, rfl, r, row, rfl, hS, hR, fun H1 s1 => ?_⟩
    exact ⟨_, rfl, _, rfl, n, r, row, rfl, n1, n8, s1.seq hS, by omega, fun t l g as H2 ht hl hg lg s2 e1 e2 e3 e4 => k t l g as H2 (Same.back s1 ht) (Same.back s1 hl) (Same.back s1 hg) lg (s1.trans s2) e1 e2 e3 e4⟩
end
end CK

/-! What best tells, as data. -/
namespace CK
open PySem PySem.Spec PyProof.Rows L2
def gdp (x : Nat × Int) : PyData := .tuple [.int (x.1 : Nat), .int x.2]
def gds (xs : List (Nat × Int)) : PyData := .list (xs.map gdp)
theorem dp_goneAll {K : PySem.W.Frag} {H : Hp} : ∀ {as : List Addr} {xs : List (Nat × Int)}, TupsAt H as (gV xs) → DpAll K H (as.map V.ref) (xs.map gdp)
  | [], [], _ => .nil
  | [], _ :: _, h => absurd h.len (by simp)
  | _ :: _, [], h => absurd h.len (by simp)
  | a :: as, x :: xs, h => .cons (.tup (SqT.of h.tail.1) (.cons (.int _) (.cons (.int _) .nil))) (dp_goneAll h.tail.2)
theorem dp_gone {K : PySem.W.Frag} {H : Hp} {d : Addr} {as : List Addr} {xs : List (Nat × Int)} (e : SqL K H d (as.map V.ref)) (h : TupsAt H as (gV xs)) : Dp K H (.ref d) (gds xs) := .lst e (dp_goneAll h)
theorem depAll_gone : ∀ xs : List (Nat × Int), PyData.depthAll (xs.map gdp) ≤ 1
  | [] => Nat.zero_le _
  | x :: xs => Nat.max_le.mpr ⟨Nat.le_refl _, depAll_gone xs⟩
theorem depth_gds (xs : List (Nat × Int)) : (gds xs).depth ≤ 2 := Nat.succ_le_succ (depAll_gone xs)
theorem small_goneAll : ∀ xs : List (Nat × Int), smallAll (xs.map gdp)
  | [] => trivial
  | _ :: xs => ⟨⟨by show 2 ≤ 1000; decide, trivial, trivial, trivial⟩, small_goneAll xs⟩
theorem small_gds {xs : List (Nat × Int)} (h : xs.length ≤ 1000) : smallD (gds xs) := ⟨by rw [List.length_map]; exact h, small_goneAll xs⟩
/-- what best tells of a row -/
noncomputable def bestD (n : Nat) (row : List Int) : PyData := .tuple [pd ((bestS n row).lacks.map fun n : Nat => (n : Int)), gds (bestS n row).gone]
theorem dp_best {K : PySem.W.Frag} {H : Hp} {t l g : Addr} {as : List Addr} {n : Nat} {row : List Int} (e1 : H t = some (.tup [.ref l, .ref g])) (e2 : H l = some (.lst (NL (bestS n row).lacks))) (e3 : H g = some (.lst (as.map V.ref))) (e4 : TupsAt H as (gV (bestS n row).gone)) : Dp K H (.ref t) (bestD n row) := by
  rw [NL_il] at e2
  exact .tup (SqT.of e1) (.cons (dp_il (SqL.of e2)) (.cons (dp_gone (SqL.of e3) e4) .nil))
theorem depth_best (n : Nat) (row : List Int) : (bestD n row).depth ≤ 3 := by
  have q1 := depth_pd ((bestS n row).lacks.map fun n : Nat => (n : Int))
  have q2 := depth_gds (bestS n row).gone
  show max (PyData.depth _) (max (PyData.depth _) 0) + 1 ≤ 3
  omega
theorem bestS_le {n : Nat} (hn : 0 < n) (row : List Int) : (bestS n row).lacks.length ≤ row.length ∧ (bestS n row).gone.length ≤ row.length := ⟨(bestTo_ok hn row _).lk, (bestTo_ok hn row _).gn⟩
theorem small_best {n : Nat} (hn : 0 < n) {row : List Int} (h : row.length ≤ 1000) : smallD (bestD n row) := by
  have ⟨h1, h2⟩ := bestS_le hn row
  exact ⟨by show 2 ≤ 1000; decide, small_pd (by rw [List.length_map]; omega), small_gds (by omega), trivial⟩
end CK

/-! Data whose lists are one's own. -/
namespace CK
open PySem PySem.Spec PyProof.Rows L2 CKD
mutual
inductive FD (N : Addr → Prop) (H : Hp) : V → PyData → Prop where
  | non : FD N H .non .none
  | bl (b : Bool) : FD N H (.bl b) (.bool b)
  | int (i : Int) : FD N H (.int i) (.int i)
  | lst {a : Addr} {xs : List V} {ds : List PyData} (n : N a) (h : H a = some (.lst xs)) (t : FDs N H xs ds) : FD N H (.ref a) (.list ds)
  | tup {a : Addr} {xs : List V} {ds : List PyData} (h : H a = some (.tup xs)) (t : FDs N H xs ds) : FD N H (.ref a) (.tuple ds)
inductive FDs (N : Addr → Prop) (H : Hp) : List V → List PyData → Prop where
  | nil : FDs N H [] []
  | cons {x : V} {d : PyData} {xs : List V} {ds : List PyData} (h : FD N H x d) (t : FDs N H xs ds) : FDs N H (x :: xs) (d :: ds)
end
mutual
theorem FD.keep {N N' : Addr → Prop} {H H' : Hp} (hk : ∀ c o, H c = some o → (N c ∨ ∃ us, o = .tup us) → H' c = some o) (hN : ∀ c o, H c = some o → N c → N' c) : ∀ {x : V} {d : PyData}, FD N H x d → FD N' H' x d
  | _, _, .non => .non
  | _, _, .bl b => .bl b
  | _, _, .int i => .int i
  | _, _, .lst n h t => .lst (hN _ _ h n) (hk _ _ h (.inl n)) (FDs.keep hk hN t)
  | _, _, .tup h t => .tup (hk _ _ h (.inr ⟨_, rfl⟩)) (FDs.keep hk hN t)
theorem FDs.keep {N N' : Addr → Prop} {H H' : Hp} (hk : ∀ c o, H c = some o → (N c ∨ ∃ us, o = .tup us) → H' c = some o) (hN : ∀ c o, H c = some o → N c → N' c) : ∀ {xs : List V} {ds : List PyData}, FDs N H xs ds → FDs N' H' xs ds
  | _, _, .nil => .nil
  | _, _, .cons h t => .cons (FD.keep hk hN h) (FDs.keep hk hN t)
end
theorem FD.same {N N' : Addr → Prop} {H H' : Hp} {x : V} {d : PyData} (h : FD N H x d) (s : Same H H') (hN : ∀ c, N c → N' c) : FD N' H' x d := h.keep (fun c o e _ => s _ _ e) (fun c o _ n => hN c n)
mutual
theorem FD.dp {K : PySem.W.Frag} {N : Addr → Prop} {H : Hp} : ∀ {x : V} {d : PyData}, FD N H x d → Dp K H x d
  | _, _, .non => .non
  | _, _, .bl b => .bl b
  | _, _, .int i => .int i
  | _, _, .lst _ h t => .lst (SqL.of h) (FDs.dp t)
  | _, _, .tup h t => .tup (SqT.of h) (FDs.dp t)
theorem FDs.dp {K : PySem.W.Frag} {N : Addr → Prop} {H : Hp} : ∀ {xs : List V} {ds : List PyData}, FDs N H xs ds → DpAll K H xs ds
  | _, _, .nil => .nil
  | _, _, .cons h t => .cons (FD.dp h) (FDs.dp t)
end
mutual
theorem FD.one {N : Addr → Prop} {H : Hp} : ∀ {d d' : PyData} {x : V}, FD N H x d → FD N H x d' → d = d'
  | _, _, _, .non, .non => rfl
  | _, _, _, .bl _, .bl _ => rfl
  | _, _, _, .int _, .int _ => rfl
  | _, _, _, .lst _ h t, .lst _ h' t' => by
    have e := h.symm.trans h'
    cases e
    rw [FDs.one t t']
  | _, _, _, .lst _ h _, .tup h' _ => by cases h.symm.trans h'
  | _, _, _, .tup h _, .lst _ h' _ => by cases h.symm.trans h'
  | _, _, _, .tup h t, .tup h' t' => by
    have e := h.symm.trans h'
    cases e
    rw [FDs.one t t']
theorem FDs.one {N : Addr → Prop} {H : Hp} : ∀ {ds ds' : List PyData} {xs : List V}, FDs N H xs ds → FDs N H xs ds' → ds = ds'
  | _, _, _, .nil, .nil => rfl
  | _, _, _, .cons h t, .cons h' t' => by rw [FD.one h h', FDs.one t t']
end
theorem FDs.len {N : Addr → Prop} {H : Hp} : ∀ {xs : List V} {ds : List PyData}, FDs N H xs ds → xs.length = ds.length
  | _, _, .nil => rfl
  | _, _, .cons _ t => congrArg Nat.succ t.len
theorem FDs.at_ {N : Addr → Prop} {H : Hp} : ∀ {xs : List V} {ds : List PyData} {i : Nat} {x : V}, FDs N H xs ds → xs[i]? = some x → ∃ d, ds[i]? = some d ∧ FD N H x d
  | _, _, i, x, .nil, h => by simp at h
  | _, _, 0, x, .cons h t, e => ⟨_, rfl, by cases Option.some.inj e; exact h⟩
  | _, _, i + 1, x, .cons h t, e => by
    obtain ⟨d, h1, h2⟩ := t.at_ (i := i) e
    exact ⟨d, h1, h2⟩
theorem FDs.snoc {N : Addr → Prop} {H : Hp} : ∀ {xs : List V} {ds : List PyData} {x : V} {d : PyData}, FDs N H xs ds → FD N H x d → FDs N H (xs ++ [x]) (ds ++ [d])
  | _, _, _, _, .nil, h => .cons h .nil
  | _, _, _, _, .cons a t, h => .cons a (t.snoc h)
theorem FDs.app {N : Addr → Prop} {H : Hp} : ∀ {xs ys : List V} {ds es : List PyData}, FDs N H xs ds → FDs N H ys es → FDs N H (xs ++ ys) (ds ++ es)
  | _, _, _, _, .nil, h => h
  | _, _, _, _, .cons a t, h => .cons a (t.app h)
mutual
/-- how many lists -/
def cl : PyData → Nat
  | .list ds => 1 + cls ds
  | .tuple ds => cls ds
  | _ => 0
def cls : List PyData → Nat
  | [] => 0
  | d :: r => cl d + cls r
end
theorem cls_take : ∀ {ds : List PyData} {i : Nat} {d : PyData}, ds[i]? = some d → cls (ds.take (i + 1)) = cls (ds.take i) + cl d
  | [], _, _, h => by simp at h
  | a :: r, 0, d, h => by
    cases Option.some.inj h
    show cl a + cls [] = cls [] + cl a
    simp [cls]
  | a :: r, i + 1, d, h => by
    show cl a + cls (r.take (i + 1)) = cl a + cls (r.take i) + cl d
    rw [cls_take (ds := r) (i := i) h]
    omega
theorem cls_le : ∀ (ds : List PyData) (i : Nat), cls (ds.take i) ≤ cls ds
  | [], i => by simp
  | a :: r, 0 => Nat.zero_le _
  | a :: r, i + 1 => by
    show cl a + cls (r.take i) ≤ cl a + cls r
    have := cls_le r i
    omega
/-- the lists have grown by noughts -/
structure Gr (N : Addr → Prop) (H0 H : Hp) (B : Nat) : Prop where
  ls : ∀ c xs ds, FD N H0 (.ref c) (.list ds) → H0 c = some (.lst xs) → ∃ m, m ≤ B ∧ H c = some (.lst (xs ++ List.replicate m (.int 0)))
  ot : ∀ c o, (¬ ∃ ds, FD N H0 (.ref c) (.list ds)) → H0 c = some o → H c = some o
theorem Gr.refl (N : Addr → Prop) (H : Hp) : Gr N H H 0 := ⟨fun c xs ds _ h => ⟨0, Nat.le_refl _, by simpa using h⟩, fun c o _ h => h⟩
theorem Gr.mono {N : Addr → Prop} {H0 H : Hp} {B B' : Nat} (g : Gr N H0 H B) (h : B ≤ B') : Gr N H0 H B' := ⟨fun c xs ds a b => by
  obtain ⟨m, h1, h2⟩ := g.ls c xs ds a b
  exact ⟨m, by omega, h2⟩, g.ot⟩
theorem Gr.tup {N : Addr → Prop} {H0 H : Hp} {B : Nat} (g : Gr N H0 H B) {c : Addr} {us : List V} (h : H0 c = some (.tup us)) : H c = some (.tup us) := g.ot c _ (fun ⟨ds, z⟩ => by
  cases z with
  | lst _ h' _ => cases h.symm.trans h') h
/-- what the spoiling leaves -/
theorem Gr.left {N : Addr → Prop} {H H' : Hp} {B : Nat} (g : Gr N H H' B) : ∀ c o, H c = some o → (¬ N c ∨ ∃ us, o = .tup us) → H' c = some o := by
  intro c o h q
  rcases q with q | ⟨us, rfl⟩
  · refine g.ot c o (fun ⟨ds, z⟩ => ?_) h
    cases z with
    | lst n _ _ => exact q n
  · exact g.tup h
/-! ### what the program makes, as one's own -/
theorem fd_nl {N : Addr → Prop} {H : Hp} : ∀ (l : List Nat), FDs N H (NL l) (l.map fun n : Nat => PyData.int (n : Int))
  | [] => .nil
  | n :: r => .cons (.int n) (fd_nl r)
theorem fd_il {N : Addr → Prop} {H : Hp} : ∀ (l : List Int), FDs N H (il l) (l.map PyData.int)
  | [] => .nil
  | n :: r => .cons (.int n) (fd_il r)
theorem fd_bl {N : Addr → Prop} {H : Hp} : ∀ (l : List Bool), FDs N H (BL l) (l.map PyData.bool)
  | [] => .nil
  | n :: r => .cons (.bl n) (fd_bl r)
theorem fd_o {N : Addr → Prop} {H : Hp} (o : Option Int) : FD N H (pgV o) (pdO o) := by
  cases o with
  | none => exact .non
  | some p => exact .int p
theorem fd_hl {N : Addr → Prop} {H : Hp} : ∀ (l : List (Option Int)), FDs N H (HL l) (l.map pdO)
  | [] => .nil
  | n :: r => .cons (fd_o n) (fd_hl r)
theorem fd_pairs {N : Addr → Prop} {H : Hp} : ∀ {as : List Addr} {xs : List (Nat × Nat)}, PairsAt H as xs → FDs N H (as.map V.ref) (xs.map pdp)
  | [], [], _ => .nil
  | [], _ :: _, h => absurd h.len (by simp)
  | _ :: _, [], h => absurd h.len (by simp)
  | a :: as, x :: xs, h => .cons (.tup h.tail.1 (.cons (.int _) (.cons (.int _) .nil))) (fd_pairs h.tail.2)
theorem fd_gone {N : Addr → Prop} {H : Hp} : ∀ {as : List Addr} {xs : List (Nat × Int)}, TupsAt H as (gV xs) → FDs N H (as.map V.ref) (xs.map gdp)
  | [], [], _ => .nil
  | [], _ :: _, h => absurd h.len (by simp)
  | _ :: _, [], h => absurd h.len (by simp)
  | a :: as, x :: xs, h => .cons (.tup h.tail.1 (.cons (.int _) (.cons (.int _) .nil))) (fd_gone h.tail.2)
theorem fd_tells {N : Addr → Prop} {H : Hp} : ∀ {as : List Addr} {xs : List (Bool × Option Int × List Nat)}, as.length = xs.length →
    (∀ (i : Nat) (a : Addr) (x : Bool × Option Int × List Nat), as[i]? = some a → xs[i]? = some x → ∃ l : Addr, N l ∧ H a = some (.tup [.bl x.1, pgV x.2.1, .ref l]) ∧ H l = some (.lst (NL x.2.2))) → FDs N H (as.map V.ref) (xs.map pdT)
  | [], [], _, _ => .nil
  | [], _ :: _, h, _ => by cases h
  | _ :: _, [], h, _ => by cases h
  | a :: as, x :: xs, h, k => by
    obtain ⟨l, h0, h1, h2⟩ := k 0 a x rfl rfl
    exact .cons (.tup h1 (.cons (.bl _) (.cons (fd_o _) (.cons (.lst h0 h2 (fd_nl _)) .nil)))) (fd_tells (Nat.succ.inj h) fun i b y hb hy => k (i + 1) b y hb hy)
end CK

/-! Copies, and spoiling. -/
namespace CK
open PySem PySem.Spec PyProof.Rows L2 CKD
abbrev Fr (H : Hp) : Addr → Prop := fun c => H c = none
def spKept (K : PySem.W.Frag) (n : Nat) : Sp := fun vs H Q _ => ∃ (N : Addr → Prop) (x : V) (d : PyData), vs = [x] ∧ FD N H x d ∧ d.depth < n ∧ smallD d ∧ ∀ (y : V) (H' : Hp), Same H H' → FD (Fr H) H' y d → Q y H'
theorem lt_any {K : PySem.W.Frag} {T : String} {b1 b2 : Bool} (h1 : PySem.W.kitOne K (.type T) (.type "list") = some b1) (h2 : PySem.W.kitOne K (.type T) (.type "tuple") = some b2) : PySem.W.kitAny K (.type T) [.type "list", .type "tuple"] = some (b1 || b2) := by
  cases b1 with
  | true => exact kitAny_cons h1 (fun z => by cases z) (fun _ => rfl)
  | false =>
    refine kitAny_cons h1 (fun _ => ?_) (fun z => by cases z)
    cases b2 with
    | true => exact kitAny_cons h2 (fun z => by cases z) (fun _ => rfl)
    | false => exact kitAny_cons h2 (fun _ => rfl) (fun z => by cases z)
theorem lt_cls : Paired ClsV [V.ty "list", V.ty "tuple"] [Value.type "list", Value.type "tuple"] := .cons (.ty _) (.cons (.ty _) .nil)
section
variable {P : Program} {w : World} {K : PySem.W.Frag} {mg : Str → Option Value} {base : Heap}
theorem sc_law_kept : FnScope ["_law_found", "_law_parts", "_law_one"] ["_law_found"] (defScope (top 56)) := ⟨rfl, rfl, rfl, by decide +kernel, rfl, by decide +kernel, by decide +kernel⟩
theorem ok_law_kept (T : Prog K mg) (n : Nat) (G_law_kept : FnOk P w K mg base CX0 n T.law_kept.f T.law_kept.fd ["_law_found"] (spKept K n)) : FnOk P w K mg base CX0 (n + 1) T.law_kept.f T.law_kept.fd ["_law_found"] (spKept K (n + 1)) := by
  refine T.law_kept.fn.ok sc_law_kept (fun vs H Q E h => ?len) (fun cdv A outer s H vs Q E hr h => ?body)
  case len =>
    obtain ⟨N, x, d, rfl, _⟩ := h
    rfl
  case body =>
    have hu := hu_of hr
    have hr_law_kept : Room n _ := hr
    obtain ⟨N, x, d, rfl, dx, hn, hsm, k⟩ := h

    cases dx with
    | @lst a xs ds na ha hall =>
      refine ⟨_, PSs.nox (pss_cons (ps_if (pt_val (pe_callB call_isiT (by rfl) T.isinstance (by decide +kernel) (pa_cons (pv 0) (pa_cons (pe_tup (pa_cons (pe_bltn (v := L2.V.ty "list") (by rfl) T.list_ (by decide +kernel) rfl) (pa_cons (pe_bltn (v := L2.V.ty "tuple") (by rfl) T.tuple_ (by decide +kernel) rfl) pa_nil))) pa_nil))))
        (pss_cons (ps_setLc (i := 1) (own := [("_law_one", 2)]) (g := gName 2) rfl sc_law_kept.nd rfl rfl (sw_true rfl rfl rfl (by decide +kernel)) ((pi_list (pv 0))) (blkOk_by (own := [("_law_one", 2)]) (N := ["_law_found", "_law_parts", "_law_one"]) (sc := defScope (top 56)) (by decide +kernel)) (fun _ _ _ _ _ => (by exact (pg_name (i := 2) sc_law_kept.nd rfl (Or.inl rfl)))) (fun _ _ _ _ _ => (by exact pts_nil)) (fun _ _ _ _ _ => (by exact (pe_call G_law_kept hr_law_kept (by rfl) T.law_kept.g T.law_kept.fn.kp T.law_kept.bd .nil pass0 (pa_cons (pv 2) pa_nil)))))
        (pss_one (ps_ret (pe_ifExp (pt_val (pe_callB call_isi (by rfl) T.isinstance (by decide +kernel) (pa_cons (pv 0) (pa_cons (pe_bltn (v := L2.V.ty "tuple") (by rfl) T.tuple_ (by decide +kernel) rfl) pa_nil)))) (pe_callTy call_tuple_of (by rfl) T.tuple_ (by decide +kernel) (pa_cons (pv 1) pa_nil)) (pv 1)))))
        pss_nil)
        (pss_one (ps_ret (pv 0)))), ?_⟩
      refine ⟨_, rfl, szd rfl, fun t ht => ⟨_, t, _, _, _, _, rfl, upd_same, lt_cls, ty_list (SqL.of (Same.new ht _ _ ha)), lt_any (kit_ty (r := true) (by decide +kernel)) (kit_ty (r := false) (by decide +kernel)), _, rfl, ?_⟩⟩
      have s1 := Same.new (o := .tup [V.ty "list", V.ty "tuple"]) ht
      refine ifT rfl ?_
      have e1 := hall.len
      have hl : ds.length ≤ 1000 := hsm.1
      refine ⟨_, rfl, a, rfl, ⟨_, SqL.of (s1 _ _ ha)⟩, fun D hD => ?_⟩
      have hDH : H D = none := Same.back s1 hD
      refine lc_list (K := K) (a := a) (xs := xs) (fun i H' => Same H H' ∧ ∃ ys, H' D = some (.lst ys) ∧ ys.length = i ∧ FDs (fun c => H c = none ∧ c ≠ D) H' ys (ds.take i)) ⟨s1.trans (Same.new hD), [], upd_same, rfl, .nil⟩ (fun i H' _ h => SqL.of (h.1 _ _ ha)) ?_ ?_
      · rintro i x H2 hx ⟨s2, ys, hD2, hyl, fy⟩
        have hi : i < ds.length := by rw [← e1]; exact (List.getElem?_eq_some_iff.mp hx).1
        obtain ⟨d', f2, f3⟩ := hall.at_ hx
        have hdep : d'.depth < n := by
          have h1 := dep_at f2
          have h2 : PyData.depthAll ds + 1 < n + 1 := hn
          omega
        rw [take_snoc f2]
        refine ⟨rfl, _, rfl, N, x, d', rfl, f3.same s2 (fun c q => q), hdep, small_at hsm.2 f2, fun y H3 s3 fd => ?_⟩
        refine ⟨ys, s3 _ _ hD2, szl (by omega), Same.put (s2.trans s3) hDH, ys ++ [y], upd_same, by rw [List.length_append, hyl]; rfl, ?_⟩
        have dy : ∀ {N : Addr → Prop}, (∀ c, N c → c ≠ D) → ∀ c o, H3 c = some o → (N c ∨ ∃ us, o = .tup us) → upd H3 D (.lst (ys ++ [y])) c = some o := fun hN c o e q => by
          have ne : c ≠ D := by
            rcases q with q | ⟨us, rfl⟩
            · exact hN c q
            · intro z
              rw [z, s3 _ _ hD2] at e
              cases e
          rw [upd_ne ne]
          exact e
        have a1 := fy.keep (N' := fun c => H c = none ∧ c ≠ D) (H' := H3) (fun c o e _ => s3 _ _ e) (fun c o _ q => q)
        have a2 := fd.keep (N' := fun c => H c = none ∧ c ≠ D) (H' := H3) (fun c o e _ => e) (fun c o _ q => ⟨Same.back s2 q, fun z => by rw [z] at q; rw [show H2 D = none from q] at hD2; cases hD2⟩)
        exact (a1.snoc a2).keep (dy fun c q => q.2) (fun c o _ q => q)
      · rintro H2 ⟨s2, ys, hD2, hyl, fy⟩
        rw [List.take_of_length_le (by omega)] at fy
        refine ⟨_, rfl, _, _, _, _, _, rfl, .ty _, ty_list (SqL.of (s2 _ _ ha)), kit_ty (r := false) (by decide +kernel), _, rfl, ?_⟩
        refine ifF rfl ⟨_, rfl, k _ H2 s2 (.lst hDH hD2 (fy.keep (fun c o e _ => e) (fun c o _ q => q.1)))⟩
    | @tup a xs ds ha hall =>
      refine ⟨_, PSs.nox (pss_cons (ps_if (pt_val (pe_callB call_isiT (by rfl) T.isinstance (by decide +kernel) (pa_cons (pv 0) (pa_cons (pe_tup (pa_cons (pe_bltn (v := L2.V.ty "list") (by rfl) T.list_ (by decide +kernel) rfl) (pa_cons (pe_bltn (v := L2.V.ty "tuple") (by rfl) T.tuple_ (by decide +kernel) rfl) pa_nil))) pa_nil))))
        (pss_cons (ps_setLc (i := 1) (own := [("_law_one", 2)]) (g := gName 2) rfl sc_law_kept.nd rfl rfl (sw_true rfl rfl rfl (by decide +kernel)) ((pi_tup (pv 0))) (blkOk_by (own := [("_law_one", 2)]) (N := ["_law_found", "_law_parts", "_law_one"]) (sc := defScope (top 56)) (by decide +kernel)) (fun _ _ _ _ _ => (by exact (pg_name (i := 2) sc_law_kept.nd rfl (Or.inl rfl)))) (fun _ _ _ _ _ => (by exact pts_nil)) (fun _ _ _ _ _ => (by exact (pe_call G_law_kept hr_law_kept (by rfl) T.law_kept.g T.law_kept.fn.kp T.law_kept.bd .nil pass0 (pa_cons (pv 2) pa_nil)))))
        (pss_one (ps_ret (pe_ifExp (pt_val (pe_callB call_isi (by rfl) T.isinstance (by decide +kernel) (pa_cons (pv 0) (pa_cons (pe_bltn (v := L2.V.ty "tuple") (by rfl) T.tuple_ (by decide +kernel) rfl) pa_nil)))) (pe_callTy call_tuple_of (by rfl) T.tuple_ (by decide +kernel) (pa_cons (pv 1) pa_nil)) (pv 1)))))
        pss_nil)
        (pss_one (ps_ret (pv 0)))), ?_⟩
      refine ⟨_, rfl, szd rfl, fun t ht => ⟨_, t, _, _, _, _, rfl, upd_same, lt_cls, ty_tup (SqT.of (Same.new ht _ _ ha)), lt_any (kit_ty (r := false) (by decide +kernel)) (kit_ty (r := true) (by decide +kernel)), _, rfl, ?_⟩⟩
      have s1 := Same.new (o := .tup [V.ty "list", V.ty "tuple"]) ht
      refine ifT rfl ?_
      have e1 := hall.len
      have hl : ds.length ≤ 1000 := hsm.1
      refine ⟨_, rfl, a, rfl, ⟨_, SqT.of (s1 _ _ ha)⟩, fun D hD => ?_⟩
      have hDH : H D = none := Same.back s1 hD
      refine lc_tup (K := K) (a := a) (xs := xs) (fun i H' => Same H H' ∧ ∃ ys, H' D = some (.lst ys) ∧ ys.length = i ∧ FDs (fun c => H c = none ∧ c ≠ D) H' ys (ds.take i)) ⟨s1.trans (Same.new hD), [], upd_same, rfl, .nil⟩ (fun i H' _ h => SqT.of (h.1 _ _ ha)) ?_ ?_
      · rintro i x H2 hx ⟨s2, ys, hD2, hyl, fy⟩
        have hi : i < ds.length := by rw [← e1]; exact (List.getElem?_eq_some_iff.mp hx).1
        obtain ⟨d', f2, f3⟩ := hall.at_ hx
        have hdep : d'.depth < n := by
          have h1 := dep_at f2
          have h2 : PyData.depthAll ds + 1 < n + 1 := hn
          omega
        rw [take_snoc f2]
        refine ⟨rfl, _, rfl, N, x, d', rfl, f3.same s2 (fun c q => q), hdep, small_at hsm.2 f2, fun y H3 s3 fd => ?_⟩
        refine ⟨ys, s3 _ _ hD2, szl (by omega), Same.put (s2.trans s3) hDH, ys ++ [y], upd_same, by rw [List.length_append, hyl]; rfl, ?_⟩
        have dy : ∀ {N : Addr → Prop}, (∀ c, N c → c ≠ D) → ∀ c o, H3 c = some o → (N c ∨ ∃ us, o = .tup us) → upd H3 D (.lst (ys ++ [y])) c = some o := fun hN c o e q => by
          have ne : c ≠ D := by
            rcases q with q | ⟨us, rfl⟩
            · exact hN c q
            · intro z
              rw [z, s3 _ _ hD2] at e
              cases e
          rw [upd_ne ne]
          exact e
        have a1 := fy.keep (N' := fun c => H c = none ∧ c ≠ D) (H' := H3) (fun c o e _ => s3 _ _ e) (fun c o _ q => q)
        have a2 := fd.keep (N' := fun c => H c = none ∧ c ≠ D) (H' := H3) (fun c o e _ => e) (fun c o _ q => ⟨Same.back s2 q, fun z => by rw [z] at q; rw [show H2 D = none from q] at hD2; cases hD2⟩)
        exact (a1.snoc a2).keep (dy fun c q => q.2) (fun c o _ q => q)
      · rintro H2 ⟨s2, ys, hD2, hyl, fy⟩
        rw [List.take_of_length_le (by omega)] at fy
        refine ⟨_, rfl, _, _, _, _, _, rfl, .ty _, ty_tup (SqT.of (s2 _ _ ha)), kit_ty (r := true) (by decide +kernel), _, rfl, ?_⟩
        refine ifT rfl ⟨_, rfl, D, _, rfl, .inl ⟨SqL.of hD2, fun l hl => ?_⟩⟩
        have sl := Same.new (o := .tup ys) hl
        exact k _ _ (s2.trans sl) (.tup upd_same (fy.keep (fun c o e _ => sl _ _ e) (fun c o _ q => q.1)))
    | non =>
      refine ⟨_, PSs.nox (pss_cons (ps_if (pt_val (pe_callB call_isiT (by rfl) T.isinstance (by decide +kernel) (pa_cons (pv 0) (pa_cons (pe_tup (pa_cons (pe_bltn (v := L2.V.ty "list") (by rfl) T.list_ (by decide +kernel) rfl) (pa_cons (pe_bltn (v := L2.V.ty "tuple") (by rfl) T.tuple_ (by decide +kernel) rfl) pa_nil))) pa_nil))))
        (pss_cons (ps_setLc (i := 1) (own := [("_law_one", 2)]) (g := gName 2) rfl sc_law_kept.nd rfl rfl (sw_true rfl rfl rfl (by decide +kernel)) ((pi_list (pv 0))) (blkOk_by (own := [("_law_one", 2)]) (N := ["_law_found", "_law_parts", "_law_one"]) (sc := defScope (top 56)) (by decide +kernel)) (fun _ _ _ _ _ => (by exact (pg_name (i := 2) sc_law_kept.nd rfl (Or.inl rfl)))) (fun _ _ _ _ _ => (by exact pts_nil)) (fun _ _ _ _ _ => (by exact (pe_call G_law_kept hr_law_kept (by rfl) T.law_kept.g T.law_kept.fn.kp T.law_kept.bd .nil pass0 (pa_cons (pv 2) pa_nil)))))
        (pss_one (ps_ret (pe_ifExp (pt_val (pe_callB call_isi (by rfl) T.isinstance (by decide +kernel) (pa_cons (pv 0) (pa_cons (pe_bltn (v := L2.V.ty "tuple") (by rfl) T.tuple_ (by decide +kernel) rfl) pa_nil)))) (pe_callTy call_tuple_of (by rfl) T.tuple_ (by decide +kernel) (pa_cons (pv 1) pa_nil)) (pv 1)))))
        pss_nil)
        (pss_one (ps_ret (pv 0)))), ?_⟩
      refine ⟨_, rfl, szd rfl, fun t ht => ⟨_, t, _, _, _, _, rfl, upd_same, lt_cls, .base .non, lt_any (kit_ty (r := false) (by decide +kernel)) (kit_ty (r := false) (by decide +kernel)), _, rfl, ?_⟩⟩
      exact ifF rfl ⟨_, rfl, k _ _ (Same.new ht) .non⟩
    | bl c =>
      refine ⟨_, PSs.nox (pss_cons (ps_if (pt_val (pe_callB call_isiT (by rfl) T.isinstance (by decide +kernel) (pa_cons (pv 0) (pa_cons (pe_tup (pa_cons (pe_bltn (v := L2.V.ty "list") (by rfl) T.list_ (by decide +kernel) rfl) (pa_cons (pe_bltn (v := L2.V.ty "tuple") (by rfl) T.tuple_ (by decide +kernel) rfl) pa_nil))) pa_nil))))
        (pss_cons (ps_setLc (i := 1) (own := [("_law_one", 2)]) (g := gName 2) rfl sc_law_kept.nd rfl rfl (sw_true rfl rfl rfl (by decide +kernel)) ((pi_list (pv 0))) (blkOk_by (own := [("_law_one", 2)]) (N := ["_law_found", "_law_parts", "_law_one"]) (sc := defScope (top 56)) (by decide +kernel)) (fun _ _ _ _ _ => (by exact (pg_name (i := 2) sc_law_kept.nd rfl (Or.inl rfl)))) (fun _ _ _ _ _ => (by exact pts_nil)) (fun _ _ _ _ _ => (by exact (pe_call G_law_kept hr_law_kept (by rfl) T.law_kept.g T.law_kept.fn.kp T.law_kept.bd .nil pass0 (pa_cons (pv 2) pa_nil)))))
        (pss_one (ps_ret (pe_ifExp (pt_val (pe_callB call_isi (by rfl) T.isinstance (by decide +kernel) (pa_cons (pv 0) (pa_cons (pe_bltn (v := L2.V.ty "tuple") (by rfl) T.tuple_ (by decide +kernel) rfl) pa_nil)))) (pe_callTy call_tuple_of (by rfl) T.tuple_ (by decide +kernel) (pa_cons (pv 1) pa_nil)) (pv 1)))))
        pss_nil)
        (pss_one (ps_ret (pv 0)))), ?_⟩
      refine ⟨_, rfl, szd rfl, fun t ht => ⟨_, t, _, _, _, _, rfl, upd_same, lt_cls, .base (.bl _), lt_any (kit_ty (r := false) (by decide +kernel)) (kit_ty (r := false) (by decide +kernel)), _, rfl, ?_⟩⟩
      exact ifF rfl ⟨_, rfl, k _ _ (Same.new ht) (.bl c)⟩
    | int i =>
      refine ⟨_, PSs.nox (pss_cons (ps_if (pt_val (pe_callB call_isiT (by rfl) T.isinstance (by decide +kernel) (pa_cons (pv 0) (pa_cons (pe_tup (pa_cons (pe_bltn (v := L2.V.ty "list") (by rfl) T.list_ (by decide +kernel) rfl) (pa_cons (pe_bltn (v := L2.V.ty "tuple") (by rfl) T.tuple_ (by decide +kernel) rfl) pa_nil))) pa_nil))))
        (pss_cons (ps_setLc (i := 1) (own := [("_law_one", 2)]) (g := gName 2) rfl sc_law_kept.nd rfl rfl (sw_true rfl rfl rfl (by decide +kernel)) ((pi_list (pv 0))) (blkOk_by (own := [("_law_one", 2)]) (N := ["_law_found", "_law_parts", "_law_one"]) (sc := defScope (top 56)) (by decide +kernel)) (fun _ _ _ _ _ => (by exact (pg_name (i := 2) sc_law_kept.nd rfl (Or.inl rfl)))) (fun _ _ _ _ _ => (by exact pts_nil)) (fun _ _ _ _ _ => (by exact (pe_call G_law_kept hr_law_kept (by rfl) T.law_kept.g T.law_kept.fn.kp T.law_kept.bd .nil pass0 (pa_cons (pv 2) pa_nil)))))
        (pss_one (ps_ret (pe_ifExp (pt_val (pe_callB call_isi (by rfl) T.isinstance (by decide +kernel) (pa_cons (pv 0) (pa_cons (pe_bltn (v := L2.V.ty "tuple") (by rfl) T.tuple_ (by decide +kernel) rfl) pa_nil)))) (pe_callTy call_tuple_of (by rfl) T.tuple_ (by decide +kernel) (pa_cons (pv 1) pa_nil)) (pv 1)))))
        pss_nil)
        (pss_one (ps_ret (pv 0)))), ?_⟩
      refine ⟨_, rfl, szd rfl, fun t ht => ⟨_, t, _, _, _, _, rfl, upd_same, lt_cls, .base (.int _), lt_any (kit_ty (r := false) (by decide +kernel)) (kit_ty (r := false) (by decide +kernel)), _, rfl, ?_⟩⟩
      exact ifF rfl ⟨_, rfl, k _ _ (Same.new ht) (.int i)⟩
theorem ok_kept (T : Prog K mg) : ∀ n : Nat, FnOk P w K mg base CX0 n T.law_kept.f T.law_kept.fd ["_law_found"] (spKept K n)
  | 0 => ⟨fun vs H Q E ⟨N, x, d, e, _⟩ => by rw [e]; rfl, fun A outer s H args us vs Q E _ _ _ _ ⟨N, x, d, _, _, h, _⟩ => absurd h (Nat.not_lt_zero _)⟩
  | n + 1 => ok_law_kept T n (ok_kept T n)
end
end CK

/-! Spoiling. -/
namespace CK
open PySem PySem.Spec PyProof.Rows L2 CKD
theorem Gr.step {N : Addr → Prop} {H0 H H' : Hp} {B : Nat} (g : Gr N H0 H B) (s : Same H H') : Gr N H0 H' B := ⟨fun c xs ds a b => by
  obtain ⟨m, h1, h2⟩ := g.ls c xs ds a b
  exact ⟨m, h1, s _ _ h2⟩, fun c o a b => s _ _ (g.ot c o a b)⟩
/-- only lists of data at most so deep are touched -/
def Rk (N : Addr → Prop) (H0 : Hp) (k : Nat) (H H' : Hp) : Prop := ∀ c o, H c = some o → (∀ ds, FD N H0 (.ref c) (.list ds) → k < (PyData.list ds).depth) → H' c = some o
theorem Rk.mono {N : Addr → Prop} {H0 H H' : Hp} {k j : Nat} (r : Rk N H0 k H H') (h : k ≤ j) : Rk N H0 j H H' := fun c o e q => r c o e fun ds f => Nat.lt_of_le_of_lt h (q ds f)
theorem Rk.trans {N : Addr → Prop} {H0 H H' H'' : Hp} {k : Nat} (r : Rk N H0 k H H') (r' : Rk N H0 k H' H'') : Rk N H0 k H H'' := fun c o e q => r' c o (r c o e q) q
theorem Rk.of {N : Addr → Prop} {H0 H H' : Hp} {k : Nat} (s : Same H H') : Rk N H0 k H H' := fun c o e _ => s _ _ e
theorem rep_at {m i : Nat} {x : V} (h : (List.replicate m (V.int 0))[i]? = some x) : x = .int 0 := List.eq_of_mem_replicate (List.mem_of_getElem? h)
def spSpoil (K : PySem.W.Frag) (n : Nat) : Sp := fun vs H Q _ => ∃ (N : Addr → Prop) (H0 : Hp) (x : V) (d : PyData) (B : Nat), vs = [x] ∧ FD N H0 x d ∧ d.depth < n ∧ smallD d ∧ Gr N H0 H B ∧ B + cl d ≤ 10000 ∧
  ∀ H' : Hp, Gr N H0 H' (B + cl d) → Rk N H0 d.depth H H' → Q .non H'
section
variable {P : Program} {w : World} {K : PySem.W.Frag} {mg : Str → Option Value} {base : Heap}
theorem sc_law_spoil : FnScope ["_law_found", "_law_part"] ["_law_found"] (defScope (top 57)) := ⟨rfl, rfl, rfl, by decide +kernel, rfl, by decide +kernel, by decide +kernel⟩
theorem ok_law_spoil (T : Prog K mg) (n : Nat) (G_law_spoil : FnOk P w K mg base CX0 n T.law_spoil.f T.law_spoil.fd ["_law_found"] (spSpoil K n)) : FnOk P w K mg base CX0 (n + 1) T.law_spoil.f T.law_spoil.fd ["_law_found"] (spSpoil K (n + 1)) := by
  refine T.law_spoil.fn.ok sc_law_spoil (fun vs H Q E h => ?len) (fun cdv A outer s H vs Q E hr h => ?body)
  case len =>
    obtain ⟨N, H0, x, d, B, rfl, _⟩ := h
    rfl
  case body =>
    have hu := hu_of hr
    have hr_law_spoil : Room n _ := hr
    obtain ⟨N, H0, x, d, B, rfl, dx, hn, hsm, g, hB, k⟩ := h

    cases dx with
    | @lst a xs ds na ha hall =>
      have dx : FD N H0 (.ref a) (.list ds) := .lst na ha hall
      refine ⟨_, PSs.nox (pss_cons (ps_if (pt_val (pe_callB call_isiT (by rfl) T.isinstance (by decide +kernel) (pa_cons (pv 0) (pa_cons (pe_tup (pa_cons (pe_bltn (v := L2.V.ty "list") (by rfl) T.list_ (by decide +kernel) rfl) (pa_cons (pe_bltn (v := L2.V.ty "tuple") (by rfl) T.tuple_ (by decide +kernel) rfl) pa_nil))) pa_nil))))
        (pss_one (ps_for PassesOwn.never rfl (pi_list (pv 0)) (pg_name (i := 1) sc_law_spoil.nd rfl (Or.inl rfl))
        (pss_one (ps_expr (pe_call G_law_spoil hr_law_spoil (by rfl) T.law_spoil.g T.law_spoil.fn.kp T.law_spoil.bd .nil pass0 (pa_cons (pv 1) pa_nil))))))
        pss_nil)
        (pss_one (ps_if (pt_val (pe_callB call_isi (by rfl) T.isinstance (by decide +kernel) (pa_cons (pv 0) (pa_cons (pe_bltn (v := L2.V.ty "list") (by rfl) T.list_ (by decide +kernel) rfl) pa_nil))))
        (pss_one (ps_expr (pe_bm PySem.F.plainAttrs_list PySem.F.slot_list_append PySem.F.type_list_append mt_append (pv 0) (pa_cons pe_int pa_nil))))
        pss_nil))), ?_⟩
      obtain ⟨m, hmB, haH⟩ := g.ls a xs ds dx ha
      have ecl : cl (.list ds) = 1 + cls ds := rfl
      have e1 := hall.len
      have hl : ds.length ≤ 1000 := hsm.1
      have edp : (PyData.list ds).depth = PyData.depthAll ds + 1 := rfl
      refine ⟨_, rfl, szd rfl, fun t ht => ⟨_, t, _, _, _, _, rfl, upd_same, lt_cls, ty_list (SqL.of (Same.new ht _ _ haH)), lt_any (kit_ty (r := true) (by decide +kernel)) (kit_ty (r := false) (by decide +kernel)), _, rfl, ?_⟩⟩
      have s1 := Same.new (o := .tup [V.ty "list", V.ty "tuple"]) ht
      refine ifT rfl ?_
      have ha1 := s1 _ _ haH
      have aup : ∀ ds', FD N H0 (.ref a) (.list ds') → PyData.depthAll ds < (PyData.list ds').depth := fun ds' f => by
        rw [← dx.one f, edp]
        exact Nat.lt_succ_self _
      refine ⟨_, rfl, a, rfl, ⟨_, SqL.of ha1⟩, for_list (K := K) (a := a) (xs := xs ++ List.replicate m (V.int 0)) (fun i σ H' => (∃ v, σ = [some (.ref a), v]) ∧ Gr N H0 H' (B + cls (ds.take i)) ∧ H' a = some (.lst (xs ++ List.replicate m (V.int 0))) ∧ Rk N H0 (PyData.depthAll ds) H H') ⟨⟨_, rfl⟩, by rw [List.take_zero]; exact g.step s1, ha1, Rk.of s1⟩ (fun i σ H' _ h => SqL.of h.2.2.1) ?_ ?_⟩
      · rintro i y σ H2 hy ⟨⟨v, rfl⟩, g2, ha2, r2⟩
        by_cases hi : i < xs.length
        · rw [List.getElem?_append_left hi] at hy
          obtain ⟨d', f2, f3⟩ := hall.at_ hy
          have hdep := dep_at f2
          have hdn : d'.depth < n := by
            have h2 : PyData.depthAll ds + 1 < n + 1 := hn
            omega
          have ec := cls_take f2
          have el := cls_le ds (i + 1)
          rw [ecl] at hB
          refine ⟨_, rfl, N, H0, y, d', _, rfl, f3, hdn, small_at hsm.2 f2, g2, by omega, fun H3 g3 r3 => ?_⟩
          refine ⟨⟨_, rfl⟩, ?_, ?_, r2.trans (r3.mono hdep)⟩
          · rw [ec, ← Nat.add_assoc]; exact g3
          · exact r3 _ _ ha2 fun ds' f => Nat.lt_of_le_of_lt hdep (aup ds' f)
        · rw [List.getElem?_append_right (by omega)] at hy
          have ey := rep_at hy
          subst ey
          have hd0 : (PyData.int 0).depth = 0 := rfl
          have c0 : cl (PyData.int 0) = 0 := rfl
          have el := cls_le ds i
          have et : ds.take (i + 1) = ds.take i := by rw [List.take_of_length_le (by omega), List.take_of_length_le (by omega)]
          have hn0 : 0 < n := by
            have h2 : PyData.depthAll ds + 1 < n + 1 := hn
            omega
          rw [ecl] at hB
          refine ⟨_, rfl, N, H0, .int 0, .int 0, _, rfl, .int 0, hn0, trivial, g2, by rw [c0]; omega, fun H3 g3 r3 => ?_⟩
          refine ⟨⟨_, rfl⟩, by rw [et]; exact g3, r3 _ _ ha2 fun ds' f => Nat.lt_of_le_of_lt (Nat.zero_le _) (aup ds' f), r2.trans (r3.mono (Nat.zero_le _))⟩
      · rintro σ H2 ⟨⟨v, rfl⟩, g2, ha2, r2⟩
        rw [List.take_of_length_le (by rw [List.length_append]; omega)] at g2
        refine ⟨_, rfl, _, _, _, _, _, rfl, .ty _, ty_list (SqL.of ha2), kit_ty (r := true) (by decide +kernel), _, rfl, ?_⟩
        refine ifT rfl ⟨_, rfl, .inl ⟨rfl, _, SqL.of ha2⟩, a, _, _, rfl, rfl, ha2, szl (by rw [List.length_append, List.length_replicate]; omega), ?_⟩
        refine k _ ⟨fun c ys es f hc => ?_, fun c o f hc => ?_⟩ fun c o hc q => ?_
        · by_cases e : c = a
          · subst e
            have ex := ha.symm.trans hc
            cases ex
            refine ⟨m + 1, by rw [ecl]; omega, ?_⟩
            rw [upd_same, List.append_assoc, List.replicate_succ']
          · obtain ⟨j, h1, h2⟩ := g2.ls c ys es f hc
            exact ⟨j, by rw [ecl]; omega, by rw [upd_ne e]; exact h2⟩
        · have e : c ≠ a := fun z => f ⟨ds, by rw [z]; exact dx⟩
          rw [upd_ne e]
          exact g2.ot c o f hc
        · have e : c ≠ a := fun z => by
            have := q ds (by rw [z]; exact dx)
            omega
          rw [upd_ne e]
          exact r2 c o hc fun ds' f => by
            have := q ds' f
            omega
    | @tup a xs ds ha hall =>
      refine ⟨_, PSs.nox (pss_cons (ps_if (pt_val (pe_callB call_isiT (by rfl) T.isinstance (by decide +kernel) (pa_cons (pv 0) (pa_cons (pe_tup (pa_cons (pe_bltn (v := L2.V.ty "list") (by rfl) T.list_ (by decide +kernel) rfl) (pa_cons (pe_bltn (v := L2.V.ty "tuple") (by rfl) T.tuple_ (by decide +kernel) rfl) pa_nil))) pa_nil))))
        (pss_one (ps_for PassesOwn.never rfl (pi_tup (pv 0)) (pg_name (i := 1) sc_law_spoil.nd rfl (Or.inl rfl))
        (pss_one (ps_expr (pe_call G_law_spoil hr_law_spoil (by rfl) T.law_spoil.g T.law_spoil.fn.kp T.law_spoil.bd .nil pass0 (pa_cons (pv 1) pa_nil))))))
        pss_nil)
        (pss_one (ps_if (pt_val (pe_callB call_isi (by rfl) T.isinstance (by decide +kernel) (pa_cons (pv 0) (pa_cons (pe_bltn (v := L2.V.ty "list") (by rfl) T.list_ (by decide +kernel) rfl) pa_nil))))
        (pss_one (ps_expr (pe_bm PySem.F.plainAttrs_list PySem.F.slot_list_append PySem.F.type_list_append mt_append (pv 0) (pa_cons pe_int pa_nil))))
        pss_nil))), ?_⟩
      have haH := g.tup ha
      have ecl : cl (.tuple ds) = cls ds := rfl
      have e1 := hall.len
      have hl : ds.length ≤ 1000 := hsm.1
      refine ⟨_, rfl, szd rfl, fun t ht => ⟨_, t, _, _, _, _, rfl, upd_same, lt_cls, ty_tup (SqT.of (Same.new ht _ _ haH)), lt_any (kit_ty (r := false) (by decide +kernel)) (kit_ty (r := true) (by decide +kernel)), _, rfl, ?_⟩⟩
      have s1 := Same.new (o := .tup [V.ty "list", V.ty "tuple"]) ht
      refine ifT rfl ?_
      have ha1 := s1 _ _ haH
      refine ⟨_, rfl, a, rfl, ⟨_, SqT.of ha1⟩, for_tup (K := K) (a := a) (xs := xs) (fun i σ H' => (∃ v, σ = [some (.ref a), v]) ∧ Gr N H0 H' (B + cls (ds.take i)) ∧ Rk N H0 (PyData.depthAll ds) H H') ⟨⟨_, rfl⟩, by rw [List.take_zero]; exact g.step s1, Rk.of s1⟩ (fun i σ H' _ h => SqT.of (h.2.1.tup ha)) ?_ ?_⟩
      · rintro i y σ H2 hy ⟨⟨v, rfl⟩, g2, r2⟩
        obtain ⟨d', f2, f3⟩ := hall.at_ hy
        have hdep := dep_at f2
        have hdn : d'.depth < n := by
          have h2 : PyData.depthAll ds + 1 < n + 1 := hn
          omega
        have ec := cls_take f2
        have el := cls_le ds (i + 1)
        rw [ecl] at hB
        refine ⟨_, rfl, N, H0, y, d', _, rfl, f3, hdn, small_at hsm.2 f2, g2, by omega, fun H3 g3 r3 => ?_⟩
        refine ⟨⟨_, rfl⟩, ?_, r2.trans (r3.mono hdep)⟩
        rw [ec, ← Nat.add_assoc]
        exact g3
      · rintro σ H2 ⟨⟨v, rfl⟩, g2, r2⟩
        rw [List.take_of_length_le (by omega)] at g2
        refine ⟨_, rfl, _, _, _, _, _, rfl, .ty _, ty_tup (SqT.of (g2.tup ha)), kit_ty (r := false) (by decide +kernel), _, rfl, ?_⟩
        exact ifF rfl (k _ g2 (r2.mono (Nat.le_succ _)))
    | non =>
      refine ⟨_, PSs.nox (pss_cons (ps_if (pt_val (pe_callB call_isiT (by rfl) T.isinstance (by decide +kernel) (pa_cons (pv 0) (pa_cons (pe_tup (pa_cons (pe_bltn (v := L2.V.ty "list") (by rfl) T.list_ (by decide +kernel) rfl) (pa_cons (pe_bltn (v := L2.V.ty "tuple") (by rfl) T.tuple_ (by decide +kernel) rfl) pa_nil))) pa_nil))))
        (pss_one (ps_for PassesOwn.never rfl (pi_list (pv 0)) (pg_name (i := 1) sc_law_spoil.nd rfl (Or.inl rfl))
        (pss_one (ps_expr (pe_call G_law_spoil hr_law_spoil (by rfl) T.law_spoil.g T.law_spoil.fn.kp T.law_spoil.bd .nil pass0 (pa_cons (pv 1) pa_nil))))))
        pss_nil)
        (pss_one (ps_if (pt_val (pe_callB call_isi (by rfl) T.isinstance (by decide +kernel) (pa_cons (pv 0) (pa_cons (pe_bltn (v := L2.V.ty "list") (by rfl) T.list_ (by decide +kernel) rfl) pa_nil))))
        (pss_one (ps_expr (pe_bm PySem.F.plainAttrs_list PySem.F.slot_list_append PySem.F.type_list_append mt_append (pv 0) (pa_cons pe_int pa_nil))))
        pss_nil))), ?_⟩
      refine ⟨_, rfl, szd rfl, fun t ht => ⟨_, t, _, _, _, _, rfl, upd_same, lt_cls, .base .non, lt_any (kit_ty (r := false) (by decide +kernel)) (kit_ty (r := false) (by decide +kernel)), _, rfl, ?_⟩⟩
      refine ifF rfl ⟨_, rfl, _, _, _, _, _, rfl, .ty _, .base .non, kit_ty (r := false) (by decide +kernel), _, rfl, ?_⟩
      exact ifF rfl (k _ (g.step (Same.new ht)) (Rk.of (Same.new ht)))
    | bl c =>
      refine ⟨_, PSs.nox (pss_cons (ps_if (pt_val (pe_callB call_isiT (by rfl) T.isinstance (by decide +kernel) (pa_cons (pv 0) (pa_cons (pe_tup (pa_cons (pe_bltn (v := L2.V.ty "list") (by rfl) T.list_ (by decide +kernel) rfl) (pa_cons (pe_bltn (v := L2.V.ty "tuple") (by rfl) T.tuple_ (by decide +kernel) rfl) pa_nil))) pa_nil))))
        (pss_one (ps_for PassesOwn.never rfl (pi_list (pv 0)) (pg_name (i := 1) sc_law_spoil.nd rfl (Or.inl rfl))
        (pss_one (ps_expr (pe_call G_law_spoil hr_law_spoil (by rfl) T.law_spoil.g T.law_spoil.fn.kp T.law_spoil.bd .nil pass0 (pa_cons (pv 1) pa_nil))))))
        pss_nil)
        (pss_one (ps_if (pt_val (pe_callB call_isi (by rfl) T.isinstance (by decide +kernel) (pa_cons (pv 0) (pa_cons (pe_bltn (v := L2.V.ty "list") (by rfl) T.list_ (by decide +kernel) rfl) pa_nil))))
        (pss_one (ps_expr (pe_bm PySem.F.plainAttrs_list PySem.F.slot_list_append PySem.F.type_list_append mt_append (pv 0) (pa_cons pe_int pa_nil))))
        pss_nil))), ?_⟩
      refine ⟨_, rfl, szd rfl, fun t ht => ⟨_, t, _, _, _, _, rfl, upd_same, lt_cls, .base (.bl _), lt_any (kit_ty (r := false) (by decide +kernel)) (kit_ty (r := false) (by decide +kernel)), _, rfl, ?_⟩⟩
      refine ifF rfl ⟨_, rfl, _, _, _, _, _, rfl, .ty _, .base (.bl _), kit_ty (r := false) (by decide +kernel), _, rfl, ?_⟩
      exact ifF rfl (k _ (g.step (Same.new ht)) (Rk.of (Same.new ht)))
    | int i =>
      refine ⟨_, PSs.nox (pss_cons (ps_if (pt_val (pe_callB call_isiT (by rfl) T.isinstance (by decide +kernel) (pa_cons (pv 0) (pa_cons (pe_tup (pa_cons (pe_bltn (v := L2.V.ty "list") (by rfl) T.list_ (by decide +kernel) rfl) (pa_cons (pe_bltn (v := L2.V.ty "tuple") (by rfl) T.tuple_ (by decide +kernel) rfl) pa_nil))) pa_nil))))
        (pss_one (ps_for PassesOwn.never rfl (pi_list (pv 0)) (pg_name (i := 1) sc_law_spoil.nd rfl (Or.inl rfl))
        (pss_one (ps_expr (pe_call G_law_spoil hr_law_spoil (by rfl) T.law_spoil.g T.law_spoil.fn.kp T.law_spoil.bd .nil pass0 (pa_cons (pv 1) pa_nil))))))
        pss_nil)
        (pss_one (ps_if (pt_val (pe_callB call_isi (by rfl) T.isinstance (by decide +kernel) (pa_cons (pv 0) (pa_cons (pe_bltn (v := L2.V.ty "list") (by rfl) T.list_ (by decide +kernel) rfl) pa_nil))))
        (pss_one (ps_expr (pe_bm PySem.F.plainAttrs_list PySem.F.slot_list_append PySem.F.type_list_append mt_append (pv 0) (pa_cons pe_int pa_nil))))
        pss_nil))), ?_⟩
      refine ⟨_, rfl, szd rfl, fun t ht => ⟨_, t, _, _, _, _, rfl, upd_same, lt_cls, .base (.int _), lt_any (kit_ty (r := false) (by decide +kernel)) (kit_ty (r := false) (by decide +kernel)), _, rfl, ?_⟩⟩
      refine ifF rfl ⟨_, rfl, _, _, _, _, _, rfl, .ty _, .base (.int _), kit_ty (r := false) (by decide +kernel), _, rfl, ?_⟩
      exact ifF rfl (k _ (g.step (Same.new ht)) (Rk.of (Same.new ht)))
theorem ok_spoil (T : Prog K mg) : ∀ n : Nat, FnOk P w K mg base CX0 n T.law_spoil.f T.law_spoil.fd ["_law_found"] (spSpoil K n)
  | 0 => ⟨fun vs H Q E ⟨N, H0, x, d, B, e, _⟩ => by rw [e]; rfl, fun A outer s H args us vs Q E _ _ _ _ ⟨N, H0, x, d, B, _, _, h, _⟩ => absurd h (Nat.not_lt_zero _)⟩
  | n + 1 => ok_law_spoil T n (ok_spoil T n)
end
end CK

/-! The rules. -/
namespace CK
open PySem PySem.Spec PyProof.Rows L2
/-- a new list of the places of the lacks -/
def spBy (K : PySem.W.Frag) (rule : Rl) : Sp := fun vs H Q _ => ∃ (n : Int) (r : Addr) (row : List Int), vs = [.int n, .ref r] ∧ 1 ≤ n ∧ n ≤ 8 ∧ SqL K H r (il row) ∧ RowOk row ∧
  ∀ (d : Addr) (H' : Hp), H d = none → Same H H' → H' d = some (.lst (NL (lacksR n.toNat rule row))) → Q (.ref d) H'
def spByLine (K : PySem.W.Frag) : Sp := fun vs H Q _ => ∃ (n : Int) (r : Addr) (row : List Int) (re : Bool), vs = [.int n, .ref r, .bl re] ∧ 1 ≤ n ∧ n ≤ 8 ∧ SqL K H r (il row) ∧ RowOk row ∧
  ∀ (d : Addr) (H' : Hp), H d = none → Same H H' → H' d = some (.lst (NL (placesT 0 (lineL n.toNat re [] row)))) → Q (.ref d) H'
def spCheckRule : Sp := fun vs H Q _ => ∃ rule : Rl, vs = [.str rule.s] ∧ Q .non H
def spLacking (K : PySem.W.Frag) : Sp := fun vs H Q _ => ∃ (n : Int) (r : Addr) (row : List Int) (rule : Rl), vs = [.int n, .ref r, .str rule.s] ∧ 1 ≤ n ∧ n ≤ 8 ∧ SqL K H r (il row) ∧ RowOk row ∧
  ∀ (d : Addr) (H' : Hp), H d = none → Same H H' → H' d = some (.lst (NL (lacksR n.toNat rule row))) → Q (.ref d) H'
theorem il_erase {ns : List Int} {j : Nat} : (il ns).eraseIdx j = il (ns.eraseIdx j) := by
  show (ns.map V.int).eraseIdx j = (ns.eraseIdx j).map V.int
  induction ns generalizing j with
  | nil => rfl
  | cons a r ih =>
    cases j with
    | zero => rfl
    | succ j => exact congrArg (V.int a :: ·) ih
section
variable {P : Program} {w : World} {K : PySem.W.Frag} {mg : Str → Option Value} {base : Heap}
theorem sc_by_line : FnScope ["rooms", "row", "renewed", "line", "lacks", "place", "page"] ["rooms", "row", "renewed"] (defScope (top 34)) := ⟨rfl, rfl, rfl, by decide +kernel, rfl, by decide +kernel, by decide +kernel⟩
theorem ok_by_line (T : Prog K mg) : FnOk P w K mg base CX0 1 T.by_line.f T.by_line.fd ["rooms", "row", "renewed"] (spByLine K) := by
  refine T.by_line.fn.ok sc_by_line (fun vs H Q E h => ?len) (fun cdv A outer s H vs Q E hr h => ?body)
  case len =>
    obtain ⟨n, r, row, re, rfl, _⟩ := h
    rfl
  case body =>
    have hu := hu_of hr
    obtain ⟨n, r, row, re, rfl, n1, n8, hS, hR, k⟩ := h
    refine ⟨_, PSs.nox (pss_cons (ps_set (i := 3) sc_by_line.nd rfl (Or.inl rfl) (pe_lst pa_nil))
        (pss_cons (ps_set (i := 4) sc_by_line.nd rfl (Or.inl rfl) (pe_lst pa_nil))
        (pss_cons (ps_for PassesOwn.never rfl (pi_enum (by rfl) T.enumerate (pa_cons (pv 1) pa_nil)) (pg_tup rfl (pgs_cons (pg_name (i := 5) sc_by_line.nd rfl (Or.inl rfl)) (pgs_cons (pg_name (i := 6) sc_by_line.nd rfl (Or.inl rfl)) pgs_nil)))
        (pss_one (ps_if (pt_cmpR op_notIn_seq (pv 6) (pv 3) (by rfl))
        (pss_cons (ps_expr (pe_bm PySem.F.plainAttrs_list PySem.F.slot_list_append PySem.F.type_list_append mt_append (pv 4) (pa_cons (pv 5) pa_nil)))
        (pss_cons (ps_if (pt_cmpR op_eq (pe_callB call_len_seq (by rfl) T.len PySem.boot_len (pa_cons (pv 3) pa_nil)) (pv 0) (nomark _))
        (pss_one (ps_expr (pe_bm PySem.F.plainAttrs_list PySem.F.slot_list_pop PySem.F.type_list_pop mt_popAt (pv 3) (pa_cons pe_int pa_nil))))
        pss_nil)
        (pss_one (ps_expr (pe_bm PySem.F.plainAttrs_list PySem.F.slot_list_append PySem.F.type_list_append mt_append (pv 3) (pa_cons (pv 6) pa_nil))))))
        (pss_one (ps_if (pt_val (pv 2))
        (pss_cons (ps_expr (pe_bm PySem.F.plainAttrs_list PySem.F.slot_list_remove PySem.F.type_list_remove mt_remove (pv 3) (pa_cons (pv 6) pa_nil)))
        (pss_one (ps_expr (pe_bm PySem.F.plainAttrs_list PySem.F.slot_list_append PySem.F.type_list_append mt_append (pv 3) (pa_cons (pv 6) pa_nil)))))
        pss_nil)))))
        (pss_one (ps_ret (pv 4)))))), ?_⟩
    -- line = []; lacks = []
    refine ⟨szd rfl, fun l hl => ⟨szd rfl, fun c hc => ?_⟩⟩
    have s1 : Same H (upd (upd H l (.lst [])) c (.lst [])) := (Same.new hl).trans (Same.new hc)
    have lc : l ≠ c := ne_fresh (H := upd H l (.lst [])) upd_same hc
    have cH : H c = none := Same.back (Same.new hl) hc
    have hn0 : 0 < n.toNat := by omega
    refine ⟨_, rfl, r, _, rfl, s1.seq hS, for_it (walk_enum (K := K) (a := r) (xs := il row)) (fun i σ H' => (∃ v1 v2, σ = [some (.int n), some (.ref r), some (.bl re), some (.ref l), some (.ref c), v1, v2]) ∧ Same H H' ∧ H' l = some (.lst (il (lineAt n.toNat re (row.take i)))) ∧
      H' c = some (.lst (NL (placesT 0 (lineL n.toNat re [] (row.take i))))))
      ⟨⟨_, _, rfl⟩, s1, by rw [upd_ne lc]; exact upd_same, upd_same⟩ (fun i σ H' _ h => h.2.1.seq hS) ?_ ?_⟩
    · rintro i x σ H1 H2 hi ⟨⟨v1, v2, rfl⟩, s2, hl1, hc1⟩ ⟨t, x1, x2, rfl, ht, rfl, ha, hb⟩
      have ea : V.int (i : Nat) = x1 := Option.some.inj ha
      subst ea
      obtain ⟨p, hp, rfl⟩ := il_get hb
      rw [il_len] at hi
      have hR1 := hR.1
      have lt : l ≠ t := ne_fresh hl1 ht
      have ct : c ≠ t := ne_fresh hc1 ht
      have hlO := lineAt_ok (re := re) hn0 (row.take i)
      have hpl := placesT_le 0 (lineL n.toNat re [] (row.take i))
      rw [lineL_len, List.length_take] at hpl
      have s3 : Same H (upd H1 t (.tup [V.int (i : Nat), V.int p])) := s2.trans (Same.new ht)
      have hl2 : upd H1 t (.tup [V.int (i : Nat), V.int p]) l = some (.lst (il (lineAt n.toNat re (row.take i)))) := by rw [upd_ne lt]; exact hl1
      have hc2 : upd H1 t (.tup [V.int (i : Nat), V.int p]) c = some (.lst (NL (placesT 0 (lineL n.toNat re [] (row.take i))))) := by rw [upd_ne ct]; exact hc1
      have eB : placesT 0 (lineL n.toNat re [] (row.take (i + 1))) = placesT 0 (lineL n.toNat re [] (row.take i)) ++ (if (!decide (p ∈ lineAt n.toNat re (row.take i))) = true then [i] else []) := by
        rw [take_snoc hp, lineL_snoc, placesT_snoc, lineL_len, List.length_take, Nat.min_eq_left (by omega), Nat.zero_add]
        rfl
      have eL : lineAt n.toNat re (row.take (i + 1)) = lineStep n.toNat re (lineAt n.toNat re (row.take i)) p := by
        rw [take_snoc hp, lineAt_snoc]
      rw [eB, eL]
      generalize hLL : lineAt n.toNat re (row.take i) = L at *
      generalize hPP : placesT 0 (lineL n.toNat re [] (row.take i)) = PL at *
      refine ⟨t, _, rfl, SqT.of upd_same, rfl, _, _, rfl, _, _, rfl, rfl, ?_⟩
      -- if page not in line
      refine ⟨_, rfl, _, rfl, l, _, rfl, .inl (SqL.of hl2), rfl, flat_il _, _, rfl, ?_⟩
      have e0 : (if true = true then !inV (V.int p) (il L) else inV (V.int p) (il L)) = !decide (p ∈ L) := by rw [if_pos rfl, inV_il]
      by_cases hin : p ∈ L
      · refine ifF (by rw [e0]; simp [hin]) ?_
        rw [if_neg (show ¬ (!decide (p ∈ L)) = true by simp [hin]), List.append_nil]
        -- elif renewed
        cases re with
        | true =>
          have eS : lineStep n.toNat true L p = L.eraseIdx (L.idxOf p) ++ [p] := by unfold lineStep; rw [if_pos hin]; rfl
          rw [eS]
          refine ⟨_, rfl, _, rfl, ?_⟩
          refine ⟨_, rfl, .inl ⟨rfl, _, SqL.of hl2⟩, _, rfl, l, L, p, L.idxOf p, rfl, rfl, hl2, idx_at hin, fun m hm z => idx_no hm z rfl, ?_⟩
          refine ⟨_, rfl, .inl ⟨rfl, _, SqL.of upd_same⟩, _, rfl, l, _, _, rfl, rfl, upd_same, szl (by
            have h1 := hlO.le
            have h2 := List.length_eraseIdx_le L (L.idxOf p)
            simp
            omega), ?_⟩
          rw [upd_upd]
          refine ⟨⟨_, _, rfl⟩, Same.put s3 hl, ?_, ?_⟩
          · rw [upd_same, il_snoc]
          · rw [upd_ne (Ne.symm lc)]; exact hc2
        | false =>
          have eS : lineStep n.toNat false L p = L := by unfold lineStep; rw [if_pos hin]; rfl
          rw [eS]
          exact ⟨_, rfl, _, rfl, ⟨_, _, rfl⟩, s3, hl2, hc2⟩
      · refine ifT (by rw [e0]; simp [hin]) ?_
        have eS : lineStep n.toNat re L p = (if L.length = n.toNat then L.eraseIdx 0 else L) ++ [p] := by unfold lineStep; rw [if_neg hin]
        rw [eS, if_pos (show (!decide (p ∈ L)) = true by simp [hin])]
        -- lacks.append(place)
        refine ⟨_, rfl, .inl ⟨rfl, _, SqL.of hc2⟩, _, rfl, c, _, _, rfl, rfl, hc2, szl (by simp; omega), ?_⟩
        rw [NL_snoc]
        have hl3 : upd (upd H1 t (.tup [V.int (i : Nat), V.int p])) c (.lst (NL (PL ++ [i]))) l = some (.lst (il L)) := by rw [upd_ne lc]; exact hl2
        -- if len(line) == rooms: line.pop(0)
        refine ⟨_, rfl, l, _, rfl, .inl (SqL.of hl3), _, rfl, rfl, _, rfl, ?_⟩
        have e1 : decide (V.int ((il L).length : Int) = V.int n) = decide (L.length = n.toNat) := by
          rw [il_len]
          by_cases q : L.length = n.toNat
          · rw [decide_eq_true q]
            exact decide_eq_true (congrArg V.int (by omega))
          · rw [decide_eq_false q]
            exact decide_eq_false (fun z => q (by injection z with z; omega))
        by_cases hln : L.length = n.toNat
        · refine ifT (by rw [e1]; exact decide_eq_true hln) ?_
          rw [if_pos hln]
          have hat0 : (il L)[0]? = some (V.int (L[0]'(by omega))) := il_at (List.getElem?_eq_getElem _)
          refine ⟨_, rfl, .inl ⟨rfl, _, SqL.of hl3⟩, l, _, 0, 0, _, rfl, rfl, hl3, by decide, by decide, seq_ix rfl (by simp; omega), hat0, ?_⟩
          refine ⟨_, rfl, .inl ⟨rfl, _, SqL.of upd_same⟩, _, rfl, l, _, _, rfl, rfl, upd_same, szl (by
            have h1 := hlO.le
            have h2 := List.length_eraseIdx_le (il L) 0
            simp at h2 ⊢
            omega), ?_⟩
          rw [upd_upd, il_erase, il_snoc]
          refine ⟨⟨_, _, rfl⟩, Same.put (Same.put s3 cH) hl, upd_same, ?_⟩
          rw [upd_ne (Ne.symm lc), upd_same]
        · refine ifF (by rw [e1]; exact decide_eq_false hln) ?_
          rw [if_neg hln]
          refine ⟨_, rfl, .inl ⟨rfl, _, SqL.of hl3⟩, _, rfl, l, _, _, rfl, rfl, hl3, szl (by
            have h1 := hlO.le
            simp
            omega), ?_⟩
          rw [il_snoc]
          refine ⟨⟨_, _, rfl⟩, Same.put (Same.put s3 cH) hl, upd_same, ?_⟩
          rw [upd_ne (Ne.symm lc), upd_same]
    · rintro σ H' ⟨⟨v1, v2, rfl⟩, s2, hl1, hc1⟩
      rw [List.take_of_length_le (by simp)] at hc1
      exact ⟨_, rfl, k c H' cH s2 hc1⟩
theorem sc_by_unseen : FnScope ["rooms", "row"] ["rooms", "row"] (defScope (top 32)) := ⟨rfl, rfl, rfl, by decide +kernel, rfl, by decide +kernel, by decide +kernel⟩
theorem ok_by_unseen (T : Prog K mg) : FnOk P w K mg base CX0 2 T.by_unseen.f T.by_unseen.fd ["rooms", "row"] (spBy K .unseen) := by
  have G_by_line := ok_by_line (P := P) (w := w) (base := base) T
  refine T.by_unseen.fn.ok sc_by_unseen (fun vs H Q E h => ?len) (fun cdv A outer s H vs Q E hr h => ?body)
  case len =>
    obtain ⟨n, r, row, rfl, _⟩ := h
    rfl
  case body =>
    have hr_by_line : Room 1 _ := hr.mono (by decide)
    have hu := hu_of hr
    obtain ⟨n, r, row, rfl, n1, n8, hS, hR, k⟩ := h
    refine ⟨_, PSs.nox (pss_one (ps_ret (pe_call G_by_line hr_by_line (by rfl) T.by_line.g T.by_line.fn.kp T.by_line.bd .nil pass0 (pa_cons (pv 0) (pa_cons (pv 1) (pa_cons pe_bl pa_nil)))))), ?_⟩
    exact ⟨_, rfl, _, rfl, n, r, row, true, rfl, n1, n8, hS, hR, k⟩
theorem sc_by_first : FnScope ["rooms", "row"] ["rooms", "row"] (defScope (top 33)) := ⟨rfl, rfl, rfl, by decide +kernel, rfl, by decide +kernel, by decide +kernel⟩
theorem ok_by_first (T : Prog K mg) : FnOk P w K mg base CX0 2 T.by_first.f T.by_first.fd ["rooms", "row"] (spBy K .first) := by
  have G_by_line := ok_by_line (P := P) (w := w) (base := base) T
  refine T.by_first.fn.ok sc_by_first (fun vs H Q E h => ?len) (fun cdv A outer s H vs Q E hr h => ?body)
  case len =>
    obtain ⟨n, r, row, rfl, _⟩ := h
    rfl
  case body =>
    have hr_by_line : Room 1 _ := hr.mono (by decide)
    have hu := hu_of hr
    obtain ⟨n, r, row, rfl, n1, n8, hS, hR, k⟩ := h
    refine ⟨_, PSs.nox (pss_one (ps_ret (pe_call G_by_line hr_by_line (by rfl) T.by_line.g T.by_line.fn.kp T.by_line.bd .nil pass0 (pa_cons (pv 0) (pa_cons (pv 1) (pa_cons pe_bl pa_nil)))))), ?_⟩
    exact ⟨_, rfl, _, rfl, n, r, row, false, rfl, n1, n8, hS, hR, k⟩
theorem sc_by_hand : FnScope ["rooms", "row", "dial", "place", "page"] ["rooms", "row"] (defScope (top 31)) := ⟨rfl, rfl, rfl, by decide +kernel, rfl, by decide +kernel, by decide +kernel⟩
theorem ok_by_hand (T : Prog K mg) : FnOk P w K mg base CX0 4 T.by_hand.f T.by_hand.fd ["rooms", "row"] (spBy K .hand) := by
  have G_Dial := ok_Dial_init (P := P) (w := w) (base := base) T
  have G_ask := ok_Dial_ask (P := P) (w := w) (base := base) T
  refine T.by_hand.fn.ok sc_by_hand (fun vs H Q E h => ?len) (fun cdv A outer s H vs Q E hr h => ?body)
  case len =>
    obtain ⟨n, r, row, rfl, _⟩ := h
    rfl
  case body =>
    have hr_ask : Room 3 _ := hr.mono (by decide)
    have hu := hu_of hr
    obtain ⟨n, r, row, rfl, n1, n8, hS, hR, k⟩ := h
    refine ⟨_, PSs.nox (pss_cons (ps_set (i := 2) sc_by_hand.nd rfl (Or.inr rfl) (pe_make T.Dial.mkr G_Dial (hr.mono (by decide)) (by rfl) T.Dial.g T.Dial.bI .nil pass0 (pa_cons (pv 0) pa_nil)))
        (pss_one (ps_ret (pe_lc (own := [("place", 3), ("page", 4)]) (g := gTup K 2 (gCons (gName 3) (gCons (gName 4) gNil))) (tt := tB (tOp (rIxT K) (tMeth _ _ _ _ _ _ _) (tC (.int 0)))) (te := tVar 3) rfl sc_by_hand.nd ((pi_enum (by rfl) T.enumerate (pa_cons (pv 1) pa_nil))) (blkOk_by (own := [("place", 3), ("page", 4)]) (N := ["rooms", "row", "dial", "place", "page"]) (sc := defScope (top 31)) (by decide +kernel)) (fun _ _ _ _ _ => (by exact (pg_tup rfl (pgs_cons (pg_name (i := 3) sc_by_hand.nd rfl (Or.inl rfl)) (pgs_cons (pg_name (i := 4) sc_by_hand.nd rfl (Or.inl rfl)) pgs_nil))))) (fun _ _ _ _ _ => (by exact (pts_one (pt_val (pe_ix ix_tup (pe_meth (pv 2) T.Dial.cl T.Dial.ask.me G_ask hr_ask T.Dial.ask.bd .nil pass0 (pa_cons (pv 4) pa_nil)) pe_int (fun _ _ => rfl)))))) (fun _ _ _ _ _ => (by exact (pv 3))))))), ?_⟩
    -- dial = Dial(rooms)
    refine ⟨_, rfl, fun p dx np ndx nex => ?_⟩
    refine ⟨p, dx, n, rfl, upd_same, n1, n8, fun a b H2 ha hb D2 k2 => ⟨rfl, ?_⟩⟩
    have s0 : Same H (upd (upd H dx (.own p)) p (.ins T.Dial.C dx [])) := fun c o e => by
      rw [upd_ne (ne_fresh e np), upd_ne (ne_fresh e ndx)]
      exact e
    have s2 : Same H H2 := fun c o e => k2 c o (s0 c o e) (by simpa using ne_fresh e np)
    have aH : H a = none := Same.back s0 ha
    have bH : H b = none := Same.back s0 hb
    have W0 : (DS.new n.toNat).WF n.toNat := DS.new_wf (by omega)
    have hR1 := hR.1
    refine ⟨_, rfl, r, _, rfl, s2.seq hS, fun d hd => ?_⟩
    have dH : H d = none := Same.back s2 hd
    have dp : d ≠ p := by obtain ⟨_, q⟩ := D2.ob; exact Ne.symm (ne_fresh q hd)
    have da : d ≠ a := Ne.symm (ne_fresh D2.he hd)
    have db : d ≠ b := Ne.symm (ne_fresh D2.ma hd)
    have dS : d ∉ [p, a, b] := by simp [dp, da, db]
    refine lc_it (walk_enum (K := K) (a := r) (xs := il row)) (fun i H' => H' d = some (.lst (NL (placesT 0 ((tellsL (DS.new n.toNat) (row.take i)).map (·.1))))) ∧ DialIs T.Dial.C H' p a b (afterL (DS.new n.toNat) (row.take i)) ∧ Same H H') ?_ ?_ ?_ ?_
    · exact ⟨upd_same, D2.same (Same.new hd), s2.trans (Same.new hd)⟩
    · rintro i H' _ ⟨_, _, q⟩
      exact q.seq hS
    · rintro i x H3 H4 hi ⟨hd3, D3, s3⟩ ⟨t, x1, x2, rfl, ht, rfl, hx1, hx2⟩
      have ea : V.int (i : Nat) = x1 := Option.some.inj hx1
      subst ea
      obtain ⟨pg, hpg, rfl⟩ := il_get hx2
      have hpl := hR.2 pg (List.mem_of_getElem? hpg)
      rw [il_len] at hi
      have sT := Same.new (o := .tup [V.int (i : Nat), V.int pg]) ht
      have D4 := D3.same sT
      obtain ⟨dx4, hp4⟩ := D4.ob
      refine ⟨t, _, rfl, SqT.of upd_same, rfl, _, _, rfl, _, _, rfl, rfl, ⟨rfl, ?_⟩⟩
      refine ⟨_, rfl, p, dx4, _, rfl, hp4, rfl, _, rfl, p, a, b, _, n.toNat, pg, rfl, D4, afterL_wf W0 _, by omega, hpl.1, hpl.2, fun t' l' H5 ht' hl' tl' ht5 hl5 D5 k5 => ?_⟩
      refine ⟨_, _, _, _, rfl, rfl, SqT.of ht5, atI_nat (j := 0) rfl, _, rfl, ?_⟩
      have hd5 := k5 _ _ (sT _ _ hd3) dS
      have s5 : Same H H5 := fun c o e => k5 _ _ (sT _ _ (s3 _ _ e)) (by
        have z1 := ne_fresh e np
        have z2 := ne_fresh e aH
        have z3 := ne_fresh e bH
        simp [z1, z2, z3])
      have eP : placesT 0 ((tellsL (DS.new n.toNat) (row.take (i + 1))).map (·.1)) = placesT 0 ((tellsL (DS.new n.toNat) (row.take i)).map (·.1)) ++ (if ((afterL (DS.new n.toNat) (row.take i)).tells pg).1 = true then [i] else []) := by
        rw [take_snoc hpg, tellsL_snoc, List.map_append, List.map_cons, List.map_nil, placesT_snoc, List.length_map, tellsL_len, List.length_take, Nat.min_eq_left (by omega), Nat.zero_add]
      have hle := placesT_le 0 ((tellsL (DS.new n.toNat) (row.take i)).map (·.1))
      rw [List.length_map, tellsL_len, List.length_take] at hle
      have eA : afterL (DS.new n.toNat) (row.take (i + 1)) = (afterL (DS.new n.toNat) (row.take i)).ask pg := by rw [take_snoc hpg, afterL_snoc]
      rw [eP, eA]
      generalize ((afterL (DS.new n.toNat) (row.take i)).tells pg).1 = bq at *
      cases bq with
      | true =>
        refine ⟨_, rfl, _, hd5, szl (by rw [List.length_map]; omega), ?_, D5.but (S := [d]) (But.put (by simp)) (by simp [Ne.symm dp]) (by simp [Ne.symm da]) (by simp [Ne.symm db]), Same.put s5 dH⟩
        rw [upd_same, NL_snoc]
        rfl
      | false =>
        refine ⟨?_, D5, s5⟩
        rw [if_neg (by simp), List.append_nil]
        exact hd5
    · rintro H' ⟨q1, _, q2⟩
      rw [List.take_of_length_le (by simp)] at q1
      exact k d H' dH q2 q1
theorem sc_check_rule : FnScope ["rule"] ["rule"] (defScope (top 36)) := ⟨rfl, rfl, rfl, by decide +kernel, rfl, by decide +kernel, by decide +kernel⟩
theorem ok_check_rule (T : Prog K mg) {es : Array DictEntry} {nd : Nat} (TB_RULES : KDict K w T.a_RULES es nd) : FnOk P w K mg base CX0 1 T.check_rule.f T.check_rule.fd ["rule"] spCheckRule := by
  refine T.check_rule.fn.ok sc_check_rule (fun vs H Q E h => ?len) (fun cdv A outer s H vs Q E hr h => ?body)
  case len =>
    obtain ⟨rule, rfl, _⟩ := h
    rfl
  case body =>
    have hu := hu_of hr
    obtain ⟨rule, rfl, k⟩ := h
    refine ⟨_, PSs.nox (pss_one (ps_if (pt_cmpR (op_notIn_kd TB_RULES) (pv 0) (pe_glob (v := L2.V.ref T.a_RULES) rfl T.g_RULES rfl) (by rfl))
        (pss_one ps_never)
        pss_nil)), ?_⟩
    obtain ⟨u1, h1, _⟩ := T.r_RULES_hand
    obtain ⟨u2, h2, _⟩ := T.r_RULES_unseen
    obtain ⟨u3, h3, _⟩ := T.r_RULES_first
    cases rule with
    | hand => exact ⟨_, rfl, _, _, rfl, rfl, h1, _, rfl, iteF k⟩
    | unseen => exact ⟨_, rfl, _, _, rfl, rfl, h2, _, rfl, iteF k⟩
    | first => exact ⟨_, rfl, _, _, rfl, rfl, h3, _, rfl, iteF k⟩
theorem sc_find_lacks : FnScope ["rooms", "row", "rule", "by_rule"] ["rooms", "row", "rule"] (defScope (top 38)) := ⟨rfl, rfl, rfl, by decide +kernel, rfl, by decide +kernel, by decide +kernel⟩
theorem ok_find_lacks (T : Prog K mg) {es : Array DictEntry} {nd : Nat} (TB_RULES : KDict K w T.a_RULES es nd) : FnOk P w K mg base CX0 5 T.find_lacks.f T.find_lacks.fd ["rooms", "row", "rule"] (spLacking K) := by
  refine T.find_lacks.fn.ok sc_find_lacks (fun vs H Q E h => ?len) (fun cdv A outer s H vs Q E hr h => ?body)
  case len =>
    obtain ⟨n, r, row, rule, rfl, _⟩ := h
    rfl
  case body =>
    have hu := hu_of hr
    obtain ⟨n, r, row, rule, rfl, n1, n8, hS, hR, k⟩ := h

    obtain ⟨u1, h1, w1⟩ := T.r_RULES_hand
    obtain ⟨u2, h2, w2⟩ := T.r_RULES_unseen
    obtain ⟨u3, h3, w3⟩ := T.r_RULES_first
    have G_by_hand := ok_by_hand (P := P) (w := w) (base := base) T
    have G_by_unseen := ok_by_unseen (P := P) (w := w) (base := base) T
    have G_by_first := ok_by_first (P := P) (w := w) (base := base) T
    have hr_h : Room 4 _ := hr.mono (by decide)
    have hr_u : Room 2 _ := hr.mono (by decide)
    have hr_f : Room 2 _ := hr.mono (by decide)
    cases rule with
    | hand =>
      refine ⟨_, PSs.nox (pss_cons (ps_set (i := 3) sc_find_lacks.nd rfl (Or.inl rfl) (pe_ix ix_kdict (pe_glob (v := L2.V.ref T.a_RULES) rfl T.g_RULES rfl) (pv 2) (fun _ _ => rfl)))
        (pss_one (ps_ret (pe_callL (i := 3) G_by_hand hr_h (by rfl) (Or.inl rfl) T.by_hand.fn.kp T.by_hand.bd .nil pass0 (pa_cons (pv 0) (pa_cons (pv 1) pa_nil)))))), ?_⟩
      refine ⟨_, rfl, _, _, V.ref T.by_hand.f, rfl, rfl, ⟨es, nd, u1, TB_RULES.at_, TB_RULES.lit, h1, w1⟩, ?_⟩
      exact ⟨rfl, _, rfl, _, rfl, n, r, row, rfl, n1, n8, hS, hR, k⟩
    | unseen =>
      refine ⟨_, PSs.nox (pss_cons (ps_set (i := 3) sc_find_lacks.nd rfl (Or.inl rfl) (pe_ix ix_kdict (pe_glob (v := L2.V.ref T.a_RULES) rfl T.g_RULES rfl) (pv 2) (fun _ _ => rfl)))
        (pss_one (ps_ret (pe_callL (i := 3) G_by_unseen hr_u (by rfl) (Or.inl rfl) T.by_unseen.fn.kp T.by_unseen.bd .nil pass0 (pa_cons (pv 0) (pa_cons (pv 1) pa_nil)))))), ?_⟩
      refine ⟨_, rfl, _, _, V.ref T.by_unseen.f, rfl, rfl, ⟨es, nd, u2, TB_RULES.at_, TB_RULES.lit, h2, w2⟩, ?_⟩
      exact ⟨rfl, _, rfl, _, rfl, n, r, row, rfl, n1, n8, hS, hR, k⟩
    | first =>
      refine ⟨_, PSs.nox (pss_cons (ps_set (i := 3) sc_find_lacks.nd rfl (Or.inl rfl) (pe_ix ix_kdict (pe_glob (v := L2.V.ref T.a_RULES) rfl T.g_RULES rfl) (pv 2) (fun _ _ => rfl)))
        (pss_one (ps_ret (pe_callL (i := 3) G_by_first hr_f (by rfl) (Or.inl rfl) T.by_first.fn.kp T.by_first.bd .nil pass0 (pa_cons (pv 0) (pa_cons (pv 1) pa_nil)))))), ?_⟩
      refine ⟨_, rfl, _, _, V.ref T.by_first.f, rfl, rfl, ⟨es, nd, u3, TB_RULES.at_, TB_RULES.lit, h3, w3⟩, ?_⟩
      exact ⟨rfl, _, rfl, _, rfl, n, r, row, rfl, n1, n8, hS, hR, k⟩
theorem sc_lacking : FnScope ["rooms", "row", "rule"] ["rooms", "row", "rule"] (defScope (top 37)) := ⟨rfl, rfl, rfl, by decide +kernel, rfl, by decide +kernel, by decide +kernel⟩
theorem ok_lacking (T : Prog K mg) {es : Array DictEntry} {nd : Nat} (TB_RULES : KDict K w T.a_RULES es nd) : FnOk P w K mg base CX0 6 T.lacking.f T.lacking.fd ["rooms", "row", "rule"] (spLacking K) := by
  have G_check_rooms := ok_check_rooms (P := P) (w := w) (base := base) T
  have G_check_row := ok_check_row (P := P) (w := w) (base := base) T
  have G_check_rule := ok_check_rule (P := P) (w := w) (base := base) T TB_RULES
  have G_find_lacks := ok_find_lacks (P := P) (w := w) (base := base) T TB_RULES
  refine T.lacking.fn.ok sc_lacking (fun vs H Q E h => ?len) (fun cdv A outer s H vs Q E hr h => ?body)
  case len =>
    obtain ⟨n, r, row, rule, rfl, _⟩ := h
    rfl
  case body =>
    have hr_check_rooms : Room 1 _ := hr.mono (by decide)
    have hr_check_row : Room 2 _ := hr.mono (by decide)
    have hr_check_rule : Room 1 _ := hr.mono (by decide)
    have hr_find_lacks : Room 5 _ := hr.mono (by decide)
    have hu := hu_of hr
    obtain ⟨n, r, row, rule, rfl, n1, n8, hS, hR, k⟩ := h
    refine ⟨_, PSs.nox (pss_cons (ps_expr (pe_call G_check_rooms hr_check_rooms (by rfl) T.check_rooms.g T.check_rooms.fn.kp T.check_rooms.bd .nil pass0 (pa_cons (pv 0) pa_nil)))
        (pss_cons (ps_expr (pe_call G_check_row hr_check_row (by rfl) T.check_row.g T.check_row.fn.kp T.check_row.bd .nil pass0 (pa_cons (pv 1) pa_nil)))
        (pss_cons (ps_expr (pe_call G_check_rule hr_check_rule (by rfl) T.check_rule.g T.check_rule.fn.kp T.check_rule.bd .nil pass0 (pa_cons (pv 2) pa_nil)))
        (pss_one (ps_ret (pe_call G_find_lacks hr_find_lacks (by rfl) T.find_lacks.g T.find_lacks.fn.kp T.find_lacks.bd .nil pass0 (pa_cons (pv 0) (pa_cons (pv 1) (pa_cons (pv 2) pa_nil))))))))), ?_⟩
    refine ⟨_, rfl, n, rfl, n1, n8, ?_⟩
    refine ⟨_, rfl, r, row, rfl, hS, hR, fun H1 s1 => ?_⟩
    refine ⟨_, rfl, rule, rfl, ?_⟩
    exact ⟨_, rfl, _, rfl, _, rfl, n, r, row, rule, rfl, n1, n8, s1.seq hS, hR, fun d H' hd s2 hd2 => k d H' (Same.back s1 hd) (s1.trans s2) hd2⟩
end
end CK

/-! Papers as plain data. -/
namespace CK
open PySem PySem.Spec PyProof.Rows L2
/-- a paper: a rising list of places, all below n -/
def PaperOk (n : Nat) (ps : List Nat) : Prop := ps.Pairwise (· < ·) ∧ ∀ p ∈ ps, p < n
theorem PaperOk.le {n : Nat} : ∀ {ps : List Nat}, PaperOk n ps → ps.length ≤ n := by
  have q : ∀ (ps : List Nat) (m : Nat), ps.Pairwise (· < ·) → (∀ p ∈ ps, m ≤ p ∧ p < n) → m ≤ n → ps.length ≤ n - m := by
    intro ps
    induction ps with
    | nil => intro m _ _ _; exact Nat.zero_le _
    | cons a r ih =>
      intro m h1 h2 h3
      have ha := h2 a (by simp)
      have hr := List.pairwise_cons.mp h1
      have q := ih (a + 1) hr.2 (fun p hp => ⟨hr.1 p hp, (h2 p (by simp [hp])).2⟩) (by omega)
      show r.length + 1 ≤ n - m
      omega
  intro ps h
  have := q ps 0 h.1 (fun p hp => ⟨Nat.zero_le _, h.2 p hp⟩) (Nat.zero_le _)
  omega
/-- whether a place lies within a spell -/
def within (x : Nat × Nat) (ps : List Nat) : Bool := ps.any fun q => decide (x.1 < q) && decide (q < x.2)
/-- how many lacks a paper shows -/
def shownN (n : Int) (row : List Int) (ps : List Nat) : Int :=
  (row.length : Int) - (((spellsL row).filter fun x => !within x ps).length : Int) - (n - 1) * (ps.length : Int)
end CK

/-! What the program says of papers. -/
namespace CK
open PySem PySem.Spec PyProof.Rows L2
def spSpells (K : PySem.W.Frag) : Sp := fun vs H Q _ => ∃ (r : Addr) (row : List Int), vs = [.ref r] ∧ SqL K H r (il row) ∧ RowOk row ∧
  ∀ (d : Addr) (as : List Addr) (H' : Hp), H d = none → Same H H' → H' d = some (.lst (as.map V.ref)) → PairsAt H' as (spellsL row) → Q (.ref d) H'
def spCheckPaper (K : PySem.W.Frag) : Sp := fun vs H Q _ => ∃ (r q : Addr) (row : List Int) (ps : List Nat), vs = [.ref r, .ref q] ∧ SqL K H r (il row) ∧ SqL K H q (NL ps) ∧ PaperOk row.length ps ∧ Q .non H
def spHasWithin (K : PySem.W.Frag) : Sp := fun vs H Q _ => ∃ (t q : Addr) (x : Nat × Nat) (ps : List Nat), vs = [.ref t, .ref q] ∧ H t = some (.tup [.int (x.1 : Nat), .int (x.2 : Nat)]) ∧ SqL K H q (NL ps) ∧ ps.length ≤ 1000 ∧
  ∀ H' : Hp, Same H H' → Q (.bl (within x ps)) H'
def spShown (K : PySem.W.Frag) : Sp := fun vs H Q _ => ∃ (n : Int) (r q : Addr) (row : List Int) (ps : List Nat), vs = [.int n, .ref r, .ref q] ∧ 1 ≤ n ∧ n ≤ 8 ∧ SqL K H r (il row) ∧ RowOk row ∧ SqL K H q (NL ps) ∧ PaperOk row.length ps ∧
  ∀ H' : Hp, Same H H' → Q (.int (shownN n row ps)) H'
section
variable {P : Program} {w : World} {K : PySem.W.Frag} {mg : Str → Option Value} {base : Heap}
theorem sc_spells : FnScope ["row"] ["row"] (defScope (top 15)) := ⟨rfl, rfl, rfl, by decide +kernel, rfl, by decide +kernel, by decide +kernel⟩
theorem ok_spells (T : Prog K mg) : FnOk P w K mg base CX0 3 T.spells.f T.spells.fd ["row"] (spSpells K) := by
  have G_check_row := ok_check_row (P := P) (w := w) (base := base) T
  have G_find_spells := ok_find_spells (P := P) (w := w) (base := base) T
  refine T.spells.fn.ok sc_spells (fun vs H Q E h => ?len) (fun cdv A outer s H vs Q E hr h => ?body)
  case len =>
    obtain ⟨r, row, rfl, _⟩ := h
    rfl
  case body =>
    have hr_check_row : Room 2 _ := hr.mono (by decide)
    have hr_find_spells : Room 1 _ := hr.mono (by decide)
    have hu := hu_of hr
    obtain ⟨r, row, rfl, hS, hR, k⟩ := h
    refine ⟨_, PSs.nox (pss_cons (ps_expr (pe_call G_check_row hr_check_row (by rfl) T.check_row.g T.check_row.fn.kp T.check_row.bd .nil pass0 (pa_cons (pv 0) pa_nil)))
        (pss_one (ps_ret (pe_call G_find_spells hr_find_spells (by rfl) T.find_spells.g T.find_spells.fn.kp T.find_spells.bd .nil pass0 (pa_cons (pv 0) pa_nil))))), ?_⟩
    refine ⟨_, rfl, r, row, rfl, hS, hR, fun H1 s1 => ?_⟩
    have hR1 := hR.1
    exact ⟨_, rfl, r, row, rfl, s1.seq hS, by omega, fun d as H2 hd s2 h1 h2 => k d as H2 (Same.back s1 hd) (s1.trans s2) h1 h2⟩
theorem sc_check_paper : FnScope ["row", "places", "before", "place"] ["row", "places"] (defScope (top 19)) := ⟨rfl, rfl, rfl, by decide +kernel, rfl, by decide +kernel, by decide +kernel⟩
theorem ok_check_paper (T : Prog K mg) : FnOk P w K mg base CX0 1 T.check_paper.f T.check_paper.fd ["row", "places"] (spCheckPaper K) := by
  refine T.check_paper.fn.ok sc_check_paper (fun vs H Q E h => ?len) (fun cdv A outer s H vs Q E hr h => ?body)
  case len =>
    obtain ⟨r, q, row, ps, rfl, _⟩ := h
    rfl
  case body =>
    have hu := hu_of hr
    obtain ⟨r, q, row, ps, rfl, hS, hq, hP, k⟩ := h
    refine ⟨_, PSs.nox (pss_cons (ps_set (i := 2) sc_check_paper.nd rfl (Or.inl rfl) (pe_un un_neg pe_int))
        (pss_one (ps_for PassesOwn.never rfl (pi_list (pv 1)) (pg_name (i := 3) sc_check_paper.nd rfl (Or.inl rfl))
        (pss_cons (ps_if (pt_not (pt_chain op_lt op_lt (pv 2) (pv 3) (pe_callB call_len_seq (by rfl) T.len PySem.boot_len (pa_cons (pv 0) pa_nil))))
        (pss_one ps_never)
        pss_nil)
        (pss_one (ps_set (i := 2) sc_check_paper.nd rfl (Or.inl rfl) (pv 3))))))), ?_⟩
    refine ⟨_, rfl, _, rfl, q, rfl, ⟨_, hq⟩, for_list (K := K) (a := q) (xs := NL ps) (fun i σ H' => H' = H ∧ ∃ (b : Int) (v : Option V), σ = [some (.ref r), some (.ref q), some (.int b), v] ∧ ∀ p, ps[i]? = some p → b < (p : Int))
      ⟨rfl, -1, none, rfl, fun p _ => by omega⟩ (fun i σ H' _ h => by rw [h.1]; exact hq) ?_ ?_⟩
    · rintro i x σ H' hx ⟨rfl, b, v, rfl, hb⟩
      obtain ⟨p, hp, rfl⟩ := NL_at hx
      have hlt := hP.2 p (List.mem_of_getElem? hp)
      refine ⟨_, rfl, _, rfl, _, _, rfl, rfl, _, rfl, ifT (decide_eq_true (hb p hp)) ⟨_, rfl, r, _, rfl, .inl hS, _, _, rfl, rfl, _, rfl, ?_⟩⟩
      refine ifF (by rw [il_len, decide_eq_true (by omega)]; rfl) ?_
      refine ⟨_, rfl, rfl, _, _, rfl, fun p' hp' => ?_⟩
      have q1 : i < ps.length := (List.getElem?_eq_some_iff.mp hp).1
      have q2 : i + 1 < ps.length := (List.getElem?_eq_some_iff.mp hp').1
      have q3 := (List.pairwise_iff_getElem.mp hP.1) i (i + 1) q1 q2 (Nat.lt_succ_self _)
      have e1 := (List.getElem?_eq_some_iff.mp hp).2
      have e2 := (List.getElem?_eq_some_iff.mp hp').2
      rw [e1, e2] at q3
      omega
    · rintro σ H' ⟨rfl, b, v, rfl, _⟩
      exact k
theorem sc_has_within : FnScope ["spell", "places", "begin", "end", "place"] ["spell", "places"] (defScope (top 20)) := ⟨rfl, rfl, rfl, by decide +kernel, rfl, by decide +kernel, by decide +kernel⟩
theorem ok_has_within (T : Prog K mg) : FnOk P w K mg base CX0 1 T.has_within.f T.has_within.fd ["spell", "places"] (spHasWithin K) := by
  refine T.has_within.fn.ok sc_has_within (fun vs H Q E h => ?len) (fun cdv A outer s H vs Q E hr h => ?body)
  case len =>
    obtain ⟨t, q, x, ps, rfl, _⟩ := h
    rfl
  case body =>
    have hu := hu_of hr
    obtain ⟨t, q, x, ps, rfl, ht, hq, hl, k⟩ := h
    refine ⟨_, PSs.nox (pss_cons (ps_asg (pv 0) (pg_tup rfl (pgs_cons (pg_name (i := 2) sc_has_within.nd rfl (Or.inr rfl)) (pgs_cons (pg_name (i := 3) sc_has_within.nd rfl (Or.inr rfl)) pgs_nil))))
        (pss_one (ps_ret (pe_callB (cr_any rfl) (by rfl) T.any (by decide +kernel) (pa_cons (pe_lc (own := [("place", 4)]) (g := gName 4) rfl sc_has_within.nd ((pi_list (pv 1))) (blkOk_by (own := [("place", 4)]) (N := ["spell", "places", "begin", "end", "place"]) (sc := defScope (top 20)) (by decide +kernel)) (fun _ _ _ _ _ => (by exact (pg_name (i := 4) sc_has_within.nd rfl (Or.inl rfl)))) (fun _ _ _ _ _ => (by exact pts_nil)) (fun _ _ _ _ _ => (by exact (pe_chain op_lt op_lt (pv 2) (pv 4) (pv 3))))) pa_nil))))), ?_⟩
    refine ⟨_, rfl, t, _, rfl, SqT.of ht, rfl, _, _, rfl, _, _, rfl, rfl, ?_⟩
    refine ⟨_, rfl, q, rfl, ⟨_, hq⟩, fun d hd => ?_⟩
    refine lc_list (K := K) (a := q) (xs := NL ps) (fun i H' => H' d = some (.lst (((ps.take i).map fun z => decide (x.1 < z) && decide (z < x.2)).map V.bl)) ∧ Same H H') ⟨upd_same, Same.new hd⟩ (fun i H' _ h => h.2.seq hq) ?_ ?_
    · rintro i y H' hy ⟨h1, s1⟩
      obtain ⟨p, hp, rfl⟩ := NL_at hy
      have hi : i < ps.length := (List.getElem?_eq_some_iff.mp hp).1
      have e0 : (((ps.take (i + 1)).map fun z => decide (x.1 < z) && decide (z < x.2)).map V.bl) = (((ps.take i).map fun z => decide (x.1 < z) && decide (z < x.2)).map V.bl) ++ [V.bl (decide (x.1 < p) && decide (p < x.2))] := by
        rw [take_snoc hp, List.map_append, List.map_append]
        rfl
      rw [e0]
      have fin : ∀ c : Bool, c = (decide (x.1 < p) && decide (p < x.2)) → ∃ acc, H' d = some (.lst acc) ∧ acc.length < sizeLine ∧ upd H' d (.lst (acc ++ [V.bl c])) d = some (.lst ((((ps.take i).map fun z => decide (x.1 < z) && decide (z < x.2)).map V.bl) ++ [V.bl (decide (x.1 < p) && decide (p < x.2))])) ∧ Same H (upd H' d (.lst (acc ++ [V.bl c]))) := by
        rintro c rfl
        exact ⟨_, h1, szl (by rw [List.length_map, List.length_map, List.length_take]; omega), upd_same, Same.put s1 hd⟩
      refine ⟨rfl, _, rfl, _, rfl, _, _, rfl, rfl, _, rfl, ?_⟩
      by_cases h2 : x.1 < p
      · refine ifT (decide_eq_true (by omega)) ⟨_, rfl, _, _, rfl, rfl, ?_⟩
        refine fin _ ?_
        by_cases h3 : p < x.2
        · rw [decide_eq_true (show (p : Int) < (x.2 : Int) by omega), decide_eq_true h2, decide_eq_true h3]; rfl
        · rw [decide_eq_false (show ¬ (p : Int) < (x.2 : Int) by omega), decide_eq_false h3, decide_eq_true h2]; rfl
      · exact ifF (decide_eq_false (by omega)) (fin false (by rw [decide_eq_false h2]; rfl))
    · rintro H' ⟨h1, s1⟩
      rw [List.take_of_length_le (by simp)] at h1
      refine ⟨d, _, rfl, SqL.of h1, ?_⟩
      have e : within x ps = List.any ((ps.map fun z => decide (x.1 < z) && decide (z < x.2))) id := by
        unfold within
        rw [List.any_map]
        rfl
      rw [← e]
      exact k H' s1
theorem sc_shown : FnScope ["rooms", "row", "places", "free", "spell"] ["rooms", "row", "places"] (defScope (top 16)) := ⟨rfl, rfl, rfl, by decide +kernel, rfl, by decide +kernel, by decide +kernel⟩
theorem ok_shown (T : Prog K mg) : FnOk P w K mg base CX0 3 T.shown.f T.shown.fd ["rooms", "row", "places"] (spShown K) := by
  have G_check_rooms := ok_check_rooms (P := P) (w := w) (base := base) T
  have G_check_row := ok_check_row (P := P) (w := w) (base := base) T
  have G_check_paper := ok_check_paper (P := P) (w := w) (base := base) T
  have G_find_spells := ok_find_spells (P := P) (w := w) (base := base) T
  have G_has_within := ok_has_within (P := P) (w := w) (base := base) T
  refine T.shown.fn.ok sc_shown (fun vs H Q E h => ?len) (fun cdv A outer s H vs Q E hr h => ?body)
  case len =>
    obtain ⟨n, r, q, row, ps, rfl, _⟩ := h
    rfl
  case body =>
    have hr_check_rooms : Room 1 _ := hr.mono (by decide)
    have hr_check_row : Room 2 _ := hr.mono (by decide)
    have hr_check_paper : Room 1 _ := hr.mono (by decide)
    have hr_find_spells : Room 1 _ := hr.mono (by decide)
    have hr_has_within : Room 1 _ := hr.mono (by decide)
    have hu := hu_of hr
    obtain ⟨n, r, q, row, ps, rfl, n1, n8, hS, hR, hq, hP, k⟩ := h
    refine ⟨_, PSs.nox (pss_cons (ps_expr (pe_call G_check_rooms hr_check_rooms (by rfl) T.check_rooms.g T.check_rooms.fn.kp T.check_rooms.bd .nil pass0 (pa_cons (pv 0) pa_nil)))
        (pss_cons (ps_expr (pe_call G_check_row hr_check_row (by rfl) T.check_row.g T.check_row.fn.kp T.check_row.bd .nil pass0 (pa_cons (pv 1) pa_nil)))
        (pss_cons (ps_expr (pe_call G_check_paper hr_check_paper (by rfl) T.check_paper.g T.check_paper.fn.kp T.check_paper.bd .nil pass0 (pa_cons (pv 1) (pa_cons (pv 2) pa_nil))))
        (pss_cons (ps_setLc (i := 3) (own := [("spell", 4)]) (g := gName 4) rfl sc_shown.nd rfl rfl (sw_true rfl rfl rfl (by decide +kernel)) ((pi_list (pe_call G_find_spells hr_find_spells (by rfl) T.find_spells.g T.find_spells.fn.kp T.find_spells.bd .nil pass0 (pa_cons (pv 1) pa_nil)))) (blkOk_by (own := [("spell", 4)]) (N := ["rooms", "row", "places", "free", "spell"]) (sc := defScope (top 16)) (by decide +kernel)) (fun _ _ _ _ _ => (by exact (pg_name (i := 4) sc_shown.nd rfl (Or.inl rfl)))) (fun _ _ _ _ _ => (by exact (pts_one (pt_not (pt_val (pe_call G_has_within hr_has_within (by rfl) T.has_within.g T.has_within.fn.kp T.has_within.bd .nil pass0 (pa_cons (pv 4) (pa_cons (pv 2) pa_nil)))))))) (fun _ _ _ _ _ => (by exact (pv 4))))
        (pss_one (ps_ret (pe_op op_sub (pe_op op_sub (pe_callB call_len_seq (by rfl) T.len PySem.boot_len (pa_cons (pv 1) pa_nil)) (pe_callB call_len_seq (by rfl) T.len PySem.boot_len (pa_cons (pv 3) pa_nil))) (pe_op op_mul (pe_op op_sub (pv 0) pe_int) (pe_callB call_len_seq (by rfl) T.len PySem.boot_len (pa_cons (pv 2) pa_nil)))))))))), ?_⟩
    have hR1 := hR.1
    have hpl := hP.le
    refine ⟨_, rfl, n, rfl, n1, n8, ?_⟩
    refine ⟨_, rfl, r, row, rfl, hS, hR, fun H1 s1 => ?_⟩
    refine ⟨_, rfl, _, rfl, r, q, row, ps, rfl, s1.seq hS, s1.seq hq, hP, ?_⟩
    -- free = [..]
    refine ⟨_, rfl, r, row, rfl, s1.seq hS, by omega, fun l as H2 hl s2 hl2 hp2 => ?_⟩
    have s02 := s1.trans s2
    refine ⟨l, rfl, ⟨_, SqL.of hl2⟩, fun d hd => ?_⟩
    have hsl := spellsL_le row
    refine lc_list (K := K) (a := l) (xs := as.map V.ref) (fun i H' => (∃ fs : List V, H' d = some (.lst fs) ∧ fs.length = (((spellsL row).take i).filter fun x => !within x ps).length) ∧ Same H2 H') ⟨⟨[], upd_same, rfl⟩, Same.new hd⟩ (fun i H' _ h => SqL.of (h.2 _ _ hl2)) ?_ ?_
    · rintro i y H' hy ⟨⟨fs, h1, h3⟩, s3⟩
      rw [List.getElem?_map] at hy
      cases ea : as[i]? with
      | none => rw [ea] at hy; cases hy
      | some a =>
        rw [ea] at hy
        have ey := Option.some.inj hy
        subst ey
        have hi : i < (spellsL row).length := by rw [← hp2.len]; exact (List.getElem?_eq_some_iff.mp ea).1
        have ex : (spellsL row)[i]? = some ((spellsL row)[i]'hi) := List.getElem?_eq_getElem hi
        have ha := hp2.at_ i a _ ea ex
        rw [take_snoc ex, List.filter_append]
        generalize (spellsL row)[i]'hi = x at *
        have hfl := List.length_filter_le (fun x => !within x ps) ((spellsL row).take i)
        rw [List.length_take] at hfl
        refine ⟨rfl, _, rfl, _, rfl, a, q, x, ps, rfl, s3 _ _ ha, (s02.trans s3).seq hq, by omega, fun H3 s4 => ?_⟩
        have h4 : H3 d = some (.lst fs) := s4 _ _ h1
        have s34 := s3.trans s4
        by_cases hw : within x ps = true
        · refine ⟨_, rfl, ?_⟩
          rw [hw]
          refine iteF ⟨⟨fs, h4, ?_⟩, s34⟩
          rw [List.length_append, h3]
          simp [hw]
        · have hw' : within x ps = false := by simpa using hw
          refine ⟨_, rfl, ?_⟩
          rw [hw']
          refine iteT ⟨_, rfl, fs, h4, szl (by omega), ⟨_, upd_same, ?_⟩, Same.put s34 hd⟩
          rw [List.length_append, List.length_append, h3]
          simp [hw']
    · rintro H' ⟨⟨fs, h1, h3⟩, s3⟩
      rw [List.take_of_length_le (by rw [List.length_map, hp2.len]; exact Nat.le_refl _)] at h3
      have s4 := s02.trans s3
      refine ⟨_, rfl, r, _, rfl, .inl (s4.seq hS), _, rfl, d, _, rfl, .inl (SqL.of h1), _, _, rfl, rfl, _, rfl, _, _, rfl, rfl, _, rfl, q, _, rfl, .inl (s4.seq hq), _, _, rfl, rfl, .inl ⟨by omega, by omega⟩, _, _, rfl, rfl, ?_⟩
      have e := k H' s4
      unfold shownN at e
      rw [← h3] at e
      rw [il_len, List.length_map]
      exact e
end
end CK

/-! list(zip(a, b)), a and b lists of one length. -/
namespace CKZ
open PySem PySem.Spec PyProof.Rows L2
open PySem.Sem (wp)
/-- the zip's own tuple is free (no turn yet), or out, and stands apart -/
def Out (h : Heap) (z TI TO i1 i2 S : Addr) (k : Nat) : Prop :=
  (k = 0 ∧ IsZip h z TI TO .none ∧ ∃ a b, IsPair h TO a b) ∨ ∃ T f oT, IsZipHeld h z TI TO T f ∧ h.get? T = some oT ∧ T ≠ S ∧ T ≠ z ∧ T ≠ i1 ∧ T ≠ i2
/-- a zip of two lists, k turns behind it -/
structure Zs (h : Heap) (z TI TO i1 i2 l1 l2 S : Addr) (xs ys : Array Value) (k : Nat) : Prop where
  out : Out h z TI TO i1 i2 S k
  ti : IsPair h TI (.ref i1) (.ref i2)
  a1 : h.IsListIter i1 l1 k
  a2 : h.IsListIter i2 l2 k
  e1 : h.IsList l1 xs
  e2 : h.IsList l2 ys
/-- the list that is made lies apart from all of it -/
structure SApart (S z TI TO i1 i2 l1 l2 : Addr) : Prop where
  sz : z ≠ S
  st : TI ≠ S
  so : TO ≠ S
  s1 : i1 ≠ S
  s2 : i2 ≠ S
  m1 : l1 ≠ S
  m2 : l2 ≠ S
variable {prog : Program} {w : World} {A : Around} {z TI TO i1 i2 l1 l2 S : Addr} {xs ys : Array Value}
theorem Zs.stay {h h' : Heap} {k : Nat} (x : Zs h z TI TO i1 i2 l1 l2 S xs ys k) (D : SApart S z TI TO i1 i2 l1 l2) (hk : ∀ b o, b ≠ S → h.get? b = some o → h'.get? b = some o) : Zs h' z TI TO i1 i2 l1 l2 S xs ys k := by
  refine ⟨?_, hk _ _ D.st x.ti, x.a1.at fun o e => hk _ o D.s1 e, x.a2.at fun o e => hk _ o D.s2 e, x.e1.at fun o e => hk _ o D.m1 e, x.e2.at fun o e => hk _ o D.m2 e⟩
  rcases x.out with ⟨e0, hz, a, b, hp⟩ | ⟨T, f, oT, hz, hT, n1, n2⟩
  · exact .inl ⟨e0, hk _ _ D.sz hz, a, b, hk _ _ D.so hp⟩
  · exact .inr ⟨T, f, oT, hk _ _ D.sz hz, hk _ _ n1 hT, n1, n2⟩
/-- a turn -/
theorem zs_item {s : Shared} {k : Nat} {x y : Value} {Q : Option Value → Shared → Prop} {E : Value → Shared → Prop} (Z : ZipApart z TI TO i1 i2 l1 l2) (D : SApart S z TI TO i1 i2 l1 l2) (hs : Zs s.heap z TI TO i1 i2 l1 l2 S xs ys k) (hS : S < s.heap.objs.size) (hx : xs[k]? = some x) (hy : ys[k]? = some y)
    (hQ : ∀ h', Zs h' z TI TO i1 i2 l1 l2 S xs ys (k + 1) → IsPair h' s.heap.objs.size x y → h'.objs.size = s.heap.objs.size + 1 → (∀ b o, b ≠ z → b ≠ TO → b ≠ i1 → b ≠ i2 → s.heap.get? b = some o → h'.get? b = some o) → Q (some (.ref s.heap.objs.size)) { s with heap := h' }) :
    wpAny (model prog w) A (pyNext (.ref z)) Q E s := by
  have g1 : i1 < s.heap.objs.size := by obtain ⟨_, e, _⟩ := hs.a1; exact Heap.lt_size e
  have g2 : i2 < s.heap.objs.size := by obtain ⟨_, e, _⟩ := hs.a2; exact Heap.lt_size e
  have up : ∀ h' : Heap, (∀ b o, b ≠ z → b ≠ TO → b ≠ i1 → b ≠ i2 → s.heap.get? b = some o → h'.get? b = some o) → h'.IsListIter i1 l1 (k + 1) → h'.IsListIter i2 l2 (k + 1) → Out h' z TI TO i1 i2 S (k + 1) → Zs h' z TI TO i1 i2 l1 l2 S xs ys (k + 1) := fun h' hk q1 q2 q3 =>
    ⟨q3, hk _ _ Z.TIz Z.TITO Z.TIi1 Z.TIi2 hs.ti, q1, q2, hs.e1.at fun o e => hk _ o Z.l1z Z.l1TO Z.l1i1 Z.l1i2 e, hs.e2.at fun o e => hk _ o Z.l2z Z.l2TO Z.l2i1 Z.l2i2 e⟩
  rcases hs.out with ⟨e0, hz, a, b, hp⟩ | ⟨T, f, oT, hz, hT, n1, n2, n3, n4⟩
  · refine wpAny_pyNext_zip_item Z hz hs.ti hp hs.a1 hs.a2 hs.e1 hs.e2 hx hy fun h' b1 b2 b3 b4 b5 b6 b7 => ?_
    have hzl := Heap.lt_size hz
    exact hQ h' (up h' b7 b3 b4 (.inr ⟨_, false, _, b1, b5, Nat.ne_of_gt hS, Nat.ne_of_gt hzl, Nat.ne_of_gt g1, Nat.ne_of_gt g2⟩)) b5 b6 b7
  · refine wpAny_pyNext_zip_item_held Z hz hT hs.ti hs.a1 hs.a2 hs.e1 hs.e2 hx hy fun h' b1 b3 b4 b5 b6 b7 => ?_
    have b8 : ∀ b o, b ≠ z → b ≠ TO → b ≠ i1 → b ≠ i2 → s.heap.get? b = some o → h'.get? b = some o := fun b o c1 _ c3 c4 e => b7 b o c1 c3 c4 e
    exact hQ h' (up h' b8 b3 b4 (.inr ⟨T, true, oT, b1, b7 _ _ n2 n3 n4 hT, n1, n2, n3, n4⟩)) b5 b6 b8
theorem zs_end {s : Shared} {k : Nat} {Q : Option Value → Shared → Prop} {E : Value → Shared → Prop} (hh : A.handled = none) (Z : ZipApart z TI TO i1 i2 l1 l2) (hs : Zs s.heap z TI TO i1 i2 l1 l2 S xs ys k) (hx : xs[k]? = none)
    (hQ : ∀ h', (∀ b o, b ≠ z → b ≠ TO → b ≠ i1 → b ≠ i2 → s.heap.get? b = some o → h'.get? b = some o) → Q none { s with heap := h' }) : wpAny (model prog w) A (pyNext (.ref z)) Q E s := by
  rcases hs.out with ⟨e0, hz, a, b, hp⟩ | ⟨T, f, oT, hz, hT, n1, n2, n3, n4⟩
  · exact wpAny_pyNext_zip_end hh Z hz hs.ti hp hs.a1 hs.a2 hs.e1 hs.e2 (.inl hx) fun h' hk => hQ h' hk
  · exact wpAny_pyNext_zip_end_held hh Z hz hT hs.ti hs.a1 hs.a2 hs.e1 hs.e2 (.inl hx) fun h' hk => hQ h' fun b o c1 _ c3 c4 e => hk b o c1 c3 c4 e
/-- the pairs that were made, at as -/
structure Made (h : Heap) (lo : Addr) (xs ys : Array Value) (as : List Addr) : Prop where
  rise : as.Pairwise (· < ·)
  above : ∀ a ∈ as, lo < a
  pair : ∀ (j : Nat) (a : Addr), as[j]? = some a → ∃ x y, xs[j]? = some x ∧ ys[j]? = some y ∧ IsPair h a x y
theorem Made.there {h : Heap} {lo : Addr} {as : List Addr} (g : Made h lo xs ys as) {a : Addr} (ha : a ∈ as) : a < h.objs.size := by
  obtain ⟨j, hj⟩ := List.mem_iff_getElem?.mp ha
  obtain ⟨_, _, _, _, e⟩ := g.pair j a hj
  exact Heap.lt_size e
/-- all turns: the list at S takes a pair each -/
theorem zs_loop {s : Shared} {R : Result → Shared → Prop} (hh : A.handled = none) (Z : ZipApart z TI TO i1 i2 l1 l2) (D : SApart S z TI TO i1 i2 l1 l2) (lo : Addr) (hlo : S ≤ lo ∧ z ≤ lo ∧ TO ≤ lo ∧ i1 ≤ lo ∧ i2 ≤ lo) (hxy : xs.size ≤ ys.size) (hn : xs.size ≤ sizeLine) (res : Value) {h₁ : Heap}
    (hR : ∀ h' tk acc c as, (∀ b o, b ≠ S → b ≠ z → b ≠ TO → b ≠ i1 → b ≠ i2 → h₁.get? b = some o → h'.get? b = some o) → h'.get? S = some { cls := .type "list", dict := none, data := .seq acc c, slots := #[] } → as.length = xs.size → Made h' lo xs ys as → acc.toList = as.map Value.ref → R (.ok (.ret res)) { s with heap := h', toks := tk }) :
    ∀ (m k : Nat) (h : Heap) (tk c : Nat) (acc : Array Value) (as : List Addr), xs.size - k = m → k ≤ xs.size → Zs h z TI TO i1 i2 l1 l2 S xs ys k → (∀ b o, b ≠ S → b ≠ z → b ≠ TO → b ≠ i1 → b ≠ i2 → h₁.get? b = some o → h.get? b = some o) →
      h.get? S = some { cls := .type "list", dict := none, data := .seq acc c, slots := #[] } → acc.toList = as.map Value.ref → as.length = k → Made h lo xs ys as → lo < h.objs.size →
      codeAny (model prog w) A (.builtin "list.extend.loop" ⟨[.ref S, .ref z, res], []⟩) R { s with heap := h, toks := tk } := by
  intro m
  induction m with
  | zero =>
    intro k h tk c acc as hm hk st keep hS hacc hal hG hlt
    have ek : k = xs.size := by omega
    refine codeAny_builtin PySem.F.entry_extend_loop ?_; rw [Around.under_plainId PySem.F.plain_extend_loop _]
    refine wpAny_bind (zs_end (s := { s with heap := h, toks := tk }) (A := A.in1) (S := S) hh Z st (by rw [ek]; simp) fun h' he => ?_)
    refine wpAny_pure (hR h' tk acc c as (fun b o c0 c1 c2 c3 c4 e => he b o c1 c2 c3 c4 (keep b o c0 c1 c2 c3 c4 e)) (he S _ D.sz.symm D.so.symm D.s1.symm D.s2.symm hS) (by omega) ⟨hG.rise, hG.above, fun j a hj => ?_⟩ hacc)
    obtain ⟨x, y, f1, f2, f3⟩ := hG.pair j a hj
    have ga := hG.above a (List.mem_of_getElem? hj)
    exact ⟨x, y, f1, f2, he a _ (Nat.ne_of_gt (Nat.lt_of_le_of_lt hlo.2.1 ga)) (Nat.ne_of_gt (Nat.lt_of_le_of_lt hlo.2.2.1 ga)) (Nat.ne_of_gt (Nat.lt_of_le_of_lt hlo.2.2.2.1 ga)) (Nat.ne_of_gt (Nat.lt_of_le_of_lt hlo.2.2.2.2 ga)) f3⟩
  | succ m ih =>
    intro k h tk c acc as hm hk st keep hS hacc hal hG hlt
    have kl : k < xs.size := by omega
    have ex : xs[k]? = some (xs[k]'kl) := Array.getElem?_eq_getElem kl
    have ey : ys[k]? = some (ys[k]'(by omega)) := Array.getElem?_eq_getElem _
    have esz : acc.size = k := by rw [← Array.length_toList, hacc, List.length_map, hal]
    refine codeAny_builtin PySem.F.entry_extend_loop ?_; rw [Around.under_plainId PySem.F.plain_extend_loop _]
    refine wpAny_bind (zs_item (s := { s with heap := h, toks := tk }) (A := A.in1) Z D st (Heap.lt_size hS) ex ey fun h' st' ht hz hkp => ?_)
    dsimp only at ht hz hkp ⊢
    have hS' := hkp S _ D.sz.symm D.so.symm D.s1.symm D.s2.symm hS
    have up : ∀ b o, b ≠ S → h'.get? b = some o → (h'.update S (Obj.mapSeq (·.push (Value.ref h.objs.size)))).get? b = some o := fun b o hb e => (Heap.get?_update_other _ _ (Ne.symm hb)).trans e
    have hSl : S < h.objs.size := Heap.lt_size hS
    show wpAny _ A.in1 (updateSeq S (·.push (Value.ref h.objs.size)) >>= _) _ _ _; refine wpAny_bind ?_
    refine wpAny_updateSeq hS' rfl (wpAny_pure ⟨plainId_quiet PySem.F.plain_extend_loop _, ih (k + 1) _ tk _ (acc.push (Value.ref h.objs.size)) (as ++ [h.objs.size]) (by omega) kl (st'.stay D up)
      (fun b o c0 c1 c2 c3 c4 e => up b o c0 (hkp b o c1 c2 c3 c4 (keep b o c0 c1 c2 c3 c4 e))) (Heap.get?_update_self _ hS' rfl) (by rw [Array.toList_push, hacc, List.map_append]; rfl) (by rw [List.length_append, hal]; rfl) ⟨?_, ?_, ?_⟩ ?_⟩) (by rw [esz]; omega) (by show (acc.push (Value.ref h.objs.size)).size ≤ sizeLine + 1; rw [Array.size_push, esz]; omega)
    · refine List.pairwise_append.mpr ⟨hG.rise, List.pairwise_singleton _ _, fun a ha b hb => ?_⟩
      rw [List.mem_singleton.mp hb]; exact hG.there ha
    · intro a ha
      rcases List.mem_append.mp ha with ha | ha
      · exact hG.above a ha
      · rw [List.mem_singleton.mp ha]; exact hlt
    · intro j b hj
      by_cases q1 : j < as.length
      · rw [List.getElem?_append_left q1] at hj
        obtain ⟨x', y', f1, f2, f3⟩ := hG.pair j b hj
        have ga := hG.above b (List.mem_of_getElem? hj)
        exact ⟨x', y', f1, f2, up b _ (Nat.ne_of_gt (Nat.lt_of_le_of_lt hlo.1 ga)) (hkp b _ (Nat.ne_of_gt (Nat.lt_of_le_of_lt hlo.2.1 ga)) (Nat.ne_of_gt (Nat.lt_of_le_of_lt hlo.2.2.1 ga)) (Nat.ne_of_gt (Nat.lt_of_le_of_lt hlo.2.2.2.1 ga)) (Nat.ne_of_gt (Nat.lt_of_le_of_lt hlo.2.2.2.2 ga)) f3)⟩
      · have q2 : j = as.length := by
          have := (List.getElem?_eq_some_iff.mp hj).1
          rw [List.length_append] at this
          simp at this
          omega
        subst q2
        have hb : h.objs.size = b := by simpa using hj
        subst hb
        exact ⟨_, _, by rw [hal]; exact ex, by rw [hal]; exact ey, up _ _ (Nat.ne_of_gt hSl) ht⟩
    · have e : (h'.update S (Obj.mapSeq (·.push (Value.ref h.objs.size)))).get? h.objs.size = _ := up _ _ (Nat.ne_of_gt hSl) ht
      exact Nat.lt_trans hlt (Heap.lt_size e)
theorem zip_len : typeLookup (.type "zip") "__len__" = pure none := by rw [typeLookup_type, builtinLookup_eq_fast]; kernel_rfl
theorem zip_hint : typeLookup (.type "zip") "__length_hint__" = pure none := by rw [typeLookup_type, builtinLookup_eq_fast]; kernel_rfl
end CKZ

/-! list(zip(a, b)): the call, and its reading. -/
namespace CKZ
open PySem PySem.Spec PyProof.Rows L2
open PySem.Sem (wp)
section
variable {prog : Program} {w : World} {A : Around} {z TI TO i1 i2 l1 l2 S : Addr} {xs ys : Array Value}
theorem zs_hint {s : Shared} {f0 : Value} {E : Value → Shared → Prop} {Q : Bool → Shared → Prop} (hz : IsZip s.heap z TI TO f0) (h : Q true s) : wpAny (model prog w) A (Builtin.List.listLengthHint (.ref z)) Q E s := by
  have hT : s.TypeIs (.ref z) "zip" := ⟨_, hz, rfl⟩
  unfold Builtin.List.listLengthHint
  refine wpAny_bind (wpAny_specialOf hT zip_len ?_)
  show wpAny _ A (specialOf (Value.ref z) (Str.ofString "__length_hint__") >>= _) _ _ s
  refine wpAny_bind (wpAny_specialOf hT zip_hint ?_)
  exact wpAny_pure h
theorem zs_extend {s : Shared} {R : Result → Shared → Prop} (hh : A.handled = none) (Z : ZipApart z TI TO i1 i2 l1 l2) (D : SApart S z TI TO i1 i2 l1 l2) (hxy : xs.size ≤ ys.size) (hn : xs.size ≤ sizeLine) (hz : IsZip s.heap z TI TO .none) (st : Zs s.heap z TI TO i1 i2 l1 l2 S xs ys 0) (res : Value) (c₀ : Nat)
    (hS : s.heap.get? S = some { cls := .type "list", data := .seq #[] c₀ }) (lo : Addr) (hlo : S ≤ lo ∧ z ≤ lo ∧ TO ≤ lo ∧ i1 ≤ lo ∧ i2 ≤ lo) (hlt : lo < s.heap.objs.size)
    (hR : ∀ h' tk acc c as, (∀ b o, b ≠ S → b ≠ z → b ≠ TO → b ≠ i1 → b ≠ i2 → s.heap.get? b = some o → h'.get? b = some o) → h'.get? S = some { cls := .type "list", dict := none, data := .seq acc c, slots := #[] } → as.length = xs.size → Made h' lo xs ys as → acc.toList = as.map Value.ref → R (.ok (.ret res)) { s with heap := h', toks := tk }) :
    wpAny (model prog w) A.in1 (Builtin.List.listExtendWith (.ref S) (.ref z) res)
      (fun fin s' => match fin with | .done f => R (.ok f) s' | .again c' => c'.quiet = true ∧ codeAny (model prog w) A c' R s') (fun e s' => R (.error e) s') s := by
  have hT : s.TypeIs (.ref z) "zip" := ⟨_, hz, rfl⟩
  unfold Builtin.List.listExtendWith
  refine wpAny_bind (wpAny_typeOf hT ?_)
  have h1 : Builtin.List.listSameRef (.ref S) (.ref z) = false := by simp [Builtin.List.listSameRef, D.sz.symm]
  have h2 : (Value.type "zip" == Value.type "list") = false := by decide
  have h3 : (Value.type "zip" == Value.type "tuple") = false := by decide
  simp only [h1, h2, h3, Bool.or_false, Bool.false_eq_true, if_false]
  refine wpAny_bind (wpAny_pyIter_zip hz ?_)
  refine wpAny_bind (wpAny_holding (zs_hint hz ?_))
  have go : ∀ (h : Heap) (c₁ : Nat), (∀ b o, b ≠ S → s.heap.get? b = some o → h.get? b = some o) → h.get? S = some { cls := .type "list", data := .seq #[] c₁ } → lo < h.objs.size → codeAny (model prog w) A (.builtin "list.extend.loop" ⟨[.ref S, .ref z, res], []⟩) R { s with heap := h } := fun h c₁ hk hS₁ hl =>
    zs_loop (s := s) (h₁ := s.heap) hh Z D lo hlo hxy hn res (fun h' tk acc c as k1 k2 k3 k4 k5 => hR h' tk acc c as k1 k2 k3 k4 k5) xs.size 0 h s.toks c₁ #[] [] (Nat.sub_zero _) (Nat.zero_le _) (st.stay D hk) (fun b o c0 _ _ _ _ e => hk b o c0 e) hS₁ rfl rfl ⟨List.Pairwise.nil, (fun _ ha => nomatch ha), (fun j a hj => by simp at hj)⟩ hl
  refine wpAny_ite_split (fun _ => ?_) (fun q => absurd rfl q)
  refine wpAny_bind (wpAny_rule (wpAny_bind ?_))
  show wpAny _ _ (updateSeq S (·.push .none) >>= fun _ => updateSeq S (·.pop)) _ _ s
  refine wpAny_bind (wpAny_updateSeq hS rfl ?_)
  have hS₂ := Heap.get?_update_self (Obj.mapSeq (·.push Value.none)) hS rfl
  refine wpAny_updateSeq (hz := by seq_fits) hS₂ rfl ?_
  have hS₃ := Heap.get?_update_self (Obj.mapSeq (·.pop)) hS₂ rfl
  refine wpAny_pure ⟨plainId_quiet PySem.F.plain_extend_loop _, go _ _ (fun b o hb e => (Heap.get?_update_other _ _ (Ne.symm hb)).trans ((Heap.get?_update_other _ _ (Ne.symm hb)).trans e)) hS₃ ?_⟩
  show lo < ((s.heap.update S _).update S _).objs.size
  rw [Heap.size_update, Heap.size_update]
  exact hlt
theorem call_listZip {s : Shared} {E : Value → Shared → Prop} {Q : Value → Shared → Prop} (hh : A.handled = none) (Z : ZipApart z TI TO i1 i2 l1 l2) (hz : IsZip s.heap z TI TO .none) (hTI : IsPair s.heap TI (.ref i1) (.ref i2)) (hTO : IsPair s.heap TO .none .none) (h1 : s.heap.IsListIter i1 l1 0) (h2 : s.heap.IsListIter i2 l2 0)
    (hl1 : s.heap.IsList l1 xs) (hl2 : s.heap.IsList l2 ys) (hxy : xs.size ≤ ys.size) (hn : xs.size ≤ sizeLine)
    (hQ : ∀ h' tk acc c as, (∀ b o, b ≠ z → b ≠ TO → b ≠ i1 → b ≠ i2 → s.heap.get? b = some o → h'.get? b = some o) → h'.get? s.heap.objs.size = some { cls := .type "list", dict := none, data := .seq acc c, slots := #[] } → as.length = xs.size → Made h' s.heap.objs.size xs ys as → acc.toList = as.map Value.ref → Q (.ref s.heap.objs.size) { s with heap := h', toks := tk }) :
    wpAny (model prog w) A (call (.type "list") [.ref z]) Q E s := by
  have p1 := Heap.lt_size hz
  have p2 := Heap.lt_size hTI
  have p3 := Heap.lt_size hTO
  have p4 : i1 < s.heap.objs.size := by obtain ⟨_, e, _⟩ := h1; exact Heap.lt_size e
  have p5 : i2 < s.heap.objs.size := by obtain ⟨_, e, _⟩ := h2; exact Heap.lt_size e
  have p6 : l1 < s.heap.objs.size := by obtain ⟨_, e, _⟩ := hl1; exact Heap.lt_size e
  have p7 : l2 < s.heap.objs.size := by obtain ⟨_, e, _⟩ := hl2; exact Heap.lt_size e
  have D : SApart s.heap.objs.size z TI TO i1 i2 l1 l2 := ⟨Nat.ne_of_lt p1, Nat.ne_of_lt p2, Nat.ne_of_lt p3, Nat.ne_of_lt p4, Nat.ne_of_lt p5, Nat.ne_of_lt p6, Nat.ne_of_lt p7⟩
  refine callType_codes (Q₁ := fun obj s₁ => obj = .ref s.heap.objs.size ∧ s₁ = { s with heap := s.heap.push { cls := .type "list", data := .seq #[] } }) PySem.F.called_list (PySem.F.typeCall_list_1 _) PySem.F.entry_list_init (code_list_new _ ⟨rfl, rfl⟩) fun obj s₁ q₁ => ?_
  obtain ⟨rfl, rfl⟩ := q₁
  have hS : (s.heap.push { cls := .type "list", data := .seq #[] }).get? s.heap.objs.size = some { cls := .type "list", data := .seq #[] } := Heap.get?_push_size _ rfl
  have up : ∀ b o, s.heap.get? b = some o → (s.heap.push { cls := .type "list", data := .seq #[] }).get? b = some o := fun b o e => Heap.get?_push_of_some _ e
  refine ⟨⟨_, hS, rfl⟩, PySem.F.args_list_init_2 _ _, ?_⟩
  show wpAny _ _ (do let old ← Builtin.List.listItems (.ref s.heap.objs.size); Builtin.List.listUpdate (.ref s.heap.objs.size) (fun _ => #[]); letGo old.toList.reverse; Builtin.List.listExtendWith (.ref s.heap.objs.size) (.ref z) .none) _ _ _
  refine wpAny_bind ?_
  unfold Builtin.List.listItems; refine wpAny_bind (wpAny_seqItems hS rfl (wpAny_pure ?_))
  show wpAny _ _ (updateSeq s.heap.objs.size (fun _ => #[]) >>= fun _ => letGo (#[] : Array Value).toList.reverse >>= fun _ => Builtin.List.listExtendWith (.ref s.heap.objs.size) (.ref z) .none) _ _ _
  refine wpAny_bind (wpAny_updateSeq hS rfl ?_)
  have hS₂ := Heap.get?_update_self (Obj.mapSeq (fun _ => (#[] : Array Value))) hS rfl
  have up2 : ∀ b o, b ≠ s.heap.objs.size → s.heap.get? b = some o → ((s.heap.push { cls := .type "list", data := .seq #[] }).update s.heap.objs.size (Obj.mapSeq (fun _ => (#[] : Array Value)))).get? b = some o := fun b o hb e => (Heap.get?_update_other _ _ (Ne.symm hb)).trans (up b o e)
  refine wpAny_bind (wpAny_letGo ?_)
  have hz2 := up2 _ _ D.sz hz
  have st : Zs ((s.heap.push { cls := .type "list", data := .seq #[] }).update s.heap.objs.size (Obj.mapSeq (fun _ => (#[] : Array Value)))) z TI TO i1 i2 l1 l2 s.heap.objs.size xs ys 0 :=
    ⟨.inl ⟨rfl, hz2, _, _, up2 _ _ D.so hTO⟩, up2 _ _ D.st hTI, h1.at fun o e => up2 _ o D.s1 e, h2.at fun o e => up2 _ o D.s2 e, hl1.at fun o e => up2 _ o D.m1 e, hl2.at fun o e => up2 _ o D.m2 e⟩
  refine zs_extend (A := A.in1) hh Z D hxy hn hz2 st .none _ hS₂ s.heap.objs.size ⟨Nat.le_refl _, Nat.le_of_lt p1, Nat.le_of_lt p3, Nat.le_of_lt p4, Nat.le_of_lt p5⟩ ?_ fun h' tk acc c as k1 k2 k3 k4 k5 => ?_
  · show s.heap.objs.size < ((s.heap.push _).update _ _).objs.size
    rw [Heap.size_update, Heap.size_push]
    exact Nat.lt_succ_self _
  · exact ⟨rfl, hQ h' tk acc c as (fun b o c1 c2 c3 c4 e => k1 b o (Nat.ne_of_lt (Heap.lt_size e)) c1 c2 c3 c4 (up2 b o (Nat.ne_of_lt (Heap.lt_size e)) e)) k2 k3 k4 k5⟩
end
/-- pairs laid at their places -/
def lay2 : Hp → List Addr → List (V × V) → Hp
  | H, a :: as, p :: ps => lay2 (upd H a (.tup [p.1, p.2])) as ps
  | H, _, _ => H
theorem lay2_off {b : Addr} : ∀ (as : List Addr) (ps : List (V × V)) (H : Hp), b ∉ as → lay2 H as ps b = H b
  | [], _, _, _ => rfl
  | _ :: _, [], _, _ => rfl
  | a :: as, p :: ps, H, h => by
    show lay2 (upd H a (.tup [p.1, p.2])) as ps b = H b
    rw [lay2_off as ps _ (fun q => h (List.mem_cons_of_mem _ q)), upd_ne (fun q => h (by rw [q]; exact List.mem_cons_self))]
theorem lay2_at : ∀ (as : List Addr) (ps : List (V × V)) (H : Hp), as.length = ps.length → as.Nodup → ∀ (j : Nat) (a : Addr) (p : V × V), as[j]? = some a → ps[j]? = some p → lay2 H as ps a = some (.tup [p.1, p.2])
  | [], _, _, _, _, _, _, _, h, _ => by cases h
  | a :: as, [], _, h, _, _, _, _, _, _ => by cases h
  | a :: as, p :: ps, H, hl, nd, 0, b, q, h1, h2 => by
    have e1 : a = b := Option.some.inj h1
    have e2 : p = q := Option.some.inj h2
    rw [← e1, ← e2]
    show lay2 (upd H a (.tup [p.1, p.2])) as ps a = _
    rw [lay2_off as ps _ (List.nodup_cons.mp nd).1, upd_same]
  | a :: as, p :: ps, H, hl, nd, j + 1, b, q, h1, h2 => lay2_at as ps _ (Nat.succ.inj hl) (List.nodup_cons.mp nd).2 j b q h1 h2
def tListZip (K : PySem.W.Frag) (ta : TA) : TE := fun σ H Q => ta σ H fun vs H1 => ∃ (a b : Addr) (xs ys : List V), vs = [.ref a, .ref b] ∧ SqL K H1 a xs ∧ SqL K H1 b ys ∧ xs.length ≤ ys.length ∧
  ∀ (H' : Hp) (p : Addr) (ts : List Addr), (∀ c o, H1 c = some o → H' c = some o) → H1 p = none → H' p = some (.lst (ts.map V.ref)) → ts.length = xs.length → (∀ (j : Nat) (t : Addr) (x y : V), ts[j]? = some t → xs[j]? = some x → ys[j]? = some y → H' t = some (.tup [x, y])) → Q (.ref p) H'
section
variable {X : Cx} {e e2 : Expr} {ta : TA} {p p2 pos pos2 : Pos}
theorem vals_refs : ∀ as : List Addr, Vals (as.map V.ref) (as.map Value.ref)
  | [] => .nil
  | _ :: as => .cons rfl (vals_refs as)
theorem pe_listZip (hc : X.calm = true) (hg : Gl X "list") (hm : X.mg "list" = none) (hg2 : Gl X "zip") (hm2 : X.mg "zip" = none) (ha : PA X [e, e2] ta)
    (hs : starEach [e, e2] X.env = (false, eval e X.env) :: starEach [e2] X.env := by rfl) (hpl : (backTo pos2 (starEach [e2] X.env)).any (·.1) = false := by rfl)
    (hs2 : starEach [.Call (.Name "zip" p2) [e, e2] [] pos2] X.env = (false, eval (.Call (.Name "zip" p2) [e, e2] [] pos2) X.env) :: starEach [] X.env := by rfl) :
    PE X (.Call (.Name "list" p) [.Call (.Name "zip" p2) [e, e2] [] pos2] [] pos) (tListZip X.K ta) := by
  refine ⟨fun pins s σ H Q I h => ?_⟩
  refine Call_ (ld_blt I hg hm boot_list (PyProof.Rows.callWith_type1 (args_cons (Call_ (ld_blt I hg2 hm2 PyProof.Rows.boot_zip (PyProof.Rows.callWith_type1 (thn (ha.run pos2 pins s σ H _ I h) fun us s1 ⟨vs, H1, I1, r1, q1⟩ => ?_) hs hpl))) hs2) hs2 rfl))
  obtain ⟨a, b, xs, ys, ev, hqx, hqy, hxy, q⟩ := q1
  subst ev
  cases r1 with
  | cons r rr =>
    cases rr with
    | cons r' rr =>
      cases rr
      cases r
      cases r'
      obtain ⟨its, rv, p1, hz1⟩ := I1.list hqx
      obtain ⟨its2, rv2, p2', hz2⟩ := I1.list hqy
      have ln1 := rv.length
      have ln2 := rv2.length
      refine call_zip_2 p1.isList p2'.isList fun h' hz hTI hTO h1 h2 hsz hk => args_nil ?_
      have I2 : Inv X pins σ H1 { s1 with heap := h' } := I1.kept (t' := s1.toks) hk
      refine call_listZip (s := { s1 with heap := h' }) (I2.ok.hd hc) (PySem.W.ktu_apart s1.heap.objs.size a b p1.lt p2'.lt) hz hTI hTO h1 h2 (p1.isList.at fun o q => hk a o q) (p2'.isList.at fun o q => hk b o q) (by simp only [List.size_toArray]; omega) (by rw [List.size_toArray, ← ln1]; exact hz1) fun h'' tk acc c as k1 k2 k3 k4 k5 => ?_
      have nd : as.Nodup := List.Pairwise.imp (fun {a b} (h : a < b) => Nat.ne_of_lt h) k4.rise
      have big : s1.heap.objs.size ≤ h'.objs.size := by rw [hsz]; exact Nat.le_add_right _ _
      have new : ∀ t ∈ as, H1 t = none := fun t ht => I1.hok.fresh (Nat.le_trans big (Nat.le_of_lt (k4.above t ht)))
      have newS : H1 h'.objs.size = none := I1.hok.fresh big
      have hSn : h'.objs.size ∉ as := fun z => Nat.lt_irrefl _ (k4.above _ z)
      have old : ∀ b o, s1.heap.get? b = some o → h''.get? b = some o := fun c o e => by
        have hl := Heap.lt_size e
        exact k1 c o (Nat.ne_of_lt (Nat.lt_of_lt_of_le hl (Nat.le_add_right _ _))) (Nat.ne_of_lt (Nat.lt_of_lt_of_le hl (Nat.le_add_right _ _))) (Nat.ne_of_lt hl) (Nat.ne_of_lt (Nat.lt_of_lt_of_le hl (Nat.le_add_right _ _))) (hk c o e)
      have las : as.length = (xs.zip ys).length := by rw [k3, List.size_toArray, List.length_zip]; omega
      have ats := lay2_at as (xs.zip ys) (upd H1 h'.objs.size (.lst (as.map V.ref))) las nd
      have off : ∀ b, b ∉ as → b ≠ h'.objs.size → lay2 (upd H1 h'.objs.size (.lst (as.map V.ref))) as (xs.zip ys) b = H1 b := fun b n1 n2 => by rw [lay2_off as _ _ n1, upd_ne n2]
      have kp : ∀ b u, H1 b = some u → lay2 (upd H1 h'.objs.size (.lst (as.map V.ref))) as (xs.zip ys) b = some u := fun b u e => by
        rw [off b (fun z => by rw [new b z] at e; cases e) (fun z => by rw [z, newS] at e; cases e)]
        exact e
      have eS : lay2 (upd H1 h'.objs.size (.lst (as.map V.ref))) as (xs.zip ys) h'.objs.size = some (.lst (as.map V.ref)) := by rw [lay2_off as _ _ hSn, upd_same]
      have low : ∀ b o, s1.heap.get? b = some o → b ∉ as ∧ b ≠ h'.objs.size := fun b o e => ⟨fun z => absurd (Heap.lt_size e) (Nat.not_lt.mpr (Nat.le_trans big (Nat.le_of_lt (k4.above b z)))), Nat.ne_of_lt (Nat.lt_of_lt_of_le (Heap.lt_size e) big)⟩
      refine ⟨.ref h'.objs.size, lay2 (upd H1 h'.objs.size (.lst (as.map V.ref))) as (xs.zip ys), ?_, rfl, q _ _ as kp newS eS (by rw [k3, List.size_toArray, ← ln1]) fun j t x y f1 f2 f3 => ats j t (x, y) f1 (List.getElem?_zip_eq_some.mpr ⟨f2, f3⟩)⟩
      refine I1.call' (ch := []) rfl ⟨fun b o q _ _ _ => old b o q, fun b o q _ _ _ => ⟨o.slots, old b o q⟩, fun b o q n _ => ?_, fun b o q _ => ⟨o, old b o q⟩, fun b xs q => kp b _ q, fun b o u q => kp b _ q, fun b ps q => ⟨#[], by rw [kp b _ q]; simp⟩⟩ (fun b u q => ?_) I1.bare fun b z => by simp at z
      · obtain ⟨z1, z2⟩ := low b o q
        rw [off b z1 z2]
        exact n
      · by_cases hb : b ∈ as
        · obtain ⟨j, hj⟩ := List.mem_iff_getElem?.mp hb
          obtain ⟨x, y, f1, f2, f3⟩ := k4.pair j b hj
          have jl : j < as.length := (List.getElem?_eq_some_iff.mp hj).1
          have jx : j < xs.length := by rw [k3, List.size_toArray] at jl; omega
          have jy : j < ys.length := by omega
          have ex : xs[j]? = some (xs[j]'jx) := List.getElem?_eq_getElem jx
          have ey : ys[j]? = some (ys[j]'jy) := List.getElem?_eq_getElem jy
          have g := ats j b (xs[j]'jx, ys[j]'jy) hj (List.getElem?_zip_eq_some.mpr ⟨ex, ey⟩)
          rw [g] at q
          cases q
          obtain ⟨u, hu, ru⟩ := rv.get ex
          obtain ⟨u2, hu2, ru2⟩ := rv2.get ey
          have e1 : u = x := Option.some.inj ((by simpa using hu.symm : some u = its.toArray[j]?).trans f1)
          have e2 : u2 = y := Option.some.inj ((by simpa using hu2.symm : some u2 = its2.toArray[j]?).trans f2)
          rw [e1] at ru
          rw [e2] at ru2
          exact ⟨by show 2 ≤ sizeLine; decide, [x, y], .cons ru (.cons ru2 .nil), ⟨_, f3, rfl, _, rfl⟩⟩
        · by_cases hb2 : b = h'.objs.size
          · rw [hb2] at q ⊢
            rw [eS] at q
            cases q
            refine ⟨by rw [List.length_map, las, List.length_zip]; have := hz1; omega, acc.toList, c, by rw [k5]; exact vals_refs as, ?_⟩
            rw [Array.toArray_toList]
            exact k2
          · rw [off b hb hb2] at q
            exact (I1.hok b u q).stay (fun d v _ y => old d v y) (fun d y => kp d _ y) fun d xs y => kp d _ y
end
end CKZ

/-! Stretches. -/
namespace CK
open PySem PySem.Spec PyProof.Rows L2
/-- the begins of the stretches, and the pages of the last one, the first i asks gone through -/
structure Bg where
  bs : List Nat
  ps : List Int
def Bg.step (n : Nat) (s : Bg) (i : Nat) (p : Int) : Bg :=
  if p ∈ s.ps then s else if i = 0 ∨ s.ps.length = n then ⟨s.bs ++ [i], [p]⟩ else ⟨s.bs, s.ps ++ [p]⟩
def bgTo (n : Nat) (row : List Int) : Nat → Bg
  | 0 => ⟨[], []⟩
  | i + 1 => match row[i]? with
    | some p => (bgTo n row i).step n i p
    | none => bgTo n row i
theorem bgTo_succ {n : Nat} {row : List Int} {i : Nat} {p : Int} (h : row[i]? = some p) : bgTo n row (i + 1) = (bgTo n row i).step n i p := by
  show (match row[i]? with | some p => (bgTo n row i).step n i p | none => bgTo n row i) = _
  rw [h]
theorem bgTo_le (n : Nat) (row : List Int) : ∀ i, (bgTo n row i).bs.length ≤ i ∧ (bgTo n row i).ps.length ≤ i
  | 0 => ⟨Nat.le_refl _, Nat.le_refl _⟩
  | i + 1 => by
    have ⟨h1, h2⟩ := bgTo_le n row i
    cases hp : row[i]? with
    | none =>
      have e : bgTo n row (i + 1) = bgTo n row i := by
        show (match row[i]? with | some p => (bgTo n row i).step n i p | none => bgTo n row i) = _
        rw [hp]
      rw [e]
      exact ⟨by omega, by omega⟩
    | some p =>
      rw [bgTo_succ hp]
      unfold Bg.step
      split
      · exact ⟨by omega, by omega⟩
      · split
        · exact ⟨by rw [List.length_append]; simp; omega, by simp⟩
        · exact ⟨Nat.le_succ_of_le h1, by rw [List.length_append]; simp; omega⟩
def begins (n : Nat) (row : List Int) : List Nat := (bgTo n row row.length).bs
/-- the stretches -/
def parts (n : Nat) (row : List Int) : List (Nat × Nat) := (begins n row).zip ((begins n row).drop 1 ++ [row.length])
theorem parts_len (n : Nat) (row : List Int) : (parts n row).length = (begins n row).length := by
  unfold parts
  rw [List.length_zip, List.length_append, List.length_drop]
  simp
  omega
theorem begins_le (n : Nat) (row : List Int) : (begins n row).length ≤ row.length := (bgTo_le n row _).1
theorem parts_le (n : Nat) (row : List Int) : (parts n row).length ≤ row.length := by rw [parts_len]; exact begins_le n row
/-- how many of the places lie in each part -/
def countIn (ls : List Nat) (xs : List (Nat × Nat)) : List Nat := xs.map fun x => (ls.filter fun q => decide (x.1 ≤ q) && decide (q < x.2)).length
def spBegins (K : PySem.W.Frag) : Sp := fun vs H Q _ => ∃ (n : Int) (r : Addr) (row : List Int), vs = [.int n, .ref r] ∧ 1 ≤ n ∧ n ≤ 8 ∧ SqL K H r (il row) ∧ RowOk row ∧
  ∀ (d : Addr) (H' : Hp), H d = none → Same H H' → H' d = some (.lst (NL (begins n.toNat row))) → Q (.ref d) H'
def spStretches (K : PySem.W.Frag) : Sp := fun vs H Q _ => ∃ (n : Int) (r : Addr) (row : List Int), vs = [.int n, .ref r] ∧ 1 ≤ n ∧ n ≤ 8 ∧ SqL K H r (il row) ∧ RowOk row ∧
  ∀ (d : Addr) (as : List Addr) (H' : Hp), H d = none → Same H H' → H' d = some (.lst (as.map V.ref)) → PairsAt H' as (parts n.toNat row) → Q (.ref d) H'
def spLackingIn (K : PySem.W.Frag) : Sp := fun vs H Q _ => ∃ (n : Int) (r : Addr) (row : List Int) (rule : Rl), vs = [.int n, .ref r, .str rule.s] ∧ 1 ≤ n ∧ n ≤ 8 ∧ SqL K H r (il row) ∧ RowOk row ∧
  ∀ (d : Addr) (H' : Hp), H d = none → Same H H' → H' d = some (.lst (NL (countIn (lacksR n.toNat rule row) (parts n.toNat row)))) → Q (.ref d) H'
theorem cut_from1 (ns : List Nat) : cutV (NL ns) (some 1) none = NL (ns.drop 1) := by
  unfold cutV
  rw [HT.sIx_none]
  have e : HT.sIx (NL ns).length 0 (some (1 : Int)) = min 1 (NL ns).length   := HT.sIx_nat _ _ 1
  rw [e]
  cases ns with
  | nil => rfl
  | cons a r =>
    have e2 : min 1 (NL (a :: r)).length = 1 := by simp
    rw [e2]
    show (NL r).take _ = NL r
    exact List.take_of_length_le (by simp)
section
variable {P : Program} {w : World} {K : PySem.W.Frag} {mg : Str → Option Value} {base : Heap}
theorem sc_begins : FnScope ["rooms", "row", "begins", "pages", "place", "page"] ["rooms", "row"] (defScope (top 42)) := ⟨rfl, rfl, rfl, by decide +kernel, rfl, by decide +kernel, by decide +kernel⟩
theorem ok_begins (T : Prog K mg) : FnOk P w K mg base CX0 1 T.begins.f T.begins.fd ["rooms", "row"] (spBegins K) := by
  refine T.begins.fn.ok sc_begins (fun vs H Q E h => ?len) (fun cdv A outer s H vs Q E hr h => ?body)
  case len =>
    obtain ⟨n, r, row, rfl, _⟩ := h
    rfl
  case body =>
    have hu := hu_of hr
    obtain ⟨n, r, row, rfl, n1, n8, hS, hR, k⟩ := h
    refine ⟨_, PSs.nox (pss_cons (ps_set (i := 2) sc_begins.nd rfl (Or.inl rfl) (pe_lst pa_nil))
        (pss_cons (ps_set (i := 3) sc_begins.nd rfl (Or.inl rfl) (pe_lst pa_nil))
        (pss_cons (ps_for PassesOwn.never rfl (pi_enum (by rfl) T.enumerate (pa_cons (pv 1) pa_nil)) (pg_tup rfl (pgs_cons (pg_name (i := 4) sc_begins.nd rfl (Or.inl rfl)) (pgs_cons (pg_name (i := 5) sc_begins.nd rfl (Or.inl rfl)) pgs_nil)))
        (pss_cons (ps_if (pt_cmpR op_in_seq (pv 5) (pv 3) (by rfl))
        (pss_one ps_continue)
        pss_nil)
        (pss_cons (ps_if (PW.pt (pw_or (pt_cmpR op_eq (pv 4) pe_int (nomark _)) (pw_or1 (pt_cmpR op_eq (pe_callB call_len_seq (by rfl) T.len PySem.boot_len (pa_cons (pv 3) pa_nil)) (pv 0) (nomark _)))))
        (pss_cons (ps_expr (pe_bm PySem.F.plainAttrs_list PySem.F.slot_list_append PySem.F.type_list_append mt_append (pv 2) (pa_cons (pv 4) pa_nil)))
        (pss_one (ps_set (i := 3) sc_begins.nd rfl (Or.inl rfl) (pe_lst pa_nil))))
        pss_nil)
        (pss_one (ps_expr (pe_bm PySem.F.plainAttrs_list PySem.F.slot_list_append PySem.F.type_list_append mt_append (pv 3) (pa_cons (pv 5) pa_nil)))))))
        (pss_one (ps_ret (pv 2)))))), ?_⟩
    have hR1 := hR.1
    refine ⟨szd rfl, fun d hd => ⟨szd rfl, fun q0 hq0 => ?_⟩⟩
    have s1 := Same.new (o := .lst []) hd
    have s2 := Same.new (o := .lst []) hq0
    refine ⟨_, rfl, r, _, rfl, (s1.trans s2).seq hS, for_it (walk_enum (K := K) (a := r) (xs := il row)) (fun i σ H' => ∃ q, (∃ v4 v5, σ = [some (.int n), some (.ref r), some (.ref d), some (.ref q), v4, v5]) ∧ Same H H' ∧ H' d = some (.lst (NL (bgTo n.toNat row i).bs)) ∧ q ≠ d ∧ H q = none ∧ H' q = some (.lst (il (bgTo n.toNat row i).ps))) ?_ (fun i σ H' _ h => by obtain ⟨_, _, q, _⟩ := h; exact q.seq hS) ?_ ?_⟩
    · exact ⟨q0, ⟨_, _, rfl⟩, s1.trans s2, s2 _ _ upd_same, Ne.symm (ne_fresh (H := upd H d (.lst [])) upd_same hq0), Same.back s1 hq0, upd_same⟩
    · rintro i x σ H1 H2 hi ⟨q, ⟨v4, v5, rfl⟩, s3, hd1, qd, hq, hq1⟩ ⟨t, x1, x2, rfl, ht, rfl, ha, hb⟩
      have ea : V.int (i : Nat) = x1 := Option.some.inj ha
      subst ea
      obtain ⟨p, hp, rfl⟩ := il_get hb
      rw [il_len] at hi
      have sT := Same.new (o := .tup [V.int (i : Nat), V.int p]) ht
      have hd2 := sT _ _ hd1
      have hq2 := sT _ _ hq1
      have s4 := s3.trans sT
      have ⟨l1, l2⟩ := bgTo_le n.toNat row i
      rw [bgTo_succ hp]
      unfold Bg.step
      generalize hB : bgTo n.toNat row i = B at *
      refine ⟨t, _, rfl, SqT.of upd_same, rfl, _, _, rfl, _, _, rfl, rfl, ?_⟩
      refine ⟨_, rfl, _, rfl, q, _, rfl, .inl (SqL.of hq2), rfl, flat_il _, _, rfl, ?_⟩
      have e0 : (if false = true then !inV (V.int p) (il B.ps) else inV (V.int p) (il B.ps)) = decide (p ∈ B.ps) := by rw [if_neg (by simp), inV_il]
      by_cases hin : p ∈ B.ps
      · refine ifT (by rw [e0]; exact decide_eq_true hin) ?_
        rw [if_pos hin]
        exact ⟨q, ⟨_, _, rfl⟩, s4, hd2, qd, hq, hq2⟩
      refine ifF (by rw [e0]; exact decide_eq_false hin) ?_
      rw [if_neg hin]
      by_cases h0 : i = 0 ∨ B.ps.length = n.toNat
      · rw [if_pos h0]
        refine ⟨_, rfl, rfl, _, rfl, ?_⟩
        by_cases hi0 : i = 0
        · refine ifT (decide_eq_true (by rw [hi0]; rfl)) ?_
          refine ⟨_, rfl, .inl ⟨rfl, _, SqL.of hd2⟩, _, rfl, d, _, _, rfl, rfl, hd2, szl (by rw [List.length_map]; omega), ?_⟩
          rw [NL_snoc]
          refine ⟨szd rfl, fun z hz => ?_⟩
          have hz1 : upd H1 t (.tup [V.int (i : Nat), V.int p]) z = none := by
            have zd : z ≠ d := by intro e; rw [e, upd_same] at hz; cases hz
            rw [upd_ne zd] at hz
            exact hz
          have zd : z ≠ d := Ne.symm (ne_fresh hd2 hz1)
          refine ⟨_, rfl, .inl ⟨rfl, _, SqL.of upd_same⟩, _, rfl, z, _, _, rfl, rfl, upd_same, szl (by simp), ?_⟩
          rw [upd_upd]
          exact ⟨z, ⟨_, _, rfl⟩, (Same.put s4 hd).trans (Same.new hz), by rw [upd_ne (Ne.symm zd), upd_same], zd, Same.back s4 hz1, upd_same⟩
        · have hn : B.ps.length = n.toNat := h0.resolve_left hi0
          refine ifF (decide_eq_false (by intro z; injection z with z; omega)) ?_
          refine ⟨_, rfl, q, _, rfl, .inl (SqL.of hq2), _, rfl, rfl, _, rfl, ?_⟩
          refine ifT (decide_eq_true (by rw [il_len]; exact congrArg V.int (by omega))) ?_
          refine ⟨_, rfl, .inl ⟨rfl, _, SqL.of hd2⟩, _, rfl, d, _, _, rfl, rfl, hd2, szl (by rw [List.length_map]; omega), ?_⟩
          rw [NL_snoc]
          refine ⟨szd rfl, fun z hz => ?_⟩
          have hz1 : upd H1 t (.tup [V.int (i : Nat), V.int p]) z = none := by
            have zd : z ≠ d := by intro e; rw [e, upd_same] at hz; cases hz
            rw [upd_ne zd] at hz
            exact hz
          have zd : z ≠ d := Ne.symm (ne_fresh hd2 hz1)
          refine ⟨_, rfl, .inl ⟨rfl, _, SqL.of upd_same⟩, _, rfl, z, _, _, rfl, rfl, upd_same, szl (by simp), ?_⟩
          rw [upd_upd]
          exact ⟨z, ⟨_, _, rfl⟩, (Same.put s4 hd).trans (Same.new hz), by rw [upd_ne (Ne.symm zd), upd_same], zd, Same.back s4 hz1, upd_same⟩
      · rw [if_neg h0]
        have hi0 : ¬ i = 0 := fun e => h0 (.inl e)
        have hn : ¬ B.ps.length = n.toNat := fun e => h0 (.inr e)
        refine ⟨_, rfl, rfl, _, rfl, ?_⟩
        refine ifF (decide_eq_false (by intro z; injection z with z; omega)) ?_
        refine ⟨_, rfl, q, _, rfl, .inl (SqL.of hq2), _, rfl, rfl, _, rfl, ?_⟩
        refine ifF (decide_eq_false (by intro z; injection z with z; rw [il_len] at z; omega)) ?_
        refine ⟨_, rfl, .inl ⟨rfl, _, SqL.of hq2⟩, _, rfl, q, _, _, rfl, rfl, hq2, szl (by rw [il_len]; omega), ?_⟩
        rw [il_snoc]
        exact ⟨q, ⟨_, _, rfl⟩, Same.put s4 hq, by rw [upd_ne (Ne.symm qd)]; exact hd2, qd, hq, upd_same⟩
    · rintro σ H' ⟨q, ⟨v4, v5, rfl⟩, s3, hd1, _⟩
      rw [il_len] at hd1
      exact ⟨_, rfl, k d H' hd s3 hd1⟩
theorem sc_stretches : FnScope ["rooms", "row", "begins", "ends"] ["rooms", "row"] (defScope (top 40)) := ⟨rfl, rfl, rfl, by decide +kernel, rfl, by decide +kernel, by decide +kernel⟩
theorem ok_stretches (T : Prog K mg) : FnOk P w K mg base CX0 3 T.stretches.f T.stretches.fd ["rooms", "row"] (spStretches K) := by
  have G_check_rooms := ok_check_rooms (P := P) (w := w) (base := base) T
  have G_check_row := ok_check_row (P := P) (w := w) (base := base) T
  have G_begins := ok_begins (P := P) (w := w) (base := base) T
  refine T.stretches.fn.ok sc_stretches (fun vs H Q E h => ?len) (fun cdv A outer s H vs Q E hr h => ?body)
  case len =>
    obtain ⟨n, r, row, rfl, _⟩ := h
    rfl
  case body =>
    have hr_check_rooms : Room 1 _ := hr.mono (by decide)
    have hr_check_row : Room 2 _ := hr.mono (by decide)
    have hr_begins : Room 1 _ := hr.mono (by decide)
    have hu := hu_of hr
    obtain ⟨n, r, row, rfl, n1, n8, hS, hR, k⟩ := h
    refine ⟨_, PSs.nox (pss_cons (ps_expr (pe_call G_check_rooms hr_check_rooms (by rfl) T.check_rooms.g T.check_rooms.fn.kp T.check_rooms.bd .nil pass0 (pa_cons (pv 0) pa_nil)))
        (pss_cons (ps_expr (pe_call G_check_row hr_check_row (by rfl) T.check_row.g T.check_row.fn.kp T.check_row.bd .nil pass0 (pa_cons (pv 1) pa_nil)))
        (pss_cons (ps_set (i := 2) sc_stretches.nd rfl (Or.inl rfl) (pe_call G_begins hr_begins (by rfl) T.begins.g T.begins.fn.kp T.begins.bd .nil pass0 (pa_cons (pv 0) (pa_cons (pv 1) pa_nil))))
        (pss_cons (ps_set (i := 3) sc_stretches.nd rfl (Or.inl rfl) (pe_op op_cat (pe_slice sl_list (pv 2) (po_some pe_int) po_none) (pe_lst (pa_cons (pe_callB call_len_seq (by rfl) T.len PySem.boot_len (pa_cons (pv 1) pa_nil)) pa_nil))))
        (pss_one (ps_ret (CKZ.pe_listZip rfl (by rfl) T.list_ (by rfl) T.zip (pa_cons (pv 2) (pa_cons (pv 3) pa_nil))))))))), ?_⟩
    have hR1 := hR.1
    have hbl := begins_le n.toNat row
    refine ⟨_, rfl, n, rfl, n1, n8, ?_⟩
    refine ⟨_, rfl, r, row, rfl, hS, hR, fun H1 s1 => ?_⟩
    refine ⟨_, rfl, _, rfl, n, r, row, rfl, n1, n8, s1.seq hS, hR, fun b H2 hb s2 hb2 => ?_⟩
    -- ends = begins[1:] + [len(row)]
    refine ⟨_, rfl, _, rfl, b, _, rfl, SqL.of hb2, fun c hc => ?_⟩
    rw [cut_from1]
    have s3 := Same.new (o := .lst (NL ((begins n.toNat row).drop 1))) hc
    have s13 := (s1.trans s2).trans s3
    refine ⟨_, rfl, r, _, rfl, .inl (s13.seq hS), szd rfl, fun e he => ?_⟩
    have s4 := Same.new (o := .lst [V.int ((il row).length : Int)]) he
    refine ⟨c, e, _, _, rfl, rfl, s4 _ _ upd_same, upd_same, sz (by rw [List.length_map, List.length_drop]; simp; omega), fun q hq => ?_⟩
    have s5 := Same.new (o := .lst (NL ((begins n.toNat row).drop 1) ++ [V.int ((il row).length : Int)])) hq
    have s15 := (s13.trans s4).trans s5
    have eq : NL ((begins n.toNat row).drop 1) ++ [V.int ((il row).length : Int)] = NL ((begins n.toNat row).drop 1 ++ [row.length]) := by rw [il_len, NL_snoc]
    -- list(zip(begins, ends))
    refine ⟨_, rfl, _, rfl, b, q, NL (begins n.toNat row), NL ((begins n.toNat row).drop 1 ++ [row.length]), rfl, SqL.of (((s3.trans s4).trans s5) _ _ hb2), SqL.of (by rw [upd_same, eq]), ?_, fun H' p ts k1 k2 k3 k4 k5 => ?_⟩
    · rw [List.length_map, List.length_map, List.length_append, List.length_drop]
      simp
      omega
    · refine k p ts H' (Same.back s15 k2) (s15.trans k1) k3 ⟨by rw [k4, parts_len, List.length_map], fun i a x ha hx => ?_⟩
      have hz := List.getElem?_zip_eq_some.mp hx
      exact k5 i a (V.int (x.1 : Nat)) (V.int (x.2 : Nat)) ha (by rw [List.getElem?_map, hz.1]; rfl) (by rw [List.getElem?_map, hz.2]; rfl)
theorem countIn_snoc {ls : List Nat} {xs : List (Nat × Nat)} {i : Nat} {x : Nat × Nat} (h : xs[i]? = some x) : countIn ls (xs.take (i + 1)) = countIn ls (xs.take i) ++ [(ls.filter fun q => decide (x.1 ≤ q) && decide (q < x.2)).length] := by
  unfold countIn
  rw [take_snoc h, List.map_append]
  rfl
theorem sc_lacking_in : FnScope ["rooms", "row", "rule", "lacks", "begin", "end", "place"] ["rooms", "row", "rule"] (defScope (top 41)) := ⟨rfl, rfl, rfl, by decide +kernel, rfl, by decide +kernel, by decide +kernel⟩
theorem ok_lacking_in (T : Prog K mg) {es : Array DictEntry} {nd : Nat} (TB_RULES : KDict K w T.a_RULES es nd) : FnOk P w K mg base CX0 7 T.lacking_in.f T.lacking_in.fd ["rooms", "row", "rule"] (spLackingIn K) := by
  have G_lacking := ok_lacking (P := P) (w := w) (base := base) T TB_RULES
  have G_stretches := ok_stretches (P := P) (w := w) (base := base) T
  refine T.lacking_in.fn.ok sc_lacking_in (fun vs H Q E h => ?len) (fun cdv A outer s H vs Q E hr h => ?body)
  case len =>
    obtain ⟨n, r, row, rule, rfl, _⟩ := h
    rfl
  case body =>
    have hr_lacking : Room 6 _ := hr.mono (by decide)
    have hr_stretches : Room 3 _ := hr.mono (by decide)
    have hu := hu_of hr
    obtain ⟨n, r, row, rule, rfl, n1, n8, hS, hR, k⟩ := h
    refine ⟨_, PSs.nox (pss_cons (ps_set (i := 3) sc_lacking_in.nd rfl (Or.inr rfl) (pe_call G_lacking hr_lacking (by rfl) T.lacking.g T.lacking.fn.kp T.lacking.bd .nil pass0 (pa_cons (pv 0) (pa_cons (pv 1) (pa_cons (pv 2) pa_nil)))))
        (pss_one (ps_ret (pe_lc (own := [("begin", 4), ("end", 5)]) (g := gTup K 2 (gCons (gName 4) (gCons (gName 5) gNil))) (tt := tYes) (te := (tCB (rLenQ K) (tCons (tLc (iList K (tVar 3)) (gName 6) (tTest (tChain _ _ (tVar 4) (tVar 6) (tVar 5))) (tVar 6) [6]) tNil))) rfl sc_lacking_in.nd ((pi_list (pe_call G_stretches hr_stretches (by rfl) T.stretches.g T.stretches.fn.kp T.stretches.bd .nil pass0 (pa_cons (pv 0) (pa_cons (pv 1) pa_nil))))) (blkOk_by (own := [("begin", 4), ("end", 5)]) (N := ["rooms", "row", "rule", "lacks", "begin", "end", "place"]) (sc := defScope (top 41)) (by decide +kernel)) (fun _ _ _ _ _ => (by exact (pg_tup rfl (pgs_cons (pg_name (i := 4) sc_lacking_in.nd rfl (Or.inr rfl)) (pgs_cons (pg_name (i := 5) sc_lacking_in.nd rfl (Or.inr rfl)) pgs_nil))))) (fun _ _ _ _ _ => (by exact pts_nil)) (fun _ _ _ _ _ => (by exact (pe_callB call_len_seq (by rfl) T.len PySem.boot_len (pa_cons (pe_lc (own := [("place", 6)]) (g := gName 6) rfl sc_lacking_in.nd ((pi_list (pv 3))) (blkOk_by (own := [("place", 6)]) (by kernel_rfl)) (fun _ _ _ _ _ => (by exact (pg_name (i := 6) sc_lacking_in.nd rfl (Or.inl rfl)))) (fun _ _ _ _ _ => (by exact (pts_one (pt_chain op_le op_lt (pv 4) (pv 6) (pv 5))))) (fun _ _ _ _ _ => (by exact (pv 6)))) pa_nil)))))))), ?_⟩
    have hR1 := hR.1
    have hll := lacksR_le n.toNat rule row
    have hpl := parts_le n.toNat row
    refine ⟨_, rfl, _, rfl, _, rfl, n, r, row, rule, rfl, n1, n8, hS, hR, fun l H1 hl s1 hl1 => ?_⟩
    generalize hL : lacksR n.toNat rule row = ls at *
    refine ⟨_, rfl, _, rfl, n, r, row, rfl, n1, n8, s1.seq hS, hR, fun d as H2 hd s2 hd2 hp2 => ?_⟩
    generalize hX : parts n.toNat row = xs at *
    refine ⟨d, rfl, ⟨_, SqL.of hd2⟩, fun D hD => ?_⟩
    refine lc_list (K := K) (a := d) (xs := as.map V.ref) (fun i H' => H' D = some (.lst (NL (countIn ls (xs.take i)))) ∧ Same H2 H') ⟨upd_same, Same.new hD⟩ (fun i H' _ h => SqL.of (h.2 _ _ hd2)) ?_ ?_
    · rintro i y H3 hy ⟨hD3, s3⟩
      rw [List.getElem?_map] at hy
      cases ea : as[i]? with
      | none => rw [ea] at hy; cases hy
      | some a =>
        rw [ea] at hy
        have ey := Option.some.inj hy
        subst ey
        have hi : i < xs.length := by rw [← hp2.len]; exact (List.getElem?_eq_some_iff.mp ea).1
        have ex : xs[i]? = some (xs[i]'hi) := List.getElem?_eq_getElem hi
        have ha := s3 _ _ (hp2.at_ i a _ ea ex)
        rw [countIn_snoc ex]
        generalize xs[i]'hi = x at *
        refine ⟨a, _, rfl, SqT.of ha, rfl, _, _, rfl, _, _, rfl, rfl, ⟨rfl, ?_⟩⟩
        have hl3 := (s2.trans s3) _ _ hl1
        refine ⟨_, rfl, l, rfl, ⟨_, SqL.of hl3⟩, fun E hE => ?_⟩
        refine lc_list (K := K) (a := l) (xs := NL ls) (fun t H' => H' E = some (.lst (NL ((ls.take t).filter fun z => decide (x.1 ≤ z) && decide (z < x.2)))) ∧ Same H3 H') ⟨upd_same, Same.new hE⟩ (fun t H' _ h => SqL.of (h.2 _ _ hl3)) ?_ ?_
        · rintro t y H4 hy ⟨hE4, s4⟩
          obtain ⟨z, hz, rfl⟩ := NL_at hy
          have hle := List.length_filter_le (fun z => decide (x.1 ≤ z) && decide (z < x.2)) (ls.take t)
          rw [List.length_take] at hle
          rw [take_snoc hz, List.filter_append]
          refine ⟨rfl, _, rfl, _, rfl, _, _, rfl, rfl, _, rfl, ?_⟩
          by_cases c1 : x.1 ≤ z
          · refine ifT (decide_eq_true (by omega)) ⟨_, rfl, _, _, rfl, rfl, _, rfl, ?_⟩
            by_cases c2 : z < x.2
            · refine ifT (decide_eq_true (by omega)) ⟨_, rfl, _, hE4, szl (by rw [List.length_map]; omega), ?_, Same.put s4 hE⟩
              rw [upd_same, NL_snoc]
              simp [c1, c2]
            · refine ifF (decide_eq_false (by omega)) ⟨?_, s4⟩
              simpa [c1, c2] using hE4
          · refine ifF (decide_eq_false (by omega)) ⟨_, rfl, iteF ⟨?_, s4⟩⟩
            simpa [c1] using hE4
        · rintro H4 ⟨hE4, s4⟩
          rw [List.take_of_length_le (by simp)] at hE4
          have hcl : (countIn ls (xs.take i)).length ≤ i := by
            unfold countIn
            rw [List.length_map, List.length_take]
            omega
          refine ⟨E, _, rfl, .inl (SqL.of hE4), _, s4 _ _ hD3, szl (by rw [List.length_map]; omega), ?_, Same.put (s3.trans s4) hD⟩
          rw [upd_same, List.length_map, NL_snoc]
    · rintro H3 ⟨hD3, s3⟩
      rw [List.take_of_length_le (by rw [List.length_map, hp2.len]; exact Nat.le_refl _)] at hD3
      exact k D H3 (Same.back (s1.trans s2) hD) ((s1.trans s2).trans s3) hD3
end
end CK

/-! Plain mathematics: who lets go of the page whose next ask is farthest lacks most seldom. -/
namespace CK
/-- from the kept pages C, n rooms, the row is gone through with k lacks -/
inductive Way (n : Nat) : List Int → List Int → Nat → Prop
  | nil (C : List Int) : Way n C [] 0
  | hit {C : List Int} {p : Int} {r : List Int} {k : Nat} : p ∈ C → Way n C r k → Way n C (p :: r) k
  | room {C : List Int} {p : Int} {r : List Int} {k : Nat} : p ∉ C → C.length < n → Way n (p :: C) r k → Way n C (p :: r) (k + 1)
  | out {C : List Int} {p q : Int} {r : List Int} {k : Nat} : p ∉ C → n ≤ C.length → q ∈ C → Way n (p :: C.erase q) r k → Way n C (p :: r) (k + 1)
theorem Way.perm {n : Nat} : ∀ {C : List Int} {row : List Int} {k : Nat}, Way n C row k → ∀ {C' : List Int}, C.Perm C' → Way n C' row k := by
  intro C row k w
  induction w with
  | nil C => intro C' _; exact .nil C'
  | hit h _ ih => intro C' p; exact .hit (p.mem_iff.mp h) (ih p)
  | room h l _ ih => intro C' p; exact .room (fun z => h (p.mem_iff.mpr z)) (by rw [← p.length_eq]; exact l) (ih (p.cons _))
  | out h l m _ ih => intro C' p; exact .out (fun z => h (p.mem_iff.mpr z)) (by rw [← p.length_eq]; exact l) (p.mem_iff.mp m) (ih ((p.erase _).cons _))
/-- the one page instead of the other costs at most one lack more -/
theorem swap_one {n : Nat} : ∀ {row : List Int} {E : List Int} {x f : Int} {k : Nat}, E.length + 1 = n → (x :: f :: E).Nodup → Way n (f :: E) row k → ∃ k', k' ≤ k + 1 ∧ Way n (x :: E) row k'
  | [], E, x, f, k, _, _, w => ⟨0, by omega, .nil _⟩
  | r :: rest, E, x, f, k, hl, nd, w => by
    have ndx : x ≠ f ∧ x ∉ E := by simpa using (List.nodup_cons.mp nd).1
    have ndf : f ∉ E := (List.nodup_cons.mp (List.nodup_cons.mp nd).2).1
    have ndE : E.Nodup := (List.nodup_cons.mp (List.nodup_cons.mp nd).2).2
    cases w with
    | hit hm w =>
      by_cases hf : r = f
      · subst hf
        refine ⟨k + 1, Nat.le_refl _, .out (q := x) (by simp [Ne.symm ndx.1, ndf]) (by simp; omega) (by simp) ?_⟩
        rw [List.erase_cons_head]
        exact w
      · have hE : r ∈ E := by simpa [hf] using hm
        obtain ⟨k', h1, h2⟩ := swap_one hl nd w
        exact ⟨k', h1, .hit (List.mem_cons_of_mem _ hE) h2⟩
    | room hm hlt w => simp at hlt; omega
    | @out _ _ q _ k hm hge hq w =>
      have hr : r ≠ f ∧ r ∉ E := by simpa using hm
      by_cases hqf : q = f
      · subst hqf
        rw [List.erase_cons_head] at w
        by_cases hrx : r = x
        · subst hrx
          exact ⟨k, by omega, .hit (by simp) w⟩
        · refine ⟨k + 1, by omega, .out (q := x) (by simp [hrx, hr.2]) (by simp; omega) (by simp) ?_⟩
          rw [List.erase_cons_head]
          exact w
      · have hqE : q ∈ E := by simpa [hqf] using hq
        rw [List.erase_cons_tail (by simpa using fun z => hqf z.symm)] at w
        have hqx : x ≠ q := fun z => ndx.2 (z ▸ hqE)
        have le : (E.erase q).length + 1 = E.length := by
          have := List.length_erase_of_mem hqE
          have := List.length_pos_of_mem hqE
          omega
        have nde : (E.erase q).Nodup := ndE.erase q
        have fe : f ∉ E.erase q := fun z => ndf (List.mem_of_mem_erase z)
        have xe : x ∉ E.erase q := fun z => ndx.2 (List.mem_of_mem_erase z)
        have re : r ∉ E.erase q := fun z => hr.2 (List.mem_of_mem_erase z)
        by_cases hrx : r = x
        · -- left has it: (x :: E) ~ q :: (x :: E.erase q); right is f :: (x :: E.erase q)
          subst hrx
          have w' : Way n (f :: r :: E.erase q) rest k := w.perm (.swap _ _ _)
          have nd' : (q :: f :: r :: E.erase q).Nodup := by
            have q1 : q ∉ E.erase q := by
              rw [ndE.mem_erase_iff]
              exact fun z => z.1 rfl
            simp [hqf, Ne.symm hqx, q1, Ne.symm ndx.1, nde, fe, xe]
          obtain ⟨k', h1, h2⟩ := swap_one (by simp; omega) nd' w'
          refine ⟨k', by omega, .hit (by simp) (h2.perm ?_)⟩
          exact (List.Perm.swap _ _ _).trans ((List.perm_cons_erase hqE).symm.cons _)
        · have w' : Way n (f :: r :: E.erase q) rest k := w.perm (.swap _ _ _)
          have nd' : (x :: f :: r :: E.erase q).Nodup := by
            simp [ndx.1, Ne.symm hrx, Ne.symm hr.1, nde, fe, xe, re]
          obtain ⟨k', h1, h2⟩ := swap_one (by simp; omega) nd' w'
          refine ⟨k' + 1, by omega, .out (q := q) (by simp [hrx, hr.2]) (by simp; omega) (List.mem_cons_of_mem _ hqE) ?_⟩
          rw [List.erase_cons_tail (by simpa using hqx)]
          exact h2.perm (.swap _ _ _)
theorem idx_ne {a b : Int} {l : List Int} (h : a ≠ b) : (a :: l).idxOf b = l.idxOf b + 1 := by
  have e : (a == b) = false := by simpa using h
  rw [List.idxOf_cons, e]
  rfl
/-- a page whose next ask is nearer instead of one whose next ask is farther: no lack more -/
theorem swap_near {n : Nat} : ∀ {row : List Int} {E : List Int} {x f : Int} {k : Nat}, E.length + 1 = n → (x :: f :: E).Nodup → row.idxOf x ≤ row.idxOf f → Way n (f :: E) row k → ∃ k', k' ≤ k ∧ Way n (x :: E) row k'
  | [], E, x, f, k, _, _, _, w => ⟨0, by omega, .nil _⟩
  | r :: rest, E, x, f, k, hl, nd, hi, w => by
    have ndx : x ≠ f ∧ x ∉ E := by simpa using (List.nodup_cons.mp nd).1
    have ndf : f ∉ E := (List.nodup_cons.mp (List.nodup_cons.mp nd).2).1
    have ndE : E.Nodup := (List.nodup_cons.mp (List.nodup_cons.mp nd).2).2
    have hrf : r ≠ f := by
      intro z
      subst z
      rw [List.idxOf_cons_self] at hi
      rw [idx_ne (Ne.symm ndx.1)] at hi
      omega
    have step : r ≠ x → rest.idxOf x ≤ rest.idxOf f := fun z => by
      rw [idx_ne z, idx_ne hrf] at hi
      omega
    cases w with
    | hit hm w =>
      have hE : r ∈ E := by simpa [hrf] using hm
      have hrx : r ≠ x := fun z => ndx.2 (z ▸ hE)
      obtain ⟨k', h1, h2⟩ := swap_near hl nd (step hrx) w
      exact ⟨k', h1, .hit (List.mem_cons_of_mem _ hE) h2⟩
    | room hm hlt w => simp at hlt; omega
    | @out _ _ q _ k hm hge hq w =>
      have hr : r ≠ f ∧ r ∉ E := by simpa using hm
      by_cases hqf : q = f
      · subst hqf
        rw [List.erase_cons_head] at w
        by_cases hrx : r = x
        · subst hrx
          exact ⟨k, by omega, .hit (by simp) w⟩
        · refine ⟨k + 1, by omega, .out (q := x) (by simp [hrx, hr.2]) (by simp; omega) (by simp) ?_⟩
          rw [List.erase_cons_head]
          exact w
      · have hqE : q ∈ E := by simpa [hqf] using hq
        rw [List.erase_cons_tail (by simpa using fun z => hqf z.symm)] at w
        have hqx : x ≠ q := fun z => ndx.2 (z ▸ hqE)
        have le : (E.erase q).length + 1 = E.length := by
          have := List.length_erase_of_mem hqE
          have := List.length_pos_of_mem hqE
          omega
        have nde : (E.erase q).Nodup := ndE.erase q
        have fe : f ∉ E.erase q := fun z => ndf (List.mem_of_mem_erase z)
        have xe : x ∉ E.erase q := fun z => ndx.2 (List.mem_of_mem_erase z)
        have re : r ∉ E.erase q := fun z => hr.2 (List.mem_of_mem_erase z)
        by_cases hrx : r = x
        · subst hrx
          have w' : Way n (f :: r :: E.erase q) rest k := w.perm (.swap _ _ _)
          have nd' : (q :: f :: r :: E.erase q).Nodup := by
            have q1 : q ∉ E.erase q := by
              rw [ndE.mem_erase_iff]
              exact fun z => z.1 rfl
            simp [hqf, Ne.symm hqx, q1, Ne.symm ndx.1, nde, fe, xe]
          obtain ⟨k', h1, h2⟩ := swap_one (by simp; omega) nd' w'
          refine ⟨k', by omega, .hit (by simp) (h2.perm ?_)⟩
          exact (List.Perm.swap _ _ _).trans ((List.perm_cons_erase hqE).symm.cons _)
        · have w' : Way n (f :: r :: E.erase q) rest k := w.perm (.swap _ _ _)
          have nd' : (x :: f :: r :: E.erase q).Nodup := by
            simp [ndx.1, Ne.symm hrx, Ne.symm hr.1, nde, fe, xe, re]
          obtain ⟨k', h1, h2⟩ := swap_near (by simp; omega) nd' (step hrx) w'
          refine ⟨k' + 1, by omega, .out (q := q) (by simp [hrx, hr.2]) (by simp; omega) (List.mem_cons_of_mem _ hqE) ?_⟩
          rw [List.erase_cons_tail (by simpa using hqx)]
          exact h2.perm (.swap _ _ _)
/-- gone through so that, where one must be let go, one goes whose next ask is farthest -/
inductive Bel (n : Nat) : List Int → List Int → Nat → Prop
  | nil (C : List Int) : Bel n C [] 0
  | hit {C : List Int} {p : Int} {r : List Int} {k : Nat} : p ∈ C → Bel n C r k → Bel n C (p :: r) k
  | room {C : List Int} {p : Int} {r : List Int} {k : Nat} : p ∉ C → C.length < n → Bel n (p :: C) r k → Bel n C (p :: r) (k + 1)
  | out {C : List Int} {p f : Int} {r : List Int} {k : Nat} : p ∉ C → n ≤ C.length → f ∈ C → (∀ y ∈ C, r.idxOf y ≤ r.idxOf f) → Bel n (p :: C.erase f) r k → Bel n C (p :: r) (k + 1)
theorem Bel.perm {n : Nat} {C : List Int} {row : List Int} {k : Nat} (w : Bel n C row k) : ∀ {C' : List Int}, C.Perm C' → Bel n C' row k := by
  induction w with
  | nil C => intro C' _; exact .nil C'
  | hit h _ ih => intro C' p; exact .hit (p.mem_iff.mp h) (ih p)
  | room h l _ ih => intro C' p; exact .room (fun z => h (p.mem_iff.mpr z)) (by rw [← p.length_eq]; exact l) (ih (p.cons _))
  | out h l m far _ ih => intro C' p; exact .out (fun z => h (p.mem_iff.mpr z)) (by rw [← p.length_eq]; exact l) (p.mem_iff.mp m) (fun y hy => far y (p.mem_iff.mpr hy)) (ih ((p.erase _).cons _))
theorem Bel.way {n : Nat} {C : List Int} {row : List Int} {k : Nat} (w : Bel n C row k) : Way n C row k := by
  induction w with
  | nil C => exact .nil C
  | hit h _ ih => exact .hit h ih
  | room h l _ ih => exact .room h l ih
  | out h l m _ _ ih => exact .out h l m ih
/-- no way has fewer lacks -/
theorem Bel.least {n : Nat} {C : List Int} {row : List Int} {k : Nat} (b : Bel n C row k) : C.Nodup → C.length ≤ n → ∀ {j : Nat}, Way n C row j → k ≤ j := by
  induction b with
  | nil C => intro _ _ j _; exact Nat.zero_le _
  | @hit C p r k h _ ih =>
    intro nd hl j w
    cases w with
    | hit _ w => exact ih nd hl w
    | room h' _ _ => exact absurd h h'
    | out h' _ _ _ => exact absurd h h'
  | @room C p r k h l _ ih =>
    intro nd hl j w
    cases w with
    | hit h' _ => exact absurd h' h
    | room _ _ w => exact Nat.succ_le_succ (ih (List.nodup_cons.mpr ⟨h, nd⟩) l w)
    | out _ h' _ _ => omega
  | @out C p f r k h l m far _ ih =>
    intro nd hl j w
    have lf := List.length_erase_of_mem m
    have lp := List.length_pos_of_mem m
    have ndf : (p :: C.erase f).Nodup := List.nodup_cons.mpr ⟨fun z => h (List.mem_of_mem_erase z), nd.erase f⟩
    have lenf : (p :: C.erase f).length ≤ n := by rw [List.length_cons]; omega
    cases w with
    | hit h' _ => exact absurd h' h
    | room _ h' _ => omega
    | @out _ _ q _ j _ _ mq w =>
      by_cases hqf : q = f
      · subst hqf
        exact Nat.succ_le_succ (ih ndf lenf w)
      · have mf : f ∈ C.erase q := (List.mem_erase_of_ne (Ne.symm hqf)).mpr m
        have mq' : q ∈ C.erase f := (List.mem_erase_of_ne hqf).mpr mq
        have w1 : Way n (f :: p :: (C.erase q).erase f) r j := w.perm (((List.perm_cons_erase mf).cons _).trans (.swap _ _ _))
        have pq : p ≠ q := fun z => h (z ▸ mq)
        have pf : p ≠ f := fun z => h (z ▸ m)
        have l2 : ((C.erase q).erase f).length + 2 = C.length := by
          have a1 := List.length_erase_of_mem mf
          have a2 := List.length_erase_of_mem mq
          have a3 := List.length_pos_of_mem mf
          omega
        have nd1 : (q :: f :: p :: (C.erase q).erase f).Nodup := by
          have n1 : q ∉ (C.erase q).erase f := fun z => (nd.mem_erase_iff.mp (List.mem_of_mem_erase z)).1 rfl
          have n2 : f ∉ (C.erase q).erase f := fun z => ((nd.erase q).mem_erase_iff.mp z).1 rfl
          have n3 : p ∉ (C.erase q).erase f := fun z => h (List.mem_of_mem_erase (List.mem_of_mem_erase z))
          simp [hqf, Ne.symm pq, Ne.symm pf, n1, n2, n3, (nd.erase q).erase f]
        obtain ⟨j', h1, h2⟩ := swap_near (by rw [List.length_cons]; omega) nd1 (far q mq) w1
        have w2 : Way n (p :: C.erase f) r j' := by
          refine h2.perm ((List.Perm.swap _ _ _).trans ?_)
          rw [List.erase_comm]
          exact (List.perm_cons_erase mq').symm.cons _
        exact Nat.succ_le_succ (Nat.le_trans (ih ndf lenf w2) h1)
end CK

/-! Plain mathematics: a room more. -/
namespace CK
/-- a list of unlike things within another is no longer -/
theorem len_sub : ∀ {xs ys : List Int}, xs.Nodup → (∀ x ∈ xs, x ∈ ys) → xs.length ≤ ys.length
  | [], _, _, _ => Nat.zero_le _
  | x :: xs, ys, nd, h => by
    have hx := h x List.mem_cons_self
    have n2 := List.nodup_cons.mp nd
    have ih := len_sub (ys := ys.erase x) n2.2 fun y hy => (List.mem_erase_of_ne (by intro z; rw [z] at hy; exact n2.1 hy)).mpr (h y (List.mem_cons_of_mem _ hy))
    have l1 := List.length_erase_of_mem hx
    have l2 := List.length_pos_of_mem hx
    rw [List.length_cons]
    omega
/-- a longer list of unlike things has one that the other has not -/
theorem one_more {xs ys : List Int} (nd : ys.Nodup) (h : xs.length < ys.length) : ∃ y ∈ ys, y ∉ xs := by
  refine Classical.byContradiction fun c => ?_
  have all : ∀ y ∈ ys, y ∈ xs := fun y hy => Decidable.byContradiction fun z => c ⟨y, hy, z⟩
  have := len_sub nd all
  omega
theorem Way.more {n m : Nat} {C : List Int} {row : List Int} {k : Nat} (w : Way n C row k) (hn : 0 < n) (hm : n ≤ m) : C.length ≤ n → ∀ {C' : List Int}, C'.Nodup → (∀ y ∈ C, y ∈ C') → C'.length ≤ m → ∃ k', k' ≤ k ∧ Way m C' row k' := by
  induction w with
  | nil C => intro _ C' _ _ _; exact ⟨0, Nat.le_refl _, .nil _⟩
  | hit h _ ih =>
    intro l C' nd sub l'
    obtain ⟨k', h1, h2⟩ := ih l nd sub l'
    exact ⟨k', h1, .hit (sub _ h) h2⟩
  | @room C p r k h lt _ ih =>
    intro l C' nd sub l'
    by_cases hp : p ∈ C'
    · obtain ⟨k', h1, h2⟩ := ih (by rw [List.length_cons]; omega) nd (fun y hy => (List.mem_cons.mp hy).elim (fun e => e ▸ hp) (sub y)) l'
      exact ⟨k', by omega, .hit hp h2⟩
    · by_cases hl : C'.length < m
      · obtain ⟨k', h1, h2⟩ := ih (by rw [List.length_cons]; omega) (List.nodup_cons.mpr ⟨hp, nd⟩) (fun y hy => (List.mem_cons.mp hy).elim (fun e => e ▸ List.mem_cons_self) fun z => List.mem_cons_of_mem _ (sub y z)) hl
        exact ⟨k' + 1, by omega, .room hp hl h2⟩
      · obtain ⟨q, hq, hqC⟩ := one_more (xs := C) nd (by omega)
        have l1 := List.length_erase_of_mem hq
        have l2 := List.length_pos_of_mem hq
        obtain ⟨k', h1, h2⟩ := ih (by rw [List.length_cons]; omega) (C' := p :: C'.erase q) (List.nodup_cons.mpr ⟨fun z => hp (List.mem_of_mem_erase z), nd.erase q⟩)
          (fun y hy => (List.mem_cons.mp hy).elim (fun e => e ▸ List.mem_cons_self) fun z => List.mem_cons_of_mem _ ((List.mem_erase_of_ne (by intro e; rw [e] at z; exact hqC z)).mpr (sub y z))) (by rw [List.length_cons]; omega)
        exact ⟨k' + 1, by omega, .out hp (by omega) hq h2⟩
  | @out C p f r k h le mf _ ih =>
    intro l C' nd sub l'
    have f1 := List.length_erase_of_mem mf
    have f2 := List.length_pos_of_mem mf
    have lc : (p :: C.erase f).length ≤ n := by rw [List.length_cons]; omega
    by_cases hp : p ∈ C'
    · obtain ⟨k', h1, h2⟩ := ih lc nd (fun y hy => (List.mem_cons.mp hy).elim (fun e => e ▸ hp) fun z => sub y (List.mem_of_mem_erase z)) l'
      exact ⟨k', by omega, .hit hp h2⟩
    · by_cases hl : C'.length < m
      · obtain ⟨k', h1, h2⟩ := ih lc (List.nodup_cons.mpr ⟨hp, nd⟩) (fun y hy => (List.mem_cons.mp hy).elim (fun e => e ▸ List.mem_cons_self) fun z => List.mem_cons_of_mem _ (sub y (List.mem_of_mem_erase z))) hl
        exact ⟨k' + 1, by omega, .room hp hl h2⟩
      · obtain ⟨q, hq, hqC⟩ := one_more (xs := C.erase f) nd (by omega)
        have l1 := List.length_erase_of_mem hq
        have l2 := List.length_pos_of_mem hq
        obtain ⟨k', h1, h2⟩ := ih lc (C' := p :: C'.erase q) (List.nodup_cons.mpr ⟨fun z => hp (List.mem_of_mem_erase z), nd.erase q⟩)
          (fun y hy => (List.mem_cons.mp hy).elim (fun e => e ▸ List.mem_cons_self) fun z => List.mem_cons_of_mem _ ((List.mem_erase_of_ne (by intro e; rw [e] at z; exact hqC z)).mpr (sub y (List.mem_of_mem_erase z)))) (by rw [List.length_cons]; omega)
        exact ⟨k' + 1, by omega, .out hp (by omega) hq h2⟩
/-- best: with more rooms no more lacks -/
theorem Bel.more {n m : Nat} {row : List Int} {k j : Nat} (b : Bel n [] row k) (b' : Bel m [] row j) (hn : 0 < n) (hm : n ≤ m) : j ≤ k := by
  obtain ⟨k', h1, h2⟩ := b.way.more hn hm (Nat.zero_le _) (C' := []) List.nodup_nil (fun _ h => h) (Nat.zero_le _)
  exact Nat.le_trans (b'.least List.nodup_nil (Nat.zero_le _) h2) h1
end CK

/-! Each rule is a way of letting go. -/
namespace CK
theorem lineStep_nodup {n : Nat} {re : Bool} {l : List Int} {p : Int} (nd : l.Nodup) : (lineStep n re l p).Nodup := by
  unfold lineStep
  by_cases h : p ∈ l
  · rw [if_pos h]
    by_cases hr : re = true
    · rw [if_pos hr]
      have e : l.eraseIdx (l.idxOf p) = l.erase p := (List.erase_eq_eraseIdx_of_idxOf rfl).symm
      rw [e]
      refine List.nodup_append.mpr ⟨nd.erase p, by simp, fun a ha b hb => ?_⟩
      have eb : b = p := by simpa using hb
      intro z
      rw [z, eb] at ha
      exact (nd.mem_erase_iff.mp ha).1 rfl
    · rw [if_neg hr]
      exact nd
  · rw [if_neg h]
    refine List.nodup_append.mpr ⟨?_, by simp, fun a ha b hb => ?_⟩
    · split
      · exact nd.sublist (List.eraseIdx_sublist _ _)
      · exact nd
    · have eb : b = p := by simpa using hb
      intro z
      have ha' : a ∈ l := by
        split at ha
        · exact List.mem_of_mem_eraseIdx ha
        · exact ha
      exact h (by rw [← eb, ← z]; exact ha')
theorem lineStep_len {n : Nat} {re : Bool} {l : List Int} {p : Int} (hn : 0 < n) (hl : l.length ≤ n) : (lineStep n re l p).length ≤ n := by
  unfold lineStep
  by_cases h : p ∈ l
  · rw [if_pos h]
    have lp := List.length_pos_of_mem h
    have li := List.idxOf_lt_length_of_mem h
    split
    · rw [List.length_append, List.length_eraseIdx, if_pos li]
      show l.length - 1 + 1 ≤ n
      omega
    · exact hl
  · rw [if_neg h, List.length_append]
    show _ + 1 ≤ n
    split
    · rw [List.length_eraseIdx, if_pos (by omega)]
      omega
    · omega
theorem way_line {n : Nat} {re : Bool} (hn : 0 < n) : ∀ (row l : List Int), l.Nodup → l.length ≤ n → Way n l row ((lineL n re l row).count true)
  | [], l, _, _ => .nil l
  | p :: r, l, nd, hl => by
    have ih := way_line (re := re) hn r (lineStep n re l p) (lineStep_nodup nd) (lineStep_len hn hl)
    show Way n l (p :: r) (List.count true ((!decide (p ∈ l)) :: lineL n re (lineStep n re l p) r))
    by_cases h : p ∈ l
    · have e : (!decide (p ∈ l)) = false := by simp [h]
      rw [e, List.count_cons_of_ne (by decide)]
      refine .hit h (ih.perm ?_)
      unfold lineStep
      rw [if_pos h]
      split
      · have e2 : l.eraseIdx (l.idxOf p) = l.erase p := (List.erase_eq_eraseIdx_of_idxOf rfl).symm
        rw [e2]
        exact (List.perm_append_comm.trans (List.perm_cons_erase h).symm)
      · exact .refl _
    · have e : (!decide (p ∈ l)) = true := by simp [h]
      rw [e, List.count_cons_self]
      by_cases hf : l.length = n
      · cases l with
        | nil => simp at hf; omega
        | cons x t =>
          refine .out (q := x) h (by omega) List.mem_cons_self ?_
          rw [List.erase_cons_head]
          have es : lineStep n re (x :: t) p = t ++ [p] := by
            unfold lineStep
            rw [if_neg h, if_pos hf]
            rfl
          refine ih.perm ?_
          rw [es]
          exact List.perm_append_comm
      · have es : lineStep n re l p = l ++ [p] := by
          unfold lineStep
          rw [if_neg h, if_neg hf]
        refine .room h (by omega) (ih.perm ?_)
        rw [es]
        exact List.perm_append_comm
end CK

/-! The line of the longest unasked: with more rooms no more lacks. -/
namespace CK
theorem step_hit {n : Nat} {l : List Int} {p : Int} (h : p ∈ l) : lineStep n true l p = l.erase p ++ [p] := by
  unfold lineStep
  rw [if_pos h, if_pos rfl, ← List.erase_eq_eraseIdx_of_idxOf rfl]
theorem step_out {n : Nat} {re : Bool} {x : Int} {t : List Int} {p : Int} (h : p ∉ x :: t) (hl : (x :: t).length = n) : lineStep n re (x :: t) p = t ++ [p] := by
  unfold lineStep
  rw [if_neg h, if_pos hl]
  rfl
theorem step_in {n : Nat} {re : Bool} {l : List Int} {p : Int} (h : p ∉ l) (hl : l.length ≠ n) : lineStep n re l p = l ++ [p] := by
  unfold lineStep
  rw [if_neg h, if_neg hl]
/-- the longer line ends with the shorter one -/
theorem line_more {n m : Nat} (hn : 0 < n) (hm : n ≤ m) : ∀ (row pre l : List Int), (pre ++ l).Nodup → (pre ++ l).length ≤ m → l.length ≤ n → (pre = [] ∨ l.length = n) → (lineL m true (pre ++ l) row).count true ≤ (lineL n true l row).count true
  | [], _, _, _, _, _, _ => Nat.le_refl _
  | p :: r, pre, l, nd, hL, hl, hp => by
    show List.count true ((!decide (p ∈ pre ++ l)) :: lineL m true (lineStep m true (pre ++ l) p) r) ≤ List.count true ((!decide (p ∈ l)) :: lineL n true (lineStep n true l p) r)
    have ndL : (lineStep m true (pre ++ l) p).Nodup := lineStep_nodup nd
    have lenL : (lineStep m true (pre ++ l) p).length ≤ m := lineStep_len (by omega) hL
    have lenl : (lineStep n true l p).length ≤ n := lineStep_len hn hl
    have go : ∀ pre', lineStep m true (pre ++ l) p = pre' ++ lineStep n true l p → (pre' = [] ∨ (lineStep n true l p).length = n) →
        (lineL m true (lineStep m true (pre ++ l) p) r).count true ≤ (lineL n true (lineStep n true l p) r).count true := fun pre' e c => by
      rw [e] at ndL lenL ⊢
      exact line_more hn hm r pre' _ ndL lenL lenl c
    by_cases h1 : p ∈ l
    · have h2 : p ∈ pre ++ l := List.mem_append_right _ h1
      have h3 : p ∉ pre := fun z => (List.nodup_append.mp nd).2.2 p z p h1 rfl
      have e1 : (!decide (p ∈ pre ++ l)) = false := by simp [h1]
      have e2 : (!decide (p ∈ l)) = false := by simp [h1]
      rw [e1, e2, List.count_cons_of_ne (by decide), List.count_cons_of_ne (by decide)]
      refine go pre ?_ ?_
      · rw [step_hit h2, step_hit h1, List.erase_append_right _ h3, List.append_assoc]
      · rcases hp with hp | hp
        · exact .inl hp
        · refine .inr ?_
          rw [step_hit h1, List.length_append, List.length_erase_of_mem h1]
          have := List.length_pos_of_mem h1
          show l.length - 1 + 1 = n
          omega
    · have e2 : (!decide (p ∈ l)) = true := by simp [h1]
      rw [e2, List.count_cons_self]
      by_cases hf : l.length = n
      · cases l with
        | nil => simp at hf; omega
        | cons x t =>
          have lt : (t ++ [p]).length = n := by
            rw [List.length_append]
            simpa using hf
          have sn := step_out (re := true) h1 hf
          by_cases h2 : p ∈ pre
          · have e1 : (!decide (p ∈ pre ++ x :: t)) = false := by simp [h2]
            rw [e1, List.count_cons_of_ne (by decide)]
            refine Nat.le_succ_of_le (go (pre.erase p ++ [x]) ?_ (.inr (by rw [sn]; exact lt)))
            rw [step_hit (List.mem_append_left _ h2), sn, List.erase_append_left _ h2]
            simp
          · have h3 : p ∉ pre ++ x :: t := fun z => (List.mem_append.mp z).elim h2 h1
            have e1 : (!decide (p ∈ pre ++ x :: t)) = true := by simp only [h3, decide_false, Bool.not_false]
            rw [e1, List.count_cons_self]
            refine Nat.succ_le_succ ?_
            by_cases hLm : (pre ++ x :: t).length = m
            · cases pre with
              | nil =>
                refine go [] ?_ (.inl rfl)
                rw [sn]
                exact step_out h3 hLm
              | cons y ys =>
                refine go (ys ++ [x]) ?_ (.inr (by rw [sn]; exact lt))
                rw [sn]
                have q : lineStep m true (y :: (ys ++ x :: t)) p = (ys ++ x :: t) ++ [p] := step_out h3 hLm
                show lineStep m true (y :: (ys ++ x :: t)) p = _
                rw [q]
                simp
            · refine go (pre ++ [x]) ?_ (.inr (by rw [sn]; exact lt))
              rw [sn, step_in h3 hLm]
              simp
      · have hpre : pre = [] := hp.resolve_right hf
        subst hpre
        have e1 : (!decide (p ∈ [] ++ l)) = true := by simp [h1]
        rw [e1, List.count_cons_self]
        refine Nat.succ_le_succ (go [] ?_ (.inl rfl))
        rw [step_in h1 hf]
        exact step_in h1 (by simp; omega)
end CK

/-! In a part of a row with no more unlike pages than rooms no page lacks twice: the two lines. -/
namespace CK
/-- the pages that lack, in turn -/
def lackP : List Int → List Bool → List Int
  | p :: r, b :: bs => if b = true then p :: lackP r bs else lackP r bs
  | _, _ => []
theorem lineStep_mem {n : Nat} {re : Bool} {l : List Int} {x y : Int} (h : y ∈ lineStep n re l x) : y ∈ l ∨ y = x := by
  unfold lineStep at h
  split at h
  · split at h
    · rcases List.mem_append.mp h with h | h
      · exact .inl (List.mem_of_mem_eraseIdx h)
      · exact .inr (by simpa using h)
    · exact .inl h
  · rcases List.mem_append.mp h with h | h
    · split at h
      · exact .inl (List.mem_of_mem_eraseIdx h)
      · exact .inl h
    · exact .inr (by simpa using h)
/-- what came behind p was asked for since: p stays -/
theorem line_stays {n : Nat} {re : Bool} (hn : 0 < n) {U : List Int} {p : Int} (hU : U.Nodup) (hUn : U.length ≤ n) (pU : p ∈ U) : ∀ (seg A B : List Int), (A ++ p :: B).Nodup → (A ++ p :: B).length ≤ n → (∀ b ∈ B, b ∈ U) → (∀ x ∈ seg, x ∈ U) →
    p ∉ lackP seg (lineL n re (A ++ p :: B) seg)
  | [], _, _, _, _, _, _ => by
    intro z
    cases z
  | x :: r, A, B, nd, hl, hB, hs => by
    have xU := hs x List.mem_cons_self
    have hr : ∀ y ∈ r, y ∈ U := fun y hy => hs y (List.mem_cons_of_mem _ hy)
    have nd' : (lineStep n re (A ++ p :: B) x).Nodup := lineStep_nodup nd
    have hl' : (lineStep n re (A ++ p :: B) x).length ≤ n := lineStep_len hn hl
    have go : ∀ A' B', lineStep n re (A ++ p :: B) x = A' ++ p :: B' → (∀ b ∈ B', b ∈ U) → p ∉ lackP r (lineL n re (lineStep n re (A ++ p :: B) x) r) := fun A' B' e hB' => by
      rw [e] at nd' hl' ⊢
      exact line_stays hn hU hUn pU r A' B' nd' hl' hB' hr
    have pA : p ∉ A := fun z => (List.nodup_append.mp nd).2.2 p z p (by simp) rfl
    have pB : p ∉ B := (List.nodup_cons.mp (List.nodup_append.mp nd).2.1).1
    have Bx : ∀ b ∈ B ++ [x], b ∈ U := fun b hb => (List.mem_append.mp hb).elim (hB b) fun z => by
      have e : b = x := by simpa using z
      rw [e]
      exact xU
    show p ∉ lackP (x :: r) ((!decide (x ∈ A ++ p :: B)) :: lineL n re (lineStep n re (A ++ p :: B) x) r)
    by_cases hx : x ∈ A ++ p :: B
    · have e : (!decide (x ∈ A ++ p :: B)) = false := by simp only [hx, decide_true, Bool.not_true]
      rw [e]
      show p ∉ lackP r _
      by_cases hre : re = true
      · subst hre
        have es := step_hit (n := n) hx
        by_cases hxp : x = p
        · subst hxp
          refine go (A ++ B) [] ?_ (fun b hb => by cases hb)
          rw [es, List.erase_append_right _ pA, List.erase_cons_head]
        · rcases List.mem_append.mp hx with h | h
          · refine go (A.erase x) (B ++ [x]) ?_ Bx
            rw [es, List.erase_append_left _ h]
            simp
          · have hxB : x ∈ B := by simpa [hxp] using h
            have hxA : x ∉ A := fun z => (List.nodup_append.mp nd).2.2 x z x h rfl
            refine go A (B.erase x ++ [x]) ?_ (fun b hb => (List.mem_append.mp hb).elim (fun z => hB b (List.mem_of_mem_erase z)) fun z => Bx b (List.mem_append_right _ z))
            rw [es, List.erase_append_right _ hxA, List.erase_cons_tail (by simpa using fun z => hxp z.symm)]
            simp
      · refine go A B ?_ hB
        unfold lineStep
        rw [if_pos hx, if_neg hre]
    · have hxp : p ≠ x := fun z => hx (by rw [← z]; simp)
      have tail : p ∉ lackP r (lineL n re (lineStep n re (A ++ p :: B) x) r) := by
        by_cases hf : (A ++ p :: B).length = n
        · cases A with
          | nil =>
            -- p and all behind it, and x: more than U has
            exfalso
            have nd2 : (x :: p :: B).Nodup := List.nodup_cons.mpr ⟨hx, nd⟩
            have len := len_sub nd2 (ys := U) fun y hy => by
              rcases List.mem_cons.mp hy with rfl | hy
              · exact xU
              · rcases List.mem_cons.mp hy with rfl | hy
                · exact pU
                · exact hB y hy
            have f2 : (p :: B).length = n := hf
            rw [List.length_cons] at len
            omega
          | cons y ys =>
            refine go ys (B ++ [x]) ?_ Bx
            have q : lineStep n re (y :: (ys ++ p :: B)) x = (ys ++ p :: B) ++ [x] := step_out hx hf
            show lineStep n re (y :: (ys ++ p :: B)) x = _
            rw [q]
            simp
        · refine go A (B ++ [x]) ?_ Bx
          rw [step_in hx hf]
          simp
      have e : (!decide (x ∈ A ++ p :: B)) = true := by simp only [hx, decide_false, Bool.not_false]
      rw [e]
      show p ∉ x :: lackP r _
      intro z
      rcases List.mem_cons.mp z with z | z
      · exact hxp z
      · exact tail z
theorem line_once {n : Nat} {re : Bool} (hn : 0 < n) {U : List Int} (hU : U.Nodup) (hUn : U.length ≤ n) : ∀ (seg l : List Int), l.Nodup → l.length ≤ n → (∀ x ∈ seg, x ∈ U) → (lackP seg (lineL n re l seg)).Nodup
  | [], _, _, _, _ => List.nodup_nil
  | p :: r, l, nd, hl, hs => by
    have ih := line_once (re := re) hn hU hUn r (lineStep n re l p) (lineStep_nodup nd) (lineStep_len hn hl) fun x hx => hs x (List.mem_cons_of_mem _ hx)
    show (lackP (p :: r) ((!decide (p ∈ l)) :: lineL n re (lineStep n re l p) r)).Nodup
    by_cases h : p ∈ l
    · have e : (!decide (p ∈ l)) = false := by simp [h]
      rw [e]
      exact ih
    · have e : (!decide (p ∈ l)) = true := by simp [h]
      rw [e]
      refine List.nodup_cons.mpr ⟨?_, ih⟩
      have nd' : (lineStep n re l p).Nodup := lineStep_nodup nd
      have hl' : (lineStep n re l p).length ≤ n := lineStep_len hn hl
      obtain ⟨A, eA⟩ : ∃ A, lineStep n re l p = A ++ p :: [] := by
        unfold lineStep
        rw [if_neg h]
        exact ⟨_, rfl⟩
      rw [eA] at nd' hl' ⊢
      exact line_stays hn hU hUn (hs p List.mem_cons_self) r A [] nd' hl' (fun b hb => by cases hb) fun x hx => hs x (List.mem_cons_of_mem _ hx)
end CK

/-! No way has fewer lacks than there are stretches. -/
namespace CK
/-- a way, cut behind an ask -/
theorem Way.cut {n : Nat} (hn : 0 < n) {q : Int} {Y : List Int} : ∀ {X C : List Int} {k : Nat}, C.Nodup → C.length ≤ n → Way n C (X ++ q :: Y) k →
    ∃ C1 k1 k2, k = k1 + k2 ∧ Way n C1 Y k2 ∧ C1.Nodup ∧ C1.length ≤ n ∧ q ∈ C1 ∧ (k1 = 0 → ∀ x ∈ X ++ [q], x ∈ C)
  | [], C, k, nd, hl, w => by
    cases w with
    | @hit _ _ _ k h w => exact ⟨C, 0, k, by omega, w, nd, hl, h, fun _ x hx => by
        have e : x = q := by simpa using hx
        rw [e]
        exact h⟩
    | @room _ _ _ k h lt w => exact ⟨_, 1, k, by omega, w, List.nodup_cons.mpr ⟨h, nd⟩, by rw [List.length_cons]; omega, List.mem_cons_self, fun z => by omega⟩
    | @out _ _ f _ k h ge hf w =>
      have l1 := List.length_erase_of_mem hf
      have l2 := List.length_pos_of_mem hf
      exact ⟨_, 1, k, by omega, w, List.nodup_cons.mpr ⟨fun z => h (List.mem_of_mem_erase z), nd.erase f⟩, by rw [List.length_cons]; omega, List.mem_cons_self, fun z => by omega⟩
  | x :: X, C, k, nd, hl, w0 => by
    have w' : Way n C (x :: (X ++ q :: Y)) k := w0
    clear w0
    cases w' with
    | @hit _ _ _ k h w =>
      obtain ⟨C1, k1, k2, e, w1, n1, l1, m1, z⟩ := Way.cut hn nd hl w
      refine ⟨C1, k1, k2, e, w1, n1, l1, m1, fun e0 y hy => ?_⟩
      rcases List.mem_cons.mp hy with rfl | hy
      · exact h
      · exact z e0 y hy
    | @room _ _ _ k h lt w =>
      obtain ⟨C1, k1, k2, e, w1, n1, l1, m1, _⟩ := Way.cut hn (List.nodup_cons.mpr ⟨h, nd⟩) (by rw [List.length_cons]; omega) w
      exact ⟨C1, k1 + 1, k2, by omega, w1, n1, l1, m1, fun z => by omega⟩
    | @out _ _ f _ k h ge hf w =>
      have g1 := List.length_erase_of_mem hf
      have g2 := List.length_pos_of_mem hf
      obtain ⟨C1, k1, k2, e, w1, n1, l1, m1, _⟩ := Way.cut hn (List.nodup_cons.mpr ⟨fun z => h (List.mem_of_mem_erase z), nd.erase f⟩) (by rw [List.length_cons]; omega) w
      exact ⟨C1, k1 + 1, k2, by omega, w1, n1, l1, m1, fun z => by omega⟩
/-- more than n unlike pages are asked for -/
def Many (n : Nat) (xs : List Int) : Prop := ∃ U : List Int, U.Nodup ∧ n < U.length ∧ ∀ u ∈ U, u ∈ xs
/-- each part goes on as far as can be: with the next ask it has too many unlike pages -/
def Far (n : Nat) : List (List Int) → Prop
  | [] => True
  | a :: rest => (∀ q w r, rest = (q :: w) :: r → Many n (a ++ [q])) ∧ Far n rest
theorem parts_way {n : Nat} (hn : 0 < n) : ∀ (rest : List (List Int)) (p : Int) (W C : List Int) (k : Nat), (∀ a ∈ rest, a ≠ []) → Far n ((p :: W) :: rest) → C.Nodup → C.length ≤ n → p ∈ C → Way n C (W ++ rest.flatten) k → rest.length ≤ k
  | [], _, _, _, _, _, _, _, _, _, _ => Nat.zero_le _
  | [] :: _, _, _, _, _, ne, _, _, _, _, _ => absurd rfl (ne [] List.mem_cons_self)
  | (q :: W') :: rest, p, W, C, k, ne, far, nd, hl, hp, w => by
    have e : W ++ ((q :: W') :: rest).flatten = W ++ q :: (W' ++ rest.flatten) := by simp
    rw [e] at w
    obtain ⟨C1, k1, k2, ek, w1, n1, l1, m1, z⟩ := Way.cut hn nd hl w
    have ih := parts_way hn rest q W' C1 k2 (fun a ha => ne a (List.mem_cons_of_mem _ ha)) far.2 n1 l1 m1 w1
    obtain ⟨U, u1, u2, u3⟩ := far.1 q W' rest rfl
    have k1p : k1 ≠ 0 := fun k0 => by
      have sub := len_sub u1 (ys := C) fun u hu => by
        have m := u3 u hu
        rcases List.mem_cons.mp (show u ∈ p :: (W ++ [q]) from m) with rfl | m
        · exact hp
        · exact z k0 u m
      omega
    rw [List.length_cons]
    omega
/-- a row that is cut into so many parts -/
theorem parts_least {n : Nat} (hn : 0 < n) {parts : List (List Int)} {k : Nat} (ne : ∀ a ∈ parts, a ≠ []) (far : Far n parts) (w : Way n [] parts.flatten k) : parts.length ≤ k := by
  cases parts with
  | nil => exact Nat.zero_le _
  | cons a rest =>
    cases a with
    | nil => exact absurd rfl (ne [] List.mem_cons_self)
    | cons p W =>
      have e : ((p :: W) :: rest).flatten = [] ++ p :: (W ++ rest.flatten) := by simp
      rw [e] at w
      obtain ⟨C1, k1, k2, ek, w1, n1, l1, m1, z⟩ := Way.cut hn List.nodup_nil (Nat.zero_le _) w
      have q := parts_way hn rest p W C1 k2 (fun a ha => ne a (List.mem_cons_of_mem _ ha)) far n1 l1 m1 w1
      have k1p : k1 ≠ 0 := fun k0 => by
        have := z k0 p (by simp)
        cases this
      rw [List.length_cons]
      omega
end CK

/-! The hand is a way of letting go. -/
namespace CK
def keepD (s : DS) : List Int := s.held.filterMap id
theorem mem_keep {l : List (Option Int)} {p : Int} : p ∈ l.filterMap id ↔ some p ∈ l := by
  rw [List.mem_filterMap]
  exact ⟨fun ⟨a, h, e⟩ => by rw [← show a = some p from e]; exact h, fun h => ⟨some p, h, rfl⟩⟩
theorem keep_new : ∀ {l : List (Option Int)} {i : Nat} {p : Int}, l[i]? = some none → ((l.set i (some p)).filterMap id).Perm (p :: l.filterMap id)
  | [], i, p, h => by simp at h
  | a :: l, 0, p, h => by
    have e : a = none := Option.some.inj h
    subst e
    exact .refl _
  | a :: l, i + 1, p, h => by
    have ih := keep_new (l := l) (i := i) (p := p) h
    cases a with
    | none => exact ih
    | some x => exact (ih.cons x).trans (.swap _ _ _)
theorem keep_put : ∀ {l : List (Option Int)} {i : Nat} {p q : Int}, (l.filterMap id).Nodup → l[i]? = some (some q) → ((l.set i (some p)).filterMap id).Perm (p :: (l.filterMap id).erase q)
  | [], i, p, q, _, h => by simp at h
  | a :: l, 0, p, q, nd, h => by
    have e : a = some q := Option.some.inj h
    subst e
    show (p :: l.filterMap id).Perm (p :: (q :: l.filterMap id).erase q)
    rw [List.erase_cons_head]
  | a :: l, i + 1, p, q, nd, h => by
    cases a with
    | none => exact keep_put (l := l) (i := i) nd h
    | some x =>
      have nd2 : (x :: l.filterMap id).Nodup := nd
      have ih := keep_put (l := l) (i := i) (p := p) (List.nodup_cons.mp nd2).2 h
      have hq : q ∈ l.filterMap id := mem_keep.mpr (List.mem_of_getElem? h)
      have xq : x ≠ q := fun z => (List.nodup_cons.mp nd2).1 (z ▸ hq)
      show (x :: (l.set i (some p)).filterMap id).Perm (p :: (x :: l.filterMap id).erase q)
      rw [List.erase_cons_tail (by simpa using xq)]
      exact (ih.cons x).trans (.swap _ _ _)
theorem keep_less : ∀ {l : List (Option Int)}, none ∈ l → (l.filterMap id).length < l.length
  | [], h => by cases h
  | none :: l, _ => by
    show (l.filterMap id).length < l.length + 1
    exact Nat.lt_succ_of_le (List.length_filterMap_le _ _)
  | some x :: l, h => by
    have h2 : none ∈ l := by simpa using h
    exact Nat.succ_lt_succ (keep_less h2)
theorem keep_full : ∀ {l : List (Option Int)}, none ∉ l → (l.filterMap id).length = l.length
  | [], _ => rfl
  | none :: l, h => absurd List.mem_cons_self h
  | some x :: l, h => congrArg Nat.succ (keep_full (l := l) fun z => h (List.mem_cons_of_mem _ z))
/-- the rooms fill up in turn; then all stay full -/
def Filled (n : Nat) (s : DS) : Prop := none ∉ s.held ∨ (s.hand < n ∧ (∀ i, i < s.hand → s.held[i]? ≠ some none) ∧ ∀ i, s.hand ≤ i → i < n → s.held[i]? = some none ∧ s.marks[i]? = some false)
theorem filled_new {n : Nat} (hn : 0 < n) : Filled n (DS.new n) := by
  refine .inr ⟨hn, fun i hi => absurd hi (Nat.not_lt_zero i), fun i _ hi => ?_⟩
  show (List.replicate n none)[i]? = some none ∧ (List.replicate n false)[i]? = some false
  rw [List.getElem?_replicate, if_pos hi, List.getElem?_replicate, if_pos hi]
  exact ⟨rfl, rfl⟩
theorem pass_stop {s : DS} (h : s.marks[s.hand]? = some false) : s.pass = (s.marks, s.hand, []) := by
  unfold DS.pass
  cases s.marks.count true with
  | zero => rfl
  | succ k =>
    show (if s.marks[s.hand]? = some true then _ else (s.marks, s.hand, [])) = _
    rw [if_neg (by rw [h]; simp)]
theorem way_hand {n : Nat} (hn : 0 < n) : ∀ (row : List Int) (s : DS), s.WF n → (keepD s).Nodup → Filled n s → Way n (keepD s) row (((tellsL s row).map (·.1)).count true)
  | [], s, _, _, _ => .nil _
  | p :: r, s, W, nd, F => by
    have W' : (s.ask p).WF n := DS.ask_wf W
    show Way n (keepD s) (p :: r) (List.count true ((s.tells p).1 :: (tellsL (s.ask p) r).map (·.1)))
    by_cases hp : some p ∈ s.held
    · have e1 : (s.tells p).1 = false := by unfold DS.tells; rw [if_pos hp]
      have e2 : s.ask p = s.hit p := by unfold DS.ask; rw [if_pos hp]
      rw [e1, List.count_cons_of_ne (by decide), e2]
      rw [e2] at W'
      refine .hit (mem_keep.mpr hp) (way_hand hn r (s.hit p) W' nd ?_)
      rcases F with F | ⟨f1, f2, f3⟩
      · exact .inl F
      · refine .inr ⟨f1, f2, fun i h1 h2 => ⟨(f3 i h1 h2).1, ?_⟩⟩
        show (s.marks.set (s.held.idxOf (some p)) true)[i]? = some false
        have ne : s.held.idxOf (some p) ≠ i := fun z => by
          have g := idx_at hp
          rw [z, (f3 i h1 h2).1] at g
          cases g
        rw [List.getElem?_set_ne ne]
        exact (f3 i h1 h2).2
    · have e1 : (s.tells p).1 = true := by unfold DS.tells; rw [if_neg hp]
      have e2 : s.ask p = s.lack p := by unfold DS.ask; rw [if_neg hp]
      rw [e1, List.count_cons_self, e2]
      rw [e2] at W'
      have hpk : p ∉ keepD s := fun z => hp (mem_keep.mp z)
      have hlt := W.passlt
      rcases F with F | ⟨f1, f2, f3⟩
      · have hi : s.pass.2.1 < s.held.length := by rw [W.h]; exact hlt
        obtain ⟨q, hq⟩ : ∃ q, s.held[s.pass.2.1]? = some (some q) := by
          cases g : s.held[s.pass.2.1]'hi with
          | none => exact absurd (g ▸ List.getElem_mem hi) F
          | some q => exact ⟨q, by rw [List.getElem?_eq_getElem hi, g]⟩
        have pm : (keepD (s.lack p)).Perm (p :: (keepD s).erase q) := keep_put nd hq
        have nd' : (keepD (s.lack p)).Nodup := pm.nodup_iff.mpr (List.nodup_cons.mpr ⟨fun z => hpk (List.mem_of_mem_erase z), nd.erase q⟩)
        have F' : Filled n (s.lack p) := .inl fun z => by
          have z' : none ∈ s.held.set s.pass.2.1 (some p) := z
          rcases List.mem_or_eq_of_mem_set z' with z' | z'
          · exact F z'
          · cases z'
        refine .out hpk (by rw [show (keepD s).length = s.held.length from keep_full F, W.h]; exact Nat.le_refl _) (mem_keep.mpr (List.mem_of_getElem? hq)) ?_
        exact (way_hand hn r (s.lack p) W' nd' F').perm pm
      · have g := f3 s.hand (Nat.le_refl _) f1
        have st := pass_stop g.2
        have pm : (keepD (s.lack p)).Perm (p :: keepD s) := by
          show ((s.held.set s.pass.2.1 (some p)).filterMap id).Perm _
          rw [st]
          exact keep_new g.1
        have nd' : (keepD (s.lack p)).Nodup := pm.nodup_iff.mpr (List.nodup_cons.mpr ⟨hpk, nd⟩)
        have eh : (s.lack p).held = s.held.set s.hand (some p) := by
          show s.held.set s.pass.2.1 (some p) = _
          rw [st]
        have em : (s.lack p).marks = s.marks.set s.hand true := by
          show s.pass.1.set s.pass.2.1 true = _
          rw [st]
        have en : (s.lack p).hand = (s.hand + 1) % n := by
          show (s.pass.2.1 + 1) % s.held.length = _
          rw [st, W.h]
        have hset : ∀ i, i ≠ s.hand → (s.lack p).held[i]? = s.held[i]? := fun i hi => by
          rw [eh, List.getElem?_set_ne (Ne.symm hi)]
        have hat : (s.lack p).held[s.hand]? = some (some p) := by
          rw [eh, List.getElem?_set_self (by rw [W.h]; exact f1)]
        have F' : Filled n (s.lack p) := by
          by_cases hl : s.hand + 1 = n
          · refine .inl fun z => ?_
            obtain ⟨i, hi, gi⟩ := List.mem_iff_getElem.mp z
            have gi' : (s.lack p).held[i]? = some none := by rw [List.getElem?_eq_getElem hi, gi]
            have hin : i < n := by rw [← W'.h]; exact hi
            by_cases hc : i = s.hand
            · rw [hc, hat] at gi'
              cases gi'
            · rw [hset i hc] at gi'
              exact f2 i (by omega) gi'
          · have en' : (s.lack p).hand = s.hand + 1 := by
              rw [en]
              exact Nat.mod_eq_of_lt (by omega)
            refine .inr ⟨by omega, fun i hi => ?_, fun i h1 h2 => ?_⟩
            · by_cases hc : i = s.hand
              · rw [hc, hat]
                intro z
                cases z
              · rw [hset i hc]
                exact f2 i (by omega)
            · have hc : i ≠ s.hand := by omega
              refine ⟨?_, ?_⟩
              · rw [hset i hc]
                exact (f3 i (by omega) h2).1
              · rw [em, List.getElem?_set_ne (Ne.symm hc)]
                exact (f3 i (by omega) h2).2
        have mem : none ∈ s.held := List.mem_of_getElem? g.1
        refine .room hpk (by rw [← W.h]; exact keep_less mem) ?_
        exact (way_hand hn r (s.lack p) W' nd' F').perm pm
/-- each rule is a way of letting go, from no page on -/
theorem way_rule {n : Nat} (hn : 0 < n) (rule : Rl) (row : List Int) : Way n [] row ((lackB n rule row).count true) := by
  cases rule with
  | hand =>
    have e : keepD (DS.new n) = [] := by
      show (List.replicate n none).filterMap id = []
      rw [List.filterMap_replicate]
      rfl
    have w := way_hand hn row (DS.new n) (DS.new_wf hn) (by rw [e]; exact List.nodup_nil) (filled_new hn)
    rw [e] at w
    exact w
  | unseen => exact way_line hn row [] List.nodup_nil (Nat.zero_le _)
  | first => exact way_line hn row [] List.nodup_nil (Nat.zero_le _)
end CK

/-! Who lets the farthest go is the best: as a way. -/
namespace CK
theorem snoc_perm (C : List Int) (p : Int) : (C ++ [p]).Perm (p :: C) := by
  have q := List.perm_append_comm (l₁ := C) (l₂ := [p])
  exact q
theorem best_bel_at {n : Nat} (hn : 0 < n) (row : List Int) : ∀ (m i : Nat), row.length - i = m → i ≤ row.length → (bestTo n row i).lacks.length ≤ (bestS n row).lacks.length ∧ Bel n (bestTo n row i).C (row.drop i) ((bestS n row).lacks.length - (bestTo n row i).lacks.length)
  | 0, i, hm, hi => by
    have e : i = row.length := by omega
    subst e
    rw [List.drop_length]
    have e2 : (bestS n row).lacks.length - (bestTo n row row.length).lacks.length = 0 := Nat.sub_self _
    rw [e2]
    exact ⟨Nat.le_refl _, .nil _⟩
  | m + 1, i, hm, hi => by
    have hi' : i < row.length := by omega
    have ei : row[i]? = some (row[i]'hi') := List.getElem?_eq_getElem hi'
    obtain ⟨ih1, ih2⟩ := best_bel_at hn row m (i + 1) (by omega) (by omega)
    have Ok := bestTo_ok hn row i
    rw [drop_at ei]
    rw [bestTo_succ ei] at ih1 ih2
    unfold BS.step at ih1 ih2
    generalize row[i]'hi' = p at *
    by_cases hin : p ∈ (bestTo n row i).C
    · rw [if_pos hin] at ih1 ih2
      exact ⟨ih1, .hit hin ih2⟩
    · rw [if_neg hin] at ih1 ih2
      by_cases hf : (bestTo n row i).C.length = n
      · rw [if_pos hf] at ih1 ih2
        have hne : (bestTo n row i).C ≠ [] := by intro z; rw [z] at hf; simp at hf; omega
        have F := far_ok (row := row) (i := i) hne
        generalize far row i (bestTo n row i).C = f at *
        have l1 : (bestTo n row i).lacks.length + 1 ≤ (bestS n row).lacks.length := by
          have := ih1
          rw [List.length_append] at this
          exact this
        refine ⟨by omega, ?_⟩
        have e3 : (bestS n row).lacks.length - (bestTo n row i).lacks.length = ((bestS n row).lacks.length - ((bestTo n row i).lacks ++ [i]).length) + 1 := by
          rw [List.length_append]
          simp
          omega
        rw [e3]
        refine .out hin (by omega) F.mem (fun y hy => ?_) (ih2.perm ?_)
        · have h1 := F.far y hy
          have hy2 : y ≠ p := by intro z; rw [z] at hy; exact hin hy
          have hf2 : f ≠ p := by intro z; rw [← z] at hin; exact hin F.mem
          rw [nxt_on ei hy2, nxt_on ei hf2] at h1
          unfold nxt at h1
          omega
        · rw [Ok.nd.erase_eq_filter]
          exact snoc_perm _ _
      · rw [if_neg hf] at ih1 ih2
        have l1 : (bestTo n row i).lacks.length + 1 ≤ (bestS n row).lacks.length := by
          have := ih1
          rw [List.length_append] at this
          exact this
        refine ⟨by omega, ?_⟩
        have e3 : (bestS n row).lacks.length - (bestTo n row i).lacks.length = ((bestS n row).lacks.length - ((bestTo n row i).lacks ++ [i]).length) + 1 := by
          rw [List.length_append]
          simp
          omega
        rw [e3]
        have := Ok.le
        exact .room hin (by omega) (ih2.perm (snoc_perm _ _))
theorem best_bel {n : Nat} (hn : 0 < n) (row : List Int) : Bel n [] row (bestS n row).lacks.length := by
  have q := (best_bel_at hn row row.length 0 (by omega) (Nat.zero_le _)).2
  exact q
theorem best_least {n : Nat} (hn : 0 < n) {row : List Int} {k : Nat} (w : Way n [] row k) : (bestS n row).lacks.length ≤ k := (best_bel hn row).least List.nodup_nil (Nat.zero_le _) w
theorem placesT_len : ∀ (i : Nat) (xs : List Bool), (placesT i xs).length = xs.count true
  | _, [] => rfl
  | i, b :: r => by
    unfold placesT
    cases b with
    | true => simp [placesT_len (i + 1) r]
    | false => simp [placesT_len (i + 1) r]
/-- no rule lacks more seldom -/
theorem best_rule {n : Nat} (hn : 0 < n) (rule : Rl) (row : List Int) : (bestS n row).lacks.length ≤ (lacksR n rule row).length := by
  unfold lacksR
  rw [placesT_len]
  exact best_least hn (way_rule hn rule row)
end CK

/-! In a part of a row with no more unlike pages than rooms no page lacks twice: the hand. -/
namespace CK
/-- the room k behind the one that follows i, round the dial -/
def rnd (n i k : Nat) : Nat := (i + 1 + k) % n
theorem rnd_eq {n i k : Nat} (hi : i < n) (hk : k < n) : rnd n i k = if i + 1 + k < n then i + 1 + k else i + 1 + k - n := by
  unfold rnd
  split
  · exact Nat.mod_eq_of_lt (by omega)
  · rw [Nat.mod_eq_sub_mod (by omega)]
    exact Nat.mod_eq_of_lt (by omega)
theorem rnd_lt {n i k : Nat} (hi : i < n) : rnd n i k < n := Nat.mod_lt _ (by omega)
theorem rnd_inj {n i k j : Nat} (hi : i < n) (hk : k < n) (hj : j < n) (e : rnd n i k = rnd n i j) : k = j := by
  rw [rnd_eq hi hk, rnd_eq hi hj] at e
  split at e <;> split at e <;> omega
theorem rnd_last {n i : Nat} (hi : i < n) : rnd n i (n - 1) = i := by
  rw [rnd_eq hi (by omega)]
  split <;> omega
theorem rnd_ne {n i k : Nat} (hi : i < n) (hk : k < n - 1) : rnd n i k ≠ i := fun e => by
  have := rnd_inj hi (by omega) (by omega) (e.trans (rnd_last hi).symm)
  omega
theorem rnd_sur {n i j : Nat} (hi : i < n) (hj : j < n) (ne : j ≠ i) : ∃ k, k < n - 1 ∧ rnd n i k = j := by
  by_cases h : i < j
  · refine ⟨j - i - 1, by omega, ?_⟩
    rw [rnd_eq hi (by omega)]
    split <;> omega
  · refine ⟨j + n - i - 1, by omega, ?_⟩
    rw [rnd_eq hi (by omega)]
    split <;> omega
theorem rnd_next {n i k : Nat} (hi : i < n) (hk : k + 1 < n) : (rnd n i k + 1) % n = rnd n i (k + 1) := by
  have e := rnd_eq hi (show k < n by omega)
  have e2 := rnd_eq hi hk
  rw [e2, e]
  split
  · split
    · exact Nat.mod_eq_of_lt (by omega)
    · have : i + 1 + k + 1 = n := by omega
      rw [this, Nat.mod_self]
      omega
  · split
    · omega
    · rw [Nat.mod_eq_of_lt (by omega)]
      omega
/-- the page of the room j is one of U -/
def InU (held : List (Option Int)) (U : List Int) (j : Nat) : Prop := ∃ x ∈ U, held[j]? = some (some x)
/-- the hand came to h since i was asked for: what it passed by -/
structure HInv (n : Nat) (U : List Int) (held : List (Option Int)) (i hp : Nat) (m : List Bool) (h : Nat) : Prop where
  hh : h = rnd n i hp
  lt : hp < n
  a : m[i]? = some true → ∀ k, k < n - 1 → k < hp → m[rnd n i k]? = some true → InU held U (rnd n i k)
  b : m[i]? = some false → ∀ k, k < n - 1 → (k < hp → InU held U (rnd n i k)) ∧ (hp ≤ k → m[rnd n i k]? = some true → InU held U (rnd n i k))
section
variable {n : Nat} {U : List Int} {held : List (Option Int)} {i : Nat}
theorem HInv.pass1 {m : List Bool} {h hp : Nat} (I : HInv n U held i hp m h) (hi : i < n) (hm : m.length = n) (ht : m[h]? = some true) : ∃ hp', HInv n U held i hp' (m.set h false) ((h + 1) % n) := by
  have hln : h < m.length := (List.getElem?_eq_some_iff.mp ht).1
  have self : (m.set h false)[h]? = some false := by rw [List.getElem?_set_self hln]
  by_cases hl : hp = n - 1
  · have hhi : h = i := by rw [I.hh, hl]; exact rnd_last hi
    subst hhi
    refine ⟨0, by rfl, by omega, fun z => ?_, fun _ k hk => ⟨fun z => absurd z (Nat.not_lt_zero k), fun _ z => ?_⟩⟩
    · rw [self] at z
      cases z
    · rw [List.getElem?_set_ne (Ne.symm (rnd_ne hi hk))] at z
      exact I.a ht k hk (by omega) z
  · have lt := I.lt
    have hne : h ≠ i := by rw [I.hh]; exact rnd_ne hi (by omega)
    have mi : (m.set h false)[i]? = m[i]? := List.getElem?_set_ne hne
    refine ⟨hp + 1, by rw [I.hh]; exact rnd_next hi (by omega), by omega, fun z k hk hlt z2 => ?_, fun z k hk => ⟨fun hlt => ?_, fun hle z2 => ?_⟩⟩
    · rw [mi] at z
      by_cases e : k = hp
      · rw [e, ← I.hh, self] at z2
        cases z2
      · have ne : h ≠ rnd n i k := fun q => e (rnd_inj hi (by omega) lt (q.symm.trans I.hh))
        rw [List.getElem?_set_ne ne] at z2
        exact I.a z k hk (by omega) z2
    · rw [mi] at z
      by_cases e : k = hp
      · rw [e]
        exact (I.b z hp (by omega)).2 (Nat.le_refl _) (by rw [← I.hh]; exact ht)
      · exact (I.b z k hk).1 (by omega)
    · rw [mi] at z
      have ne : h ≠ rnd n i k := fun q => by
        have := rnd_inj hi (by omega) lt (q.symm.trans I.hh)
        omega
      rw [List.getElem?_set_ne ne] at z2
      exact (I.b z k hk).2 (by omega) z2
theorem HInv.pass (hi : i < n) : ∀ (fuel : Nat) (m : List Bool) (h hp : Nat), m.length = n → HInv n U held i hp m h → ∃ hp', HInv n U held i hp' (passF fuel m h).1 (passF fuel m h).2.1
  | 0, m, h, hp, _, I => ⟨hp, I⟩
  | k + 1, m, h, hp, hm, I => by
    unfold passF
    by_cases ht : m[h]? = some true
    · rw [if_pos ht]
      obtain ⟨hp', J⟩ := I.pass1 hi hm ht
      have q := HInv.pass hi k (m.set h false) ((h + 1) % m.length) hp' (by rw [List.length_set]; exact hm) (by rw [hm]; exact J)
      exact q
    · rw [if_neg ht]
      exact ⟨hp, I⟩
theorem pass_ends : ∀ (k : Nat) (m : List Bool) (h : Nat), m.count true ≤ k → h < m.length → (passF k m h).1[(passF k m h).2.1]? = some false
  | 0, m, h, hc, hl => by
    show m[h]? = some false
    cases g : m[h]'hl with
    | false => rw [List.getElem?_eq_getElem hl, g]
    | true =>
      have mem : true ∈ m := g ▸ List.getElem_mem hl
      have := List.count_pos_iff.mpr mem
      omega
  | k + 1, m, h, hc, hl => by
    unfold passF
    by_cases ht : m[h]? = some true
    · rw [if_pos ht]
      have cs := count_set ht
      exact pass_ends k (m.set h false) ((h + 1) % m.length) (by omega) (by rw [List.length_set]; exact Nat.mod_lt _ (by omega))
    · rw [if_neg ht]
      show m[h]? = some false
      cases g : m[h]'hl with
      | false => rw [List.getElem?_eq_getElem hl, g]
      | true => exact absurd (by rw [List.getElem?_eq_getElem hl, g]) ht
end
theorem InU.set {U : List Int} {held : List (Option Int)} {j h : Nat} {x : Int} (xU : x ∈ U) (hl : h < held.length) (I : j = h ∨ InU held U j) : InU (held.set h (some x)) U j := by
  by_cases e : j = h
  · exact ⟨x, xU, by rw [e, List.getElem?_set_self hl]⟩
  · obtain ⟨y, yU, g⟩ := I.resolve_left e
    exact ⟨y, yU, by rw [List.getElem?_set_ne (Ne.symm e)]; exact g⟩
/-- an ask for a page of U, another one than p's that lacks: p stays where it is -/
theorem hand_step {n : Nat} {U : List Int} {s : DS} {i hp : Nat} {p x : Int} (hU : U.Nodup) (hUn : U.length ≤ n) (W : s.WF n) (nd : (keepD s).Nodup) (hi : i < n) (pU : p ∈ U) (hp_ : s.held[i]? = some (some p)) (I : HInv n U s.held i hp s.marks s.hand) (xU : x ∈ U) :
    ∃ hp', (s.ask x).held[i]? = some (some p) ∧ HInv n U (s.ask x).held i hp' (s.ask x).marks (s.ask x).hand := by
  by_cases hx : some x ∈ s.held
  · have e : s.ask x = s.hit x := by unfold DS.ask; rw [if_pos hx]
    rw [e]
    have gx : s.held[s.held.idxOf (some x)]? = some (some x) := idx_at hx
    have jl : s.held.idxOf (some x) < s.marks.length := by rw [W.m, ← W.h]; exact (List.getElem?_eq_some_iff.mp gx).1
    have inj : InU s.held U (s.held.idxOf (some x)) := ⟨x, xU, gx⟩
    refine ⟨hp, hp_, I.hh, I.lt, fun z k hk hlt z2 => ?_, fun z k hk => ⟨fun hlt => ?_, fun hle z2 => ?_⟩⟩
    · have z : (s.marks.set (s.held.idxOf (some x)) true)[i]? = some true := z
      have z2 : (s.marks.set (s.held.idxOf (some x)) true)[rnd n i k]? = some true := z2
      by_cases e2 : rnd n i k = s.held.idxOf (some x)
      · rw [e2]
        exact inj
      · rw [List.getElem?_set_ne (Ne.symm e2)] at z2
        by_cases e3 : s.held.idxOf (some x) = i
        · have il : i < s.marks.length := by rw [W.m]; exact hi
          cases g : s.marks[i]'il with
          | true => exact I.a (by rw [List.getElem?_eq_getElem il, g]) k hk hlt z2
          | false => exact (I.b (by rw [List.getElem?_eq_getElem il, g]) k hk).1 hlt
        · rw [List.getElem?_set_ne e3] at z
          exact I.a z k hk hlt z2
    · have z : (s.marks.set (s.held.idxOf (some x)) true)[i]? = some false := z
      have e3 : s.held.idxOf (some x) ≠ i := fun q => by
        rw [q, List.getElem?_set_self (by rw [W.m]; exact hi)] at z
        cases z
      rw [List.getElem?_set_ne e3] at z
      exact (I.b z k hk).1 hlt
    · have z : (s.marks.set (s.held.idxOf (some x)) true)[i]? = some false := z
      have z2 : (s.marks.set (s.held.idxOf (some x)) true)[rnd n i k]? = some true := z2
      have e3 : s.held.idxOf (some x) ≠ i := fun q => by
        rw [q, List.getElem?_set_self (by rw [W.m]; exact hi)] at z
        cases z
      rw [List.getElem?_set_ne e3] at z
      by_cases e2 : rnd n i k = s.held.idxOf (some x)
      · rw [e2]
        exact inj
      · rw [List.getElem?_set_ne (Ne.symm e2)] at z2
        exact (I.b z k hk).2 hle z2
  · have e : s.ask x = s.lack x := by unfold DS.ask; rw [if_neg hx]
    rw [e]
    obtain ⟨hp', J⟩ := HInv.pass hi (s.marks.count true) s.marks s.hand hp W.m I
    have J : HInv n U s.held i hp' s.pass.1 s.pass.2.1 := J
    have un : s.pass.1[s.pass.2.1]? = some false := pass_ends _ _ _ (Nat.le_refl _) (by rw [W.m]; exact W.n)
    have hlt := W.passlt
    have hml := W.passm
    have hne : s.pass.2.1 ≠ i := fun q => by
      -- all other rooms hold pages of U: with x there are too many
      have hlast : hp' = n - 1 := rnd_inj hi J.lt (by omega) (by rw [← J.hh, q, rnd_last hi])
      rw [q] at un
      have all : ∀ j, j < n → InU s.held U j := fun j hj => by
        by_cases ej : j = i
        · rw [ej]
          exact ⟨p, pU, hp_⟩
        · obtain ⟨k, hk, ek⟩ := rnd_sur hi hj ej
          rw [← ek]
          exact (J.b un k hk).1 (by omega)
      have noN : none ∉ s.held := fun z => by
        obtain ⟨j, hj, g⟩ := List.mem_iff_getElem.mp z
        obtain ⟨y, _, g2⟩ := all j (by rw [← W.h]; exact hj)
        rw [List.getElem?_eq_getElem hj, g] at g2
        cases g2
      have lk : (keepD s).length = n := by
        rw [show (keepD s).length = s.held.length from keep_full noN, W.h]
      have sub := len_sub (xs := x :: keepD s) (ys := U) (List.nodup_cons.mpr ⟨fun z => hx (mem_keep.mp z), nd⟩) fun y hy => by
        rcases List.mem_cons.mp hy with rfl | hy
        · exact xU
        · obtain ⟨j, hj, g⟩ := List.mem_iff_getElem.mp (mem_keep.mp hy)
          obtain ⟨z, zU, g2⟩ := all j (by rw [← W.h]; exact hj)
          rw [List.getElem?_eq_getElem hj, g] at g2
          injection g2 with g2
          injection g2 with g2
          rw [g2]
          exact zU
      rw [List.length_cons] at sub
      omega
    have hl' : s.pass.2.1 < s.held.length := by rw [W.h]; exact hlt
    have hn1 : hp' < n - 1 := by
      have l0 := J.lt
      have : hp' ≠ n - 1 := fun q => hne (by rw [J.hh, q]; exact rnd_last hi)
      omega
    have hd : (s.pass.2.1 + 1) % s.held.length = rnd n i (hp' + 1) := by
      rw [W.h, J.hh]
      exact rnd_next hi (by omega)
    have mi : (s.pass.1.set s.pass.2.1 true)[i]? = s.pass.1[i]? := List.getElem?_set_ne hne
    refine ⟨hp' + 1, ?_, hd, by omega, fun z k hk hlt2 z2 => ?_, fun z k hk => ⟨fun hlt2 => ?_, fun hle z2 => ?_⟩⟩
    · show (s.held.set s.pass.2.1 (some x))[i]? = _
      rw [List.getElem?_set_ne hne]
      exact hp_
    · have z : (s.pass.1.set s.pass.2.1 true)[i]? = some true := z
      have z2 : (s.pass.1.set s.pass.2.1 true)[rnd n i k]? = some true := z2
      rw [mi] at z
      refine InU.set xU hl' ?_
      by_cases ek : rnd n i k = s.pass.2.1
      · exact .inl ek
      · rw [List.getElem?_set_ne (Ne.symm ek)] at z2
        have : k ≠ hp' := fun q => ek (by rw [q, ← J.hh])
        exact .inr (J.a z k hk (by omega) z2)
    · have z : (s.pass.1.set s.pass.2.1 true)[i]? = some false := z
      rw [mi] at z
      refine InU.set xU hl' ?_
      by_cases ek : k = hp'
      · exact .inl (by rw [ek, ← J.hh])
      · exact .inr ((J.b z k hk).1 (by omega))
    · have z : (s.pass.1.set s.pass.2.1 true)[i]? = some false := z
      have z2 : (s.pass.1.set s.pass.2.1 true)[rnd n i k]? = some true := z2
      rw [mi] at z
      refine InU.set xU hl' (.inr ?_)
      have ek : s.pass.2.1 ≠ rnd n i k := fun q => by
        have := rnd_inj hi (by omega) J.lt (q.symm.trans J.hh)
        omega
      rw [List.getElem?_set_ne ek] at z2
      exact (J.b z k hk).2 (by omega) z2
end CK

/-! In a part of a row with no more unlike pages than rooms no page lacks twice: by each rule. -/
namespace CK
theorem ask_nodup {n : Nat} {s : DS} {x : Int} (W : s.WF n) (nd : (keepD s).Nodup) : (keepD (s.ask x)).Nodup := by
  unfold DS.ask
  by_cases hx : some x ∈ s.held
  · rw [if_pos hx]
    exact nd
  · rw [if_neg hx]
    have hi : s.pass.2.1 < s.held.length := by rw [W.h]; exact W.passlt
    have hk : x ∉ keepD s := fun z => hx (mem_keep.mp z)
    show ((s.held.set s.pass.2.1 (some x)).filterMap id).Nodup
    cases g : s.held[s.pass.2.1]'hi with
    | none => exact (keep_new (by rw [List.getElem?_eq_getElem hi, g])).nodup_iff.mpr (List.nodup_cons.mpr ⟨hk, nd⟩)
    | some q => exact (keep_put nd (by rw [List.getElem?_eq_getElem hi, g])).nodup_iff.mpr (List.nodup_cons.mpr ⟨fun z => hk (List.mem_of_mem_erase z), nd.erase q⟩)
theorem hand_stays {n : Nat} {U : List Int} (hU : U.Nodup) (hUn : U.length ≤ n) {i : Nat} (hi : i < n) {p : Int} (pU : p ∈ U) : ∀ (seg : List Int) (s : DS) (hp : Nat), s.WF n → (keepD s).Nodup → s.held[i]? = some (some p) → HInv n U s.held i hp s.marks s.hand → (∀ x ∈ seg, x ∈ U) →
    p ∉ lackP seg ((tellsL s seg).map (·.1))
  | [], _, _, _, _, _, _, _ => by
    intro z
    cases z
  | x :: r, s, hp, W, nd, hp_, I, hs => by
    have xU := hs x List.mem_cons_self
    obtain ⟨hp', g, J⟩ := hand_step hU hUn W nd hi pU hp_ I xU
    have ih := hand_stays hU hUn hi pU r (s.ask x) hp' (DS.ask_wf W) (ask_nodup W nd) g J fun y hy => hs y (List.mem_cons_of_mem _ hy)
    show p ∉ lackP (x :: r) ((s.tells x).1 :: (tellsL (s.ask x) r).map (·.1))
    by_cases hx : some x ∈ s.held
    · have e : (s.tells x).1 = false := by unfold DS.tells; rw [if_pos hx]
      rw [e]
      exact ih
    · have e : (s.tells x).1 = true := by unfold DS.tells; rw [if_neg hx]
      rw [e]
      intro z
      rcases List.mem_cons.mp z with z | z
      · exact hx (z ▸ List.mem_of_getElem? hp_)
      · exact ih z
theorem hand_once {n : Nat} {U : List Int} (hU : U.Nodup) (hUn : U.length ≤ n) : ∀ (seg : List Int) (s : DS), s.WF n → (keepD s).Nodup → (∀ x ∈ seg, x ∈ U) → (lackP seg ((tellsL s seg).map (·.1))).Nodup
  | [], _, _, _, _ => List.nodup_nil
  | p :: r, s, W, nd, hs => by
    have hr : ∀ y ∈ r, y ∈ U := fun y hy => hs y (List.mem_cons_of_mem _ hy)
    have ih := hand_once hU hUn r (s.ask p) (DS.ask_wf W) (ask_nodup W nd) hr
    show (lackP (p :: r) ((s.tells p).1 :: (tellsL (s.ask p) r).map (·.1))).Nodup
    by_cases hx : some p ∈ s.held
    · have e : (s.tells p).1 = false := by unfold DS.tells; rw [if_pos hx]
      rw [e]
      exact ih
    · have e : (s.tells p).1 = true := by unfold DS.tells; rw [if_neg hx]
      have ea : s.ask p = s.lack p := by unfold DS.ask; rw [if_neg hx]
      rw [e]
      refine List.nodup_cons.mpr ⟨?_, ih⟩
      have hi : s.pass.2.1 < n := W.passlt
      have hl : s.pass.2.1 < s.held.length := by rw [W.h]; exact hi
      refine hand_stays hU hUn hi (hs p List.mem_cons_self) r (s.ask p) 0 (DS.ask_wf W) (ask_nodup W nd) ?_ ?_ hr
      · rw [ea]
        show (s.held.set s.pass.2.1 (some p))[s.pass.2.1]? = _
        rw [List.getElem?_set_self hl]
      · rw [ea]
        refine ⟨?_, by omega, fun _ k _ hk => absurd hk (Nat.not_lt_zero k), fun z => ?_⟩
        · show (s.pass.2.1 + 1) % s.held.length = (s.pass.2.1 + 1 + 0) % n
          rw [W.h, Nat.add_zero]
        · have z : (s.pass.1.set s.pass.2.1 true)[s.pass.2.1]? = some false := z
          rw [List.getElem?_set_self (by rw [W.passm]; exact hi)] at z
          cases z
/-! ### a part of the row: what lacks in it -/
/-- the flags behind some asks -/
theorem lineL_app {n : Nat} {re : Bool} : ∀ (xs ys l : List Int), lineL n re l (xs ++ ys) = lineL n re l xs ++ lineL n re (xs.foldl (lineStep n re) l) ys
  | [], _, _ => rfl
  | x :: xs, ys, l => congrArg ((!decide (x ∈ l)) :: ·) (lineL_app xs ys (lineStep n re l x))
theorem tellsL_app : ∀ (xs ys : List Int) (s : DS), tellsL s (xs ++ ys) = tellsL s xs ++ tellsL (afterL s xs) ys
  | [], _, _ => rfl
  | x :: xs, ys, s => congrArg (s.tells x :: ·) (tellsL_app xs ys (s.ask x))
theorem lineF_ok {n : Nat} {re : Bool} (hn : 0 < n) : ∀ (xs l : List Int), l.Nodup → l.length ≤ n → (xs.foldl (lineStep n re) l).Nodup ∧ (xs.foldl (lineStep n re) l).length ≤ n
  | [], _, h1, h2 => ⟨h1, h2⟩
  | x :: xs, l, h1, h2 => lineF_ok hn xs _ (lineStep_nodup h1) (lineStep_len hn h2)
theorem afterL_ok {n : Nat} : ∀ (xs : List Int) (s : DS), s.WF n → (keepD s).Nodup → (afterL s xs).WF n ∧ (keepD (afterL s xs)).Nodup
  | [], _, h1, h2 => ⟨h1, h2⟩
  | x :: xs, s, h1, h2 => afterL_ok xs (s.ask x) (DS.ask_wf h1) (ask_nodup h1 h2)
/-- by each rule: behind pre, in seg, no page lacks twice -/
theorem rule_once {n : Nat} (hn : 0 < n) (rule : Rl) {U : List Int} (hU : U.Nodup) (hUn : U.length ≤ n) (pre seg : List Int) (hs : ∀ x ∈ seg, x ∈ U) : ∃ fl : List Bool, lackB n rule (pre ++ seg) = lackB n rule pre ++ fl ∧ fl.length = seg.length ∧ (lackP seg fl).Nodup := by
  have len : ∀ (l : List Int) (re : Bool) (ys : List Int), (lineL n re l ys).length = ys.length := fun l re ys => by
    induction ys generalizing l with
    | nil => rfl
    | cons y ys ih => exact congrArg Nat.succ (ih (lineStep n re l y))
  cases rule with
  | hand =>
    have e : keepD (DS.new n) = [] := by
      show (List.replicate n none).filterMap id = []
      rw [List.filterMap_replicate]
      rfl
    obtain ⟨h1, h2⟩ := afterL_ok pre (DS.new n) (DS.new_wf hn) (by rw [e]; exact List.nodup_nil)
    refine ⟨(tellsL (afterL (DS.new n) pre) seg).map (·.1), ?_, by rw [List.length_map, tellsL_len], hand_once hU hUn seg _ h1 h2 hs⟩
    show (tellsL (DS.new n) (pre ++ seg)).map (·.1) = _
    rw [tellsL_app, List.map_append]
    rfl
  | unseen =>
    obtain ⟨h1, h2⟩ := lineF_ok (re := true) hn pre [] List.nodup_nil (Nat.zero_le _)
    exact ⟨_, lineL_app pre seg [], len _ _ _, line_once hn hU hUn seg _ h1 h2 hs⟩
  | first =>
    obtain ⟨h1, h2⟩ := lineF_ok (re := false) hn pre [] List.nodup_nil (Nat.zero_le _)
    exact ⟨_, lineL_app pre seg [], len _ _ _, line_once hn hU hUn seg _ h1 h2 hs⟩
end CK

/-! Papers: no way has fewer lacks than a paper shows. -/
namespace CK
/-- the spells that end in the row and have none of the marked places within; F: the pages asked for before with no marked place since -/
def freeC : List Int → List Int → List Bool → Nat
  | F, p :: r, y :: ys => (if p ∈ F then 1 else 0) + freeC (if y = true then [p] else p :: F) r ys
  | _, _, _ => 0
theorem paper_most {n : Nat} (hn : 0 < n) : ∀ {row : List Int} {C : List Int} {k : Nat}, Way n C row k → C.Nodup → C.length ≤ n → ∀ {F D : List Int} {ys : List Bool}, ys.length = row.length → (∀ c ∈ C, c ∈ F ∨ c ∈ D) →
    row.length ≤ k + freeC F row ys + D.length + (n - 1) * ys.count true
  | [], _, _, _, _, _, _, _, _, _, _ => Nat.zero_le _
  | p :: r, C, k, w, nd, hl, F, D, [], hy, _ => by simp at hy
  | p :: r, C, k, w, nd, hl, F, D, y :: ys, hy, hc => by
    have hy' : ys.length = r.length := by simpa using hy
    have ef : freeC F (p :: r) (y :: ys) = (if p ∈ F then 1 else 0) + freeC (if y = true then [p] else p :: F) r ys := rfl
    rw [ef, List.length_cons]
    -- behind a marked place all but the page asked for are of the one kind
    have fin : ∀ {C' : List Int} {k' : Nat}, Way n (p :: C') r k' → (p :: C').Nodup → (p :: C').length ≤ n → y = true → r.length ≤ k' + freeC (if y = true then [p] else p :: F) r ys + (n - 1) + (n - 1) * ys.count true := fun {C' k'} w' nd' hl' e => by
      have q := paper_most hn w' nd' hl' (F := [p]) (D := C') hy' fun c h => (List.mem_cons.mp h).elim (fun z => .inl (by simp [z])) .inr
      rw [if_pos e]
      rw [List.length_cons] at hl'
      omega
    have cnt : y = true → (n - 1) * (y :: ys).count true = (n - 1) + (n - 1) * ys.count true := fun e => by
      rw [e, List.count_cons_self, Nat.mul_add, Nat.mul_one, Nat.add_comm]
    have cnt0 : y ≠ true → (y :: ys).count true = ys.count true := fun e => List.count_cons_of_ne e
    cases w with
    | hit h w =>
      have fp : y = true → r.length ≤ k + freeC (if y = true then [p] else p :: F) r ys + (n - 1) + (n - 1) * ys.count true := fun e => by
        have l1 := List.length_erase_of_mem h
        have l2 := List.length_pos_of_mem h
        exact fin (C' := C.erase p) (w.perm (List.perm_cons_erase h)) (List.nodup_cons.mpr ⟨fun z => (nd.mem_erase_iff.mp z).1 rfl, nd.erase p⟩) (by rw [List.length_cons]; omega) e
      by_cases hF : p ∈ F
      · rw [if_pos hF]
        by_cases e : y = true
        · have q := fp e
          rw [cnt e]
          omega
        · rw [cnt0 e, if_neg e]
          have q := paper_most hn w nd hl (F := p :: F) (D := D) hy' fun c h => (hc c h).elim (fun z => .inl (List.mem_cons_of_mem _ z)) .inr
          omega
      · have hD : p ∈ D := (hc p h).resolve_left hF
        have d1 := List.length_erase_of_mem hD
        have d2 := List.length_pos_of_mem hD
        by_cases e : y = true
        · have q := fp e
          rw [cnt e]
          omega
        · rw [cnt0 e, if_neg e]
          have q := paper_most hn w nd hl (F := p :: F) (D := D.erase p) hy' fun c h => by
            by_cases ec : c = p
            · exact .inl (by simp [ec])
            · exact (hc c h).elim (fun z => .inl (List.mem_cons_of_mem _ z)) fun z => .inr ((List.mem_erase_of_ne ec).mpr z)
          omega
    | room h lt w =>
      by_cases e : y = true
      · have q := fin w (List.nodup_cons.mpr ⟨h, nd⟩) (by rw [List.length_cons]; omega) e
        rw [cnt e]
        omega
      · rw [cnt0 e, if_neg e]
        have q := paper_most hn w (List.nodup_cons.mpr ⟨h, nd⟩) (by rw [List.length_cons]; omega) (F := p :: F) (D := D) hy' fun c h => (List.mem_cons.mp h).elim (fun z => .inl (by simp [z])) fun z => (hc c z).elim (fun z => .inl (List.mem_cons_of_mem _ z)) .inr
        omega
    | @out _ _ f _ k h ge hf w =>
      have l1 := List.length_erase_of_mem hf
      have l2 := List.length_pos_of_mem hf
      have nd' : (p :: C.erase f).Nodup := List.nodup_cons.mpr ⟨fun z => h (List.mem_of_mem_erase z), nd.erase f⟩
      have hl' : (p :: C.erase f).length ≤ n := by rw [List.length_cons]; omega
      by_cases e : y = true
      · have q := fin w nd' hl' e
        rw [cnt e]
        omega
      · rw [cnt0 e, if_neg e]
        have q := paper_most hn w nd' hl' (F := p :: F) (D := D) hy' fun c h => (List.mem_cons.mp h).elim (fun z => .inl (by simp [z])) fun z => (hc c (List.mem_of_mem_erase z)).elim (fun z => .inl (List.mem_cons_of_mem _ z)) .inr
        omega
/-- from no page on: what the marked places show is no more than the lacks of any way -/
theorem paper_shows {n : Nat} (hn : 0 < n) {row : List Int} {k : Nat} (w : Way n [] row k) {ys : List Bool} (hy : ys.length = row.length) : row.length ≤ k + freeC [] row ys + (n - 1) * ys.count true := by
  have q := paper_most hn w List.nodup_nil (Nat.zero_le _) (F := []) (D := []) hy (fun c h => by cases h)
  simpa using q
end CK

/-! Papers: one shows as many as the best lacks; none shows more. -/
namespace CK
/-- where the page that is asked for at b is asked for next -/
def nx (row : List Int) (b : Nat) : Nat := nxt row (row.getD b 0) (b + 1)
theorem nx_at {row : List Int} {b : Nat} {p : Int} (h : row[b]? = some p) : nx row b = nxt row p (b + 1) := by
  unfold nx
  rw [List.getD_eq_getElem?_getD, h]
  rfl
theorem nx_gt (row : List Int) (b : Nat) : b < nx row b := nxt_ge row _ (b + 1)
/-- a page whose next ask is e stays free of the marked places P -/
def okP (row : List Int) (P : List Nat) (e : Nat) : Bool := decide (e < row.length) && P.all fun p => decide (e ≤ p)
/-- the spell from b has none of P within -/
def fr (row : List Int) (P : List Nat) (b : Nat) : Bool := decide (nx row b < row.length) && P.all fun p => !(decide (b < p) && decide (p < nx row b))
theorem all_eq {α : Type} {f g : α → Bool} : ∀ {xs : List α}, (∀ x ∈ xs, f x = g x) → xs.all f = xs.all g
  | [], _ => rfl
  | a :: xs, h => by
    rw [List.all_cons, List.all_cons, h a List.mem_cons_self, all_eq fun x hx => h x (List.mem_cons_of_mem _ hx)]
theorem swap_count {f g : Int → Bool} {p : Int} : ∀ {C : List Int}, C.Nodup → p ∈ C → (∀ y ∈ C, y ≠ p → f y = g y) → C.countP f + (g p).toNat = C.countP g + (f p).toNat
  | a :: C, nd, hp, h => by
    have n2 := List.nodup_cons.mp nd
    by_cases e : a = p
    · subst e
      have q : C.countP f = C.countP g := List.countP_congr fun y hy => by rw [h y (List.mem_cons_of_mem _ hy) (fun z => n2.1 (by rw [← z]; exact hy))]
      rw [List.countP_cons, List.countP_cons, q]
      cases f a <;> cases g a <;> simp
    · have hp' : p ∈ C := (List.mem_cons.mp hp).resolve_left fun z => e z.symm
      have ih := swap_count n2.2 hp' fun y hy => h y (List.mem_cons_of_mem _ hy)
      have q := h a List.mem_cons_self e
      rw [List.countP_cons, List.countP_cons, q]
      omega
theorem count_one {α : Type} [DecidableEq α] {f : α → Bool} {x : α} : ∀ {xs : List α}, xs.Nodup → x ∈ xs → (xs.filter (· != x)).countP f + (f x).toNat = xs.countP f
  | a :: xs, nd, hx => by
    have n2 := List.nodup_cons.mp nd
    by_cases e : a = x
    · subst e
      have q : xs.filter (· != a) = xs := List.filter_eq_self.mpr fun y hy => by simpa using fun z => n2.1 (by rw [← z]; exact hy)
      have q2 : (a :: xs).filter (· != a) = xs.filter (· != a) := by simp
      rw [q2, q, List.countP_cons]
      cases f a <;> simp
    · have hx' : x ∈ xs := (List.mem_cons.mp hx).resolve_left fun z => e z.symm
      have ih := count_one (f := f) n2.2 hx'
      have q2 : (a :: xs).filter (· != x) = a :: xs.filter (· != x) := by simp [e]
      rw [q2, List.countP_cons, List.countP_cons]
      omega
theorem lacks_mono {n : Nat} {row : List Int} {i : Nat} {p : Int} (h : row[i]? = some p) : (bestTo n row (i + 1)).lacks.length = (bestTo n row i).lacks.length + (if p ∈ (bestTo n row i).C then 0 else 1) := by
  rw [bestTo_succ h]
  unfold BS.step
  by_cases hin : p ∈ (bestTo n row i).C
  · rw [if_pos hin, if_pos hin]; rfl
  · rw [if_neg hin, if_neg hin]
    split
    · exact List.length_append
    · exact List.length_append
/-- marked places, chosen from the row's end: so many spells stay free -/
theorem dual_at {n : Nat} (hn : 0 < n) (row : List Int) : ∀ (m i : Nat), row.length - i = m → i ≤ row.length → ∃ P : List Nat, P.Pairwise (· < ·) ∧ (∀ p ∈ P, i ≤ p ∧ p < row.length ∧ 0 < p) ∧ (bestTo n row i).lacks.length ≤ (bestS n row).lacks.length ∧
    (List.range' i m).countP (fr row P) + (bestTo n row i).C.countP (fun y => okP row P (nxt row y i)) + (n - 1) * P.length + ((bestS n row).lacks.length - (bestTo n row i).lacks.length) = m
  | 0, i, hm, hi => by
    have e : i = row.length := by omega
    subst e
    refine ⟨[], List.Pairwise.nil, (fun p hp => nomatch hp), Nat.le_refl _, ?_⟩
    have z : (bestTo n row row.length).C.countP (fun y => okP row [] (nxt row y row.length)) = 0 := by
      rw [List.countP_eq_zero]
      intro y _ q
      have := nxt_ge row y row.length
      unfold okP at q
      rw [Bool.and_eq_true] at q
      have := of_decide_eq_true q.1
      omega
    rw [z]
    show 0 + 0 + 0 + ((bestTo n row row.length).lacks.length - (bestTo n row row.length).lacks.length) = 0
    omega
  | m + 1, i, hm, hi => by
    have hi' : i < row.length := by omega
    have ei : row[i]? = some (row[i]'hi') := List.getElem?_eq_getElem hi'
    obtain ⟨P, pw, pin, le, eq⟩ := dual_at hn row m (i + 1) (by omega) (by omega)
    have Ok := bestTo_ok hn row i
    have enx := nx_at ei
    have lm := lacks_mono (n := n) ei
    have hstep := bestTo_succ (n := n) ei
    unfold BS.step at hstep
    have hit_i := nxt_hit ei
    have on_i : ∀ y, y ≠ row[i]'hi' → nxt row y i = nxt row y (i + 1) := fun y ne => nxt_on ei ne
    generalize row[i]'hi' = p at *
    -- the spell that begins at i
    have fr_i : fr row P i = okP row P (nxt row p (i + 1)) := by
      unfold fr okP
      rw [enx]
      congr 1
      refine all_eq fun q hq => ?_
      have := (pin q hq).1
      have e1 : decide (i < q) = true := decide_eq_true (by omega)
      rw [e1, Bool.true_and]
      by_cases z : q < nxt row p (i + 1)
      · rw [decide_eq_true z, decide_eq_false (by omega)]; rfl
      · rw [decide_eq_false z, decide_eq_true (by omega)]; rfl
    have rng : ∀ Q : List Nat, (List.range' i (m + 1)).countP (fr row Q) = (List.range' (i + 1) m).countP (fr row Q) + (fr row Q i).toNat := fun Q => by
      rw [List.range'_succ, List.countP_cons]
      cases fr row Q i <;> simp
    by_cases hin : p ∈ (bestTo n row i).C
    · -- it is there
      rw [if_pos hin] at hstep lm
      rw [hstep] at eq
      refine ⟨P, pw, fun q hq => ⟨by have := (pin q hq).1; omega, (pin q hq).2⟩, by omega, ?_⟩
      have sw := swap_count (f := fun y => okP row P (nxt row y i)) (g := fun y => okP row P (nxt row y (i + 1))) Ok.nd hin fun y _ ne => by
        show okP row P (nxt row y i) = okP row P (nxt row y (i + 1))
        rw [on_i y ne]
      have one : okP row P (nxt row p i) = true := by
        rw [hit_i]
        unfold okP
        rw [decide_eq_true hi', Bool.true_and, List.all_eq_true]
        intro q hq
        have := (pin q hq).1
        exact decide_eq_true (by omega)
      have sw : (bestTo n row i).C.countP (fun y => okP row P (nxt row y i)) + (okP row P (nxt row p (i + 1))).toNat = (bestTo n row i).C.countP (fun y => okP row P (nxt row y (i + 1))) + (okP row P (nxt row p i)).toNat := sw
      rw [one] at sw
      have t1 : true.toNat = 1 := rfl
      rw [t1] at sw
      rw [rng, fr_i]
      omega
    · rw [if_neg hin] at hstep lm
      have le2 : (bestTo n row i).lacks.length + 1 ≤ (bestS n row).lacks.length := by omega
      have ne : ∀ y ∈ (bestTo n row i).C, y ≠ p := fun y hy z => hin (by rw [← z]; exact hy)
      by_cases hf : (bestTo n row i).C.length = n
      · rw [if_pos hf] at hstep
        have hne : (bestTo n row i).C ≠ [] := by intro z; rw [z] at hf; simp at hf; omega
        have F := far_ok (row := row) (i := i) hne
        generalize far row i (bestTo n row i).C = f at *
        rw [hstep] at eq
        have cnt : (List.filter (fun x => x != f) (bestTo n row i).C ++ [p]).countP (fun y => okP row P (nxt row y (i + 1))) = ((bestTo n row i).C.filter (· != f)).countP (fun y => okP row P (nxt row y i)) + (okP row P (nxt row p (i + 1))).toNat := by
          rw [List.countP_append, List.countP_singleton]
          congr 1
          · refine List.countP_congr fun y hy => ?_
            show okP row P (nxt row y (i + 1)) = true ↔ okP row P (nxt row y i) = true
            rw [on_i y (ne y (List.mem_filter.mp hy).1)]
          · cases okP row P (nxt row p (i + 1)) <;> rfl
        have c1 := count_one (f := fun y => okP row P (nxt row y i)) Ok.nd F.mem
        have c1 : ((bestTo n row i).C.filter (· != f)).countP (fun y => okP row P (nxt row y i)) + (okP row P (nxt row f i)).toNat = (bestTo n row i).C.countP (fun y => okP row P (nxt row y i)) := c1
        have ll : (List.filter (fun x => x != f) (bestTo n row i).C ++ [p]).length = 0 + (List.filter (fun x => x != f) (bestTo n row i).C ++ [p]).length := by omega
        have eq : (List.range' (i + 1) m).countP (fr row P) + (List.filter (fun x => x != f) (bestTo n row i).C ++ [p]).countP (fun y => okP row P (nxt row y (i + 1))) + (n - 1) * P.length + ((bestS n row).lacks.length - ((bestTo n row i).lacks ++ [i]).length) = m := eq
        rw [cnt, List.length_append] at eq
        have e5 : [i].length = 1 := rfl
        rw [e5] at eq
        by_cases hg : okP row P (nxt row f i) = true
        · -- i is marked
          have hg' := hg
          unfold okP at hg'
          rw [Bool.and_eq_true] at hg'
          have hgl := of_decide_eq_true hg'.1
          have hga : ∀ q ∈ P, nxt row f i ≤ q := fun q hq => of_decide_eq_true (List.all_eq_true.mp hg'.2 q hq)
          have gt : ∀ y ∈ (bestTo n row i).C, i < nxt row y i := fun y hy => by
            have h1 := nxt_ge row y (i + 1)
            rw [on_i y (ne y hy)]
            omega
          refine ⟨i :: P, List.pairwise_cons.mpr ⟨fun q hq => by have := (pin q hq).1; omega, pw⟩, fun q hq => ?_, by omega, ?_⟩
          · rcases List.mem_cons.mp hq with z | z
            · rw [z]
              refine ⟨Nat.le_refl _, hi', ?_⟩
              refine Nat.pos_of_ne_zero fun z0 => ?_
              rw [z0] at hf
              have : (bestTo n row 0).C.length = 0 := rfl
              omega
            · exact ⟨by have := (pin q z).1; omega, (pin q z).2⟩
          · have z0 : (bestTo n row i).C.countP (fun y => okP row (i :: P) (nxt row y i)) = 0 := by
              rw [List.countP_eq_zero]
              intro y hy q
              have := gt y hy
              unfold okP at q
              rw [Bool.and_eq_true] at q
              have := of_decide_eq_true (List.all_eq_true.mp q.2 i List.mem_cons_self)
              omega
            have frs : ∀ b, i ≤ b → fr row (i :: P) b = fr row P b := fun b hb => by
              unfold fr
              rw [List.all_cons]
              have e1 : decide (b < i) = false := decide_eq_false (by omega)
              rw [e1]
              simp
            have frc : (List.range' (i + 1) m).countP (fr row (i :: P)) = (List.range' (i + 1) m).countP (fr row P) := List.countP_congr fun b hb => by
              rw [frs b (by have := List.mem_range'_1.mp hb; omega)]
            have all : ((bestTo n row i).C.filter (· != f)).countP (fun y => okP row P (nxt row y i)) = ((bestTo n row i).C.filter (· != f)).length := by
              rw [List.countP_eq_length]
              intro y hy
              have hy1 := (List.mem_filter.mp hy).1
              have hfar := F.far y hy1
              show okP row P (nxt row y i) = true
              unfold okP
              rw [Bool.and_eq_true, List.all_eq_true]
              exact ⟨decide_eq_true (by omega), fun q hq => decide_eq_true (by have := hga q hq; omega)⟩
            have lf : ((bestTo n row i).C.filter (· != f)).length + 1 = n := by
              have q := count_one (f := fun _ => true) Ok.nd F.mem
              rw [List.countP_true] at q
              have q : ((bestTo n row i).C.filter (· != f)).length + 1 = (bestTo n row i).C.length := q
              omega
            rw [rng, frc, frs i (Nat.le_refl _), fr_i, z0, List.length_cons, Nat.mul_add, Nat.mul_one]
            rw [all] at eq
            omega
        · have hg0 : okP row P (nxt row f i) = false := by simpa using hg
          rw [hg0] at c1
          have t0 : false.toNat = 0 := rfl
          rw [t0] at c1
          refine ⟨P, pw, fun q hq => ⟨by have := (pin q hq).1; omega, (pin q hq).2⟩, by omega, ?_⟩
          rw [rng, fr_i]
          omega
      · rw [if_neg hf] at hstep
        rw [hstep] at eq
        have cnt : ((bestTo n row i).C ++ [p]).countP (fun y => okP row P (nxt row y (i + 1))) = (bestTo n row i).C.countP (fun y => okP row P (nxt row y i)) + (okP row P (nxt row p (i + 1))).toNat := by
          rw [List.countP_append, List.countP_singleton]
          congr 1
          · refine List.countP_congr fun y hy => ?_
            show okP row P (nxt row y (i + 1)) = true ↔ okP row P (nxt row y i) = true
            rw [on_i y (ne y hy)]
          · cases okP row P (nxt row p (i + 1)) <;> rfl
        have eq : (List.range' (i + 1) m).countP (fr row P) + ((bestTo n row i).C ++ [p]).countP (fun y => okP row P (nxt row y (i + 1))) + (n - 1) * P.length + ((bestS n row).lacks.length - ((bestTo n row i).lacks ++ [i]).length) = m := eq
        rw [cnt, List.length_append] at eq
        have e5 : [i].length = 1 := rfl
        rw [e5] at eq
        refine ⟨P, pw, fun q hq => ⟨by have := (pin q hq).1; omega, (pin q hq).2⟩, by omega, ?_⟩
        rw [rng, fr_i]
        omega
/-! ### free spells, counted by their begins -/
theorem nx_last {row : List Int} {b e : Nat} {p : Int} (hb : b < row.length) (he : row[e]? = some p) : nx row b = e ↔ lastB row p e = some b := by
  have eb : row[b]? = some (row[b]'hb) := List.getElem?_eq_getElem hb
  have hel := (List.getElem?_eq_some_iff.mp he).1
  rw [nx_at eb]
  generalize row[b]'hb = q at *
  constructor
  · intro h
    have hq : row[e]? = some q := by
      rw [← h]
      exact nxt_at (by omega)
    have eqp : p = q := Option.some.inj (he.symm.trans hq)
    rw [eqp]
    have ge := nxt_ge row q (b + 1)
    obtain ⟨c, hc, hbc⟩ := lastB_some eb (show b < e by omega)
    have hc2 := lastB_lt hc
    by_cases z : c = b
    · rw [← z]; exact hc
    · exact absurd hc2.2 (nxt_before (i := b + 1) (by omega) (by omega))
  · intro h
    have h2 := lastB_lt h
    have eqp : p = q := Option.some.inj (h2.2.symm.trans eb)
    have ge := nxt_ge row q (b + 1)
    have a1 : ¬ e < nxt row q (b + 1) := fun a1 => nxt_before (i := b + 1) (by omega) a1 (by rw [he, eqp])
    have a2 : ¬ nxt row q (b + 1) < e := fun a2 => by
      have := nxt_at (row := row) (y := q) (i := b + 1) (by omega)
      rw [← eqp] at this
      rw [← eqp] at a2
      exact lastB_max h _ (by rw [eqp]; omega) a2 this
    omega
theorem free_to (row : List Int) (f : Nat × Nat → Bool) : ∀ e, e ≤ row.length → ((spellsTo row e).filter f).length = (List.range row.length).countP fun b => decide (nx row b < e) && f (b, nx row b)
  | 0, _ => by
    have q : ((List.range row.length).countP fun b => decide (nx row b < 0) && f (b, nx row b)) = 0 := by
      rw [List.countP_eq_zero]
      intro b _ z
      rw [decide_eq_false (Nat.not_lt_zero _)] at z
      cases z
    rw [q]
    rfl
  | e + 1, he => by
    have ih := free_to row f e (by omega)
    have he' : e < row.length := by omega
    have ee : row[e]? = some (row[e]'he') := List.getElem?_eq_getElem he'
    have e0 : spellsTo row (e + 1) = spellsTo row e ++ spellAt row e := rfl
    have iff0 : ∀ b, b < row.length → (nx row b = e ↔ lastB row (row[e]'he') e = some b) := fun b hb => nx_last hb ee
    rw [e0, spellAt_eq ee, List.filter_append, List.length_append, ih]
    cases hlb : lastB row (row[e]'he') e with
    | none =>
      have iff : ∀ b, b < row.length → (nx row b = e ↔ none = some b) := fun b hb => by rw [← hlb]; exact iff0 b hb
      show _ + 0 = _
      rw [Nat.add_zero]
      refine List.countP_congr fun b hb => ?_
      have hb := List.mem_range.mp hb
      have ne : nx row b ≠ e := fun z => by
        have := (iff b hb).mp z
        cases this
      have e1 : decide (nx row b < e) = decide (nx row b < e + 1) := decide_eq_decide.mpr (by omega)
      rw [e1]
    | some b0 =>
      have h0 : b0 < row.length := by
        have := (lastB_lt hlb).1
        omega
      have iff : ∀ b, b < row.length → (nx row b = e ↔ some b0 = some b) := fun b hb => by rw [← hlb]; exact iff0 b hb
      have n0 := (iff b0 h0).mpr rfl
      have nb : ∀ b, b < row.length → b ≠ b0 → nx row b ≠ e := fun b hb ne z => ne (Option.some.inj ((iff b hb).mp z)).symm
      have mem0 : b0 ∈ List.range row.length := List.mem_range.mpr h0
      have c1 := count_one (f := fun b => decide (nx row b < e) && f (b, nx row b)) List.nodup_range mem0
      have c2 := count_one (f := fun b => decide (nx row b < e + 1) && f (b, nx row b)) List.nodup_range mem0
      have cc : ((List.range row.length).filter (· != b0)).countP (fun b => decide (nx row b < e) && f (b, nx row b)) = ((List.range row.length).filter (· != b0)).countP (fun b => decide (nx row b < e + 1) && f (b, nx row b)) := List.countP_congr fun b hb => by
        have hb2 := List.mem_filter.mp hb
        have ne := nb b (List.mem_range.mp hb2.1) (by simpa using hb2.2)
        have e1 : decide (nx row b < e) = decide (nx row b < e + 1) := decide_eq_decide.mpr (by omega)
        show (decide (nx row b < e) && f (b, nx row b)) = true ↔ (decide (nx row b < e + 1) && f (b, nx row b)) = true
        rw [e1]
      have k1 : (decide (nx row b0 < e) && f (b0, nx row b0)) = false := by rw [decide_eq_false (by omega)]; rfl
      have k2 : (decide (nx row b0 < e + 1) && f (b0, nx row b0)) = f (b0, e) := by rw [decide_eq_true (by omega), n0]; rfl
      have c1 : ((List.range row.length).filter (· != b0)).countP (fun b => decide (nx row b < e) && f (b, nx row b)) + (decide (nx row b0 < e) && f (b0, nx row b0)).toNat = (List.range row.length).countP (fun b => decide (nx row b < e) && f (b, nx row b)) := c1
      have c2 : ((List.range row.length).filter (· != b0)).countP (fun b => decide (nx row b < e + 1) && f (b, nx row b)) + (decide (nx row b0 < e + 1) && f (b0, nx row b0)).toNat = (List.range row.length).countP (fun b => decide (nx row b < e + 1) && f (b, nx row b)) := c2
      rw [k1] at c1
      rw [k2] at c2
      have t0 : false.toNat = 0 := rfl
      rw [t0] at c1
      rw [← c2, ← c1, cc]
      have sl : ([(b0, e)].filter f).length = (f (b0, e)).toNat := by
        cases hfe : f (b0, e) <;> simp [hfe]
      have e3 : spOf (some b0) e = [(b0, e)] := rfl
      rw [e3, sl, Nat.add_zero]
theorem free_count (row : List Int) (P : List Nat) : ((spellsL row).filter fun x => !within x P).length = (List.range' 0 row.length).countP (fr row P) := by
  unfold spellsL
  rw [free_to row (fun x => !within x P) row.length (Nat.le_refl _), List.range_eq_range']
  refine List.countP_congr fun b hb => ?_
  have e : (decide (nx row b < row.length) && !within (b, nx row b) P) = fr row P b := by
    unfold fr within
    congr 1
    rw [List.not_any_eq_all_not]
  rw [e]
/-- a paper that shows as many as the best lacks -/
theorem dual {n : Nat} (hn : 0 < n) (row : List Int) : ∃ P : List Nat, P.Pairwise (· < ·) ∧ (∀ p ∈ P, 0 < p ∧ p < row.length) ∧ (List.range' 0 row.length).countP (fr row P) + (n - 1) * P.length + (bestS n row).lacks.length = row.length := by
  obtain ⟨P, pw, pin, _, eq⟩ := dual_at hn row row.length 0 (by omega) (Nat.zero_le _)
  refine ⟨P, pw, fun p hp => ⟨(pin p hp).2.2, (pin p hp).2.1⟩, ?_⟩
  have e : (bestTo n row 0).C.countP (fun y => okP row P (nxt row y 0)) = 0 := rfl
  have e2 : (bestTo n row 0).lacks.length = 0 := rfl
  omega
end CK

/-! The paper that is found step by step. -/
namespace CK
/-- the spells that lie between a and b -/
def freeB (row : List Int) (a b : Nat) : Nat := (List.range' a (b - a)).countP fun x => decide (nx row x < row.length) && decide (nx row x ≤ b)
theorem freeB_back {row : List Int} {a b : Nat} (h : a < b) : freeB row a b = freeB row (a + 1) b + (if nx row a < row.length ∧ nx row a ≤ b then 1 else 0) := by
  unfold freeB
  have e : b - a = (b - (a + 1)) + 1 := by omega
  rw [e, List.range'_succ, List.countP_cons]
  congr 1
  by_cases q : nx row a < row.length ∧ nx row a ≤ b
  · rw [if_pos q, decide_eq_true q.1, decide_eq_true q.2]; rfl
  · rw [if_neg q, if_neg]
    intro z
    rw [Bool.and_eq_true] at z
    exact q ⟨of_decide_eq_true z.1, of_decide_eq_true z.2⟩
/-- what a paper takes off, from a on -/
def cst (row : List Int) (n : Nat) : Nat → List Nat → Nat
  | a, [] => freeB row a row.length
  | a, p :: r => freeB row a p + (n - 1) + cst row n p r
theorem cst_eq (row : List Int) (n : Nat) : ∀ (ps : List Nat) (a : Nat), ps.Pairwise (· < ·) → (∀ p ∈ ps, a ≤ p ∧ p ≤ row.length) → a ≤ row.length → cst row n a ps = (List.range' a (row.length - a)).countP (fr row ps) + (n - 1) * ps.length
  | [], a, _, _, _ => by
    show freeB row a row.length = _
    unfold freeB
    rw [List.length_nil, Nat.mul_zero, Nat.add_zero]
    refine List.countP_congr fun x _ => ?_
    have e : (decide (nx row x < row.length) && decide (nx row x ≤ row.length)) = fr row [] x := by
      unfold fr
      rw [List.all_nil]
      by_cases z : nx row x < row.length
      · rw [decide_eq_true z, decide_eq_true (by omega)]
      · rw [decide_eq_false z]; rfl
    rw [e]
  | p :: r, a, pw, pin, ha => by
    have pw2 := List.pairwise_cons.mp pw
    have hp := pin p List.mem_cons_self
    have ih := cst_eq row n r p pw2.2 (fun q hq => ⟨Nat.le_of_lt (pw2.1 q hq), (pin q (List.mem_cons_of_mem _ hq)).2⟩) hp.2
    show freeB row a p + (n - 1) + cst row n p r = _
    rw [ih]
    have e1 : row.length - a = (p - a) + (row.length - p) := by omega
    have e2 : List.range' a (row.length - a) = List.range' a (p - a) ++ List.range' p (row.length - p) := by
      rw [e1, ← List.range'_append_1]
      congr 2
      omega
    rw [e2, List.countP_append]
    have c1 : (List.range' a (p - a)).countP (fr row (p :: r)) = freeB row a p := by
      unfold freeB
      refine List.countP_congr fun x hx => ?_
      have hx2 := List.mem_range'_1.mp hx
      have e : fr row (p :: r) x = (decide (nx row x < row.length) && decide (nx row x ≤ p)) := by
        unfold fr
        rw [List.all_cons]
        have ex : decide (x < p) = true := decide_eq_true (by omega)
        rw [ex, Bool.true_and]
        by_cases z : nx row x ≤ p
        · have e3 : decide (p < nx row x) = false := decide_eq_false (by omega)
          have e4 : (r.all fun q => !(decide (x < q) && decide (q < nx row x))) = true := by
            rw [List.all_eq_true]
            intro q hq
            have := pw2.1 q hq
            have e5 : decide (q < nx row x) = false := decide_eq_false (by omega)
            rw [e5, Bool.and_false]; rfl
          rw [e3, e4, decide_eq_true z]; rfl
        · have e3 : decide (p < nx row x) = true := decide_eq_true (by omega)
          rw [e3, decide_eq_false z]; rfl
      rw [e]
    have c2 : (List.range' p (row.length - p)).countP (fr row (p :: r)) = (List.range' p (row.length - p)).countP (fr row r) := by
      refine List.countP_congr fun x hx => ?_
      have hx2 := List.mem_range'_1.mp hx
      have e : fr row (p :: r) x = fr row r x := by
        unfold fr
        rw [List.all_cons]
        have ex : decide (x < p) = false := decide_eq_false (by omega)
        rw [ex]
        simp
      rw [e]
    rw [c1, c2, List.length_cons, Nat.mul_add, Nat.mul_one]
    omega
/-- the tables of the steps, up to t -/
structure DP (row : List Int) (n : Nat) (L A : List Nat) (t : Nat) : Prop where
  ll : L.length = t + 1
  la : A.length = t + 1
  l0 : L.getD 0 0 = 0
  a0 : A.getD 0 0 = 0
  st : ∀ s, 0 < s → s ≤ t → A.getD s 0 < s ∧ L.getD s 0 = L.getD (A.getD s 0) 0 + freeB row (A.getD s 0) s + (n - 1) ∧ ∀ a, a < s → L.getD s 0 ≤ L.getD a 0 + freeB row a s + (n - 1)
theorem DP.start (row : List Int) (n : Nat) : DP row n [0] [0] 0 := ⟨rfl, rfl, rfl, rfl, fun s h1 h2 => by omega⟩
theorem getD_old {L : List Nat} {x : Nat} {i : Nat} (h : i < L.length) : (L ++ [x]).getD i 0 = L.getD i 0 := by
  rw [List.getD_eq_getElem?_getD, List.getD_eq_getElem?_getD, List.getElem?_append_left h]
theorem getD_new {L : List Nat} {x : Nat} {i : Nat} (h : i = L.length) : (L ++ [x]).getD i 0 = x := by
  rw [List.getD_eq_getElem?_getD, h, List.getElem?_append_right (Nat.le_refl _), Nat.sub_self]
  rfl
theorem DP.next {row : List Int} {n : Nat} {L A : List Nat} {t a : Nat} (D : DP row n L A t) (ha : a < t + 1) (hl : ∀ b, b < t + 1 → L.getD a 0 + freeB row a (t + 1) ≤ L.getD b 0 + freeB row b (t + 1)) : DP row n (L ++ [L.getD a 0 + freeB row a (t + 1) + (n - 1)]) (A ++ [a]) (t + 1) := by
  refine ⟨by rw [List.length_append, D.ll]; rfl, by rw [List.length_append, D.la]; rfl, ?_, ?_, fun s h1 h2 => ?_⟩
  · rw [getD_old (by rw [D.ll]; omega)]; exact D.l0
  · rw [getD_old (by rw [D.la]; omega)]; exact D.a0
  · by_cases e : s = t + 1
    · subst e
      rw [getD_new D.la.symm, getD_new D.ll.symm, getD_old (by rw [D.ll]; exact ha)]
      refine ⟨ha, rfl, fun b hb => ?_⟩
      rw [getD_old (by rw [D.ll]; exact hb)]
      have := hl b hb
      omega
    · have hs : s < t + 1 := by omega
      obtain ⟨q1, q2, q3⟩ := D.st s h1 (by omega)
      rw [getD_old (L := A) (by rw [D.la]; exact hs), getD_old (by rw [D.ll]; exact hs), getD_old (by rw [D.ll]; omega)]
      refine ⟨q1, q2, fun b hb => ?_⟩
      rw [getD_old (by rw [D.ll]; omega)]
      exact q3 b hb
/-- the way back from t -/
def back (A : List Nat) : Nat → Nat → List Nat
  | 0, _ => []
  | k + 1, t => if t = 0 then [] else t :: back A k (A.getD t 0)
section
variable {row : List Int} {n : Nat} {L A : List Nat}
theorem back_ok (D : DP row n L A row.length) : ∀ (k t : Nat), t ≤ k → t ≤ row.length → ((back A k t).reverse).Pairwise (· < ·) ∧ (∀ p ∈ back A k t, 0 < p ∧ p ≤ t) ∧ ∀ ps, cst row n 0 ((back A k t).reverse ++ ps) = L.getD t 0 + cst row n t ps
  | 0, t, h, _ => by
    have e : t = 0 := by omega
    subst e
    refine ⟨List.Pairwise.nil, (fun p hp => nomatch hp), fun ps => ?_⟩
    rw [D.l0, Nat.zero_add]
    rfl
  | k + 1, t, h, hl => by
    by_cases e : t = 0
    · subst e
      have q : back A (k + 1) 0 = [] := if_pos rfl
      rw [q]
      refine ⟨List.Pairwise.nil, (fun p hp => nomatch hp), fun ps => ?_⟩
      rw [D.l0, Nat.zero_add]
      rfl
    · have q : back A (k + 1) t = t :: back A k (A.getD t 0) := if_neg e
      rw [q]
      obtain ⟨s1, s2, _⟩ := D.st t (by omega) hl
      obtain ⟨i1, i2, i3⟩ := back_ok D k (A.getD t 0) (by omega) (by omega)
      refine ⟨?_, fun p hp => ?_, fun ps => ?_⟩
      · rw [List.reverse_cons, List.pairwise_append]
        refine ⟨i1, List.pairwise_singleton _ _, fun x hx y hy => ?_⟩
        rw [List.mem_singleton.mp hy]
        have := (i2 x (List.mem_reverse.mp hx)).2
        omega
      · rcases List.mem_cons.mp hp with z | z
        · rw [z]; omega
        · have := i2 p z; omega
      · rw [List.reverse_cons, List.append_assoc, i3]
        show _ + (freeB row (A.getD t 0) t + (n - 1) + cst row n t ps) = _
        omega
theorem dp_least (D : DP row n L A row.length) : ∀ (ps : List Nat) (a : Nat), ps.Pairwise (· < ·) → (∀ p ∈ ps, a < p ∧ p < row.length) → a < row.length → L.getD row.length 0 ≤ L.getD a 0 + cst row n a ps + (n - 1)
  | [], a, _, _, ha => (D.st row.length (by omega) (Nat.le_refl _)).2.2 a ha
  | p :: r, a, pw, pin, ha => by
    have pw2 := List.pairwise_cons.mp pw
    have hp := pin p List.mem_cons_self
    have ih := dp_least D r p pw2.2 (fun q hq => ⟨pw2.1 q hq, (pin q (List.mem_cons_of_mem _ hq)).2⟩) hp.2
    have s := (D.st p (by omega) (by omega)).2.2 a hp.1
    show _ ≤ _ + (freeB row a p + (n - 1) + cst row n p r) + (n - 1)
    omega
/-- the paper on the way back -/
def theWay (row : List Int) (A : List Nat) : List Nat := (back A row.length (A.getD row.length 0)).reverse
theorem way_paper (hn : 0 < n) (D : DP row n L A row.length) : PaperOk row.length (theWay row A) ∧ (List.range' 0 row.length).countP (fr row (theWay row A)) + (n - 1) * (theWay row A).length + (bestS n row).lacks.length ≤ row.length := by
  by_cases h0 : row.length = 0
  · have e : theWay row A = [] := by
      unfold theWay
      rw [h0]
      rfl
    have er : row = [] := List.length_eq_zero_iff.mp h0
    rw [e]
    refine ⟨⟨List.Pairwise.nil, fun p hp => nomatch hp⟩, ?_⟩
    rw [er]
    exact Nat.le_refl _
  · have hp : 0 < row.length := by omega
    obtain ⟨s1, s2, s3⟩ := D.st row.length hp (Nat.le_refl _)
    obtain ⟨i1, i2, i3⟩ := back_ok D row.length (A.getD row.length 0) (by omega) (by omega)
    have ok : PaperOk row.length (theWay row A) := ⟨i1, fun p hp => by have := i2 p (List.mem_reverse.mp hp); omega⟩
    refine ⟨ok, ?_⟩
    have e1 := i3 []
    rw [List.append_nil] at e1
    have e2 : cst row n (A.getD row.length 0) [] = freeB row (A.getD row.length 0) row.length := rfl
    have e3 := cst_eq row n (theWay row A) 0 i1 (fun p hp => ⟨Nat.zero_le _, Nat.le_of_lt (ok.2 p hp)⟩) (Nat.zero_le _)
    obtain ⟨P, pw, pin, eq⟩ := dual hn row
    have e4 := cst_eq row n P 0 pw (fun p hp => ⟨Nat.zero_le _, Nat.le_of_lt (pin p hp).2⟩) (Nat.zero_le _)
    have e5 := dp_least D P 0 pw pin hp
    rw [D.l0] at e5
    have e6 : cst row n 0 (theWay row A) = _ := e1
    rw [Nat.sub_zero] at e3 e4
    omega
end
/-! ### no paper shows more than any way lacks -/
theorem marks_count {m : Nat} {ps : List Nat} (nd : ps.Pairwise (· < ·)) (h : ∀ p ∈ ps, p < m) : ((List.range m).map fun i => decide (i ∈ ps)).count true = ps.length := by
  have e : ((List.range m).map fun i => decide (i ∈ ps)).count true = ((List.range m).filter fun i => decide (i ∈ ps)).length := by
    rw [List.count_eq_countP, List.countP_map, ← List.countP_eq_length_filter]
    refine List.countP_congr fun x _ => ?_
    simp
  rw [e]
  have n1 : ((List.range m).filter fun i => decide (i ∈ ps)).Nodup := List.nodup_range.filter _
  have n2 : ps.Nodup := List.Pairwise.imp (fun {a b} (q : a < b) => Nat.ne_of_lt q) nd
  have mem : ∀ k, k ∈ ((List.range m).filter fun i => decide (i ∈ ps)) ↔ k ∈ ps := fun k => by
    rw [List.mem_filter, List.mem_range]
    constructor
    · intro z; simpa using z.2
    · intro z; exact ⟨h k z, by simpa using z⟩
  exact ((List.perm_ext_iff_of_nodup n1 n2).mpr mem).length_eq
theorem within_snoc_no {b i : Nat} {ps : List Nat} : within (b, i + 1) ps = false ↔ within (b, i) ps = false ∧ (b < i → i ∉ ps) := by
  unfold within
  constructor
  · intro h
    rw [List.any_eq_false] at h
    refine ⟨?_, fun hb hi => ?_⟩
    · rw [List.any_eq_false]
      intro q hq z
      refine h q hq ?_
      rw [Bool.and_eq_true] at z ⊢
      exact ⟨z.1, decide_eq_true (by have := of_decide_eq_true z.2; omega)⟩
    · refine h i hi ?_
      rw [Bool.and_eq_true]
      exact ⟨decide_eq_true hb, decide_eq_true (Nat.lt_succ_self _)⟩
  · rintro ⟨h1, h2⟩
    rw [List.any_eq_false] at h1 ⊢
    intro q hq z
    rw [Bool.and_eq_true] at z
    have z1 : b < q := of_decide_eq_true z.1
    have z2 : q < i + 1 := of_decide_eq_true z.2
    by_cases e : q = i
    · rw [e] at hq z1
      exact h2 z1 hq
    · refine h1 q hq ?_
      rw [Bool.and_eq_true]
      exact ⟨z.1, decide_eq_true (by show q < i; omega)⟩
theorem free_marks {row : List Int} {ps : List Nat} (m : Nat) : ∀ (k i : Nat) (F : List Int), row.length - i = k → i ≤ row.length → (∀ q, q ∈ F ↔ ∃ b, lastB row q i = some b ∧ within (b, i) ps = false) →
    freeC F (row.drop i) (((List.range row.length).map fun i => decide (i ∈ ps)).drop i) + ((spellsTo row i).filter fun x => !within x ps).length = ((spellsL row).filter fun x => !within x ps).length
  | 0, i, F, hk, hi, hF => by
    have e : i = row.length := by omega
    subst e
    rw [List.drop_length]
    have e2 : freeC F [] (((List.range row.length).map fun i => decide (i ∈ ps)).drop row.length) = 0 := by
      unfold freeC
      rfl
    rw [e2, Nat.zero_add]
    rfl
  | k + 1, i, F, hk, hi, hF => by
    have hi' : i < row.length := by omega
    have ei : row[i]? = some (row[i]'hi') := List.getElem?_eq_getElem hi'
    have eD : ((List.range row.length).map fun i => decide (i ∈ ps)).drop i = decide (i ∈ ps) :: ((List.range row.length).map fun i => decide (i ∈ ps)).drop (i + 1) := by
      rw [List.drop_eq_getElem_cons (by simpa using hi')]
      simp
    rw [drop_at ei, eD]
    have e0 : spellsTo row (i + 1) = spellsTo row i ++ spellAt row i := rfl
    have ih := fun F' => free_marks (row := row) (ps := ps) m k (i + 1) F' (by omega) (by omega)
    rw [e0, spellAt_eq ei] at ih
    have l2 : ∀ q, q ≠ row[i]'hi' → lastB row q (i + 1) = lastB row q i := fun q ne => by
      show (if row[i]? = some q then some i else lastB row q i) = _
      rw [if_neg]
      rw [ei]
      intro z
      exact ne (Option.some.inj z).symm
    have l1 : lastB row (row[i]'hi') (i + 1) = some i := by
      show (if row[i]? = some (row[i]'hi') then some i else _) = _
      rw [if_pos ei]
    generalize row[i]'hi' = p at *
    have st : freeC F (p :: row.drop (i + 1)) (decide (i ∈ ps) :: ((List.range row.length).map fun i => decide (i ∈ ps)).drop (i + 1)) = (if p ∈ F then 1 else 0) + freeC (if decide (i ∈ ps) = true then [p] else p :: F) (row.drop (i + 1)) (((List.range row.length).map fun i => decide (i ∈ ps)).drop (i + 1)) := rfl
    rw [st]
    have hF' : ∀ q, q ∈ (if decide (i ∈ ps) = true then [p] else p :: F) ↔ ∃ b, lastB row q (i + 1) = some b ∧ within (b, i + 1) ps = false := fun q => by
      have self : within (i, i + 1) ps = false := by
        unfold within
        rw [List.any_eq_false]
        intro r _ z
        rw [Bool.and_eq_true] at z
        have z1 : i < r := of_decide_eq_true z.1
        have z2 : r < i + 1 := of_decide_eq_true z.2
        omega
      by_cases e : q = p
      · subst e
        constructor
        · intro _
          exact ⟨i, l1, self⟩
        · intro _
          split <;> simp
      · rw [l2 q e]
        by_cases hm : i ∈ ps
        · rw [decide_eq_true hm, if_pos rfl]
          constructor
          · intro z; exact absurd (List.mem_singleton.mp z) e
          · rintro ⟨b, hb, hw⟩
            exact absurd hm ((within_snoc_no.mp hw).2 (lastB_lt hb).1)
        · rw [decide_eq_false hm, if_neg (by simp)]
          constructor
          · intro z
            obtain ⟨b, hb, hw⟩ := (hF q).mp ((List.mem_cons.mp z).resolve_left e)
            exact ⟨b, hb, within_snoc_no.mpr ⟨hw, fun _ => hm⟩⟩
          · rintro ⟨b, hb, hw⟩
            exact List.mem_cons_of_mem _ ((hF q).mpr ⟨b, hb, (within_snoc_no.mp hw).1⟩)
    have q := ih _ hF'
    rw [List.filter_append, List.length_append] at q
    have one : ((spOf (lastB row p i) i).filter fun x => !within x ps).length = if p ∈ F then 1 else 0 := by
      by_cases hp : p ∈ F
      · obtain ⟨b, hb, hw⟩ := (hF p).mp hp
        rw [if_pos hp, hb]
        show ([(b, i)].filter fun x => !within x ps).length = 1
        simp [hw]
      · rw [if_neg hp]
        cases hl : lastB row p i with
        | none => rfl
        | some b =>
          have hw : within (b, i) ps = true := by
            cases hw : within (b, i) ps with
            | true => rfl
            | false => exact absurd ((hF p).mpr ⟨b, hl, hw⟩) hp
          show ([(b, i)].filter fun x => !within x ps).length = 0
          simp [hw]
    rw [one] at q
    omega
theorem shown_le {n : Nat} (hn : 0 < n) {row : List Int} {ps : List Nat} (ok : PaperOk row.length ps) {k : Nat} (w : Way n [] row k) : row.length ≤ k + ((spellsL row).filter fun x => !within x ps).length + (n - 1) * ps.length := by
  have q := paper_shows hn w (ys := (List.range row.length).map fun i => decide (i ∈ ps)) (by simp)
  have f := free_marks (row := row) (ps := ps) 0 row.length 0 [] (by omega) (Nat.zero_le _) (fun q => by
    constructor
    · intro z; cases z
    · rintro ⟨b, hb, _⟩; cases hb)
  rw [List.drop_zero, List.drop_zero] at f
  have f0 : ((spellsTo row 0).filter fun x => !within x ps).length = 0 := rfl
  rw [marks_count ok.1 ok.2] at q
  omega
/-- what is shown, of a paper, is at most what any way lacks -/
theorem shownN_le {n : Int} (h1 : 1 ≤ n) {row : List Int} {ps : List Nat} (ok : PaperOk row.length ps) {k : Nat} (w : Way n.toNat [] row k) : shownN n row ps ≤ (k : Int) := by
  have q := shown_le (by omega) ok w
  unfold shownN
  have e : (((n.toNat - 1) * ps.length : Nat) : Int) = (n - 1) * (ps.length : Int) := by
    rw [Int.natCast_mul]
    congr 1
    omega
  omega
theorem shownN_way {n : Int} (h1 : 1 ≤ n) {row : List Int} {L A : List Nat} (D : DP row n.toNat L A row.length) : shownN n row (theWay row A) = ((bestS n.toNat row).lacks.length : Int) := by
  obtain ⟨ok, q⟩ := way_paper (by omega) D
  have le := shownN_le h1 ok (best_bel (by omega : 0 < n.toNat) row).way
  have e : (((n.toNat - 1) * (theWay row A).length : Nat) : Int) = (n - 1) * ((theWay row A).length : Int) := by
    rw [Int.natCast_mul]
    congr 1
    omega
  rw [← free_count] at q
  unfold shownN at le ⊢
  omega
end CK

/-! min of a list of pairs of ints: one whose first is the least. -/
namespace CKZ
open PySem PySem.Spec PyProof.Rows L2 PySem.W
open PySem.Sem (wp)
def pd2 (x : Int × Int) : PyData := .tuple [.int x.1, .int x.2]
theorem lt_pair {x y : Int × Int} (h : x.1 < y.1) : dataLt (pd2 x) (pd2 y) = true := by
  show PyProof.Rows.lexLt itemOrd (.inl 1 :: .inl x.1 :: _) (.inl 1 :: .inl y.1 :: _) = true
  rw [PyProof.Rows.lex_self, PyProof.Rows.lex_diff (by intro z; injection z with z; omega)]
  exact decide_eq_true h
theorem gt_pair {x y : Int × Int} (h : y.1 < x.1) : dataLt (pd2 x) (pd2 y) = false := by
  show PyProof.Rows.lexLt itemOrd (.inl 1 :: .inl x.1 :: _) (.inl 1 :: .inl y.1 :: _) = false
  rw [PyProof.Rows.lex_self, PyProof.Rows.lex_diff (by intro z; injection z with z; omega)]
  exact decide_eq_false (by show ¬ x.1 < y.1; omega)
theorem best_pair (xs : List (Int × Int)) : ∀ k, argBest (fun i j => dataLt ((xs.map pd2).getD i .none) ((xs.map pd2).getD j .none)) k ≤ k ∧ (k < xs.length → ∀ j, j ≤ k → (xs.getD (argBest (fun i j => dataLt ((xs.map pd2).getD i .none) ((xs.map pd2).getD j .none)) k) (0, 0)).1 ≤ (xs.getD j (0, 0)).1)
  | 0 => ⟨Nat.le_refl _, fun _ j hj => by
      have e : j = 0 := by omega
      subst e
      exact Int.le_refl _⟩
  | k + 1 => by
    obtain ⟨h1, h2⟩ := best_pair xs k
    have gd : ∀ i, i < xs.length → (xs.map pd2).getD i .none = pd2 (xs.getD i (0, 0)) := fun i hi => by
      rw [List.getD_eq_getElem?_getD, List.getD_eq_getElem?_getD, List.getElem?_map, List.getElem?_eq_getElem hi]
      rfl
    simp only [argBest]
    generalize hb : argBest (fun i j => dataLt ((xs.map pd2).getD i .none) ((xs.map pd2).getD j .none)) k = b at *
    by_cases hc : dataLt ((xs.map pd2).getD (k + 1) .none) ((xs.map pd2).getD b .none) = true
    · rw [if_pos hc]
      refine ⟨Nat.le_refl _, fun hk j hj => ?_⟩
      rw [gd _ hk, gd _ (by omega)] at hc
      have le1 : (xs.getD (k + 1) (0, 0)).1 ≤ (xs.getD b (0, 0)).1 := by
        refine Int.not_lt.mp fun z => ?_
        rw [gt_pair z] at hc
        cases hc
      by_cases e : j = k + 1
      · rw [e]; exact Int.le_refl _
      · exact Int.le_trans le1 (h2 (by omega) j (by omega))
    · rw [if_neg hc]
      refine ⟨Nat.le_succ_of_le h1, fun hk j hj => ?_⟩
      rw [gd _ hk, gd _ (by omega)] at hc
      have le1 : (xs.getD b (0, 0)).1 ≤ (xs.getD (k + 1) (0, 0)).1 := by
        refine Int.not_lt.mp fun z => hc (lt_pair z)
      by_cases e : j = k + 1
      · rw [e]; exact le1
      · exact h2 (by omega) j (by omega)
/-- the pairs at as -/
def Prs (K : PySem.W.Frag) (H : Hp) (as : List Addr) (xs : List (Int × Int)) : Prop := as.length = xs.length ∧ ∀ (i : Nat) (a : Addr) (x : Int × Int), as[i]? = some a → xs[i]? = some x → SqT K H a [.int x.1, .int x.2]
theorem prs_dp {K : PySem.W.Frag} {H : Hp} : ∀ {as : List Addr} {xs : List (Int × Int)}, Prs K H as xs → DpAll K H (as.map V.ref) (xs.map pd2)
  | [], [], _ => .nil
  | [], _ :: _, h => absurd h.1 (by simp)
  | _ :: _, [], h => absurd h.1 (by simp)
  | a :: as, x :: xs, h => .cons (.tup (h.2 0 a x rfl rfl) (.cons (.int _) (.cons (.int _) .nil))) (prs_dp ⟨Nat.succ.inj h.1, fun i c y hc hy => h.2 (i + 1) c y hc hy⟩)
theorem alike_pairs (xs : List (Int × Int)) : AlikeAll (xs.map pd2) := by
  refine ⟨fun x hx y hy => ?_, fun x hx => ?_⟩
  · obtain ⟨a, _, rfl⟩ := List.mem_map.mp hx
    obtain ⟨b, _, rfl⟩ := List.mem_map.mp hy
    rfl
  · obtain ⟨a, _, rfl⟩ := List.mem_map.mp hx
    intro z
    cases z
theorem depth_pairs : ∀ xs : List (Int × Int), PyData.depthAll (xs.map pd2) ≤ 1
  | [] => Nat.zero_le _
  | _ :: xs => Nat.max_le.mpr ⟨Nat.le_refl _, depth_pairs xs⟩
def rMinP (K : PySem.W.Frag) : List V → Hp → VK → Prop := fun vs H Q => ∃ (a : Addr) (as : List Addr) (xs : List (Int × Int)), vs = [V.ref a] ∧ SqL K H a (as.map V.ref) ∧ Prs K H as xs ∧ 0 < xs.length ∧
  ∀ (i : Nat) (t : Addr) (x : Int × Int), as[i]? = some t → xs[i]? = some x → (∀ y ∈ xs, x.1 ≤ y.1) → Q (.ref t) H
theorem cr_minP {X : Cx} (hc : X.calm = true) (hu : X.A.units + 64 < cLine) : CallR X (.builtin "min") (rMinP X.K) := by
  intro pins s σ H vs us Q I r h
  obtain ⟨a, as, xs, rfl, hs, hp, hne, q⟩ := h
  obtain ⟨its, rv, hl, _⟩ := I.list hs
  rw [Vals.ref1 r]
  obtain ⟨bs, hr⟩ := Dp.readsAll I (xs.map pd2) _ _ (prs_dp hp) rv
  have hh := I.ok.hd hc
  have hr' : ReadsAll s.heap its.toArray.toList (xs.map pd2) bs := hr
  have hn : its.toArray.size = xs.length := by
    have := readsAll_len hr'
    rw [List.length_map] at this
    exact this
  refine call_min_walkH (iter_listW (A := X.A.in1) hh hl.isList fun s₂ e W st hfp hw hk => ?_)
  refine ⟨_, _, _, _, _, _, _, s.heap, _, rfl, W, st, hfp, by omega, hw, hk, cmpIn_lt (A := X.A.in1) hr' (alike_pairs xs) (by have := depth_pairs xs; show X.A.units + 1 + _ < _; omega), fun v s' hP m => ?_⟩
  obtain ⟨h', tk, rfl, hk'⟩ := moved_old e rfl m
  obtain ⟨b1, b2⟩ := best_pair xs (its.toArray.size - 1)
  generalize hj : argBest (fun i j => dataLt ((xs.map pd2).getD i .none) ((xs.map pd2).getD j .none)) (its.toArray.size - 1) = j at *
  have jl : j < xs.length := by omega
  have ja : j < as.length := by rw [hp.1]; exact jl
  have ea : as[j]? = some (as[j]'ja) := List.getElem?_eq_getElem ja
  obtain ⟨u, hu', ru⟩ := rv.get (show (as.map V.ref)[j]? = some (.ref (as[j]'ja)) by rw [List.getElem?_map, ea]; rfl)
  have hv : v = u := Option.some.inj ((show some v = its.toArray[j]? from hP.symm).trans (by simpa using hu'))
  subst hv
  refine ⟨.ref (as[j]'ja), H, I.kept hk', ru, q j _ _ ea (List.getElem?_eq_getElem jl) fun y hy => ?_⟩
  obtain ⟨i, hi, ey⟩ := List.mem_iff_getElem.mp hy
  have := b2 (by omega) i (by omega)
  rw [List.getD_eq_getElem?_getD, List.getD_eq_getElem?_getD, List.getElem?_eq_getElem jl, List.getElem?_eq_getElem hi] at this
  rw [← ey]
  exact this
end CKZ

/-! The program's paper. -/
namespace CK
open PySem PySem.Spec PyProof.Rows L2
def spCheapest : Sp := fun vs H Q _ => ∃ (e l : Addr) (row : List Int) (L : List Nat), vs = [.int (L.length : Nat), .ref e, .ref l] ∧ H e = some (.dK (mergeK [] (kvS (spellsL row)))) ∧ H l = some (.lst (NL L)) ∧ 0 < L.length ∧ L.length ≤ row.length ∧ row.length ≤ 100 ∧
  ∀ (t : Addr) (a : Nat) (H' : Hp), Same H H' → H' t = some (.tup [.int ((L.getD a 0 + freeB row a L.length : Nat) : Int), .int (a : Nat)]) → a < L.length → (∀ b, b < L.length → L.getD a 0 + freeB row a L.length ≤ L.getD b 0 + freeB row b L.length) → Q (.ref t) H'
def spWayBack : Sp := fun vs H Q _ => ∃ (l : Addr) (row : List Int) (n : Nat) (L A : List Nat), vs = [.ref l] ∧ H l = some (.lst (NL A)) ∧ DP row n L A row.length ∧ row.length ≤ 100 ∧
  ∀ (d : Addr) (H' : Hp), H d = none → Same H H' → H' d = some (.lst (NL (theWay row A))) → Q (.ref d) H'
/-- a new paper, which shows as many as the best lacks -/
def spPaper (K : PySem.W.Frag) : Sp := fun vs H Q _ => ∃ (n : Int) (r : Addr) (row : List Int), vs = [.int n, .ref r] ∧ 1 ≤ n ∧ n ≤ 8 ∧ SqL K H r (il row) ∧ RowOk row ∧
  ∀ (d : Addr) (ps : List Nat) (H' : Hp), H d = none → Same H H' → H' d = some (.lst (NL ps)) → PaperOk row.length ps → shownN n row ps = ((bestS n.toNat row).lacks.length : Int) → Q (.ref d) H'
theorem NL_get {ns : List Nat} {i : Nat} (h : i < ns.length) : atI (NL ns) (i : Int) = some (V.int (ns.getD i 0 : Nat)) := by
  refine atI_nat ?_
  rw [List.getElem?_map, List.getD_eq_getElem?_getD, List.getElem?_eq_getElem h]
  rfl
abbrev iV (xs : List (Int × Int)) : List (List V) := xs.map fun x => [V.int x.1, V.int x.2]
theorem iV_snoc {xs : List (Int × Int)} {x : Int × Int} : iV (xs ++ [x]) = iV xs ++ [[V.int x.1, V.int x.2]] := by
  show (xs ++ [x]).map _ = _
  rw [List.map_append]
  rfl
theorem range_snoc (i : Nat) : List.range (i + 1) = List.range i ++ [i] := List.range_succ
section
variable {P : Program} {w : World} {K : PySem.W.Frag} {mg : Str → Option Value} {base : Heap}
theorem sc_cheapest_step : FnScope ["stop", "ends", "least", "free", "costs", "place"] ["stop", "ends", "least"] (defScope (top 21)) := ⟨rfl, rfl, rfl, by decide +kernel, rfl, by decide +kernel, by decide +kernel⟩
theorem ok_cheapest_step (T : Prog K mg) : FnOk P w K mg base CX0 1 T.cheapest_step.f T.cheapest_step.fd ["stop", "ends", "least"] spCheapest := by
  refine T.cheapest_step.fn.ok sc_cheapest_step (fun vs H Q E h => ?len) (fun cdv A outer s H vs Q E hr h => ?body)
  case len =>
    obtain ⟨e, l, row, L, rfl, _⟩ := h
    rfl
  case body =>
    have hu := hu_of hr
    obtain ⟨e, l, row, L, rfl, he, hl, L0, Ll, hR1, k⟩ := h
    refine ⟨_, PSs.nox (pss_cons (ps_set (i := 3) sc_cheapest_step.nd rfl (Or.inl rfl) pe_int)
        (pss_cons (ps_set (i := 4) sc_cheapest_step.nd rfl (Or.inl rfl) (pe_lst pa_nil))
        (pss_cons (ps_for PassesOwn.never rfl (pi_revR (by rfl) T.reversed (prg_1 (by rfl) T.range (pv 0))) (pg_name (i := 5) sc_cheapest_step.nd rfl (Or.inl rfl))
        (pss_cons (ps_if (pt_cmpR op_le (pe_dget2 hu (pv 1) (pv 5) (pe_op op_add (pv 0) pe_int) ⟨rfl, rfl, rfl, rfl⟩) (pv 0) (nomark _))
        (pss_one (ps_aug (i := 3) sc_cheapest_step.nd rfl (Or.inl rfl) pe_int ip_add))
        pss_nil)
        (pss_one (ps_expr (pe_bm PySem.F.plainAttrs_list PySem.F.slot_list_append PySem.F.type_list_append mt_append (pv 4) (pa_cons (pe_tup (pa_cons (pe_op op_add (pe_ix ix_list (pv 2) (pv 5) (fun _ _ => rfl)) (pv 3)) (pa_cons (pv 5) pa_nil))) pa_nil))))))
        (pss_one (ps_ret (pe_callB (CKZ.cr_minP rfl hr.units) (by rfl) T.min (by decide +kernel) (pa_cons (pv 4) pa_nil))))))), ?_⟩
    let xsT : Nat → List (Int × Int) := fun i => (List.range i).map fun j => (((L.getD (L.length - 1 - j) 0 + freeB row (L.length - 1 - j) L.length : Nat) : Int), ((L.length - 1 - j : Nat) : Int))
    have xsS : ∀ i, xsT (i + 1) = xsT i ++ [(((L.getD (L.length - 1 - i) 0 + freeB row (L.length - 1 - i) L.length : Nat) : Int), ((L.length - 1 - i : Nat) : Int))] := fun i => by
      show (List.range (i + 1)).map _ = _
      rw [range_snoc, List.map_append]
      rfl
    have xsL : ∀ i, (xsT i).length = i := fun i => by
      show ((List.range i).map _).length = i
      rw [List.length_map, List.length_range]
    refine ⟨szd rfl, fun c hc => ?_⟩
    have s1 := Same.new (o := .lst []) hc
    have lc : l ≠ c := ne_fresh hl hc
    refine ⟨_, rfl, _, rfl, by omega, by omega, by omega, by omega, ?_⟩
    have en : ((((L.length : Nat) : Int) - 0).toNat) = L.length := by omega
    rw [en]
    refine for_it (walk_rangeC (lo := 0 + (L.length : Int) - 1) (c := -1) (n := L.length)) (fun i σ H' => ∃ (z : Int) (as : List Addr), (∃ v5, σ = [some (.int (L.length : Nat)), some (.ref e), some (.ref l), some (.int z), some (.ref c), v5]) ∧ z = (freeB row (L.length - i) L.length : Nat) ∧ Same H H' ∧ H' c = some (.lst (as.map V.ref)) ∧ TupsAt H' as (iV (xsT i))) ?_ (fun _ _ _ _ _ => trivial) ?_ ?_
    · refine ⟨0, [], ⟨_, rfl⟩, ?_, s1, upd_same, TupsAt.nil⟩
      have e0 : freeB row (L.length - 0) L.length = 0 := by
        unfold freeB
        rw [Nat.sub_zero, Nat.sub_self]
        rfl
      rw [e0]
      rfl
    · rintro i x σ H1 H2 hi ⟨z, as, ⟨v5, rfl⟩, hz, s2, hc1, hp1⟩ ⟨rfl, rfl⟩
      have hal : as.length ≤ i := by rw [hp1.len, List.length_map, xsL]; exact Nat.le_refl _
      have ev : (0 + (L.length : Int) - 1 + (i : Int) * -1) = ((L.length - 1 - i : Nat) : Int) := by omega
      show gName 5 (V.int (0 + (L.length : Int) - 1 + (i : Int) * -1)) _ _ _
      rw [ev]
      have ed : L.length - i = (L.length - 1 - i) + 1 := by omega
      have xe := xsS i
      rw [ed] at hz
      have en2 : L.length - (i + 1) = L.length - 1 - i := by omega
      have al : L.length - 1 - i < L.length := by omega
      rw [en2]
      generalize L.length - 1 - i = a at *
      have ar : row[a]? = some (row[a]'(by omega)) := List.getElem?_eq_getElem _
      have fb := freeB_back (row := row) al
      have na := next_asks ar row.length (Nat.le_refl _)
      rw [← nx_at ar] at na
      have he2 := s2 _ _ he
      have hl2 := s2 _ _ hl
      refine ⟨_, rfl, e, rfl, .inl ⟨_, .inl he2⟩, _, rfl, _, rfl, _, _, rfl, rfl, _, DGet.k (k := Sum.inl (a : Int)) he2, _, rfl, ?_⟩
      unfold spellsL
      rw [na]
      by_cases hf : nx row a < row.length ∧ nx row a ≤ L.length
      · rw [if_pos hf.1]
        refine ⟨_, _, rfl, rfl, _, rfl, ifT (decide_eq_true (by omega)) ?_⟩
        rw [if_pos hf] at fb
        refine ⟨_, rfl, _, _, rfl, rfl, ?_⟩
        have ef : z + 1 = ((freeB row a L.length : Nat) : Int) := by omega
        dsimp only
        rw [ef]
        refine ⟨_, rfl, .inl ⟨rfl, _, SqL.of hc1⟩, _, rfl, _, rfl, l, _, _, _, rfl, rfl, SqL.of hl2, NL_get al, _, rfl, _, _, rfl, rfl, _, rfl, szd rfl, fun t ht => ?_⟩
        have sT := Same.new (o := .tup [V.int (((L.getD a 0 : Nat) : Int) + ((freeB row a L.length : Nat) : Int)), V.int (a : Nat)]) ht
        have hc2 := sT _ _ hc1
        refine ⟨c, _, _, rfl, rfl, hc2, szl (by rw [List.length_map]; omega), _, as ++ [t], ⟨_, rfl⟩, rfl, Same.put (s2.trans sT) hc, by rw [upd_same, List.map_append]; rfl, ?_⟩
        rw [xe, iV_snoc]
        exact ((hp1.same sT).snoc (t := t) (by rw [upd_same]; exact congrArg some (congrArg HO.tup (by rw [Int.natCast_add])))).put hc2 (by intro u z; cases z)
      · by_cases h1 : nx row a < row.length
        · rw [if_pos h1]
          refine ⟨_, _, rfl, rfl, _, rfl, ifF (decide_eq_false (by omega)) ?_⟩
          rw [if_neg hf] at fb
          have ef : z = ((freeB row a L.length : Nat) : Int) := by omega
          rw [ef]
          refine ⟨_, rfl, .inl ⟨rfl, _, SqL.of hc1⟩, _, rfl, _, rfl, l, _, _, _, rfl, rfl, SqL.of hl2, NL_get al, _, rfl, _, _, rfl, rfl, _, rfl, szd rfl, fun t ht => ?_⟩
          have sT := Same.new (o := .tup [V.int (((L.getD a 0 : Nat) : Int) + ((freeB row a L.length : Nat) : Int)), V.int (a : Nat)]) ht
          have hc2 := sT _ _ hc1
          refine ⟨c, _, _, rfl, rfl, hc2, szl (by rw [List.length_map]; omega), _, as ++ [t], ⟨_, rfl⟩, rfl, Same.put (s2.trans sT) hc, by rw [upd_same, List.map_append]; rfl, ?_⟩
          rw [xe, iV_snoc]
          exact ((hp1.same sT).snoc (t := t) (by rw [upd_same]; exact congrArg some (congrArg HO.tup (by rw [Int.natCast_add])))).put hc2 (by intro u z; cases z)
        · rw [if_neg h1]
          refine ⟨_, _, rfl, rfl, _, rfl, ifF (decide_eq_false (by omega)) ?_⟩
          rw [if_neg hf] at fb
          have ef : z = ((freeB row a L.length : Nat) : Int) := by omega
          rw [ef]
          refine ⟨_, rfl, .inl ⟨rfl, _, SqL.of hc1⟩, _, rfl, _, rfl, l, _, _, _, rfl, rfl, SqL.of hl2, NL_get al, _, rfl, _, _, rfl, rfl, _, rfl, szd rfl, fun t ht => ?_⟩
          have sT := Same.new (o := .tup [V.int (((L.getD a 0 : Nat) : Int) + ((freeB row a L.length : Nat) : Int)), V.int (a : Nat)]) ht
          have hc2 := sT _ _ hc1
          refine ⟨c, _, _, rfl, rfl, hc2, szl (by rw [List.length_map]; omega), _, as ++ [t], ⟨_, rfl⟩, rfl, Same.put (s2.trans sT) hc, by rw [upd_same, List.map_append]; rfl, ?_⟩
          rw [xe, iV_snoc]
          exact ((hp1.same sT).snoc (t := t) (by rw [upd_same]; exact congrArg some (congrArg HO.tup (by rw [Int.natCast_add])))).put hc2 (by intro u z; cases z)
    · rintro σ H1 ⟨z, as, ⟨v5, rfl⟩, hz, s2, hc1, hp1⟩
      refine ⟨_, rfl, c, as, xsT L.length, rfl, SqL.of hc1, ⟨by rw [hp1.len, List.length_map], fun i t x hi hx => SqT.of (hp1.at_ i t _ hi (by rw [List.getElem?_map, hx]; rfl))⟩, by rw [xsL]; exact L0, fun i t x hi hx hmin => ?_⟩
      have il : i < L.length := by
        have := (List.getElem?_eq_some_iff.mp hx).1
        rw [xsL] at this
        exact this
      have ex : ∀ j, j < L.length → (xsT L.length)[j]? = some (((L.getD (L.length - 1 - j) 0 + freeB row (L.length - 1 - j) L.length : Nat) : Int), ((L.length - 1 - j : Nat) : Int)) := fun j hj => by
        show ((List.range L.length).map _)[j]? = _
        rw [List.getElem?_map, List.getElem?_range hj]
        rfl
      have e1 := Option.some.inj (hx.symm.trans (ex i il))
      subst e1
      have ht := hp1.at_ i t _ hi (by rw [List.getElem?_map, hx]; rfl)
      refine k t (L.length - 1 - i) H1 s2 ht (by omega) fun b hb => ?_
      have q := hmin _ (List.mem_of_getElem? (ex (L.length - 1 - b) (by omega)))
      have eb : L.length - 1 - (L.length - 1 - b) = b := by omega
      rw [eb] at q
      exact Int.ofNat_le.mp q
theorem sc_way_back : FnScope ["ahead", "places", "place"] ["ahead"] (defScope (top 22)) := ⟨rfl, rfl, rfl, by decide +kernel, rfl, by decide +kernel, by decide +kernel⟩
theorem ok_way_back (T : Prog K mg) : FnOk P w K mg base CX0 1 T.way_back.f T.way_back.fd ["ahead"] spWayBack := by
  refine T.way_back.fn.ok sc_way_back (fun vs H Q E h => ?len) (fun cdv A outer s H vs Q E hr h => ?body)
  case len =>
    obtain ⟨l, row, n, L, A, rfl, _⟩ := h
    rfl
  case body =>
    have hu := hu_of hr
    obtain ⟨l, row, n, L, A, rfl, hl, D, hR1, k⟩ := h
    refine ⟨_, PSs.nox (pss_cons (ps_set (i := 1) sc_way_back.nd rfl (Or.inl rfl) (pe_lst pa_nil))
        (pss_cons (ps_set (i := 2) sc_way_back.nd rfl (Or.inl rfl) (pe_ix ix_list (pv 0) (pe_un un_neg pe_int) (fun _ _ => rfl)))
        (pss_cons (ps_while PassesOwn.never (pt_cmpR op_gt (pv 2) pe_int (nomark _))
        (pss_cons (ps_expr (pe_bm PySem.F.plainAttrs_list PySem.F.slot_list_append PySem.F.type_list_append mt_append (pv 1) (pa_cons (pv 2) pa_nil)))
        (pss_one (ps_set (i := 2) sc_way_back.nd rfl (Or.inl rfl) (pe_ix ix_list (pv 0) (pv 2) (fun _ _ => rfl))))))
        (pss_one (ps_ret (pe_revL (pv 1))))))), ?_⟩
    refine ⟨szd rfl, fun p hp => ?_⟩
    have s1 := Same.new (o := .lst []) hp
    have lp : l ≠ p := ne_fresh hl hp
    have hAl := D.la
    have lastA : atI (NL A) (-1) = some (V.int (A.getD row.length 0 : Nat)) := by
      obtain ⟨ys, y, e⟩ : ∃ ys y, A = ys ++ [y] := by
        have hne : A ≠ [] := by intro z; rw [z] at hAl; simp at hAl
        exact ⟨A.dropLast, A.getLast hne, (List.dropLast_concat_getLast hne).symm⟩
      have hy : row.length = ys.length := by rw [e, List.length_append] at hAl; simp at hAl; omega
      rw [e, getD_new hy, ← NL_snoc]
      exact atI_last _ _
    refine ⟨_, rfl, _, rfl, l, _, _, _, rfl, rfl, SqL.of (s1 _ _ hl), lastA, ?_⟩
    have a0 : A.getD row.length 0 ≤ row.length := by
      by_cases h0 : row.length = 0
      · rw [h0, D.a0]; exact Nat.le_refl _
      · exact Nat.le_of_lt (D.st row.length (by omega) (Nat.le_refl _)).1
    refine while_by (fun σ H' => ∃ (acc : List Nat) (t m : Nat), σ = [some (.ref l), some (.ref p), some (.int (t : Nat))] ∧ Same H H' ∧ H' p = some (.lst (NL acc)) ∧ t ≤ m ∧ t ≤ row.length ∧ acc.length + t ≤ row.length ∧ back A row.length (A.getD row.length 0) = acc ++ back A m t) (fun σ _ => match σ with | [_, _, some (.int i)] => i.toNat | _ => 0) ?_ ?_ ?_
    · exact ⟨[], A.getD row.length 0, row.length, rfl, s1, upd_same, a0, a0, by simpa using a0, rfl⟩
    · rintro σ H1 ⟨acc, t, m, rfl, s2, hp1, tm, tl, al, eb⟩
      have hl1 := s2 _ _ hl
      refine ⟨_, rfl, _, _, rfl, rfl, _, rfl, ?_⟩
      by_cases ht : 0 < t
      · refine ifT (decide_eq_true (by omega)) ?_
        refine ⟨_, rfl, .inl ⟨rfl, _, SqL.of hp1⟩, _, rfl, p, _, _, rfl, rfl, hp1, szl (by rw [List.length_map]; omega), ?_⟩
        rw [NL_snoc]
        have st := (D.st t ht tl).1
        refine ⟨_, rfl, _, rfl, l, _, _, _, rfl, rfl, SqL.of (by rw [upd_ne lp]; exact hl1), NL_get (by omega), ⟨acc ++ [t], A.getD t 0, m - 1, rfl, Same.put s2 hp, upd_same, by omega, by omega, by rw [List.length_append, List.length_singleton]; omega, ?_⟩, ?_⟩
        · rw [eb, List.append_assoc]
          congr 1
          have em : m = (m - 1) + 1 := by omega
          have q : back A ((m - 1) + 1) t = t :: back A (m - 1) (A.getD t 0) := if_neg (by omega)
          rw [em, q]
          rfl
        · show ((A.getD t 0 : Nat) : Int).toNat < ((t : Nat) : Int).toNat
          omega
      · refine ifF (decide_eq_false (by omega)) ?_
        have t0 : t = 0 := by omega
        have eb0 : back A m t = [] := by
          rw [t0]
          cases m with
          | zero => rfl
          | succ m => exact if_pos rfl
        refine ⟨_, rfl, p, _, rfl, SqL.of hp1, fun d hd => ?_⟩
        have er : (NL acc).reverse = NL (theWay row A) := by
          unfold theWay
          rw [eb, eb0, List.append_nil]
          exact List.map_reverse.symm
        rw [er]
        have sD := Same.new (o := .lst (NL (theWay row A))) hd
        exact k d _ (Same.back s2 hd) (s2.trans sD) upd_same
    · rintro σ H Q Q' hQ ⟨v, h1, i, j, h2, h3, k', h4, h5⟩
      exact ⟨v, h1, i, j, h2, h3, k', h4, hQ _ _ h5⟩
theorem sc_paper : FnScope ["rooms", "row", "ends", "least", "ahead", "stop", "cost", "place"] ["rooms", "row"] (defScope (top 17)) := ⟨rfl, rfl, rfl, by decide +kernel, rfl, by decide +kernel, by decide +kernel⟩
theorem ok_paper (T : Prog K mg) : FnOk P w K mg base CX0 3 T.paper.f T.paper.fd ["rooms", "row"] (spPaper K) := by
  have G_check_rooms := ok_check_rooms (P := P) (w := w) (base := base) T
  have G_check_row := ok_check_row (P := P) (w := w) (base := base) T
  have G_way_back := ok_way_back (P := P) (w := w) (base := base) T
  have G_find_spells := ok_find_spells (P := P) (w := w) (base := base) T
  have G_cheapest_step := ok_cheapest_step (P := P) (w := w) (base := base) T
  refine T.paper.fn.ok sc_paper (fun vs H Q E h => ?len) (fun cdv A outer s H vs Q E hr h => ?body)
  case len =>
    obtain ⟨n, r, row, rfl, _⟩ := h
    rfl
  case body =>
    have hr_check_rooms : Room 1 _ := hr.mono (by decide)
    have hr_check_row : Room 2 _ := hr.mono (by decide)
    have hr_way_back : Room 1 _ := hr.mono (by decide)
    have hr_find_spells : Room 1 _ := hr.mono (by decide)
    have hr_cheapest_step : Room 1 _ := hr.mono (by decide)
    have hu := hu_of hr
    obtain ⟨n, r, row, rfl, n1, n8, hS, hR, k⟩ := h
    refine ⟨_, PSs.nox (pss_cons (ps_expr (pe_call G_check_rooms hr_check_rooms (by rfl) T.check_rooms.g T.check_rooms.fn.kp T.check_rooms.bd .nil pass0 (pa_cons (pv 0) pa_nil)))
        (pss_cons (ps_expr (pe_call G_check_row hr_check_row (by rfl) T.check_row.g T.check_row.fn.kp T.check_row.bd .nil pass0 (pa_cons (pv 1) pa_nil)))
        (pss_cons (ps_set (i := 2) sc_paper.nd rfl (Or.inl rfl) (pe_callTy (call_dictP rfl) (by rfl) T.dict_ (by decide +kernel) (pa_cons (pe_call G_find_spells hr_find_spells (by rfl) T.find_spells.g T.find_spells.fn.kp T.find_spells.bd .nil pass0 (pa_cons (pv 1) pa_nil)) pa_nil)))
        (pss_cons (ps_set (i := 3) sc_paper.nd rfl (Or.inl rfl) (pe_lst (pa_cons pe_int pa_nil)))
        (pss_cons (ps_set (i := 4) sc_paper.nd rfl (Or.inl rfl) (pe_lst (pa_cons pe_int pa_nil)))
        (pss_cons (ps_for PassesOwn.never rfl (pi_range2 (by rfl) T.range (pa_cons pe_int (pa_cons (pe_op op_add (pe_callB call_len_seq (by rfl) T.len PySem.boot_len (pa_cons (pv 1) pa_nil)) pe_int) pa_nil))) (pg_name (i := 5) sc_paper.nd rfl (Or.inl rfl))
        (pss_cons (ps_asg (pe_call G_cheapest_step hr_cheapest_step (by rfl) T.cheapest_step.g T.cheapest_step.fn.kp T.cheapest_step.bd .nil pass0 (pa_cons (pv 5) (pa_cons (pv 2) (pa_cons (pv 3) pa_nil)))) (pg_tup rfl (pgs_cons (pg_name (i := 6) sc_paper.nd rfl (Or.inl rfl)) (pgs_cons (pg_name (i := 7) sc_paper.nd rfl (Or.inl rfl)) pgs_nil))))
        (pss_cons (ps_expr (pe_bm PySem.F.plainAttrs_list PySem.F.slot_list_append PySem.F.type_list_append mt_append (pv 3) (pa_cons (pe_op op_sub (pe_op op_add (pv 6) (pv 0)) pe_int) pa_nil)))
        (pss_one (ps_expr (pe_bm PySem.F.plainAttrs_list PySem.F.slot_list_append PySem.F.type_list_append mt_append (pv 4) (pa_cons (pv 7) pa_nil)))))))
        (pss_one (ps_ret (pe_call G_way_back hr_way_back (by rfl) T.way_back.g T.way_back.fn.kp T.way_back.bd .nil pass0 (pa_cons (pv 4) pa_nil)))))))))), ?_⟩
    have hR1 := hR.1
    refine ⟨_, rfl, n, rfl, n1, n8, ?_⟩
    refine ⟨_, rfl, r, row, rfl, hS, hR, fun H1 s1 => ?_⟩
    -- ends
    refine ⟨_, rfl, r, row, rfl, s1.seq hS, by omega, fun s as0 H2 hs2 s2 hs hp0 => ?_⟩
    refine ⟨s, as0, kvS (spellsL row), rfl, SqL.of hs, pairs_kv hp0, fun e he => ?_⟩
    have s3 := Same.new (o := .dK (mergeK [] (kvS (spellsL row)))) he
    -- least, ahead
    refine ⟨szd rfl, fun l hl => ⟨szd rfl, fun a ha => ?_⟩⟩
    have s4 := Same.new (o := .lst [V.int 0]) hl
    have s5 := Same.new (o := .lst [V.int 0]) ha
    have s15 := (((s1.trans s2).trans s3).trans s4).trans s5
    have lH : H l = none := Same.back ((s1.trans s2).trans s3) hl
    have aH : H a = none := Same.back (((s1.trans s2).trans s3).trans s4) ha
    have el : e ≠ l := ne_fresh (H := upd H2 e _) upd_same hl
    have ea : e ≠ a := ne_fresh (s4 _ _ (upd_same (H := H2) (a := e))) ha
    have la : l ≠ a := ne_fresh (H := upd _ l _) upd_same ha
    refine ⟨_, rfl, r, _, rfl, .inl (s15.seq hS), _, _, rfl, rfl, _, _, rfl, ⟨by omega, by omega, by omega, by rw [il_len]; omega⟩, ?_⟩
    have en : (((il row).length : Int) + 1 - 1).toNat = row.length := by rw [il_len]; omega
    rw [en]
    refine for_range (lo := 1) (n := row.length) (fun i σ H' => ∃ (L A : List Nat), (∃ v5 v6 v7, σ = [some (.int n), some (.ref r), some (.ref e), some (.ref l), some (.ref a), v5, v6, v7]) ∧ Same H H' ∧ H' e = some (.dK (mergeK [] (kvS (spellsL row)))) ∧ H' l = some (.lst (NL L)) ∧ H' a = some (.lst (NL A)) ∧ DP row n.toNat L A i) ?_ ?_ ?_
    · refine ⟨[0], [0], ⟨_, _, _, rfl⟩, s15, ?_, ?_, upd_same, DP.start row n.toNat⟩
      · rw [upd_ne ea, upd_ne el, upd_same]
      · rw [upd_ne la, upd_same]; rfl
    · rintro i σ H6 hi ⟨L, A, ⟨v5, v6, v7, rfl⟩, s6, he6, hl6, ha6, D⟩
      have Dl := D.ll
      have Da := D.la
      have ei : (1 + (i : Int)) = ((L.length : Nat) : Int) := by omega
      rw [ei]
      refine ⟨_, rfl, _, rfl, _, rfl, e, l, row, L, rfl, he6, hl6, by omega, by omega, by omega, fun t p H7 s7 ht hp hmin => ?_⟩
      have sl : L.length = i + 1 := Dl
      refine ⟨t, _, rfl, SqT.of ht, rfl, _, _, rfl, _, _, rfl, rfl, ?_⟩
      have hl7 := s7 _ _ hl6
      have ha7 := s7 _ _ ha6
      have he7 := s7 _ _ he6
      have s67 := s6.trans s7
      refine ⟨_, rfl, .inl ⟨rfl, _, SqL.of hl7⟩, _, rfl, _, rfl, _, _, rfl, rfl, _, _, rfl, rfl, l, _, _, rfl, rfl, hl7, szl (by rw [List.length_map]; omega), ?_⟩
      have ex : ((L.getD p 0 + freeB row p L.length : Nat) : Int) + n - 1 = ((L.getD p 0 + freeB row p (i + 1) + (n.toNat - 1) : Nat) : Int) := by rw [sl]; omega
      dsimp only
      rw [ex, NL_snoc]
      have ha8 : upd H7 l (.lst (NL (L ++ [L.getD p 0 + freeB row p (i + 1) + (n.toNat - 1)]))) a = some (.lst (NL A)) := by rw [upd_ne (Ne.symm la)]; exact ha7
      refine ⟨_, rfl, .inl ⟨rfl, _, SqL.of ha8⟩, _, rfl, a, _, _, rfl, rfl, ha8, szl (by rw [List.length_map]; omega), ?_⟩
      rw [NL_snoc]
      refine ⟨_, _, ⟨_, _, _, rfl⟩, Same.put (Same.put s67 lH) aH, by rw [upd_ne ea, upd_ne el]; exact he7, by rw [upd_ne la, upd_same], upd_same, D.next (by omega) fun b hb => ?_⟩
      have q := hmin b (by omega)
      rw [sl] at q
      exact q
    · rintro σ H6 ⟨L, A, ⟨v5, v6, v7, rfl⟩, s6, he6, hl6, ha6, D⟩
      exact ⟨_, rfl, a, row, n.toNat, L, A, rfl, ha6, D, by omega, fun d H7 hd s7 hd7 => k d _ H7 (Same.back s6 hd) (s6.trans s7) hd7 (way_paper (by omega) D).1 (shownN_way n1 D)⟩
end
end CK

/-! The program's worst row. -/
namespace CK
open PySem PySem.Spec PyProof.Rows L2
/-- all rows of p pages, so long -/
def rng (p : Nat) : List Int := (List.range p).map fun x => ((x : Nat) : Int)
def allRows (p : Nat) : Nat → List (List Int)
  | 0 => [[]]
  | k + 1 => (allRows p k).flatMap fun row => (rng p).map fun x => row ++ [x]
theorem rng_len (p : Nat) : (rng p).length = p := by unfold rng; rw [List.length_map, List.length_range]
theorem rows_ok (p : Nat) : ∀ k, ∀ row ∈ allRows p k, row.length = k ∧ ∀ x ∈ row, 0 ≤ x ∧ x < p
  | 0, row, h => by rw [List.mem_singleton.mp h]; exact ⟨rfl, fun x hx => by cases hx⟩
  | k + 1, row, h => by
    obtain ⟨r, h1, h2⟩ := List.mem_flatMap.mp h
    obtain ⟨x, h3, h4⟩ := List.mem_map.mp h2
    obtain ⟨y, h5, h6⟩ := List.mem_map.mp h3
    have ih := rows_ok p k r h1
    rw [← h4]
    refine ⟨by rw [List.length_append, ih.1]; rfl, fun z hz => ?_⟩
    rcases List.mem_append.mp hz with q | q
    · exact ih.2 z q
    · rw [List.mem_singleton.mp q, ← h6]
      have := List.mem_range.mp h5
      omega
theorem flat_len {α β : Type} {f : α → List β} {c : Nat} : ∀ (xs : List α), (∀ x, (f x).length = c) → (xs.flatMap f).length = xs.length * c
  | [], _ => by simp
  | a :: r, h => by
    rw [List.flatMap_cons, List.length_append, h a, flat_len r h, List.length_cons, Nat.succ_mul]
    omega
theorem rows_len (p : Nat) : ∀ k, (allRows p k).length = p ^ k
  | 0 => rfl
  | k + 1 => by
    show ((allRows p k).flatMap fun row => (rng p).map fun x => row ++ [x]).length = _
    rw [flat_len (c := p) _ (fun x => by rw [List.length_map, rng_len]), rows_len p k, Nat.pow_succ]
/-- lists of ints at these places -/
structure RowsAt (H : Hp) (as : List Addr) (xs : List (List Int)) : Prop where
  len : as.length = xs.length
  at_ : ∀ (i : Nat) (a : Addr) (x : List Int), as[i]? = some a → xs[i]? = some x → H a = some (.lst (il x))
theorem RowsAt.nil {H : Hp} : RowsAt H [] [] := ⟨rfl, fun i a x h => by simp at h⟩
theorem RowsAt.same {H H' : Hp} {as : List Addr} {xs : List (List Int)} (h : RowsAt H as xs) (k : Same H H') : RowsAt H' as xs := ⟨h.len, fun i a x ha hx => k _ _ (h.at_ i a x ha hx)⟩
theorem RowsAt.snoc {H : Hp} {as : List Addr} {xs : List (List Int)} (h : RowsAt H as xs) {t : Addr} {x : List Int} (e : H t = some (.lst (il x))) : RowsAt H (as ++ [t]) (xs ++ [x]) := by
  refine ⟨by rw [List.length_append, List.length_append, h.len]; rfl, fun i b y hb hy => ?_⟩
  by_cases hi : i < as.length
  · rw [List.getElem?_append_left hi] at hb
    rw [List.getElem?_append_left (by rw [← h.len]; exact hi)] at hy
    exact h.at_ i b y hb hy
  · rw [List.getElem?_append_right (by omega)] at hb
    rw [List.getElem?_append_right (by rw [← h.len]; omega)] at hy
    have e0 : i - as.length = 0 := by
      have := (List.getElem?_eq_some_iff.mp hb).1
      simp at this
      omega
    rw [← h.len] at hy
    rw [e0] at hb hy
    cases Option.some.inj hb
    cases Option.some.inj hy
    exact e
/-- all off d -/
theorem RowsAt.put {H : Hp} {as : List Addr} {xs : List (List Int)} (h : RowsAt H as xs) {d : Addr} {o : HO} (n : ∀ a ∈ as, a ≠ d) : RowsAt (upd H d o) as xs := ⟨h.len, fun i a x ha hx => by
  rw [upd_ne (n a (List.mem_of_getElem? ha))]
  exact h.at_ i a x ha hx⟩
theorem RowsAt.app {H : Hp} {as bs : List Addr} {xs ys : List (List Int)} (h : RowsAt H as xs) (h2 : RowsAt H bs ys) : RowsAt H (as ++ bs) (xs ++ ys) := by
  refine ⟨by rw [List.length_append, List.length_append, h.len, h2.len], fun i b y hb hy => ?_⟩
  by_cases hi : i < as.length
  · rw [List.getElem?_append_left hi] at hb
    rw [List.getElem?_append_left (by rw [← h.len]; exact hi)] at hy
    exact h.at_ i b y hb hy
  · rw [List.getElem?_append_right (by omega)] at hb
    rw [List.getElem?_append_right (by rw [← h.len]; omega), ← h.len] at hy
    exact h2.at_ _ b y hb hy
/-- a loop of a comprehension, its body as it is -/
theorem lcany_it {J : It} {n : Nat} {G : Hp → Prop} {Y : Nat → Hp → V → Hp → Prop} (w : Walk J n G Y) {B : V → Hp → (Hp → Prop) → Prop} {H0 : Hp} {Q : Hp → Prop} (Pv : Nat → Hp → Prop) (h0 : Pv 0 H0) (hG : ∀ i H, i ≤ n → Pv i H → G H)
    (hs : ∀ i x H H', i < n → Pv i H → Y i H x H' → B x H' (Pv (i + 1))) (hd : ∀ H, Pv n H → Q H) :
    ∃ W : Nat → Nat → Hp → Prop, (∃ m, W 0 m H0) ∧ ∀ i m H, W i m H → (J.stop i H ∧ Q H) ∨ (J.go i H ∧ ∃ Nx : Hp → Prop, (∀ H', Nx H' → ∃ m', m' < m ∧ W (i + 1) m' H') ∧ ∀ x H', J.yld i H x H' → B x H' Nx) := by
  refine ⟨fun i m H => m = n - i ∧ i ≤ n ∧ Pv i H, ⟨n, by simp, Nat.zero_le _, h0⟩, ?_⟩
  rintro i m H ⟨rfl, hi, p⟩
  have q := hG i H hi p
  by_cases hlt : i < n
  · exact .inr ⟨w.goes i H hlt q, Pv (i + 1), fun H' p' => ⟨n - (i + 1), by omega, rfl, hlt, p'⟩, fun x H' y => hs i x H H' hlt p (w.yields i H x H' hlt q y)⟩
  · have e : i = n := by omega
    subst e
    exact .inl ⟨w.stops H q, hd H p⟩
theorem take_flatM {α β : Type} {f : α → List β} {xs : List α} {j : Nat} {x : α} (h : xs[j]? = some x) : (xs.take (j + 1)).flatMap f = (xs.take j).flatMap f ++ f x := by
  rw [take_snoc h, List.flatMap_append]
  simp
theorem rng_at {p j : Nat} (h : j < p) : (rng p)[j]? = some ((j : Nat) : Int) := by
  unfold rng
  rw [List.getElem?_map, List.getElem?_range h]
  rfl
/-- the sizes that are asked for -/
def Sizes (p k : Nat) : Prop := 1 ≤ p ∧ p ≤ 12 ∧ k ≤ 100 ∧ ∀ j, j ≤ k → p ^ j ≤ 4096
def spCheckSize : Sp := fun vs H Q _ => ∃ p k : Nat, vs = [.int (p : Nat), .int (k : Nat)] ∧ Sizes p k ∧ Q .non H
def spTooMany : Sp := fun vs H Q _ => ∃ p k : Nat, vs = [.int (p : Nat), .int (k : Nat)] ∧ Sizes p k ∧ Q (.bl false) H
def spAllRows : Sp := fun vs H Q _ => ∃ p k : Nat, vs = [.int (p : Nat), .int (k : Nat)] ∧ Sizes p k ∧ ∀ (d : Addr) (as : List Addr) (H' : Hp), H d = none → (∀ a ∈ as, H a = none) → (∀ a ∈ as, a ≠ d) → Same H H' → H' d = some (.lst (as.map V.ref)) → RowsAt H' as (allRows p k) → Q (.ref d) H'
section
variable {P : Program} {w : World} {K : PySem.W.Frag} {mg : Str → Option Value} {base : Heap}
theorem sc_are_too_many : FnScope ["pages", "long", "rows", "_"] ["pages", "long"] (defScope (top 48)) := ⟨rfl, rfl, rfl, by decide +kernel, rfl, by decide +kernel, by decide +kernel⟩
theorem ok_are_too_many (T : Prog K mg) : FnOk P w K mg base CX0 1 T.are_too_many.f T.are_too_many.fd ["pages", "long"] spTooMany := by
  refine T.are_too_many.fn.ok sc_are_too_many (fun vs H Q E h => ?len) (fun cdv A outer s H vs Q E hr h => ?body)
  case len =>
    obtain ⟨p, k, rfl, _⟩ := h
    rfl
  case body =>
    have hu := hu_of hr
    obtain ⟨p, k, rfl, hz, q⟩ := h
    refine ⟨_, PSs.nox (pss_cons (ps_if (pt_cmpR op_gt (pv 1) (pe_glob (v := L2.V.int 5000) rfl T.g_LONGEST ⟨_, rfl⟩) (nomark _))
        (pss_one (ps_ret pe_bl))
        pss_nil)
        (pss_cons (ps_set (i := 2) sc_are_too_many.nd rfl (Or.inl rfl) pe_int)
        (pss_cons (ps_for PassesOwn.never rfl (pi_range1 (by rfl) T.range (pa_cons (pv 1) pa_nil)) (pg_name (i := 3) sc_are_too_many.nd rfl (Or.inl rfl))
        (pss_cons (ps_aug (i := 2) sc_are_too_many.nd rfl (Or.inl rfl) (pv 0) iop_mul)
        (pss_one (ps_if (pt_cmpR op_gt (pv 2) (pe_glob (v := L2.V.int 5000) rfl T.g_MOST_ROWS ⟨_, rfl⟩) (nomark _))
        (pss_one (ps_ret pe_bl))
        pss_nil))))
        (pss_one (ps_ret pe_bl))))), ?_⟩
    obtain ⟨p1, p2, k1, hz⟩ := hz
    refine ⟨_, rfl, _, _, rfl, rfl, _, rfl, ?_⟩
    refine ifF (decide_eq_false (by omega)) ?_
    refine ⟨_, rfl, _, rfl, by omega, by omega, for_range (lo := 0) (n := ((k : Nat) : Int).toNat) (fun i σ H' => (∃ v3, σ = [some (.int (p : Nat)), some (.int (k : Nat)), some (.int ((p ^ i : Nat) : Int)), v3]) ∧ H' = H) ⟨⟨_, rfl⟩, rfl⟩ ?_ ?_⟩
    · rintro i σ H' hi ⟨⟨v3, rfl⟩, rfl⟩
      have h1 := hz i (by omega)
      have h2 := hz (i + 1) (by omega)
      have e : ((p ^ i : Nat) : Int) * (p : Int) = ((p ^ (i + 1) : Nat) : Int) := by rw [Nat.pow_succ, Int.natCast_mul]
      refine ⟨_, rfl, _, rfl, _, _, rfl, rfl, .inl ⟨by omega, by omega⟩, ?_⟩
      dsimp only
      rw [e]
      refine ⟨_, rfl, _, _, rfl, rfl, _, rfl, ?_⟩
      refine ifF (decide_eq_false (by omega)) ?_
      exact ⟨⟨_, rfl⟩, rfl⟩
    · rintro σ H' ⟨⟨v3, rfl⟩, rfl⟩
      exact q
theorem sc_check_size : FnScope ["pages", "long"] ["pages", "long"] (defScope (top 47)) := ⟨rfl, rfl, rfl, by decide +kernel, rfl, by decide +kernel, by decide +kernel⟩
theorem ok_check_size (T : Prog K mg) : FnOk P w K mg base CX0 2 T.check_size.f T.check_size.fd ["pages", "long"] spCheckSize := by
  have G_are_too_many := ok_are_too_many (P := P) (w := w) (base := base) T
  refine T.check_size.fn.ok sc_check_size (fun vs H Q E h => ?len) (fun cdv A outer s H vs Q E hr h => ?body)
  case len =>
    obtain ⟨p, k, rfl, _⟩ := h
    rfl
  case body =>
    have hr_are_too_many : Room 1 _ := hr.mono (by decide)
    have hu := hu_of hr
    obtain ⟨p, k, rfl, hz, q⟩ := h
    refine ⟨_, PSs.nox (pss_cons (ps_if (PW.pt (pw_or (pt_not (pt_chain op_le op_le pe_int (pv 0) (pe_glob (v := L2.V.int 12) rfl T.g_PAGES ⟨_, rfl⟩))) (pw_or1 (pt_cmpR op_lt (pv 1) pe_int (nomark _)))))
        (pss_one ps_never)
        pss_nil)
        (pss_one (ps_if (pt_val (pe_call G_are_too_many hr_are_too_many (by rfl) T.are_too_many.g T.are_too_many.fn.kp T.are_too_many.bd .nil pass0 (pa_cons (pv 0) (pa_cons (pv 1) pa_nil))))
        (pss_one ps_never)
        pss_nil))), ?_⟩
    have hz0 := hz
    obtain ⟨p1, p2, k1, hz⟩ := hz
    refine ⟨_, rfl, _, _, rfl, rfl, _, rfl, ifT (decide_eq_true (by omega)) ⟨_, _, rfl, rfl, _, rfl, ?_⟩⟩
    refine ifF (by rw [decide_eq_true (by omega)]; rfl) ⟨_, rfl, _, _, rfl, rfl, _, rfl, ?_⟩
    refine ifF (decide_eq_false (by omega)) ⟨_, rfl, _, rfl, p, k, rfl, hz0, _, rfl, ?_⟩
    exact iteF q
theorem sc_all_rows : FnScope ["pages", "long", "rows", "_", "row", "page"] ["pages", "long"] (defScope (top 49)) := ⟨rfl, rfl, rfl, by decide +kernel, rfl, by decide +kernel, by decide +kernel⟩
theorem ok_all_rows (T : Prog K mg) : FnOk P w K mg base CX0 1 T.all_rows.f T.all_rows.fd ["pages", "long"] spAllRows := by
  refine T.all_rows.fn.ok sc_all_rows (fun vs H Q E h => ?len) (fun cdv A outer s H vs Q E hr h => ?body)
  case len =>
    obtain ⟨p, k, rfl, _⟩ := h
    rfl
  case body =>
    have hu := hu_of hr
    obtain ⟨p, k, rfl, hz, q⟩ := h
    refine ⟨_, PSs.nox (pss_cons (ps_set (i := 2) sc_all_rows.nd rfl (Or.inl rfl) (pe_lst (pa_cons (pe_lst pa_nil) pa_nil)))
        (pss_cons (ps_for PassesOwn.never rfl (pi_range1 (by rfl) T.range (pa_cons (pv 1) pa_nil)) (pg_name (i := 3) sc_all_rows.nd rfl (Or.inl rfl))
        (pss_one (ps_setLc2 (i := 2) (own := [("row", 4), ("page", 5)]) (vs1 := [5]) (g := gName 4) (g1 := gName 5) rfl sc_all_rows.nd rfl rfl (sw_true rfl rfl rfl (by decide +kernel)) ((pi_list (pv 2))) (blkOk_by (own := [("row", 4), ("page", 5)]) (N := ["pages", "long", "rows", "_", "row", "page"]) (sc := defScope (top 49)) (by decide +kernel)) (by decide) (fun _ _ _ _ _ => (by exact (pg_name (i := 4) sc_all_rows.nd rfl (Or.inl rfl)))) (fun _ _ _ _ _ => (by exact pts_nil)) (fun _ _ _ _ _ => (by exact (pi_range1 (by rfl) T.range (pa_cons (pv 0) pa_nil)))) (fun _ _ _ _ _ => (by exact (pg_name (i := 5) sc_all_rows.nd rfl (Or.inl rfl)))) (fun _ _ _ _ _ => (by exact pts_nil)) (fun _ _ _ _ _ => (by exact (pe_op op_cat (pv 4) (pe_lst (pa_cons (pv 5) pa_nil))))))))
        (pss_one (ps_ret (pv 2))))), ?_⟩
    obtain ⟨p1, p2, k1, hz⟩ := hz
    refine ⟨szd rfl, fun e0 he0 => ⟨szd rfl, fun d0 hd0 => ?_⟩⟩
    have s1 := Same.new (o := .lst []) he0
    have s2 := Same.new (o := .lst [V.ref e0]) hd0
    have ed : e0 ≠ d0 := ne_fresh (H := upd H e0 _) upd_same hd0
    refine ⟨_, rfl, _, rfl, by omega, by omega, for_range (lo := 0) (n := ((k : Nat) : Int).toNat) (fun i σ H' => ∃ (d : Addr) (as : List Addr), (∃ v3 v4 v5 : Option V, σ = [some (.int (p : Nat)), some (.int (k : Nat)), some (.ref d), v3, v4, v5]) ∧ Same H H' ∧ H d = none ∧ (∀ a ∈ as, H a = none ∧ a ≠ d) ∧ H' d = some (.lst (as.map V.ref)) ∧ RowsAt H' as (allRows p i)) ?_ ?_ ?_⟩
    · refine ⟨d0, [e0], ⟨_, _, _, rfl⟩, s1.trans s2, Same.back s1 hd0, fun a ha => ?_, upd_same, RowsAt.nil.snoc (s2 _ _ upd_same)⟩
      rw [List.mem_singleton.mp ha]
      exact ⟨he0, ed⟩
    · rintro i σ H1 hi ⟨d, as, ⟨v3, v4, v5, rfl⟩, s3, hd, has, hd1, ra⟩
      have hik : i < k := by omega
      have hl := rows_len p i
      have rok := rows_ok p i
      have e1 : allRows p (i + 1) = (allRows p i).flatMap fun row => (rng p).map fun x => row ++ [x] := rfl
      have big : (allRows p i).length * p ≤ 4096 := by
        have := hz (i + 1) hik
        rw [hl, ← Nat.pow_succ]
        exact this
      rw [e1]
      generalize allRows p i = rows at *
      refine ⟨_, rfl, d, rfl, ⟨_, SqL.of hd1⟩, fun D hD => ?_⟩
      have hDH : H D = none := Same.back s3 hD
      have Dd : d ≠ D := ne_fresh hd1 hD
      let In : List (List Int) → Hp → Prop := fun done H' => Same H1 H' ∧ ∃ bs : List Addr, (∀ b ∈ bs, H1 b = none ∧ b ≠ D) ∧ H' D = some (.lst (bs.map V.ref)) ∧ RowsAt H' bs done
      have lenf : ∀ t, ((rows.take t).flatMap fun row => (rng p).map fun x => row ++ [x]).length = (rows.take t).length * p := fun t => flat_len (c := p) _ (fun x => by rw [List.length_map, rng_len])
      refine lcany_it (walk_list (K := K) (a := d) (xs := as.map V.ref)) (fun t H' => In ((rows.take t).flatMap fun row => (rng p).map fun x => row ++ [x]) H') ⟨Same.new hD, [], fun b hb => by (cases hb), upd_same, RowsAt.nil⟩ (fun t H' _ h => SqL.of (h.1 _ _ hd1)) ?_ ?_
      · rintro t x H2 H2' ht inn ⟨rfl, hx⟩
        rw [List.getElem?_map] at hx
        cases ea : as[t]? with
        | none => rw [ea] at hx; cases hx
        | some a =>
          rw [ea] at hx
          cases Option.some.inj hx
          have htr : t < rows.length := by rw [← ra.len]; exact (List.getElem?_eq_some_iff.mp ea).1
          have er : rows[t]? = some (rows[t]'htr) := List.getElem?_eq_getElem htr
          have hrl := (rok _ (List.getElem_mem htr)).1
          have ha := ra.at_ t a _ ea er
          have lt := lenf t
          rw [List.length_take, Nat.min_eq_left (Nat.le_of_lt htr)] at lt
          have bnd : (t + 1) * p ≤ 4096 := Nat.le_trans (Nat.mul_le_mul_right p htr) big
          rw [Nat.succ_mul] at bnd
          rw [take_flatM er]
          generalize rows[t]'htr = row at *
          generalize (rows.take t).flatMap (fun row => (rng p).map fun x => row ++ [x]) = done at *
          refine ⟨rfl, _, rfl, _, rfl, by omega, by omega, ?_⟩
          refine lcany_it (walk_range (lo := 0) (n := ((p : Nat) : Int).toNat)) (fun j H' => In (done ++ ((rng p).take j).map fun x => row ++ [x]) H') ?_ (fun _ _ _ _ => trivial) ?_ ?_
          · rw [List.take_zero, List.map_nil, List.append_nil]
            exact inn
          · rintro j x H3 H4 hj ⟨s4, bs, hb, hD4, rb⟩ ⟨rfl, rfl⟩
            have hj' : j < p := by omega
            have hbl : bs.length = t * p + j := by
              rw [rb.len, List.length_append, lt, List.length_map, List.length_take, rng_len, Nat.min_eq_left (Nat.le_of_lt hj')]
            rw [take_snoc (rng_at hj'), List.map_append, ← List.append_assoc]
            have ha4 := s4 _ _ ha
            refine ⟨rfl, _, rfl, _, rfl, szd rfl, fun u hu => ?_⟩
            have sU := Same.new (o := .lst [V.int (0 + (j : Int))]) hu
            refine ⟨a, u, _, _, rfl, rfl, sU _ _ ha4, upd_same, sz (by rw [il_len]; simp; omega), fun z hz => ?_⟩
            have sZ := Same.new (o := .lst (il row ++ [V.int (0 + (j : Int))])) hz
            have hD5 := sZ _ _ (sU _ _ hD4)
            have zD : z ≠ D := Ne.symm (ne_fresh (sU _ _ hD4) hz)
            have z1 : H1 z = none := Same.back s4 (Same.back sU hz)
            have ez : upd (upd (upd H4 u (.lst [V.int (0 + (j : Int))])) z (.lst (il row ++ [V.int (0 + (j : Int))]))) D (.lst (bs.map V.ref ++ [V.ref z])) z = some (.lst (il (row ++ [((j : Nat) : Int)]))) := by
              rw [upd_ne zD, upd_same, ← il_snoc, Int.zero_add]
            refine ⟨_, hD5, szl (by rw [List.length_map]; omega), Same.put ((s4.trans sU).trans sZ) hD, bs ++ [z], fun b hb' => ?_, by rw [upd_same, List.map_append]; rfl, ?_⟩
            · rcases List.mem_append.mp hb' with q | q
              · exact hb b q
              · rw [List.mem_singleton.mp q]; exact ⟨z1, zD⟩
            · exact (((rb.same sU).same sZ).put fun b hb' => (hb b hb').2).snoc ez
          · rintro H3 inn3
            have ep : ((p : Nat) : Int).toNat = p := by omega
            rw [ep, List.take_of_length_le (by rw [rng_len]; exact Nat.le_refl _)] at inn3
            exact inn3
      · rintro H2 ⟨s4, bs, hb, hD2, rb⟩
        rw [List.take_of_length_le (by rw [List.length_map, ra.len]; exact Nat.le_refl _)] at rb
        exact ⟨D, bs, ⟨_, _, _, rfl⟩, s3.trans s4, hDH, fun b hb' => ⟨Same.back s3 (hb b hb').1, (hb b hb').2⟩, hD2, rb⟩
    · rintro σ H1 ⟨d, as, ⟨v3, v4, v5, rfl⟩, s3, hd, has, hd1, ra⟩
      have ek : ((k : Nat) : Int).toNat = k := by omega
      rw [ek] at ra
      exact ⟨_, rfl, q d as H1 hd (fun a ha => (has a ha).1) (fun a ha => (has a ha).2) s3 hd1 ra⟩
end
end CK

/-! The program's worst row, whole. -/
namespace CK
open PySem PySem.Spec PyProof.Rows L2
noncomputable def moreL (n : Nat) (rule : Rl) (row : List Int) : Int := ((lacksR n rule row).length : Int) - ((bestS n row).lacks.length : Int)
theorem moreL_pos {n : Nat} (hn : 0 < n) (rule : Rl) (row : List Int) : 0 ≤ moreL n rule row := by
  have := best_rule hn rule row
  unfold moreL
  omega
/-- the first of the rows with the most -/
structure IsWorst (f : List Int → Int) (rows : List (List Int)) (m : Int) (rw_ : List Int) : Prop where
  ex : ∃ j : Nat, rows[j]? = some rw_ ∧ f rw_ = m ∧ ∀ i : Nat, i < j → ∀ r, rows[i]? = some r → f r < m
  top : ∀ r ∈ rows, f r ≤ m
theorem IsWorst.one {f : List Int → Int} {rows : List (List Int)} {m m' : Int} {r r' : List Int} (h : IsWorst f rows m r) (h' : IsWorst f rows m' r') : m = m' ∧ r = r' := by
  obtain ⟨j, h1, h2, h3⟩ := h.ex
  obtain ⟨j', h1', h2', h3'⟩ := h'.ex
  have a1 := h.top r' (List.mem_of_getElem? h1')
  have a2 := h'.top r (List.mem_of_getElem? h1)
  have em : m = m' := by omega
  refine ⟨em, ?_⟩
  rcases Nat.lt_trichotomy j j' with q | q | q
  · have := h3' j q r h1; omega
  · rw [q, h1'] at h1; exact (Option.some.inj h1).symm
  · have := h3 j' q r' h1'; omega
theorem IsWorst.next {f : List Int → Int} {rows : List (List Int)} {m : Int} {r x : List Int} (h : IsWorst f rows m r) : IsWorst f (rows ++ [x]) (if f x > m then f x else m) (if f x > m then x else r) := by
  obtain ⟨j, h1, h2, h3⟩ := h.ex
  have hj : j < rows.length := (List.getElem?_eq_some_iff.mp h1).1
  by_cases q : f x > m
  · rw [if_pos q, if_pos q]
    refine ⟨⟨rows.length, by rw [List.getElem?_append_right (Nat.le_refl _), Nat.sub_self]; rfl, rfl, fun i hi y hy => ?_⟩, fun y hy => ?_⟩
    · rw [List.getElem?_append_left hi] at hy
      have := h.top y (List.mem_of_getElem? hy)
      omega
    · rcases List.mem_append.mp hy with z | z
      · have := h.top y z; omega
      · rw [List.mem_singleton.mp z]; exact Int.le_refl _
  · rw [if_neg q, if_neg q]
    refine ⟨⟨j, by rw [List.getElem?_append_left hj]; exact h1, h2, fun i hi y hy => ?_⟩, fun y hy => ?_⟩
    · rw [List.getElem?_append_left (by omega)] at hy
      exact h3 i hi y hy
    · rcases List.mem_append.mp hy with z | z
      · exact h.top y z
      · rw [List.mem_singleton.mp z]; omega
theorem IsWorst.first {f : List Int → Int} {x : List Int} : IsWorst f [x] (f x) x :=
  ⟨⟨0, rfl, rfl, fun i hi => absurd hi (Nat.not_lt_zero _)⟩, fun y hy => by rw [List.mem_singleton.mp hy]; exact Int.le_refl _⟩
/-- the first place with the most of the counts -/
theorem worst_of {f : List Int → Int} {rows : List (List Int)} {m : Int} {j : Nat} (h1 : (rows.map f)[j]? = some m) (h2 : ∀ y ∈ rows.map f, y ≤ m) (h3 : ∀ i, i < j → (rows.map f)[i]? ≠ some m) : ∃ r, rows[j]? = some r ∧ IsWorst f rows m r := by
  rw [List.getElem?_map] at h1
  obtain ⟨r, e1, e2⟩ := Option.map_eq_some_iff.mp h1
  refine ⟨r, e1, ⟨j, e1, e2, fun i hi y hy => ?_⟩, fun y hy => h2 _ (List.mem_map.mpr ⟨y, hy, rfl⟩)⟩
  have a := h2 (f y) (List.mem_map.mpr ⟨y, List.mem_of_getElem? hy, rfl⟩)
  have b := h3 i hi
  rw [List.getElem?_map, hy] at b
  have : f y ≠ m := fun z => b (by rw [← z]; rfl)
  omega
theorem idx_first {xs : List Int} {m : Int} (h : m ∈ xs) : xs[xs.idxOf m]? = some m ∧ ∀ i, i < xs.idxOf m → xs[i]? ≠ some m := by
  induction xs with
  | nil => cases h
  | cons a r ih =>
    rw [List.idxOf_cons]
    by_cases e : a = m
    · subst e
      simp
    · have e2 : (a == m) = false := by simpa using e
      rw [e2]
      have hr : m ∈ r := by
        rcases List.mem_cons.mp h with z | z
        · exact absurd z.symm e
        · exact z
      obtain ⟨q1, q2⟩ := ih hr
      refine ⟨by simpa using q1, fun i hi => ?_⟩
      cases i with
      | zero => simpa using e
      | succ i => simpa using q2 i (by simpa using hi)
def spMore (K : PySem.W.Frag) : Sp := fun vs H Q _ => ∃ (n : Int) (r : Addr) (row : List Int) (rule : Rl), vs = [.int n, .ref r, .str rule.s] ∧ 1 ≤ n ∧ n ≤ 8 ∧ SqL K H r (il row) ∧ RowOk row ∧ ∀ H' : Hp, Same H H' → Q (.int (moreL n.toNat rule row)) H'
def spWorst : Sp := fun vs H Q _ => ∃ (n : Int) (p k : Nat) (rule : Rl), vs = [.int n, .int (p : Nat), .int (k : Nat), .str rule.s] ∧ 1 ≤ n ∧ n ≤ 8 ∧ Sizes p k ∧
  ∀ (t a : Addr) (m : Int) (row : List Int) (H' : Hp), H t = none → H a = none → t ≠ a → Same H H' → H' t = some (.tup [.int m, .ref a]) → H' a = some (.lst (il row)) → IsWorst (moreL n.toNat rule) (allRows p k) m row → Q (.ref t) H'
section
variable {P : Program} {w : World} {K : PySem.W.Frag} {mg : Str → Option Value} {base : Heap}
theorem sc_more_lacks : FnScope ["rooms", "row", "rule", "lacks", "_"] ["rooms", "row", "rule"] (defScope (top 50)) := ⟨rfl, rfl, rfl, by decide +kernel, rfl, by decide +kernel, by decide +kernel⟩
theorem ok_more_lacks (T : Prog K mg) {es : Array DictEntry} {nd : Nat} (TB_RULES : KDict K w T.a_RULES es nd) : FnOk P w K mg base CX0 6 T.more_lacks.f T.more_lacks.fd ["rooms", "row", "rule"] (spMore K) := by
  have G_find_best := ok_find_best (P := P) (w := w) (base := base) T
  have G_find_lacks := ok_find_lacks (P := P) (w := w) (base := base) T TB_RULES
  refine T.more_lacks.fn.ok sc_more_lacks (fun vs H Q E h => ?len) (fun cdv A outer s H vs Q E hr h => ?body)
  case len =>
    obtain ⟨n, r, row, rule, rfl, _⟩ := h
    rfl
  case body =>
    have hr_find_best : Room 2 _ := hr.mono (by decide)
    have hr_find_lacks : Room 5 _ := hr.mono (by decide)
    have hu := hu_of hr
    obtain ⟨n, r, row, rule, rfl, n1, n8, hS, hR, k⟩ := h
    refine ⟨_, PSs.nox (pss_cons (ps_asg (pe_call G_find_best hr_find_best (by rfl) T.find_best.g T.find_best.fn.kp T.find_best.bd .nil pass0 (pa_cons (pv 0) (pa_cons (pv 1) pa_nil))) (pg_tup rfl (pgs_cons (pg_name (i := 3) sc_more_lacks.nd rfl (Or.inl rfl)) (pgs_cons (pg_name (i := 4) sc_more_lacks.nd rfl (Or.inl rfl)) pgs_nil))))
        (pss_one (ps_ret (pe_op op_sub (pe_callB call_len_seq (by rfl) T.len PySem.boot_len (pa_cons (pe_call G_find_lacks hr_find_lacks (by rfl) T.find_lacks.g T.find_lacks.fn.kp T.find_lacks.bd .nil pass0 (pa_cons (pv 0) (pa_cons (pv 1) (pa_cons (pv 2) pa_nil)))) pa_nil)) (pe_callB call_len_seq (by rfl) T.len PySem.boot_len (pa_cons (pv 3) pa_nil)))))), ?_⟩
    have hR1 := hR.1
    refine ⟨_, rfl, _, rfl, n, r, row, rfl, n1, n8, hS, by omega, fun t l g as H1 ht hl hg lg s1 e1 e2 e3 e4 => ?_⟩
    refine ⟨t, _, rfl, SqT.of e1, rfl, _, _, rfl, _, _, rfl, rfl, ?_⟩
    refine ⟨_, rfl, _, rfl, _, rfl, n, r, row, rule, rfl, n1, n8, s1.seq hS, hR, fun c H2 hc s2 hc2 => ?_⟩
    refine ⟨c, _, rfl, .inl (SqL.of hc2), _, rfl, l, _, rfl, .inl (SqL.of (s2 _ _ e2)), _, _, rfl, rfl, ?_⟩
    have e : ((NL (lacksR n.toNat rule row)).length : Int) - ((NL (bestS n.toNat row).lacks).length : Int) = moreL n.toNat rule row := by rw [List.length_map, List.length_map]; rfl
    dsimp only
    rw [e]
    exact k H2 (s1.trans s2)
theorem sc_worst : FnScope ["rooms", "pages", "long", "rule", "rows", "counts", "most", "row"] ["rooms", "pages", "long", "rule"] (defScope (top 46)) := ⟨rfl, rfl, rfl, by decide +kernel, rfl, by decide +kernel, by decide +kernel⟩
theorem ok_worst (T : Prog K mg) {es : Array DictEntry} {nd : Nat} (TB_RULES : KDict K w T.a_RULES es nd) : FnOk P w K mg base CX0 7 T.worst.f T.worst.fd ["rooms", "pages", "long", "rule"] spWorst := by
  have G_check_rooms := ok_check_rooms (P := P) (w := w) (base := base) T
  have G_check_size := ok_check_size (P := P) (w := w) (base := base) T
  have G_check_rule := ok_check_rule (P := P) (w := w) (base := base) T TB_RULES
  have G_all_rows := ok_all_rows (P := P) (w := w) (base := base) T
  have G_more_lacks := ok_more_lacks (P := P) (w := w) (base := base) T TB_RULES
  refine T.worst.fn.ok sc_worst (fun vs H Q E h => ?len) (fun cdv A outer s H vs Q E hr h => ?body)
  case len =>
    obtain ⟨n, p, k, rule, rfl, _⟩ := h
    rfl
  case body =>
    have hr_check_rooms : Room 1 _ := hr.mono (by decide)
    have hr_check_size : Room 2 _ := hr.mono (by decide)
    have hr_check_rule : Room 1 _ := hr.mono (by decide)
    have hr_all_rows : Room 1 _ := hr.mono (by decide)
    have hr_more_lacks : Room 6 _ := hr.mono (by decide)
    have hu := hu_of hr
    obtain ⟨n, p, k, rule, rfl, n1, n8, hz, q⟩ := h
    refine ⟨_, PSs.nox (pss_cons (ps_expr (pe_call G_check_rooms hr_check_rooms (by rfl) T.check_rooms.g T.check_rooms.fn.kp T.check_rooms.bd .nil pass0 (pa_cons (pv 0) pa_nil)))
        (pss_cons (ps_expr (pe_call G_check_size hr_check_size (by rfl) T.check_size.g T.check_size.fn.kp T.check_size.bd .nil pass0 (pa_cons (pv 1) (pa_cons (pv 2) pa_nil))))
        (pss_cons (ps_expr (pe_call G_check_rule hr_check_rule (by rfl) T.check_rule.g T.check_rule.fn.kp T.check_rule.bd .nil pass0 (pa_cons (pv 3) pa_nil)))
        (pss_cons (ps_set (i := 4) sc_worst.nd rfl (Or.inl rfl) (pe_call G_all_rows hr_all_rows (by rfl) T.all_rows.g T.all_rows.fn.kp T.all_rows.bd .nil pass0 (pa_cons (pv 1) (pa_cons (pv 2) pa_nil))))
        (pss_cons (ps_setLc (i := 5) (own := [("row", 7)]) (g := gName 7) rfl sc_worst.nd rfl rfl (sw_true rfl rfl rfl (by decide +kernel)) ((pi_list (pv 4))) (blkOk_by (own := [("row", 7)]) (N := ["rooms", "pages", "long", "rule", "rows", "counts", "most", "row"]) (sc := defScope (top 46)) (by decide +kernel)) (fun _ _ _ _ _ => (by exact (pg_name (i := 7) sc_worst.nd rfl (Or.inl rfl)))) (fun _ _ _ _ _ => (by exact pts_nil)) (fun _ _ _ _ _ => (by exact (pe_call G_more_lacks hr_more_lacks (by rfl) T.more_lacks.g T.more_lacks.fn.kp T.more_lacks.bd .nil pass0 (pa_cons (pv 0) (pa_cons (pv 7) (pa_cons (pv 3) pa_nil)))))))
        (pss_cons (ps_set (i := 6) sc_worst.nd rfl (Or.inl rfl) (pe_callB (cr_max rfl) (by rfl) T.max (by decide +kernel) (pa_cons (pv 5) pa_nil)))
        (pss_one (ps_ret (pe_tup (pa_cons (pv 6) (pa_cons (pe_ix ix_list (pv 4) (pe_bm PySem.F.plainAttrs_list PySem.F.slot_list_index PySem.F.type_list_index mt_index (pv 5) (pa_cons (pv 6) pa_nil)) (fun _ _ => rfl)) pa_nil))))))))))), ?_⟩
    refine ⟨_, rfl, n, rfl, n1, n8, ?_⟩
    refine ⟨_, rfl, _, rfl, p, k, rfl, hz, ?_⟩
    refine ⟨_, rfl, rule, rfl, ?_⟩
    -- rows
    refine ⟨_, rfl, _, rfl, p, k, rfl, hz, fun d as H1 hd has had s1 hd1 ra => ?_⟩
    have hl := rows_len p k
    have big : (allRows p k).length ≤ 4096 := by rw [hl]; exact hz.2.2.2 k (Nat.le_refl _)
    have pos : 0 < (allRows p k).length := by rw [hl]; exact Nat.pow_pos (by have := hz.1; omega)
    have rok : ∀ row ∈ allRows p k, RowOk row := fun row h => by
      have ⟨a1, a2⟩ := rows_ok p k row h
      have h3 := hz.2.2.1
      have h2 := hz.2.1
      exact ⟨by omega, fun x hx => by have := a2 x hx; omega⟩
    generalize allRows p k = rows at *
    -- counts
    refine ⟨_, rfl, d, rfl, ⟨_, SqL.of hd1⟩, fun c hc => ?_⟩
    refine lc_list (K := K) (a := d) (xs := as.map V.ref) (fun i H' => H' c = some (.lst (il ((rows.take i).map (moreL n.toNat rule)))) ∧ Same H1 H') ⟨upd_same, Same.new hc⟩ (fun i H' _ h => SqL.of (h.2 _ _ hd1)) ?_ ?_
    · rintro i y H2 hy ⟨hc2, s2⟩
      rw [List.getElem?_map] at hy
      cases ea : as[i]? with
      | none => rw [ea] at hy; cases hy
      | some a =>
        rw [ea] at hy
        cases Option.some.inj hy
        have hi : i < rows.length := by rw [← ra.len]; exact (List.getElem?_eq_some_iff.mp ea).1
        have er : rows[i]? = some (rows[i]'hi) := List.getElem?_eq_getElem hi
        have ha := s2 _ _ (ra.at_ i a _ ea er)
        have hro := rok _ (List.getElem_mem hi)
        rw [take_snoc er, List.map_append]
        generalize rows[i]'hi = row at *
        refine ⟨rfl, _, rfl, _, rfl, _, rfl, n, a, row, rule, rfl, n1, n8, SqL.of ha, hro, fun H3 s3 => ?_⟩
        refine ⟨_, s3 _ _ hc2, szl (by rw [il_len, List.length_map, List.length_take]; omega), ?_, Same.put (s2.trans s3) hc⟩
        rw [upd_same, il_snoc]
        rfl
    · rintro H2 ⟨hc2, s2⟩
      rw [List.take_of_length_le (by rw [List.length_map, ra.len]; exact Nat.le_refl _)] at hc2
      refine ⟨_, rfl, c, _, rfl, SqL.of hc2, by rw [List.length_map]; exact pos, fun m hm hmax => ?_⟩
      have ⟨i1, i2⟩ := idx_first hm
      obtain ⟨row, hr1, hw⟩ := worst_of i1 hmax i2
      have hd2 := s2 _ _ hd1
      have ra2 := ra.same s2
      have hj : (rows.map (moreL n.toNat rule)).idxOf m < as.length := by rw [ra.len]; exact (List.getElem?_eq_some_iff.mp hr1).1
      obtain ⟨a, ea⟩ : ∃ a, as[(rows.map (moreL n.toNat rule)).idxOf m]? = some a := ⟨_, List.getElem?_eq_getElem hj⟩
      have ha := ra2.at_ _ a row ea hr1
      have hma := List.mem_of_getElem? ea
      -- (most, rows[counts.index(most)])
      refine ⟨_, rfl, _, rfl, _, rfl, .inl ⟨rfl, _, SqL.of hc2⟩, _, rfl, c, _, _, (rows.map (moreL n.toNat rule)).idxOf m, V.int m, rfl, rfl, SqL.of hc2, rfl, flat_il _, il_at i1, by show (m == m) = true; simp, fun i z hi hz2 => ?_, d, _, _, _, rfl, rfl, SqL.of hd2, atI_nat (by rw [List.getElem?_map, ea]; rfl), szd rfl, fun t ht => ?_⟩
      · obtain ⟨x, hx, rfl⟩ := il_get hz2
        show (x == m) = false
        simpa using fun e => i2 i hi (by rw [← e]; exact hx)
      · have sT := Same.new (o := .tup [V.int m, V.ref a]) ht
        exact q t a m row _ (Same.back (s1.trans s2) ht) (has a hma) (Ne.symm (ne_fresh ha ht)) ((s1.trans s2).trans sT) upd_same (sT _ _ ha) hw
end
end CK

/-! All that is told of a case. -/
namespace CK
open PySem PySem.Spec PyProof.Rows L2 CKD
theorem passK_len : ∀ (k : Nat) (m : List Bool) (h : Nat), (passF k m h).2.2.length ≤ k
  | 0, _, _ => Nat.le_refl _
  | k + 1, m, h => by
    unfold passF
    split
    · have := passK_len k (m.set h false) ((h + 1) % m.length)
      show (_ :: _).length ≤ k + 1
      simp
      omega
    · exact Nat.zero_le _
theorem tellK_len {s : DS} {n : Nat} (W : s.WF n) (n8 : n ≤ 8) (p : Int) : (s.tells p).2.2.length ≤ 8 := by
  unfold DS.tells
  split
  · exact Nat.zero_le _
  · have h1 : s.pass.2.2.length ≤ s.marks.count true := passK_len _ _ _
    have h2 : s.marks.count true ≤ s.marks.length := List.count_le_length
    have h3 := W.m
    show s.pass.2.2.length ≤ 8
    omega
theorem tellsK_small {n : Nat} (n8 : n ≤ 8) : ∀ (s : DS) (row : List Int), s.WF n → ∀ x ∈ tellsL s row, x.2.2.length ≤ 8
  | _, [], _, _, h => by cases h
  | s, p :: r, W, x, h => by
    rcases List.mem_cons.mp h with rfl | h
    · exact tellK_len W n8 p
    · exact tellsK_small n8 (s.ask p) r (DS.ask_wf W) x h
noncomputable def wD (n : Nat) (rule : Rl) : Int × List Int := by
  classical
  exact if h : ∃ x : Int × List Int, IsWorst (moreL n rule) (allRows 2 4) x.1 x.2 then Classical.choose h else (0, [])
theorem wD_is {n : Nat} {rule : Rl} {m : Int} {r : List Int} (h : IsWorst (moreL n rule) (allRows 2 4) m r) : (wD n rule).1 = m ∧ (wD n rule).2 = r := by
  have ex : ∃ x : Int × List Int, IsWorst (moreL n rule) (allRows 2 4) x.1 x.2 := ⟨(m, r), h⟩
  have e : wD n rule = Classical.choose ex := by
    unfold wD
    rw [dif_pos ex]
  rw [e]
  exact (Classical.choose_spec ex).one h
noncomputable def bestK (n : Nat) (row : List Int) : PyData := .tuple [pdN (bestS n row).lacks, gds (bestS n row).gone]
noncomputable def worstK (n : Nat) (rule : Rl) : PyData := .tuple [.int (wD n rule).1, .list ((wD n rule).2.map PyData.int)]
noncomputable def toldD (n : Nat) (row : List Int) (rule : Rl) : PyData := .list ([pdTs (tellsL (DS.new n) row), pdN (lacksR n rule row), bestK n row, pds (spellsL row), pds (parts n row)]
  ++ [pdN (countIn (lacksR n rule row) (parts n row)), worstK n rule, .list ((afterL (DS.new n) (row.take 9)).held.map pdO), .list ((afterL (DS.new n) (row.take 9)).marks.map PyData.bool)]
  ++ [.int ((bestS n row).lacks.length : Nat), .int ((afterL (DS.new n) (row.take 9)).hand : Nat), .int ((afterL (DS.new n) (row.take 9)).lacks : Nat)])
theorem cut9 (row : List Int) : cutV (il row) none (some 9) = il (row.take 9) := by
  unfold cutV
  rw [HT.sIx_none]
  have e : HT.sIx (il row).length (il row).length (some (9 : Int)) = min 9 (il row).length := HT.sIx_nat _ _ 9
  rw [e, Nat.sub_zero, List.drop_zero]
  show (row.map V.int).take (min 9 (row.map V.int).length) = (row.take 9).map V.int
  rw [List.length_map, List.map_take]
  rcases Nat.le_total 9 row.length with h | h
  · rw [Nat.min_eq_left h]
  · rw [Nat.min_eq_right h, List.take_of_length_le (by simp), List.take_of_length_le (by simpa using h)]
def spPages (C : Addr) : Sp := fun vs H Q _ => ∃ (p a b : Addr) (s : DS), vs = [.ref p] ∧ DialIs C H p a b s ∧ ∀ l, H l = none → Q (.ref l) (upd H l (.lst (HL s.held)))
def spLooked (C : Addr) : Sp := fun vs H Q _ => ∃ (p a b : Addr) (s : DS), vs = [.ref p] ∧ DialIs C H p a b s ∧ ∀ l, H l = none → Q (.ref l) (upd H l (.lst (BL s.marks)))
def spPoints (C : Addr) : Sp := fun vs H Q _ => ∃ (p a b : Addr) (s : DS), vs = [.ref p] ∧ DialIs C H p a b s ∧ Q (.int s.hand) H
def spLacked (C : Addr) : Sp := fun vs H Q _ => ∃ (p a b : Addr) (s : DS), vs = [.ref p] ∧ DialIs C H p a b s ∧ Q (.int s.lacks) H
def spCase (K : PySem.W.Frag) : Sp := fun vs H Q _ => ∃ (ct : Addr) (n : Int) (r : Addr) (row : List Int) (rule : Rl), vs = [.ref ct] ∧ H ct = some (.tup [.int n, .ref r, .str rule.s]) ∧ 1 ≤ n ∧ n ≤ 8 ∧ H r = some (.lst (il row)) ∧ RowOk row ∧
  ∀ (e : Addr) (H' : Hp), Same H H' → FD (Fr H) H' (.ref e) (toldD n.toNat row rule) → Q (.ref e) H'
section
variable {P : Program} {w : World} {K : PySem.W.Frag} {mg : Str → Option Value} {base : Heap}
theorem sc_Dial_pages : FnScope ["self"] ["self"] (defScope (inClass (top 28) 2)) := ⟨rfl, rfl, rfl, by decide +kernel, rfl, by decide +kernel, by decide +kernel⟩
theorem ok_Dial_pages (T : Prog K mg) : FnOk P w K mg base CX0 1 T.Dial.pages.f T.Dial.pages.fd ["self"] (spPages T.Dial.C) := by
  refine T.Dial.pages.fn.ok sc_Dial_pages (fun vs H Q E h => ?len) (fun cdv A outer s H vs Q E hr h => ?body)
  case len =>
    obtain ⟨p, a, b, s, rfl, _⟩ := h
    rfl
  case body =>
    have hu := hu_of hr
    obtain ⟨p, a, b, s, rfl, D, k⟩ := h
    refine ⟨_, PSs.nox (pss_one (ps_ret (pe_callTy call_list_of (by rfl) T.list_ (by decide +kernel) (pa_cons (pe_fld (pv 0) rfl) pa_nil)))), ?_⟩
    obtain ⟨dx, hp⟩ := D.ob
    exact ⟨_, rfl, p, _, dx, _, _, rfl, hp, T.Dial.cl, T.Dial.n_held, rfl, a, _, rfl, .inl (SqL.of D.he), k⟩
theorem sc_Dial_looked : FnScope ["self"] ["self"] (defScope (inClass (top 28) 3)) := ⟨rfl, rfl, rfl, by decide +kernel, rfl, by decide +kernel, by decide +kernel⟩
theorem ok_Dial_looked (T : Prog K mg) : FnOk P w K mg base CX0 1 T.Dial.looked.f T.Dial.looked.fd ["self"] (spLooked T.Dial.C) := by
  refine T.Dial.looked.fn.ok sc_Dial_looked (fun vs H Q E h => ?len) (fun cdv A outer s H vs Q E hr h => ?body)
  case len =>
    obtain ⟨p, a, b, s, rfl, _⟩ := h
    rfl
  case body =>
    have hu := hu_of hr
    obtain ⟨p, a, b, s, rfl, D, k⟩ := h
    refine ⟨_, PSs.nox (pss_one (ps_ret (pe_callTy call_list_of (by rfl) T.list_ (by decide +kernel) (pa_cons (pe_fld (pv 0) rfl) pa_nil)))), ?_⟩
    obtain ⟨dx, hp⟩ := D.ob
    exact ⟨_, rfl, p, _, dx, _, _, rfl, hp, T.Dial.cl, T.Dial.n_marks, rfl, b, _, rfl, .inl (SqL.of D.ma), k⟩
theorem sc_Dial_points : FnScope ["self"] ["self"] (defScope (inClass (top 28) 4)) := ⟨rfl, rfl, rfl, by decide +kernel, rfl, by decide +kernel, by decide +kernel⟩
theorem ok_Dial_points (T : Prog K mg) : FnOk P w K mg base CX0 1 T.Dial.points.f T.Dial.points.fd ["self"] (spPoints T.Dial.C) := by
  refine T.Dial.points.fn.ok sc_Dial_points (fun vs H Q E h => ?len) (fun cdv A outer s H vs Q E hr h => ?body)
  case len =>
    obtain ⟨p, a, b, s, rfl, _⟩ := h
    rfl
  case body =>
    have hu := hu_of hr
    obtain ⟨p, a, b, s, rfl, D, k⟩ := h
    refine ⟨_, PSs.nox (pss_one (ps_ret (pe_fld (pv 0) rfl))), ?_⟩
    obtain ⟨dx, hp⟩ := D.ob
    exact ⟨_, rfl, p, _, dx, _, _, rfl, hp, T.Dial.cl, T.Dial.n_hand, rfl, k⟩
theorem sc_Dial_lacked : FnScope ["self"] ["self"] (defScope (inClass (top 28) 5)) := ⟨rfl, rfl, rfl, by decide +kernel, rfl, by decide +kernel, by decide +kernel⟩
theorem ok_Dial_lacked (T : Prog K mg) : FnOk P w K mg base CX0 1 T.Dial.lacked.f T.Dial.lacked.fd ["self"] (spLacked T.Dial.C) := by
  refine T.Dial.lacked.fn.ok sc_Dial_lacked (fun vs H Q E h => ?len) (fun cdv A outer s H vs Q E hr h => ?body)
  case len =>
    obtain ⟨p, a, b, s, rfl, _⟩ := h
    rfl
  case body =>
    have hu := hu_of hr
    obtain ⟨p, a, b, s, rfl, D, k⟩ := h
    refine ⟨_, PSs.nox (pss_one (ps_ret (pe_fld (pv 0) rfl))), ?_⟩
    obtain ⟨dx, hp⟩ := D.ob
    exact ⟨_, rfl, p, _, dx, _, _, rfl, hp, T.Dial.cl, T.Dial.n_lacks, rfl, k⟩
theorem sc_law_told : FnScope ["_law_case", "_law_rooms", "_law_row_here", "_law_rule", "_law_dial", "_law_page", "_law_found"] ["_law_case"] (defScope (top 55)) := ⟨rfl, rfl, rfl, by decide +kernel, rfl, by decide +kernel, by decide +kernel⟩
theorem ok_law_told (T : Prog K mg) {es : Array DictEntry} {nd : Nat} (TB_RULES : KDict K w T.a_RULES es nd) : FnOk P w K mg base CX0 8 T.law_told.f T.law_told.fd ["_law_case"] (spCase K) := by
  have G_Dial := ok_Dial_init (P := P) (w := w) (base := base) T
  have G_ask := ok_Dial_ask (P := P) (w := w) (base := base) T
  have G_told := ok_told (P := P) (w := w) (base := base) T
  have G_lacking := ok_lacking (P := P) (w := w) (base := base) T TB_RULES
  have G_best := ok_best (P := P) (w := w) (base := base) T
  have G_spells := ok_spells (P := P) (w := w) (base := base) T
  have G_stretches := ok_stretches (P := P) (w := w) (base := base) T
  have G_lacking_in := ok_lacking_in (P := P) (w := w) (base := base) T TB_RULES
  have G_worst := ok_worst (P := P) (w := w) (base := base) T TB_RULES
  have G_pages := ok_Dial_pages (P := P) (w := w) (base := base) T
  have G_looked := ok_Dial_looked (P := P) (w := w) (base := base) T
  have G_shown := ok_shown (P := P) (w := w) (base := base) T
  have G_points := ok_Dial_points (P := P) (w := w) (base := base) T
  have G_lacked := ok_Dial_lacked (P := P) (w := w) (base := base) T
  have G_paper := ok_paper (P := P) (w := w) (base := base) T
  refine T.law_told.fn.ok sc_law_told (fun vs H Q E h => ?len) (fun cdv A outer s H vs Q E hr h => ?body)
  case len =>
    obtain ⟨ct, n, r, row, rule, rfl, _⟩ := h
    rfl
  case body =>
    have hr_ask : Room 3 _ := hr.mono (by decide)
    have hr_told : Room 4 _ := hr.mono (by decide)
    have hr_lacking : Room 6 _ := hr.mono (by decide)
    have hr_best : Room 3 _ := hr.mono (by decide)
    have hr_spells : Room 3 _ := hr.mono (by decide)
    have hr_stretches : Room 3 _ := hr.mono (by decide)
    have hr_lacking_in : Room 7 _ := hr.mono (by decide)
    have hr_worst : Room 7 _ := hr.mono (by decide)
    have hr_pages : Room 1 _ := hr.mono (by decide)
    have hr_looked : Room 1 _ := hr.mono (by decide)
    have hr_shown : Room 3 _ := hr.mono (by decide)
    have hr_points : Room 1 _ := hr.mono (by decide)
    have hr_lacked : Room 1 _ := hr.mono (by decide)
    have hr_paper : Room 3 _ := hr.mono (by decide)
    have hu := hu_of hr
    obtain ⟨ct, n, r, row, rule, rfl, hct, n1, n8, hr0, hR, k⟩ := h
    refine ⟨_, PSs.nox (pss_cons (ps_asg (pv 0) (pg_tup rfl (pgs_cons (pg_name (i := 1) sc_law_told.nd rfl (Or.inl rfl)) (pgs_cons (pg_name (i := 2) sc_law_told.nd rfl (Or.inl rfl)) (pgs_cons (pg_name (i := 3) sc_law_told.nd rfl (Or.inl rfl)) pgs_nil)))))
        (pss_cons (ps_set (i := 4) sc_law_told.nd rfl (Or.inl rfl) (pe_make T.Dial.mkr G_Dial (hr.mono (by decide)) (by rfl) T.Dial.g T.Dial.bI .nil pass0 (pa_cons (pv 1) pa_nil)))
        (pss_cons (ps_for PassesOwn.never rfl (pi_list (pe_slice sl_list (pv 2) po_none (po_some pe_int))) (pg_name (i := 5) sc_law_told.nd rfl (Or.inl rfl))
        (pss_one (ps_expr (pe_meth (pv 4) T.Dial.cl T.Dial.ask.me G_ask hr_ask T.Dial.ask.bd .nil pass0 (pa_cons (pv 5) pa_nil)))))
        (pss_cons (ps_set (i := 6) sc_law_told.nd rfl (Or.inl rfl) (pe_lst (pa_cons (pe_call G_told hr_told (by rfl) T.told.g T.told.fn.kp T.told.bd .nil pass0 (pa_cons (pv 1) (pa_cons (pv 2) pa_nil))) (pa_cons (pe_call G_lacking hr_lacking (by rfl) T.lacking.g T.lacking.fn.kp T.lacking.bd .nil pass0 (pa_cons (pv 1) (pa_cons (pv 2) (pa_cons (pv 3) pa_nil)))) (pa_cons (pe_call G_best hr_best (by rfl) T.best.g T.best.fn.kp T.best.bd .nil pass0 (pa_cons (pv 1) (pa_cons (pv 2) pa_nil))) (pa_cons (pe_call G_spells hr_spells (by rfl) T.spells.g T.spells.fn.kp T.spells.bd .nil pass0 (pa_cons (pv 2) pa_nil)) (pa_cons (pe_call G_stretches hr_stretches (by rfl) T.stretches.g T.stretches.fn.kp T.stretches.bd .nil pass0 (pa_cons (pv 1) (pa_cons (pv 2) pa_nil))) pa_nil)))))))
        (pss_cons (ps_set (i := 6) sc_law_told.nd rfl (Or.inl rfl) (pe_op op_cat (pv 6) (pe_lst (pa_cons (pe_call G_lacking_in hr_lacking_in (by rfl) T.lacking_in.g T.lacking_in.fn.kp T.lacking_in.bd .nil pass0 (pa_cons (pv 1) (pa_cons (pv 2) (pa_cons (pv 3) pa_nil)))) (pa_cons (pe_call G_worst hr_worst (by rfl) T.worst.g T.worst.fn.kp T.worst.bd .nil pass0 (pa_cons (pv 1) (pa_cons pe_int (pa_cons pe_int (pa_cons (pv 3) pa_nil))))) (pa_cons (pe_meth0 (pv 4) T.Dial.cl T.Dial.pages.me G_pages hr_pages T.Dial.pages.bd .nil pass0) (pa_cons (pe_meth0 (pv 4) T.Dial.cl T.Dial.looked.me G_looked hr_looked T.Dial.looked.bd .nil pass0) pa_nil)))))))
        (pss_one (ps_ret (pe_op op_cat (pv 6) (pe_lst (pa_cons (pe_call G_shown hr_shown (by rfl) T.shown.g T.shown.fn.kp T.shown.bd .nil pass0 (pa_cons (pv 1) (pa_cons (pv 2) (pa_cons (pe_call G_paper hr_paper (by rfl) T.paper.g T.paper.fn.kp T.paper.bd .nil pass0 (pa_cons (pv 1) (pa_cons (pv 2) pa_nil))) pa_nil)))) (pa_cons (pe_meth0 (pv 4) T.Dial.cl T.Dial.points.me G_points hr_points T.Dial.points.bd .nil pass0) (pa_cons (pe_meth0 (pv 4) T.Dial.cl T.Dial.lacked.me G_lacked hr_lacked T.Dial.lacked.bd .nil pass0) pa_nil)))))))))))), ?_⟩
    have hR1 := hR.1
    have hn0 : 0 < n.toNat := by omega
    have W0 : (DS.new n.toNat).WF n.toNat := DS.new_wf hn0
    refine ⟨_, rfl, ct, _, rfl, SqT.of hct, rfl, _, _, rfl, _, _, rfl, _, _, rfl, rfl, ?_⟩
    -- dial
    refine ⟨_, rfl, fun p dx np ndx nex => ?_⟩
    refine ⟨p, dx, n, rfl, upd_same, n1, n8, fun a b H1 ha hb D1 k1 => ⟨rfl, ?_⟩⟩
    have s0 : Same H (upd (upd H dx (.own p)) p (.ins T.Dial.C dx [])) := fun c o e => by
      rw [upd_ne (ne_fresh e np), upd_ne (ne_fresh e ndx)]
      exact e
    have s1 : Same H H1 := fun c o e => k1 c o (s0 c o e) (by simpa using ne_fresh e np)
    have aH : H a = none := Same.back s0 ha
    have bH : H b = none := Same.back s0 hb
    -- row[:9]
    refine ⟨_, rfl, _, rfl, r, _, rfl, SqL.of (s1 _ _ hr0), fun m hm => ?_⟩
    rw [cut9]
    have sm := Same.new (o := .lst (il (row.take 9))) hm
    have r9 : ∀ x ∈ row.take 9, 0 ≤ x ∧ x < 12 := fun x hx => hR.2 x (List.mem_of_mem_take hx)
    have l9 : (row.take 9).length ≤ 9 := by rw [List.length_take]; omega
    have mp : m ≠ p := by obtain ⟨_, q⟩ := D1.ob; exact Ne.symm (ne_fresh q hm)
    have ma : m ≠ a := Ne.symm (ne_fresh D1.he hm)
    have mb : m ≠ b := Ne.symm (ne_fresh D1.ma hm)
    obtain ⟨r9l, hr9⟩ : ∃ l, l = row.take 9 := ⟨_, rfl⟩
    rw [← hr9] at sm r9 l9 ⊢
    refine ⟨m, rfl, ⟨_, SqL.of upd_same⟩, for_list (K := K) (a := m) (xs := il r9l) (fun i σ H' => (∃ v5 v6, σ = [some (.ref ct), some (.int n), some (.ref r), some (.str rule.s), some (.ref p), v5, v6]) ∧ DialIs T.Dial.C H' p a b (afterL (DS.new n.toNat) (r9l.take i)) ∧ Same H H' ∧ H' m = some (.lst (il r9l))) ⟨⟨_, _, rfl⟩, D1.same sm, s1.trans sm, upd_same⟩ (fun i σ H' _ h => SqL.of h.2.2.2) ?_ ?_⟩
    · rintro i x σ H2 hx ⟨⟨v5, v6, rfl⟩, D2, s2, hm2⟩
      obtain ⟨pg, hpg, rfl⟩ := il_get hx
      have hpl := r9 pg (List.mem_of_getElem? hpg)
      obtain ⟨dx2, hp2⟩ := D2.ob
      refine ⟨_, rfl, p, dx2, _, rfl, hp2, rfl, _, rfl, p, a, b, _, n.toNat, pg, rfl, D2, afterL_wf W0 _, by omega, hpl.1, hpl.2, fun t l H3 ht hl tl ht3 hl3 D3 k3 => ?_⟩
      rw [take_snoc hpg, afterL_snoc]
      refine ⟨⟨_, _, rfl⟩, D3, fun c o e => k3 _ _ (s2 _ _ e) ?_, k3 _ _ hm2 (by simp [mp, ma, mb])⟩
      have z1 := ne_fresh e (Same.back s0 (show (upd (upd H dx (.own p)) p (.ins T.Dial.C dx [])) a = none from ha))
      have z2 := ne_fresh e bH
      have z3 : c ≠ p := ne_fresh e np
      simp [z1, z2, z3]
    · rintro σ H2 ⟨⟨v5, v6, rfl⟩, D2, s2, hm2⟩
      rw [List.take_of_length_le (by rw [il_len]; exact Nat.le_refl _)] at D2
      obtain ⟨sD, hsD⟩ : ∃ s, s = afterL (DS.new n.toNat) r9l := ⟨_, rfl⟩
      have WD : sD.WF n.toNat := by rw [hsD]; exact afterL_wf W0 _
      rw [← hsD] at D2
      have fsh : ∀ {H' : Hp}, Same H H' → ∀ c, Fr H' c → Fr H c := fun s c q => Same.back s q
      -- told
      refine ⟨_, rfl, _, rfl, n, r, row, rfl, n1, n8, SqL.of (s2 _ _ hr0), hR, fun d3 as3 H3 hd3 s3 e3 t3 => ?_⟩
      have S3 := s2.trans s3
      have f3 : FD (Fr H2) H3 (.ref d3) (pdTs (tellsL (DS.new n.toNat) row)) := .lst hd3 e3 (fd_tells t3.len fun i a x ha hx => by
        obtain ⟨_, _, l, h2, _, _, h4, h5⟩ := t3.at_ i a x ha hx
        exact ⟨l, h2, h4, h5⟩)
      have f3 := f3.same (Same.refl H3) (fsh s2)
      -- lacking
      refine ⟨_, rfl, _, rfl, _, rfl, n, r, row, rule, rfl, n1, n8, SqL.of (S3 _ _ hr0), hR, fun d4 H4 hd4 s4 e4 => ?_⟩
      have S4 := S3.trans s4
      have f4 : FD (Fr H3) H4 (.ref d4) (pdN (lacksR n.toNat rule row)) := .lst hd4 e4 (fd_nl _)
      have f4 := f4.same (Same.refl H4) (fsh S3)
      -- best
      refine ⟨_, rfl, _, rfl, n, r, row, rfl, n1, n8, SqL.of (S4 _ _ hr0), hR, fun t5 l5 g5 as5 H5 ht5 hl5 hg5 lg5 s5 e51 e52 e53 e54 => ?_⟩
      have S5 := S4.trans s5
      have f5 : FD (Fr H4) H5 (.ref t5) (bestK n.toNat row) := .tup e51 (.cons (.lst hl5 e52 (fd_nl _)) (.cons (.lst hg5 e53 (fd_gone e54)) .nil))
      have f5 := f5.same (Same.refl H5) (fsh S4)
      -- spells
      refine ⟨_, rfl, r, row, rfl, SqL.of (S5 _ _ hr0), hR, fun d6 as6 H6 hd6 s6 e6 p6 => ?_⟩
      have S6 := S5.trans s6
      have f6 : FD (Fr H5) H6 (.ref d6) (pds (spellsL row)) := .lst hd6 e6 (fd_pairs p6)
      have f6 := f6.same (Same.refl H6) (fsh S5)
      -- stretches
      refine ⟨_, rfl, _, rfl, n, r, row, rfl, n1, n8, SqL.of (S6 _ _ hr0), hR, fun d7 as7 H7 hd7 s7 e7 p7 => ?_⟩
      have S7 := S6.trans s7
      have f7 : FD (Fr H6) H7 (.ref d7) (pds (parts n.toNat row)) := .lst hd7 e7 (fd_pairs p7)
      have f7 := f7.same (Same.refl H7) (fsh S6)
      refine ⟨szd rfl, fun l8 hl8 => ?_⟩
      have s8 := Same.new (o := .lst [V.ref d3, V.ref d4, V.ref t5, V.ref d6, V.ref d7]) hl8
      have S8 := S7.trans s8
      have e8 : upd H7 l8 (.lst [V.ref d3, V.ref d4, V.ref t5, V.ref d6, V.ref d7]) l8 = some (.lst [V.ref d3, V.ref d4, V.ref t5, V.ref d6, V.ref d7]) := upd_same
      generalize upd H7 l8 (.lst [V.ref d3, V.ref d4, V.ref t5, V.ref d6, V.ref d7]) = H8 at *
      -- lacking_in
      refine ⟨_, rfl, _, rfl, _, rfl, _, rfl, n, r, row, rule, rfl, n1, n8, SqL.of (S8 _ _ hr0), hR, fun d9 H9 hd9 s9 e9 => ?_⟩
      have S9 := S8.trans s9
      have f9 : FD (Fr H8) H9 (.ref d9) (pdN (countIn (lacksR n.toNat rule row) (parts n.toNat row))) := .lst hd9 e9 (fd_nl _)
      have f9 := f9.same (Same.refl H9) (fsh S8)
      -- worst
      refine ⟨_, rfl, _, rfl, n, 2, 4, rule, rfl, n1, n8, ⟨by decide, by decide, by decide, fun j hj => Nat.le_trans (Nat.pow_le_pow_right (by decide) hj) (by decide)⟩, fun t10 a10 m10 row10 H10 ht10 ha10 ta10 s10 e101 e102 w10 => ?_⟩
      have S10 := S9.trans s10
      have f10 : FD (Fr H9) H10 (.ref t10) (worstK n.toNat rule) := by
        obtain ⟨q1, q2⟩ := wD_is w10
        unfold worstK
        rw [q1, q2]
        exact .tup e101 (.cons (.int _) (.cons (.lst ha10 e102 (fd_il _)) .nil))
      have f10 := f10.same (Same.refl H10) (fsh S9)
      -- pages, looked
      have D10 := (((((((D2.same s3).same s4).same s5).same s6).same s7).same s8).same s9).same s10
      obtain ⟨dx10, hp10⟩ := D10.ob
      refine ⟨_, rfl, p, dx10, _, rfl, hp10, rfl, p, a, b, sD, rfl, D10, fun l11 hl11 => ?_⟩
      have s11 := Same.new (o := .lst (HL sD.held)) hl11
      have S11 := S10.trans s11
      have f11 : FD (Fr H10) (upd H10 l11 (.lst (HL sD.held))) (.ref l11) (.list (sD.held.map pdO)) := .lst hl11 upd_same (fd_hl _)
      have f11 := f11.same (Same.refl _) (fsh S10)
      have D11 := D10.same s11
      obtain ⟨dx11, hp11⟩ := D11.ob
      refine ⟨_, rfl, p, dx11, _, rfl, hp11, rfl, p, a, b, sD, rfl, D11, fun l12 hl12 => ?_⟩
      have s12 := Same.new (o := .lst (BL sD.marks)) hl12
      have S12 := S11.trans s12
      have f12 : FD (Fr (upd H10 l11 (.lst (HL sD.held)))) (upd (upd H10 l11 (.lst (HL sD.held))) l12 (.lst (BL sD.marks))) (.ref l12) (.list (sD.marks.map PyData.bool)) := .lst hl12 upd_same (fd_bl _)
      have f12 := f12.same (Same.refl _) (fsh S11)
      have f11 := f11.same s12 (fun c q => q)
      have D12 := D11.same s12
      generalize upd (upd H10 l11 (.lst (HL sD.held))) l12 (.lst (BL sD.marks)) = H12 at *
      refine ⟨szd rfl, fun l13 hl13 => ?_⟩
      have s13 := Same.new (o := .lst [V.ref d9, V.ref t10, V.ref l11, V.ref l12]) hl13
      have S13 := S12.trans s13
      have e13 : upd H12 l13 (.lst [V.ref d9, V.ref t10, V.ref l11, V.ref l12]) l13 = some (.lst [V.ref d9, V.ref t10, V.ref l11, V.ref l12]) := upd_same
      have D13 := D12.same s13
      generalize upd H12 l13 (.lst [V.ref d9, V.ref t10, V.ref l11, V.ref l12]) = H13 at *
      refine ⟨l8, l13, _, _, rfl, rfl, s13 _ _ (s12 _ _ (s11 _ _ (s10 _ _ (s9 _ _ e8)))), e13, sz (by simp), fun l14 hl14 => ?_⟩
      have s14 := Same.new (o := .lst ([V.ref d3, V.ref d4, V.ref t5, V.ref d6, V.ref d7] ++ [V.ref d9, V.ref t10, V.ref l11, V.ref l12])) hl14
      have S14 := S13.trans s14
      have e14 : upd H13 l14 (.lst ([V.ref d3, V.ref d4, V.ref t5, V.ref d6, V.ref d7] ++ [V.ref d9, V.ref t10, V.ref l11, V.ref l12])) l14 = some (.lst ([V.ref d3, V.ref d4, V.ref t5, V.ref d6, V.ref d7] ++ [V.ref d9, V.ref t10, V.ref l11, V.ref l12])) := upd_same
      have D14 := D13.same s14
      generalize upd H13 l14 (.lst ([V.ref d3, V.ref d4, V.ref t5, V.ref d6, V.ref d7] ++ [V.ref d9, V.ref t10, V.ref l11, V.ref l12])) = H14 at *
      -- shown(rooms, row, paper(rooms, row))
      refine ⟨_, rfl, _, rfl, _, rfl, _, rfl, _, rfl, n, r, row, rfl, n1, n8, SqL.of (S14 _ _ hr0), hR, fun pa ps H15 hpa s15 hpa15 hP hsh => ?_⟩
      have S15 := S14.trans s15
      refine ⟨n, r, pa, row, ps, rfl, n1, n8, SqL.of (S15 _ _ hr0), hR, SqL.of hpa15, hP, fun H16 s16 => ?_⟩
      have S16 := S15.trans s16
      rw [hsh]
      have D16 := (D14.same s15).same s16
      obtain ⟨dx16, hp16⟩ := D16.ob
      refine ⟨_, rfl, p, dx16, _, rfl, hp16, rfl, p, a, b, sD, rfl, D16, ?_⟩
      refine ⟨_, rfl, p, dx16, _, rfl, hp16, rfl, p, a, b, sD, rfl, D16, ?_⟩
      refine ⟨szd rfl, fun l17 hl17 => ?_⟩
      have s17 := Same.new (o := .lst [V.int ((bestS n.toNat row).lacks.length : Nat), V.int (sD.hand : Nat), V.int (sD.lacks : Nat)]) hl17
      refine ⟨l14, l17, _, _, rfl, rfl, s17 _ _ (s16 _ _ (s15 _ _ e14)), upd_same, sz (by simp), fun l18 hl18 => ?_⟩
      have s18 := Same.new (o := .lst (([V.ref d3, V.ref d4, V.ref t5, V.ref d6, V.ref d7] ++ [V.ref d9, V.ref t10, V.ref l11, V.ref l12]) ++ [V.int ((bestS n.toNat row).lacks.length : Nat), V.int (sD.hand : Nat), V.int (sD.lacks : Nat)])) hl18
      have S17 := S16.trans s17
      refine k l18 _ (S17.trans s18) ?_
      unfold toldD
      rw [← hr9, ← hsD]
      have z14 := (((s14.trans s15).trans s16).trans s17).trans s18
      have z12 := s13.trans z14
      have z10 := (s11.trans s12).trans z12
      have z9 := s10.trans z10
      have z7 := (s8.trans s9).trans z9
      have id0 : ∀ c, Fr H c → Fr H c := fun c q => q
      have g3 := f3.same ((((s4.trans s5).trans s6).trans s7).trans z7) id0
      have g4 := f4.same (((s5.trans s6).trans s7).trans z7) id0
      have g5 := f5.same ((s6.trans s7).trans z7) id0
      have g6 := f6.same (s7.trans z7) id0
      have g7 := f7.same z7 id0
      have g9 := f9.same z9 id0
      have g10 := f10.same z10 id0
      have g11 := f11.same z12 id0
      have g12 := f12.same z12 id0
      exact .lst (Same.back S17 hl18) upd_same (.cons g3 (.cons g4 (.cons g5 (.cons g6 (.cons g7 (.cons g9 (.cons g10 (.cons g11 (.cons g12 (.cons (.int _) (.cons (.int _) (.cons (.int _) .nil))))))))))))
end
end CK

/-! What is told of a case is not too large. -/
namespace CK
open PySem PySem.Spec PyProof.Rows L2 CKD
structure PD (k c : Nat) (d : PyData) : Prop where
  dep : d.depth ≤ k
  sm : smallD d
  cl : cl d ≤ c
  lay : d.canLay0 = true
theorem PD.mono {k c k' c' : Nat} {d : PyData} (h : PD k c d) (h1 : k ≤ k') (h2 : c ≤ c') : PD k' c' d := ⟨Nat.le_trans h.dep h1, h.sm, Nat.le_trans h.cl h2, h.lay⟩
theorem small_allP {ds : List PyData} (h : ∀ d ∈ ds, smallD d) : smallAll ds := by
  induction ds with
  | nil => trivial
  | cons a r ih => exact ⟨h a (by simp), ih fun d hd => h d (by simp [hd])⟩
theorem cls_bnd {ds : List PyData} {c : Nat} (h : ∀ d ∈ ds, cl d ≤ c) : cls ds ≤ ds.length * c := by
  induction ds with
  | nil => exact Nat.zero_le _
  | cons a r ih =>
    have h1 := h a (by simp)
    have h2 := ih fun d hd => h d (by simp [hd])
    show cl a + cls r ≤ (r.length + 1) * c
    rw [Nat.succ_mul]
    omega
theorem PD.lst {k c : Nat} {ds : List PyData} (h : ∀ d ∈ ds, PD k c d) (hl : ds.length ≤ 100) : PD (k + 1) (1 + 100 * c) (.list ds) := by
  refine ⟨Nat.succ_le_succ (dep_most fun d hd => (h d hd).dep), ⟨by omega, small_allP fun d hd => (h d hd).sm⟩, ?_, lay_all fun d hd => (h d hd).lay⟩
  have := cls_bnd fun d hd => (h d hd).cl
  have := Nat.mul_le_mul_right c hl
  show 1 + cls ds ≤ _
  omega
theorem PD.tup {k c : Nat} {ds : List PyData} (h : ∀ d ∈ ds, PD k c d) (hl : ds.length ≤ 3) : PD (k + 1) (3 * c) (.tuple ds) := by
  refine ⟨Nat.succ_le_succ (dep_most fun d hd => (h d hd).dep), ⟨by omega, small_allP fun d hd => (h d hd).sm⟩, ?_, lay_all fun d hd => (h d hd).lay⟩
  have := cls_bnd fun d hd => (h d hd).cl
  have := Nat.mul_le_mul_right c hl
  show cls ds ≤ _
  omega
theorem PD.int (i : Int) : PD 0 0 (.int i) := ⟨Nat.le_refl _, trivial, Nat.le_refl _, rfl⟩
theorem PD.bl (i : Bool) : PD 0 0 (.bool i) := ⟨Nat.le_refl _, trivial, Nat.le_refl _, rfl⟩
theorem PD.o (o : Option Int) : PD 0 0 (pdO o) := by
  cases o with
  | none => exact ⟨Nat.le_refl _, trivial, Nat.le_refl _, rfl⟩
  | some p => exact .int p
theorem PD.map {α : Type} {f : α → PyData} {xs : List α} {k c : Nat} (h : ∀ x, x ∈ xs → PD k c (f x)) (hl : xs.length ≤ 100) : PD (k + 1) (1 + 100 * c) (.list (xs.map f)) := PD.lst (fun d hd => by
  obtain ⟨x, hx, rfl⟩ := List.mem_map.mp hd
  exact h x hx) (by rw [List.length_map]; exact hl)
theorem PD.nat {l : List Nat} (hl : l.length ≤ 100) : PD 1 1 (pdN l) := PD.map (fun x _ => .int _) hl
theorem wD_len (n : Nat) (rule : Rl) : (wD n rule).2.length ≤ 4 := by
  by_cases h : ∃ x : Int × List Int, IsWorst (moreL n rule) (allRows 2 4) x.1 x.2
  · obtain ⟨x, hx⟩ := h
    rw [(wD_is hx).2]
    obtain ⟨j, h1, _⟩ := hx.ex
    have := (rows_ok 2 4 _ (List.mem_of_getElem? h1)).1
    omega
  · have e : wD n rule = (0, []) := by
      unfold wD
      rw [dif_neg h]
    rw [e]
    exact Nat.zero_le _
theorem toldD_pd {n : Nat} (hn : 0 < n) (n8 : n ≤ 8) {row : List Int} (hl : row.length ≤ 100) (rule : Rl) : PD 4 9000 (toldD n row rule) := by
  have W0 : (DS.new n).WF n := DS.new_wf hn
  have WD : (afterL (DS.new n) (row.take 9)).WF n := afterL_wf W0 _
  have ⟨b1, b2⟩ := bestS_le hn row
  have hw := wD_len n rule
  have q1 := lacksR_le n rule row
  have q2 := parts_le n row
  have q3 := spellsL_le row
  have c1 : PD 3 101 (pdTs (tellsL (DS.new n) row)) := (PD.map (k := 2) (c := 3) (fun x hx => by
    have hx8 := tellsK_small n8 _ row W0 x hx
    refine PD.tup (k := 1) (c := 1) (fun d hd => ?_) (Nat.le_refl _)
    simp only [List.mem_cons, List.not_mem_nil, or_false] at hd
    rcases hd with rfl | rfl | rfl
    · exact (PD.bl _).mono (by omega) (by omega)
    · exact (PD.o _).mono (by omega) (by omega)
    · exact PD.nat (by omega)) (by rw [tellsL_len]; exact hl)) |> fun h => ⟨h.dep, h.sm, by
      have e : cl (pdTs (tellsL (DS.new n) row)) = 1 + cls ((tellsL (DS.new n) row).map pdT) := rfl
      have := cls_bnd (ds := (tellsL (DS.new n) row).map pdT) (c := 1) fun d hd => by
        obtain ⟨x, hx, rfl⟩ := List.mem_map.mp hd
        have hx8 := tellsK_small n8 _ row W0 x hx
        have a1 := (PD.nat (l := x.2.2) (by omega)).cl
        have a2 := (PD.o x.2.1).cl
        show 0 + (cl (pdO x.2.1) + (cl (pdN x.2.2) + 0)) ≤ 1
        omega
      rw [List.length_map, tellsL_len] at this
      rw [e]
      omega, h.lay⟩
  have cp : ∀ {xs : List (Nat × Nat)}, xs.length ≤ 100 → PD 2 1 (pds xs) := fun h => PD.map (k := 1) (c := 0) (fun x _ => PD.tup (k := 0) (c := 0) (fun d hd => by
    simp only [List.mem_cons, List.not_mem_nil, or_false] at hd
    rcases hd with rfl | rfl <;> exact .int _) (show 2 ≤ 3 by decide)) h
  have cg : ∀ {xs : List (Nat × Int)}, xs.length ≤ 100 → PD 2 1 (gds xs) := fun h => PD.map (k := 1) (c := 0) (fun x _ => PD.tup (k := 0) (c := 0) (fun d hd => by
    simp only [List.mem_cons, List.not_mem_nil, or_false] at hd
    rcases hd with rfl | rfl <;> exact .int _) (show 2 ≤ 3 by decide)) h
  have cb : PD 3 3 (bestK n row) := PD.tup (k := 2) (c := 1) (fun d hd => by
    simp only [List.mem_cons, List.not_mem_nil, or_false] at hd
    rcases hd with rfl | rfl
    · exact (PD.nat (by omega)).mono (by omega) (Nat.le_refl _)
    · exact cg (by omega)) (show 2 ≤ 3 by decide)
  have cw : PD 2 3 (worstK n rule) := PD.tup (k := 1) (c := 1) (fun d hd => by
    simp only [List.mem_cons, List.not_mem_nil, or_false] at hd
    rcases hd with rfl | rfl
    · exact (PD.int _).mono (by omega) (by omega)
    · exact PD.map (k := 0) (c := 0) (fun x _ => .int x) (by omega)) (show 2 ≤ 3 by decide)
  have all : ∀ d ∈ ([pdTs (tellsL (DS.new n) row), pdN (lacksR n rule row), bestK n row, pds (spellsL row), pds (parts n row)]
    ++ [pdN (countIn (lacksR n rule row) (parts n row)), worstK n rule, .list ((afterL (DS.new n) (row.take 9)).held.map pdO), .list ((afterL (DS.new n) (row.take 9)).marks.map PyData.bool)]
    ++ [.int ((bestS n row).lacks.length : Nat), .int ((afterL (DS.new n) (row.take 9)).hand : Nat), .int ((afterL (DS.new n) (row.take 9)).lacks : Nat)] : List PyData), PD 3 101 d := by
    intro d hd
    simp only [List.mem_append, List.mem_cons, List.not_mem_nil, or_false] at hd
    rcases hd with ((rfl | rfl | rfl | rfl | rfl) | rfl | rfl | rfl | rfl) | rfl | rfl | rfl
    · exact c1
    · exact (PD.nat (by omega)).mono (by omega) (by omega)
    · exact cb.mono (by omega) (by omega)
    · exact (cp (by omega)).mono (by omega) (by omega)
    · exact (cp (by omega)).mono (by omega) (by omega)
    · exact (PD.nat (by unfold countIn; rw [List.length_map]; omega)).mono (by omega) (by omega)
    · exact cw.mono (by omega) (by omega)
    · exact (PD.map (k := 0) (c := 0) (fun x _ => .o x) (by rw [WD.h]; omega)).mono (by omega) (by omega)
    · exact (PD.map (k := 0) (c := 0) (fun x _ => .bl x) (by rw [WD.m]; omega)).mono (by omega) (by omega)
    · exact (PD.int _).mono (by omega) (by omega)
    · exact (PD.int _).mono (by omega) (by omega)
    · exact (PD.int _).mono (by omega) (by omega)
  refine ⟨Nat.succ_le_succ (dep_most fun d hd => (all d hd).dep), ⟨by show _ ≤ 1000; simp, small_allP fun d hd => (all d hd).sm⟩, ?_, lay_all fun d hd => (all d hd).lay⟩
  have := cls_bnd fun d hd => (all d hd).cl
  simp only [List.length_append, List.length_cons, List.length_nil] at this
  show 1 + cls _ ≤ 9000
  omega
theorem PD.shaped {c : Nat} {d : PyData} (h : PD 4 c d) : SeqAt.shaped d = true := by
  unfold SeqAt.shaped
  rw [Bool.and_eq_true]
  have := h.dep
  exact ⟨h.lay, decide_eq_true (by omega)⟩
end CK

/-! The law of what is asked again. -/
namespace CK
open PySem PySem.Spec PyProof.Rows L2 CKD
theorem rl_menu3 {r : Int} (h0 : 0 ≤ r) (h1 : r < 3) : ∃ rule : Rl, atI [V.str "hand", V.str "unseen", V.str "first"] r = some (V.str rule.s) := by
  have h : r = 0 ∨ r = 1 ∨ r = 2 := by omega
  rcases h with rfl | rfl | rfl
  · exact ⟨.hand, atI_nat (j := 0) rfl⟩
  · exact ⟨.unseen, atI_nat (j := 1) rfl⟩
  · exact ⟨.first, atI_nat (j := 2) rfl⟩
/-- a case: its tuple's place, rooms, the row's place, the row, the rule -/
structure KC where
  ct : Addr
  n : Int
  r : Addr
  row : List Int
  rule : Rl
structure KC.At (H : Hp) (x : KC) : Prop where
  t : H x.ct = some (.tup [.int x.n, .ref x.r, .str x.rule.s])
  r : H x.r = some (.lst (il x.row))
  n1 : 1 ≤ x.n
  n8 : x.n ≤ 8
  ok : RowOk x.row
theorem KC.At.keep {H H' : Hp} {x : KC} (h : x.At H) (h1 : ∀ o, H x.ct = some o → (∃ us, o = .tup us) → H' x.ct = some o) (h2 : ∀ o, H x.r = some o → H' x.r = some o) : x.At H' := ⟨h1 _ h.t ⟨_, rfl⟩, h2 _ h.r, h.n1, h.n8, h.ok⟩
theorem KC.At.same {H H' : Hp} {x : KC} (h : x.At H) (s : Same H H') : x.At H' := h.keep (fun o e _ => s _ _ e) (fun o e => s _ _ e)
noncomputable def KC.d (x : KC) : PyData := toldD x.n.toNat x.row x.rule
theorem KC.At.pd {H : Hp} {x : KC} (h : x.At H) : PD 4 9000 x.d := by
  have h1 := h.n1
  have h2 := h.n8
  exact toldD_pd (by omega) (by omega) h.ok.1 x.rule
/-- one's own set of places: of lists that stand -/
structure Own (H : Hp) (S : Addr → Prop) (x : V) (d : PyData) : Prop where
  fd : FD S H x d
  up : ∀ c, S c → H c ≠ none
theorem Own.keep {H H' : Hp} {S : Addr → Prop} {x : V} {d : PyData} (h : Own H S x d) (k : ∀ c o, H c = some o → (S c ∨ ∃ us, o = .tup us) → H' c = some o) : Own H' S x d := by
  refine ⟨h.fd.keep k (fun c o _ q => q), fun c hc => ?_⟩
  cases e : H c with
  | none => exact absurd e (h.up c hc)
  | some o => rw [k c o e (.inl hc)]; intro z; cases z
theorem Own.same {H H' : Hp} {S : Addr → Prop} {x : V} {d : PyData} (h : Own H S x d) (s : Same H H') : Own H' S x d := h.keep fun c o e _ => s _ _ e
theorem own_born {H H' : Hp} {x : V} {d : PyData} (h : FD (Fr H) H' x d) : Own H' (fun c => H c = none ∧ H' c ≠ none) x d := ⟨h.keep (fun c o e _ => e) (fun c o e q => ⟨q, by rw [e]; intro z; cases z⟩), fun c q => q.2⟩
structure Dis (x0 x1 : KC) (C E KP m : Addr) : Prop where
  ce : C ≠ E
  ke : KP ≠ E
  me : m ≠ E
  r0 : x0.r ≠ E
  r1 : x1.r ≠ E
/-- the cases, what was told of them, the copies -/
structure LS (S0 S1 T0 T1 : Addr → Prop) (x0 x1 : KC) (C E KP m e0 e1 : Addr) (y0 y1 : V) (H : Hp) : Prop where
  hC : H C = some (.lst [V.ref x0.ct, V.ref x1.ct])
  hE : H E = some (.lst [V.ref e0, V.ref e1])
  hK : H KP = some (.lst [y0, y1])
  hm : H m = some (.lst [V.int 0, V.int 1, V.int 0])
  c0 : x0.At H
  c1 : x1.At H
  f0 : Own H S0 (.ref e0) x0.d
  f1 : Own H S1 (.ref e1) x1.d
  t0 : Own H T0 y0 x0.d
  t1 : Own H T1 y1 x1.d
  b0 : ∀ c, c ∈ [C, E, KP, x0.r, x1.r, m] → ¬ S0 c
  b1 : ∀ c, c ∈ [C, E, KP, x0.r, x1.r, m] → ¬ S1 c
  s01 : ∀ c, S0 c → ¬ S1 c
  st00 : ∀ c, S0 c → ¬ T0 c
  st01 : ∀ c, S0 c → ¬ T1 c
  st10 : ∀ c, S1 c → ¬ T0 c
  st11 : ∀ c, S1 c → ¬ T1 c
  tE0 : ¬ T0 E
  tE1 : ¬ T1 E
section
variable {P : Program} {w : World} {K : PySem.W.Frag} {mg : Str → Option Value} {base : Heap}
theorem sc_law : FnScope ["_law_script", "_law_box", "_law_cases", "_law_turn", "_law_rule", "_law_every", "_law_kept_here", "_law_k", "_law_rooms", "_law_row_here", "_law_case", "_law_one"] ["_law_script"] (defScope (top 58)) := ⟨rfl, rfl, rfl, by decide +kernel, rfl, by decide +kernel, by decide +kernel⟩
theorem ok_law (T : Prog K mg) {es : Array DictEntry} {nd : Nat} (TB_RULES : KDict K w T.a_RULES es nd) {f : Addr} {fd : FuncData} (F : FunD K "law" "law" (defArgs (top 58)) (defBody (top 58)) (defScope (top 58)) [] [] f fd) : FnOk P w K mg base CX0 9 f fd ["_law_script"] (spLaw K) := by
  have G_law_begun := ok_law_begun (P := P) (w := w) (base := base) T
  have G_law_told := ok_law_told (P := P) (w := w) (base := base) T TB_RULES
  have G_law_kept := ok_kept (P := P) (w := w) (base := base) T 6
  have G_law_spoil := ok_spoil (P := P) (w := w) (base := base) T 6
  have G_law_take := ok_law_take (P := P) (w := w) (base := base) T
  have G_law_row := ok_law_row (P := P) (w := w) (base := base) T
  refine F.ok sc_law (fun vs H Q E h => ?len) (fun cdv A outer s H vs Q E hr h => ?body)
  case len =>
    obtain ⟨a, ns, rfl, _⟩ := h
    rfl
  case body =>
    have hr_law_begun : Room 1 _ := hr.mono (by decide)
    have hr_law_told : Room 8 _ := hr.mono (by decide)
    have hr_law_kept : Room 6 _ := hr.mono (by decide)
    have hr_law_spoil : Room 6 _ := hr.mono (by decide)
    have hr_law_take : Room 1 _ := hr.mono (by decide)
    have hr_law_row : Room 2 _ := hr.mono (by decide)
    have hu := hu_of hr
    obtain ⟨a, ns, rfl, hS, hl63, k⟩ := h
    refine ⟨_, PSs.nox (pss_cons (ps_set (i := 1) sc_law.nd rfl (Or.inl rfl) (pe_call G_law_begun hr_law_begun (by rfl) T.law_begun.g T.law_begun.fn.kp T.law_begun.bd .nil pass0 (pa_cons (pv 0) pa_nil)))
        (pss_cons (ps_set (i := 2) sc_law.nd rfl (Or.inl rfl) (pe_lst pa_nil))
        (pss_cons (ps_for PassesOwn.never rfl (pi_range1 (by rfl) T.range (pa_cons pe_int pa_nil)) (pg_name (i := 3) sc_law.nd rfl (Or.inl rfl))
        (pss_cons (ps_set (i := 4) sc_law.nd rfl (Or.inl rfl) (pe_ix ix_list (pe_lst (pa_cons pe_str (pa_cons pe_str (pa_cons pe_str pa_nil)))) (pe_call G_law_take hr_law_take (by rfl) T.law_take.g T.law_take.fn.kp T.law_take.bd .nil pass0 (pa_cons (pv 1) (pa_cons pe_int pa_nil))) (fun _ _ => rfl)))
        (pss_one (ps_expr (pe_bm PySem.F.plainAttrs_list PySem.F.slot_list_append PySem.F.type_list_append mt_append (pv 2) (pa_cons (pe_tup (pa_cons (pe_op op_add pe_int (pe_call G_law_take hr_law_take (by rfl) T.law_take.g T.law_take.fn.kp T.law_take.bd .nil pass0 (pa_cons (pv 1) (pa_cons pe_int pa_nil)))) (pa_cons (pe_call G_law_row hr_law_row (by rfl) T.law_row.g T.law_row.fn.kp T.law_row.bd .nil pass0 (pa_cons (pv 1) (pa_cons pe_int pa_nil))) (pa_cons (pv 4) pa_nil)))) pa_nil))))))
        (pss_cons (ps_setLc (i := 5) (own := [("_law_case", 10)]) (g := gName 10) rfl sc_law.nd rfl rfl (sw_true rfl rfl rfl (by decide +kernel)) ((pi_list (pv 2))) (blkOk_by (own := [("_law_case", 10)]) (N := ["_law_script", "_law_box", "_law_cases", "_law_turn", "_law_rule", "_law_every", "_law_kept_here", "_law_k", "_law_rooms", "_law_row_here", "_law_case", "_law_one"]) (sc := defScope (top 58)) (by decide +kernel)) (fun _ _ _ _ _ => (by exact (pg_name (i := 10) sc_law.nd rfl (Or.inl rfl)))) (fun _ _ _ _ _ => (by exact pts_nil)) (fun _ _ _ _ _ => (by exact (pe_call G_law_told hr_law_told (by rfl) T.law_told.g T.law_told.fn.kp T.law_told.bd .nil pass0 (pa_cons (pv 10) pa_nil)))))
        (pss_cons (ps_setLc (i := 6) (own := [("_law_one", 11)]) (g := gName 11) rfl sc_law.nd rfl rfl (sw_true rfl rfl rfl (by decide +kernel)) ((pi_list (pv 5))) (blkOk_by (own := [("_law_one", 11)]) (N := ["_law_script", "_law_box", "_law_cases", "_law_turn", "_law_rule", "_law_every", "_law_kept_here", "_law_k", "_law_rooms", "_law_row_here", "_law_case", "_law_one"]) (sc := defScope (top 58)) (by decide +kernel)) (fun _ _ _ _ _ => (by exact (pg_name (i := 11) sc_law.nd rfl (Or.inl rfl)))) (fun _ _ _ _ _ => (by exact pts_nil)) (fun _ _ _ _ _ => (by exact (pe_call G_law_kept hr_law_kept (by rfl) T.law_kept.g T.law_kept.fn.kp T.law_kept.bd .nil pass0 (pa_cons (pv 11) pa_nil)))))
        (pss_cons (ps_for PassesOwn.never rfl (pi_list (pe_lst (pa_cons pe_int (pa_cons pe_int (pa_cons pe_int pa_nil))))) (pg_name (i := 7) sc_law.nd rfl (Or.inl rfl))
        (pss_cons (ps_expr (pe_call G_law_spoil hr_law_spoil (by rfl) T.law_spoil.g T.law_spoil.fn.kp T.law_spoil.bd .nil pass0 (pa_cons (pe_ix ix_list (pv 5) (pv 7) (fun _ _ => rfl)) pa_nil)))
        (pss_cons (ps_asg (pe_call G_law_told hr_law_told (by rfl) T.law_told.g T.law_told.fn.kp T.law_told.bd .nil pass0 (pa_cons (pe_ix ix_list (pv 2) (pv 7) (fun _ _ => rfl)) pa_nil)) (pg_sub (pv 5) (pv 7) set_list))
        (pss_one (ps_if (pt_cmpR (op_neD hr.units) (pe_ix ix_list (pv 5) (pv 7) (fun _ _ => rfl)) (pe_ix ix_list (pv 6) (pv 7) (fun _ _ => rfl)) (nomark _))
        (pss_one (ps_ret pe_bl))
        pss_nil)))))
        (pss_cons (ps_asg (pe_ix ix_list (pv 2) pe_int (fun _ _ => rfl)) (pg_tup rfl (pgs_cons (pg_name (i := 8) sc_law.nd rfl (Or.inl rfl)) (pgs_cons (pg_name (i := 9) sc_law.nd rfl (Or.inl rfl)) (pgs_cons (pg_name (i := 4) sc_law.nd rfl (Or.inl rfl)) pgs_nil)))))
        (pss_one (ps_ret (pe_cmpR (op_eqD hr.units) (pe_call G_law_told hr_law_told (by rfl) T.law_told.g T.law_told.fn.kp T.law_told.bd .nil pass0 (pa_cons (pe_tup (pa_cons (pv 8) (pa_cons (pe_callTy call_list_of (by rfl) T.list_ (by decide +kernel) (pa_cons (pv 9) pa_nil)) (pa_cons (pv 4) pa_nil)))) pa_nil)) (pe_ix ix_list (pv 6) pe_int (fun _ _ => rfl)) (nomark _))))))))))), ?_⟩
    refine ⟨_, rfl, a, ns, rfl, hS, hl63, fun b l H1 hb hl s1 B1 => ?_⟩
    -- cases
    refine ⟨szd rfl, fun C hC => ?_⟩
    have sC := Same.new (o := .lst []) hC
    have CS : C ∉ [b, l] := B1.off hC
    refine ⟨2, rfl, by decide, by decide, for_range (lo := 0) (n := 2) (fun i σ H' => (∃ v3 v4 v5 v6 v7 v8 v9 v10 v11 : Option V, σ = [some (.ref a), some (.ref b), some (.ref C), v3, v4, v5, v6, v7, v8, v9, v10, v11]) ∧ BoxAt H' b l ∧ ∃ xs : List KC, xs.length = i ∧ H' C = some (.lst (xs.map fun x => V.ref x.ct)) ∧ ∀ x ∈ xs, x.At H' ∧ x.r ∉ [b, l] ∧ x.r ≠ C) ⟨⟨_, _, _, _, _, _, _, _, _, rfl⟩, B1.same sC, [], rfl, upd_same, fun x hx => by (cases hx)⟩ ?_ ?_⟩
    · rintro i σ H2 hi ⟨⟨v3, v4, v5, v6, v7, v8, v9, v10, v11, rfl⟩, B2, xs, hxl, hC2, hxs⟩
      -- rule
      refine ⟨szd rfl, fun m hm => ?_⟩
      have sM := Same.new (o := .lst [V.str "hand", V.str "unseen", V.str "first"]) hm
      have mS : m ∉ [b, l] := B2.off hm
      refine ⟨_, rfl, b, l, 3, rfl, B2.same sM, by decide, by decide, fun r1 H3 r10 r11 k3 B3 => ?_⟩
      obtain ⟨rule, hrule⟩ := rl_menu3 r10 r11
      refine ⟨m, _, _, _, rfl, rfl, SqL.of (k3 _ _ upd_same mS), hrule, ?_⟩
      have hC3 := k3 _ _ (sM _ _ hC2) CS
      refine ⟨_, rfl, .inl ⟨rfl, _, SqL.of hC3⟩, _, rfl, b, l, 8, rfl, B3, by decide, by decide, fun r0 H4 r00 r01 k4 B4 => ⟨_, _, rfl, rfl, ?_⟩⟩
      refine ⟨_, rfl, b, l, 60, rfl, B4, by decide, by decide, fun row r H5 hr4 hrow hlen k5 hrr B5 => ?_⟩
      have rS : r ∉ [b, l] := B4.off hr4
      have hC5 := k5 _ _ (k4 _ _ hC3 CS) CS
      have rC : r ≠ C := Ne.symm (ne_fresh (k4 _ _ hC3 CS) hr4)
      refine ⟨_, rfl, szd rfl, fun t ht => ?_⟩
      have st := Same.new (o := .tup [V.int (1 + r0), V.ref r, V.str rule.s]) ht
      have hC6 := st _ _ hC5
      have k25 : But [b, l] H2 H5 := (((But.of sM).trans k3).trans k4).trans k5
      refine ⟨C, _, _, rfl, rfl, hC6, szl (by rw [List.length_map]; omega), ⟨_, _, _, _, _, _, _, _, _, rfl⟩, ?_, xs ++ [⟨t, 1 + r0, r, row, rule⟩], by rw [List.length_append, hxl]; rfl, by rw [upd_same, List.map_append]; rfl, fun x hx => ?_⟩
      · simp at CS
        exact (B5.same st).but (S := [C]) (But.put (by simp)) (by simpa using fun z => CS.1 z.symm) (by simpa using fun z => CS.2 z.symm)
      · have tC : t ≠ C := Ne.symm (ne_fresh hC5 ht)
        rcases List.mem_append.mp hx with q | q
        · obtain ⟨h1, h2, h3⟩ := hxs x q
          refine ⟨h1.keep (fun o e ⟨us, q⟩ => ?_) (fun o e => ?_), h2, h3⟩
          · subst q
            have n1 : x.ct ∉ [b, l] := by
              obtain ⟨_, _, q1, q2, _⟩ := B2.ex
              have z1 := ne_of e q1 (by intro z; cases z)
              have z2 := ne_of e q2 (by intro z; cases z)
              simp [z1, z2]
            have n2 : x.ct ≠ C := ne_of e hC2 (by intro z; cases z)
            rw [upd_ne n2]
            exact st _ _ (k25 _ _ e n1)
          · rw [upd_ne h3]
            exact st _ _ (k25 _ _ e h2)
        · rw [List.mem_singleton.mp q]
          refine ⟨⟨by rw [upd_ne tC]; exact upd_same, by rw [upd_ne rC]; exact st _ _ hrr, by show 1 ≤ 1 + r0; omega, by show 1 + r0 ≤ 8; omega, ⟨by show row.length ≤ 100; omega, hrow⟩⟩, rS, rC⟩
    · rintro σ H2 ⟨⟨v3, v4, v5, v6, v7, v8, v9, v10, v11, rfl⟩, _, xs, hxl, hC2, hxs⟩
      obtain ⟨x0, x1, rfl⟩ : ∃ x0 x1, xs = [x0, x1] := by
        match xs, hxl with
        | [a, b], _ => exact ⟨a, b, rfl⟩
      have X0 := (hxs x0 (by simp)).1
      have X1 := (hxs x1 (by simp)).1
      have hr0C := (hxs x0 (by simp)).2.2
      have hr1C := (hxs x1 (by simp)).2.2
      have P0 := X0.pd
      have P1 := X1.pd
      have hC2 : H2 C = some (.lst [V.ref x0.ct, V.ref x1.ct]) := hC2
      -- every
      refine ⟨_, rfl, C, rfl, ⟨_, SqL.of hC2⟩, fun E hE => ?_⟩
      have sE := Same.new (o := .lst []) hE
      have CE : C ≠ E := ne_fresh hC2 hE
      refine lc_list (K := K) (a := C) (xs := [V.ref x0.ct, V.ref x1.ct]) (fun i H' => Same H2 H' ∧ ((i = 0 ∧ H' E = some (.lst [])) ∨ (i = 1 ∧ ∃ e0 S0, H' E = some (.lst [V.ref e0]) ∧ Own H' S0 (.ref e0) x0.d ∧ ∀ c, S0 c → H2 c = none ∧ c ≠ E) ∨ (i = 2 ∧ ∃ e0 S0 e1 S1, H' E = some (.lst [V.ref e0, V.ref e1]) ∧ Own H' S0 (.ref e0) x0.d ∧ Own H' S1 (.ref e1) x1.d ∧ (∀ c, S0 c → H2 c = none ∧ c ≠ E) ∧ (∀ c, S1 c → H2 c = none ∧ c ≠ E) ∧ ∀ c, S0 c → ¬ S1 c))) ⟨sE, .inl ⟨rfl, upd_same⟩⟩ (fun i H' _ h => SqL.of (h.1 _ _ hC2)) ?_ ?_
      · rintro i x H3 hx ⟨s3, hh⟩
        have wE : ∀ {H4 : Hp} {S : Addr → Prop} {x : V} {d : PyData} {ys zs : List V}, H4 E = some (.lst ys) → Own H4 S x d → (∀ c, S c → H2 c = none ∧ c ≠ E) → Own (upd H4 E (.lst zs)) S x d := fun hE4 h q => h.keep fun c o e z => by
          have ne : c ≠ E := by
            rcases z with z | ⟨us, rfl⟩
            · exact (q c z).2
            · exact ne_of e hE4 (by intro w; cases w)
          rw [upd_ne ne]
          exact e
        rcases hh with ⟨rfl, hE3⟩ | ⟨rfl, e0, S0, hE3, o0, q0⟩ | ⟨rfl, _⟩
        · cases Option.some.inj hx
          have X := X0.same s3
          refine ⟨rfl, _, rfl, x0.ct, x0.n, x0.r, x0.row, x0.rule, rfl, X.t, X.n1, X.n8, X.r, X.ok, fun e H4 s4 f4 => ?_⟩
          have hE4 := s4 _ _ hE3
          have q4 : ∀ c, (H3 c = none ∧ H4 c ≠ none) → H2 c = none ∧ c ≠ E := fun c q => ⟨Same.back s3 q.1, fun z => by rw [z, hE3] at q; cases q.1⟩
          exact ⟨_, hE4, szl (by simp), Same.put (s3.trans s4) hE, .inr (.inl ⟨rfl, e, _, upd_same, wE hE4 (own_born f4) q4, q4⟩)⟩
        · cases Option.some.inj hx
          have X := X1.same s3
          refine ⟨rfl, _, rfl, x1.ct, x1.n, x1.r, x1.row, x1.rule, rfl, X.t, X.n1, X.n8, X.r, X.ok, fun e H4 s4 f4 => ?_⟩
          have hE4 := s4 _ _ hE3
          have q4 : ∀ c, (H3 c = none ∧ H4 c ≠ none) → H2 c = none ∧ c ≠ E := fun c q => ⟨Same.back s3 q.1, fun z => by rw [z, hE3] at q; cases q.1⟩
          exact ⟨_, hE4, szl (by simp), Same.put (s3.trans s4) hE, .inr (.inr ⟨rfl, e0, S0, e, _, upd_same, wE hE4 (o0.same s4) q0, wE hE4 (own_born f4) q4, q0, q4, fun c w z => o0.up c w z.1⟩)⟩
        · cases hx
      · rintro H3 ⟨s3, hh⟩
        obtain ⟨e0, S0, e1, S1, hE3, o0, o1, q0, q1, q01⟩ : ∃ e0 S0 e1 S1, H3 E = some (.lst [V.ref e0, V.ref e1]) ∧ Own H3 S0 (.ref e0) x0.d ∧ Own H3 S1 (.ref e1) x1.d ∧ (∀ c, S0 c → H2 c = none ∧ c ≠ E) ∧ (∀ c, S1 c → H2 c = none ∧ c ≠ E) ∧ ∀ c, S0 c → ¬ S1 c := by
          rcases hh with ⟨h, _⟩ | ⟨h, _⟩ | ⟨_, h⟩
          · cases h
          · cases h
          · exact h
        -- kept
        refine ⟨_, rfl, E, rfl, ⟨_, SqL.of hE3⟩, fun KP hKP => ?_⟩
        have sK := Same.new (o := .lst []) hKP
        have EK : E ≠ KP := ne_fresh hE3 hKP
        refine lc_list (K := K) (a := E) (xs := [V.ref e0, V.ref e1]) (fun i H' => Same H3 H' ∧ ((i = 0 ∧ H' KP = some (.lst [])) ∨ (i = 1 ∧ ∃ y0 T0, H' KP = some (.lst [y0]) ∧ Own H' T0 y0 x0.d ∧ ∀ c, T0 c → H3 c = none ∧ c ≠ KP) ∨ (i = 2 ∧ ∃ y0 T0 y1 T1, H' KP = some (.lst [y0, y1]) ∧ Own H' T0 y0 x0.d ∧ Own H' T1 y1 x1.d ∧ (∀ c, T0 c → H3 c = none ∧ c ≠ KP) ∧ (∀ c, T1 c → H3 c = none ∧ c ≠ KP)))) ⟨sK, .inl ⟨rfl, upd_same⟩⟩ (fun i H' _ h => SqL.of (h.1 _ _ hE3)) ?_ ?_
        · rintro i x H4 hx ⟨s4, hh⟩
          have wE : ∀ {H5 : Hp} {S : Addr → Prop} {x : V} {d : PyData} {ys zs : List V}, H5 KP = some (.lst ys) → Own H5 S x d → (∀ c, S c → H3 c = none ∧ c ≠ KP) → Own (upd H5 KP (.lst zs)) S x d := fun hE5 h q => h.keep fun c o e z => by
            have ne : c ≠ KP := by
              rcases z with z | ⟨us, rfl⟩
              · exact (q c z).2
              · exact ne_of e hE5 (by intro w; cases w)
            rw [upd_ne ne]
            exact e
          rcases hh with ⟨rfl, hK4⟩ | ⟨rfl, y0, T0, hK4, t0, q0'⟩ | ⟨rfl, _⟩
          · cases Option.some.inj hx
            refine ⟨rfl, _, rfl, S0, _, x0.d, rfl, (o0.same s4).fd, Nat.lt_of_le_of_lt P0.dep (by decide), P0.sm, fun y H5 s5 f5 => ?_⟩
            have hK5 := s5 _ _ hK4
            have q5 : ∀ c, (H4 c = none ∧ H5 c ≠ none) → H3 c = none ∧ c ≠ KP := fun c q => ⟨Same.back s4 q.1, fun z => by rw [z, hK4] at q; cases q.1⟩
            exact ⟨_, hK5, szl (by simp), Same.put (s4.trans s5) hKP, .inr (.inl ⟨rfl, y, _, upd_same, wE hK5 (own_born f5) q5, q5⟩)⟩
          · cases Option.some.inj hx
            refine ⟨rfl, _, rfl, S1, _, x1.d, rfl, (o1.same s4).fd, Nat.lt_of_le_of_lt P1.dep (by decide), P1.sm, fun y H5 s5 f5 => ?_⟩
            have hK5 := s5 _ _ hK4
            have q5 : ∀ c, (H4 c = none ∧ H5 c ≠ none) → H3 c = none ∧ c ≠ KP := fun c q => ⟨Same.back s4 q.1, fun z => by rw [z, hK4] at q; cases q.1⟩
            exact ⟨_, hK5, szl (by simp), Same.put (s4.trans s5) hKP, .inr (.inr ⟨rfl, y0, T0, y, _, upd_same, wE hK5 (t0.same s5) q0', wE hK5 (own_born f5) q5, q0', q5⟩)⟩
          · cases hx
        · rintro H4 ⟨s4, hh⟩
          obtain ⟨y0, T0, y1, T1, hK4, t0, t1, p0, p1⟩ : ∃ y0 T0 y1 T1, H4 KP = some (.lst [y0, y1]) ∧ Own H4 T0 y0 x0.d ∧ Own H4 T1 y1 x1.d ∧ (∀ c, T0 c → H3 c = none ∧ c ≠ KP) ∧ (∀ c, T1 c → H3 c = none ∧ c ≠ KP) := by
            rcases hh with ⟨h, _⟩ | ⟨h, _⟩ | ⟨_, h⟩
            · cases h
            · cases h
            · exact h
          have s24 := s3.trans s4
          -- for k in [0, 1, 0]
          refine ⟨szd rfl, fun m hm => ?_⟩
          have sm := Same.new (o := .lst [V.int 0, V.int 1, V.int 0]) hm
          have hE4 := s4 _ _ hE3
          have mE : m ≠ E := Ne.symm (ne_fresh hE4 hm)
          have nS0 : ∀ c, c ∈ [C, E, KP, x0.r, x1.r, m] → ¬ S0 c := fun c hc q => by
            simp only [List.mem_cons, List.not_mem_nil, or_false] at hc
            have h2 := (q0 c q).1
            have hu := o0.up c q
            rcases hc with rfl | rfl | rfl | rfl | rfl | rfl
            · rw [hC2] at h2; cases h2
            · exact (q0 _ q).2 rfl
            · exact hu hKP
            · rw [X0.r] at h2; cases h2
            · rw [X1.r] at h2; cases h2
            · exact hu (Same.back s4 hm)
          have nS1 : ∀ c, c ∈ [C, E, KP, x0.r, x1.r, m] → ¬ S1 c := fun c hc q => by
            simp only [List.mem_cons, List.not_mem_nil, or_false] at hc
            have h2 := (q1 c q).1
            have hu := o1.up c q
            rcases hc with rfl | rfl | rfl | rfl | rfl | rfl
            · rw [hC2] at h2; cases h2
            · exact (q1 _ q).2 rfl
            · exact hu hKP
            · rw [X0.r] at h2; cases h2
            · rw [X1.r] at h2; cases h2
            · exact hu (Same.back s4 hm)
          have D : Dis x0 x1 C E KP m := ⟨CE, Ne.symm EK, mE, ne_fresh X0.r hE, ne_fresh X1.r hE⟩
          have L0 : LS S0 S1 T0 T1 x0 x1 C E KP m e0 e1 y0 y1 (upd H4 m (.lst [V.int 0, V.int 1, V.int 0])) := {
            hC := sm _ _ (s24 _ _ hC2)
            hE := sm _ _ hE4
            hK := sm _ _ hK4
            hm := upd_same
            c0 := (X0.same s24).same sm
            c1 := (X1.same s24).same sm
            f0 := (o0.same s4).same sm
            f1 := (o1.same s4).same sm
            t0 := t0.same sm
            t1 := t1.same sm
            b0 := nS0
            b1 := nS1
            s01 := q01
            st00 := fun c q w => o0.up c q (p0 c w).1
            st01 := fun c q w => o0.up c q (p1 c w).1
            st10 := fun c q w => o1.up c q (p0 c w).1
            st11 := fun c q w => o1.up c q (p1 c w).1
            tE0 := fun w => by have := (p0 E w).1; rw [hE3] at this; cases this
            tE1 := fun w => by have := (p1 E w).1; rw [hE3] at this; cases this }
          refine ⟨m, rfl, ⟨_, SqL.of upd_same⟩, for_list (K := K) (a := m) (xs := [V.int 0, V.int 1, V.int 0]) (fun i σ H' => (∃ v7 v8 v9 v10 v11 v3 v4 : Option V, σ = [some (.ref a), some (.ref b), some (.ref C), v3, v4, some (.ref E), some (.ref KP), v7, v8, v9, v10, v11]) ∧ ∃ S0 S1 e0 e1, LS S0 S1 T0 T1 x0 x1 C E KP m e0 e1 y0 y1 H') ⟨⟨_, _, _, _, _, _, _, rfl⟩, _, _, _, _, L0⟩ (fun i σ H' _ h => by obtain ⟨_, _, _, _, _, L⟩ := h; exact SqL.of L.hm) ?_ ?_⟩
          · rintro i x σ H6 hx ⟨⟨v7, v8, v9, v10, v11, v3, v4, rfl⟩, S0, S1, e0, e1, L⟩
            have hk : x = .int 0 ∨ x = .int 1 := by
              have := List.mem_of_getElem? hx
              simp at this
              rcases this with h | h | h <;> simp [h]
            rcases hk with rfl | rfl
            · skip
              -- spoil, tell again
              refine ⟨_, rfl, _, rfl, E, _, _, _, rfl, rfl, SqL.of L.hE, atI_nat (j := 0) rfl, S0, H6, V.ref e0, x0.d, 0, rfl, L.f0.fd, Nat.lt_of_le_of_lt P0.dep (by decide), P0.sm, Gr.refl _ _, by have := P0.cl; omega, fun H7 g7 _ => ?_⟩
              have lf := g7.left
              have cl0 : ∀ c o, H6 c = some o → ¬ S0 c → H7 c = some o := fun c o e q => lf c o e (.inl q)
              have ct : ∀ c us, H6 c = some (.tup us) → H7 c = some (.tup us) := fun c us e => lf c _ e (.inr ⟨us, rfl⟩)
              have hC7 := cl0 _ _ L.hC (L.b0 C (by simp))
              have hE7 := cl0 _ _ L.hE (L.b0 E (by simp))
              have hK7 := cl0 _ _ L.hK (L.b0 KP (by simp))
              have hm7 := cl0 _ _ L.hm (L.b0 m (by simp))
              have c07 : x0.At H7 := L.c0.keep (fun o e ⟨us, q⟩ => by subst q; exact ct _ _ e) (fun o e => cl0 _ _ e (L.b0 x0.r (by simp)))
              have c17 : x1.At H7 := L.c1.keep (fun o e ⟨us, q⟩ => by subst q; exact ct _ _ e) (fun o e => cl0 _ _ e (L.b0 x1.r (by simp)))
              have fo7 := L.f1.keep (H' := H7) (fun c o e q => lf c o e (q.imp (fun z w => L.s01 c w z) id))
              have t07 := L.t0.keep (H' := H7) (fun c o e q => lf c o e (q.imp (fun z w => L.st00 c w z) id))
              have t17 := L.t1.keep (H' := H7) (fun c o e q => lf c o e (q.imp (fun z w => L.st01 c w z) id))
              refine ⟨_, rfl, _, rfl, C, _, _, _, rfl, rfl, SqL.of hC7, atI_nat (j := 0) rfl, x0.ct, x0.n, x0.r, x0.row, x0.rule, rfl, c07.t, c07.n1, c07.n8, c07.r, c07.ok, fun e' H8 s8 f8 => ?_⟩
              have own8 := own_born f8
              have hE8 := s8 _ _ hE7
              refine ⟨_, rfl, _, rfl, E, _, _, 0, rfl, rfl, hE8, rfl, ?_⟩
              have hEs : [V.ref e0, V.ref e1].set 0 (V.ref e') = [V.ref e', V.ref e1] := rfl
              rw [hEs]
              have bE : ∀ c, c ∈ [C, E, KP, x0.r, x1.r, m] → H7 c ≠ none := fun c hc => by
                simp only [List.mem_cons, List.not_mem_nil, or_false] at hc
                rcases hc with rfl | rfl | rfl | rfl | rfl | rfl
                · rw [hC7]; intro z; cases z
                · rw [hE7]; intro z; cases z
                · rw [hK7]; intro z; cases z
                · rw [c07.r]; intro z; cases z
                · rw [c17.r]; intro z; cases z
                · rw [hm7]; intro z; cases z
              have bN : ∀ c, c ∈ [C, E, KP, x0.r, x1.r, m] → ¬ (H7 c = none ∧ H8 c ≠ none) := fun c hc q => bE c hc q.1
              have upE : ∀ {S : Addr → Prop} {x : V} {d : PyData}, Own H8 S x d → ¬ S E → ∀ ys, Own (upd H8 E (.lst ys)) S x d := fun h q ys => h.keep fun c o e z => by
                have ne : c ≠ E := by
                  rcases z with z | ⟨us, rfl⟩
                  · intro w; rw [w] at z; exact q z
                  · exact ne_of e hE8 (by intro w; cases w)
                rw [upd_ne ne]
                exact e
              have ctE : ∀ {x : KC}, x.At H8 → x.r ≠ E → ∀ ys, x.At (upd H8 E (.lst ys)) := fun h q ys => h.keep (fun o e ⟨us, z⟩ => by subst z; rw [upd_ne (ne_of e hE8 (by intro w; cases w))]; exact e) (fun o e => by rw [upd_ne q]; exact e)
              have L9 : LS (fun c => H7 c = none ∧ H8 c ≠ none) S1 T0 T1 x0 x1 C E KP m e' e1 y0 y1 (upd H8 E (.lst [V.ref e', V.ref e1])) := {
                hC := by rw [upd_ne D.ce]; exact s8 _ _ hC7
                hE := upd_same
                hK := by rw [upd_ne D.ke]; exact s8 _ _ hK7
                hm := by rw [upd_ne D.me]; exact s8 _ _ hm7
                c0 := ctE (c07.same s8) D.r0 _
                c1 := ctE (c17.same s8) D.r1 _
                f0 := upE own8 (bN E (by simp)) _
                f1 := upE (fo7.same s8) (L.b1 E (by simp)) _
                t0 := upE (t07.same s8) (L.tE0) _
                t1 := upE (t17.same s8) (L.tE1) _
                b0 := bN
                b1 := L.b1
                s01 := fun c q w => fo7.up c w q.1
                st00 := fun c q w => t07.up c w q.1
                st01 := fun c q w => t17.up c w q.1
                st10 := L.st10
                st11 := L.st11
                tE0 := L.tE0
                tE1 := L.tE1 }
              refine ⟨_, rfl, _, rfl, E, _, _, _, rfl, rfl, SqL.of L9.hE, atI_nat (j := 0) rfl, _, rfl, _, rfl, KP, _, _, _, rfl, rfl, SqL.of L9.hK, atI_nat (j := 0) rfl, x0.d, x0.d, L9.f0.fd.dp, L9.t0.fd.dp, P0.shaped, P0.shaped, _, rfl, ?_⟩
              refine ifF (by rw [eqv_same P0.shaped]; rfl) ?_
              exact ⟨⟨_, _, _, _, _, _, _, rfl⟩, _, _, _, _, L9⟩
            · skip
              -- spoil, tell again
              refine ⟨_, rfl, _, rfl, E, _, _, _, rfl, rfl, SqL.of L.hE, atI_nat (j := 1) rfl, S1, H6, V.ref e1, x1.d, 0, rfl, L.f1.fd, Nat.lt_of_le_of_lt P1.dep (by decide), P1.sm, Gr.refl _ _, by have := P1.cl; omega, fun H7 g7 _ => ?_⟩
              have lf := g7.left
              have cl1 : ∀ c o, H6 c = some o → ¬ S1 c → H7 c = some o := fun c o e q => lf c o e (.inl q)
              have ct : ∀ c us, H6 c = some (.tup us) → H7 c = some (.tup us) := fun c us e => lf c _ e (.inr ⟨us, rfl⟩)
              have hC7 := cl1 _ _ L.hC (L.b1 C (by simp))
              have hE7 := cl1 _ _ L.hE (L.b1 E (by simp))
              have hK7 := cl1 _ _ L.hK (L.b1 KP (by simp))
              have hm7 := cl1 _ _ L.hm (L.b1 m (by simp))
              have c07 : x0.At H7 := L.c0.keep (fun o e ⟨us, q⟩ => by subst q; exact ct _ _ e) (fun o e => cl1 _ _ e (L.b1 x0.r (by simp)))
              have c17 : x1.At H7 := L.c1.keep (fun o e ⟨us, q⟩ => by subst q; exact ct _ _ e) (fun o e => cl1 _ _ e (L.b1 x1.r (by simp)))
              have fo7 := L.f0.keep (H' := H7) (fun c o e q => lf c o e (q.imp (fun z w => L.s01 c z w) id))
              have t07 := L.t0.keep (H' := H7) (fun c o e q => lf c o e (q.imp (fun z w => L.st10 c w z) id))
              have t17 := L.t1.keep (H' := H7) (fun c o e q => lf c o e (q.imp (fun z w => L.st11 c w z) id))
              refine ⟨_, rfl, _, rfl, C, _, _, _, rfl, rfl, SqL.of hC7, atI_nat (j := 1) rfl, x1.ct, x1.n, x1.r, x1.row, x1.rule, rfl, c17.t, c17.n1, c17.n8, c17.r, c17.ok, fun e' H8 s8 f8 => ?_⟩
              have own8 := own_born f8
              have hE8 := s8 _ _ hE7
              refine ⟨_, rfl, _, rfl, E, _, _, 1, rfl, rfl, hE8, rfl, ?_⟩
              have hEs : [V.ref e0, V.ref e1].set 1 (V.ref e') = [V.ref e0, V.ref e'] := rfl
              rw [hEs]
              have bE : ∀ c, c ∈ [C, E, KP, x0.r, x1.r, m] → H7 c ≠ none := fun c hc => by
                simp only [List.mem_cons, List.not_mem_nil, or_false] at hc
                rcases hc with rfl | rfl | rfl | rfl | rfl | rfl
                · rw [hC7]; intro z; cases z
                · rw [hE7]; intro z; cases z
                · rw [hK7]; intro z; cases z
                · rw [c07.r]; intro z; cases z
                · rw [c17.r]; intro z; cases z
                · rw [hm7]; intro z; cases z
              have bN : ∀ c, c ∈ [C, E, KP, x0.r, x1.r, m] → ¬ (H7 c = none ∧ H8 c ≠ none) := fun c hc q => bE c hc q.1
              have upE : ∀ {S : Addr → Prop} {x : V} {d : PyData}, Own H8 S x d → ¬ S E → ∀ ys, Own (upd H8 E (.lst ys)) S x d := fun h q ys => h.keep fun c o e z => by
                have ne : c ≠ E := by
                  rcases z with z | ⟨us, rfl⟩
                  · intro w; rw [w] at z; exact q z
                  · exact ne_of e hE8 (by intro w; cases w)
                rw [upd_ne ne]
                exact e
              have ctE : ∀ {x : KC}, x.At H8 → x.r ≠ E → ∀ ys, x.At (upd H8 E (.lst ys)) := fun h q ys => h.keep (fun o e ⟨us, z⟩ => by subst z; rw [upd_ne (ne_of e hE8 (by intro w; cases w))]; exact e) (fun o e => by rw [upd_ne q]; exact e)
              have L9 : LS S0 (fun c => H7 c = none ∧ H8 c ≠ none) T0 T1 x0 x1 C E KP m e0 e' y0 y1 (upd H8 E (.lst [V.ref e0, V.ref e'])) := {
                hC := by rw [upd_ne D.ce]; exact s8 _ _ hC7
                hE := upd_same
                hK := by rw [upd_ne D.ke]; exact s8 _ _ hK7
                hm := by rw [upd_ne D.me]; exact s8 _ _ hm7
                c0 := ctE (c07.same s8) D.r0 _
                c1 := ctE (c17.same s8) D.r1 _
                f0 := upE (fo7.same s8) (L.b0 E (by simp)) _
                f1 := upE own8 (bN E (by simp)) _
                t0 := upE (t07.same s8) (L.tE0) _
                t1 := upE (t17.same s8) (L.tE1) _
                b0 := L.b0
                b1 := bN
                s01 := fun c q w => fo7.up c q w.1
                st00 := L.st00
                st01 := L.st01
                st10 := fun c q w => t07.up c w q.1
                st11 := fun c q w => t17.up c w q.1
                tE0 := L.tE0
                tE1 := L.tE1 }
              refine ⟨_, rfl, _, rfl, E, _, _, _, rfl, rfl, SqL.of L9.hE, atI_nat (j := 1) rfl, _, rfl, _, rfl, KP, _, _, _, rfl, rfl, SqL.of L9.hK, atI_nat (j := 1) rfl, x1.d, x1.d, L9.f1.fd.dp, L9.t1.fd.dp, P1.shaped, P1.shaped, _, rfl, ?_⟩
              refine ifF (by rw [eqv_same P1.shaped]; rfl) ?_
              exact ⟨⟨_, _, _, _, _, _, _, rfl⟩, _, _, _, _, L9⟩
          · rintro σ H6 ⟨⟨v7, v8, v9, v10, v11, v3, v4, rfl⟩, S0, S1, e0, e1, L⟩
            refine ⟨_, rfl, C, _, _, _, rfl, rfl, SqL.of L.hC, atI_nat (j := 0) rfl, ?_⟩
            refine ⟨x0.ct, _, rfl, SqT.of L.c0.t, rfl, _, _, rfl, _, _, rfl, _, _, rfl, rfl, ?_⟩
            refine ⟨_, rfl, _, rfl, x0.r, _, rfl, .inl (SqL.of L.c0.r), fun r2 hr2 => ?_⟩
            have s7 := Same.new (o := .lst (il x0.row)) hr2
            refine ⟨_, rfl, szd rfl, fun t2 ht2 => ?_⟩
            have s8 := Same.new (o := .tup [V.int x0.n, V.ref r2, V.str x0.rule.s]) ht2
            refine ⟨t2, x0.n, r2, x0.row, x0.rule, rfl, upd_same, L.c0.n1, L.c0.n8, s8 _ _ upd_same, L.c0.ok, fun e H9 s9 f9 => ?_⟩
            have sF := (s7.trans s8).trans s9
            have t09 := L.t0.same sF
            refine ⟨_, rfl, KP, _, _, _, rfl, rfl, SqL.of (sF _ _ L.hK), atI_nat (j := 0) rfl, ?_⟩
            refine ⟨x0.d, x0.d, f9.dp, t09.fd.dp, P0.shaped, P0.shaped, ?_⟩
            rw [eqv_same P0.shaped]
            exact k H9
end
end CK

namespace CK
open PySem PySem.Spec PyProof.Rows L2
/-! ### the head: facts by names, one run of the top -/
def fn : List He.DefD := [
  ⟨("check_rooms", none), "check_rooms", "check_rooms", defArgs (top 10), defBody (top 10), defScope (top 10), [], []⟩,
  ⟨("is_page", none), "is_page", "is_page", defArgs (top 11), defBody (top 11), defScope (top 11), [], []⟩,
  ⟨("check_page", none), "check_page", "check_page", defArgs (top 12), defBody (top 12), defScope (top 12), [], []⟩,
  ⟨("check_row", none), "check_row", "check_row", defArgs (top 13), defBody (top 13), defScope (top 13), [], []⟩,
  ⟨("spells", none), "spells", "spells", defArgs (top 15), defBody (top 15), defScope (top 15), [], []⟩,
  ⟨("shown", none), "shown", "shown", defArgs (top 16), defBody (top 16), defScope (top 16), [], []⟩,
  ⟨("paper", none), "paper", "paper", defArgs (top 17), defBody (top 17), defScope (top 17), [], []⟩,
  ⟨("find_spells", none), "find_spells", "find_spells", defArgs (top 18), defBody (top 18), defScope (top 18), [], []⟩,
  ⟨("_check_paper", none), "_check_paper", "_check_paper", defArgs (top 19), defBody (top 19), defScope (top 19), [], []⟩,
  ⟨("_has_within", none), "_has_within", "_has_within", defArgs (top 20), defBody (top 20), defScope (top 20), [], []⟩,
  ⟨("_cheapest_step", none), "_cheapest_step", "_cheapest_step", defArgs (top 21), defBody (top 21), defScope (top 21), [], []⟩,
  ⟨("_way_back", none), "_way_back", "_way_back", defArgs (top 22), defBody (top 22), defScope (top 22), [], []⟩,
  ⟨("best", none), "best", "best", defArgs (top 24), defBody (top 24), defScope (top 24), [], []⟩,
  ⟨("find_best", none), "find_best", "find_best", defArgs (top 25), defBody (top 25), defScope (top 25), [], []⟩,
  ⟨("_farthest", none), "_farthest", "_farthest", defArgs (top 26), defBody (top 26), defScope (top 26), [], []⟩,
  ⟨("told", none), "told", "told", defArgs (top 29), defBody (top 29), defScope (top 29), [], []⟩,
  ⟨("_by_hand", none), "_by_hand", "_by_hand", defArgs (top 31), defBody (top 31), defScope (top 31), [], []⟩,
  ⟨("_by_unseen", none), "_by_unseen", "_by_unseen", defArgs (top 32), defBody (top 32), defScope (top 32), [], []⟩,
  ⟨("_by_first", none), "_by_first", "_by_first", defArgs (top 33), defBody (top 33), defScope (top 33), [], []⟩,
  ⟨("_by_line", none), "_by_line", "_by_line", defArgs (top 34), defBody (top 34), defScope (top 34), [], []⟩,
  ⟨("check_rule", none), "check_rule", "check_rule", defArgs (top 36), defBody (top 36), defScope (top 36), [], []⟩,
  ⟨("lacking", none), "lacking", "lacking", defArgs (top 37), defBody (top 37), defScope (top 37), [], []⟩,
  ⟨("find_lacks", none), "find_lacks", "find_lacks", defArgs (top 38), defBody (top 38), defScope (top 38), [], []⟩,
  ⟨("stretches", none), "stretches", "stretches", defArgs (top 40), defBody (top 40), defScope (top 40), [], []⟩,
  ⟨("lacking_in", none), "lacking_in", "lacking_in", defArgs (top 41), defBody (top 41), defScope (top 41), [], []⟩,
  ⟨("_begins", none), "_begins", "_begins", defArgs (top 42), defBody (top 42), defScope (top 42), [], []⟩,
  ⟨("worst", none), "worst", "worst", defArgs (top 46), defBody (top 46), defScope (top 46), [], []⟩,
  ⟨("_check_size", none), "_check_size", "_check_size", defArgs (top 47), defBody (top 47), defScope (top 47), [], []⟩,
  ⟨("_are_too_many", none), "_are_too_many", "_are_too_many", defArgs (top 48), defBody (top 48), defScope (top 48), [], []⟩,
  ⟨("_all_rows", none), "_all_rows", "_all_rows", defArgs (top 49), defBody (top 49), defScope (top 49), [], []⟩,
  ⟨("_more_lacks", none), "_more_lacks", "_more_lacks", defArgs (top 50), defBody (top 50), defScope (top 50), [], []⟩,
  ⟨("_law_begun", none), "_law_begun", "_law_begun", defArgs (top 52), defBody (top 52), defScope (top 52), [], []⟩,
  ⟨("_law_take", none), "_law_take", "_law_take", defArgs (top 53), defBody (top 53), defScope (top 53), [], []⟩,
  ⟨("_law_row", none), "_law_row", "_law_row", defArgs (top 54), defBody (top 54), defScope (top 54), [], []⟩,
  ⟨("_law_told", none), "_law_told", "_law_told", defArgs (top 55), defBody (top 55), defScope (top 55), [], []⟩,
  ⟨("_law_kept", none), "_law_kept", "_law_kept", defArgs (top 56), defBody (top 56), defScope (top 56), [], []⟩,
  ⟨("_law_spoil", none), "_law_spoil", "_law_spoil", defArgs (top 57), defBody (top 57), defScope (top 57), [], []⟩,
  ⟨("law", none), "law", "law", defArgs (top 58), defBody (top 58), defScope (top 58), [], []⟩,
  ⟨("Dial", some "__init__"), "__init__", "Dial.__init__", defArgs (inClass (top 28) 0), defBody (inClass (top 28) 0), defScope (inClass (top 28) 0), [], []⟩,
  ⟨("Dial", some "ask"), "ask", "Dial.ask", defArgs (inClass (top 28) 1), defBody (inClass (top 28) 1), defScope (inClass (top 28) 1), [], []⟩,
  ⟨("Dial", some "pages"), "pages", "Dial.pages", defArgs (inClass (top 28) 2), defBody (inClass (top 28) 2), defScope (inClass (top 28) 2), [], []⟩,
  ⟨("Dial", some "looked"), "looked", "Dial.looked", defArgs (inClass (top 28) 3), defBody (inClass (top 28) 3), defScope (inClass (top 28) 3), [], []⟩,
  ⟨("Dial", some "points"), "points", "Dial.points", defArgs (inClass (top 28) 4), defBody (inClass (top 28) 4), defScope (inClass (top 28) 4), [], []⟩,
  ⟨("Dial", some "lacked"), "lacked", "Dial.lacked", defArgs (inClass (top 28) 5), defBody (inClass (top 28) 5), defScope (inClass (top 28) 5), [], []⟩,
  ⟨("Dial", some "_pass_marked"), "_pass_marked", "Dial._pass_marked", defArgs (inClass (top 28) 6), defBody (inClass (top 28) 6), defScope (inClass (top 28) 6), [], []⟩,
  ⟨("Dial", some "_exchange"), "_exchange", "Dial._exchange", defArgs (inClass (top 28) 7), defBody (inClass (top 28) 7), defScope (inClass (top 28) 7), [], []⟩,
  ⟨("Dial", some "_go_on"), "_go_on", "Dial._go_on", defArgs (inClass (top 28) 8), defBody (inClass (top 28) 8), defScope (inClass (top 28) 8), [], []⟩]
def fa : List He.Fa := [
  .glo "check_rooms", .glo "is_page", .glo "check_page", .glo "check_row", .glo "spells", .glo "shown", .glo "paper", .glo "find_spells", .glo "_check_paper", .glo "_has_within", .glo "_cheapest_step", .glo "_way_back", .glo "best", .glo "find_best", .glo "_farthest", .glo "told", .glo "_by_hand", .glo "_by_unseen", .glo "_by_first", .glo "_by_line", .glo "check_rule", .glo "lacking", .glo "find_lacks", .glo "stretches", .glo "lacking_in", .glo "_begins", .glo "worst", .glo "_check_size", .glo "_are_too_many", .glo "_all_rows", .glo "_more_lacks", .glo "_law_begun", .glo "_law_take", .glo "_law_row", .glo "_law_told", .glo "_law_kept", .glo "_law_spoil", .glo "law", .cls "Dial", .glo "Dial", .noat "Dial" "_hand", .noat "Dial" "_held", .noat "Dial" "_lacks", .noat "Dial" "_marks", .meth "Dial" "__init__", .meth "Dial" "ask", .meth "Dial" "pages", .meth "Dial" "looked", .meth "Dial" "points", .meth "Dial" "lacked", .meth "Dial" "_pass_marked", .meth "Dial" "_exchange", .meth "Dial" "_go_on", .mkr "Dial", .int "MOST_ROOMS" 8, .int "PAGES" 12, .int "MOST_ASKS" 100, .int "MOST_ROWS" 5000, .int "LONGEST" 5000, .free "any", .free "dict", .free "enumerate", .free "int", .free "isinstance", .free "len", .free "list", .free "max", .free "min", .free "range", .free "reversed", .free "tuple", .free "zip", .glo "RULES"]
def tb_RULES : List (Str × He.Dv) := [("hand", .glo "_by_hand"), ("unseen", .glo "_by_unseen"), ("first", .glo "_by_first")]
def xt (K : PySem.W.Frag) : Bool := true && He.valsB K (He.ga K "RULES") tb_RULES
theorem mkProg {K : PySem.W.Frag} {h : Heap} {mg : Str → Option Value} (X : K.In h) (G : h.Ns mainGlobals mg) (c : He.SaysD fa fn K) (cx : xt K = true) : Nonempty (Prog K mg) := by
  have x_RULES : He.valsB K (He.ga K "RULES") tb_RULES = true := (He.ba cx).2
  obtain ⟨_, F0⟩ := c.def_ 0 rfl
  obtain ⟨_, F1⟩ := c.def_ 1 rfl
  obtain ⟨_, F2⟩ := c.def_ 2 rfl
  obtain ⟨_, F3⟩ := c.def_ 3 rfl
  obtain ⟨_, F4⟩ := c.def_ 4 rfl
  obtain ⟨_, F5⟩ := c.def_ 5 rfl
  obtain ⟨_, F6⟩ := c.def_ 6 rfl
  obtain ⟨_, F7⟩ := c.def_ 7 rfl
  obtain ⟨_, F8⟩ := c.def_ 8 rfl
  obtain ⟨_, F9⟩ := c.def_ 9 rfl
  obtain ⟨_, F10⟩ := c.def_ 10 rfl
  obtain ⟨_, F11⟩ := c.def_ 11 rfl
  obtain ⟨_, F12⟩ := c.def_ 12 rfl
  obtain ⟨_, F13⟩ := c.def_ 13 rfl
  obtain ⟨_, F14⟩ := c.def_ 14 rfl
  obtain ⟨_, F15⟩ := c.def_ 15 rfl
  obtain ⟨_, F16⟩ := c.def_ 16 rfl
  obtain ⟨_, F17⟩ := c.def_ 17 rfl
  obtain ⟨_, F18⟩ := c.def_ 18 rfl
  obtain ⟨_, F19⟩ := c.def_ 19 rfl
  obtain ⟨_, F20⟩ := c.def_ 20 rfl
  obtain ⟨_, F21⟩ := c.def_ 21 rfl
  obtain ⟨_, F22⟩ := c.def_ 22 rfl
  obtain ⟨_, F23⟩ := c.def_ 23 rfl
  obtain ⟨_, F24⟩ := c.def_ 24 rfl
  obtain ⟨_, F25⟩ := c.def_ 25 rfl
  obtain ⟨_, F26⟩ := c.def_ 26 rfl
  obtain ⟨_, F27⟩ := c.def_ 27 rfl
  obtain ⟨_, F28⟩ := c.def_ 28 rfl
  obtain ⟨_, F29⟩ := c.def_ 29 rfl
  obtain ⟨_, F30⟩ := c.def_ 30 rfl
  obtain ⟨_, F31⟩ := c.def_ 31 rfl
  obtain ⟨_, F32⟩ := c.def_ 32 rfl
  obtain ⟨_, F33⟩ := c.def_ 33 rfl
  obtain ⟨_, F34⟩ := c.def_ 34 rfl
  obtain ⟨_, F35⟩ := c.def_ 35 rfl
  obtain ⟨_, F36⟩ := c.def_ 36 rfl
  obtain ⟨_, F38⟩ := c.def_ 38 rfl
  obtain ⟨_, F39⟩ := c.def_ 39 rfl
  obtain ⟨_, F40⟩ := c.def_ 40 rfl
  obtain ⟨_, F41⟩ := c.def_ 41 rfl
  obtain ⟨_, F42⟩ := c.def_ 42 rfl
  obtain ⟨_, F43⟩ := c.def_ 43 rfl
  obtain ⟨_, F44⟩ := c.def_ 44 rfl
  obtain ⟨_, F45⟩ := c.def_ 45 rfl
  obtain ⟨_, F46⟩ := c.def_ 46 rfl
  obtain ⟨t_MOST_ROOMS, i_MOST_ROOMS⟩ := He.int_ok X G (c.fact 54 rfl)
  obtain ⟨t_PAGES, i_PAGES⟩ := He.int_ok X G (c.fact 55 rfl)
  obtain ⟨t_MOST_ASKS, i_MOST_ASKS⟩ := He.int_ok X G (c.fact 56 rfl)
  obtain ⟨t_MOST_ROWS, i_MOST_ROWS⟩ := He.int_ok X G (c.fact 57 rfl)
  obtain ⟨t_LONGEST, i_LONGEST⟩ := He.int_ok X G (c.fact 58 rfl)
  exact ⟨{
    check_rooms := ⟨_, _, F0, (FunD.bindsN F0 fun _ _ _ _ _ _ us hl => match us, hl with | [_], _ => rfl), He.glo_ok X G (c.fact 0 rfl)⟩,
    is_page := ⟨_, _, F1, (FunD.bindsN F1 fun _ _ _ _ _ _ us hl => match us, hl with | [_], _ => rfl), He.glo_ok X G (c.fact 1 rfl)⟩,
    check_page := ⟨_, _, F2, (FunD.bindsN F2 fun _ _ _ _ _ _ us hl => match us, hl with | [_], _ => rfl), He.glo_ok X G (c.fact 2 rfl)⟩,
    check_row := ⟨_, _, F3, (FunD.bindsN F3 fun _ _ _ _ _ _ us hl => match us, hl with | [_], _ => rfl), He.glo_ok X G (c.fact 3 rfl)⟩,
    spells := ⟨_, _, F4, (FunD.bindsN F4 fun _ _ _ _ _ _ us hl => match us, hl with | [_], _ => rfl), He.glo_ok X G (c.fact 4 rfl)⟩,
    shown := ⟨_, _, F5, (FunD.bindsN F5 fun _ _ _ _ _ _ us hl => match us, hl with | [_, _, _], _ => rfl), He.glo_ok X G (c.fact 5 rfl)⟩,
    paper := ⟨_, _, F6, (FunD.bindsN F6 fun _ _ _ _ _ _ us hl => match us, hl with | [_, _], _ => rfl), He.glo_ok X G (c.fact 6 rfl)⟩,
    find_spells := ⟨_, _, F7, (FunD.bindsN F7 fun _ _ _ _ _ _ us hl => match us, hl with | [_], _ => rfl), He.glo_ok X G (c.fact 7 rfl)⟩,
    check_paper := ⟨_, _, F8, (FunD.bindsN F8 fun _ _ _ _ _ _ us hl => match us, hl with | [_, _], _ => rfl), He.glo_ok X G (c.fact 8 rfl)⟩,
    has_within := ⟨_, _, F9, (FunD.bindsN F9 fun _ _ _ _ _ _ us hl => match us, hl with | [_, _], _ => rfl), He.glo_ok X G (c.fact 9 rfl)⟩,
    cheapest_step := ⟨_, _, F10, (FunD.bindsN F10 fun _ _ _ _ _ _ us hl => match us, hl with | [_, _, _], _ => rfl), He.glo_ok X G (c.fact 10 rfl)⟩,
    way_back := ⟨_, _, F11, (FunD.bindsN F11 fun _ _ _ _ _ _ us hl => match us, hl with | [_], _ => rfl), He.glo_ok X G (c.fact 11 rfl)⟩,
    best := ⟨_, _, F12, (FunD.bindsN F12 fun _ _ _ _ _ _ us hl => match us, hl with | [_, _], _ => rfl), He.glo_ok X G (c.fact 12 rfl)⟩,
    find_best := ⟨_, _, F13, (FunD.bindsN F13 fun _ _ _ _ _ _ us hl => match us, hl with | [_, _], _ => rfl), He.glo_ok X G (c.fact 13 rfl)⟩,
    farthest := ⟨_, _, F14, (FunD.bindsN F14 fun _ _ _ _ _ _ us hl => match us, hl with | [_], _ => rfl), He.glo_ok X G (c.fact 14 rfl)⟩,
    told := ⟨_, _, F15, (FunD.bindsN F15 fun _ _ _ _ _ _ us hl => match us, hl with | [_, _], _ => rfl), He.glo_ok X G (c.fact 15 rfl)⟩,
    by_hand := ⟨_, _, F16, (FunD.bindsN F16 fun _ _ _ _ _ _ us hl => match us, hl with | [_, _], _ => rfl), He.glo_ok X G (c.fact 16 rfl)⟩,
    by_unseen := ⟨_, _, F17, (FunD.bindsN F17 fun _ _ _ _ _ _ us hl => match us, hl with | [_, _], _ => rfl), He.glo_ok X G (c.fact 17 rfl)⟩,
    by_first := ⟨_, _, F18, (FunD.bindsN F18 fun _ _ _ _ _ _ us hl => match us, hl with | [_, _], _ => rfl), He.glo_ok X G (c.fact 18 rfl)⟩,
    by_line := ⟨_, _, F19, (FunD.bindsN F19 fun _ _ _ _ _ _ us hl => match us, hl with | [_, _, _], _ => rfl), He.glo_ok X G (c.fact 19 rfl)⟩,
    check_rule := ⟨_, _, F20, (FunD.bindsN F20 fun _ _ _ _ _ _ us hl => match us, hl with | [_], _ => rfl), He.glo_ok X G (c.fact 20 rfl)⟩,
    lacking := ⟨_, _, F21, (FunD.bindsN F21 fun _ _ _ _ _ _ us hl => match us, hl with | [_, _, _], _ => rfl), He.glo_ok X G (c.fact 21 rfl)⟩,
    find_lacks := ⟨_, _, F22, (FunD.bindsN F22 fun _ _ _ _ _ _ us hl => match us, hl with | [_, _, _], _ => rfl), He.glo_ok X G (c.fact 22 rfl)⟩,
    stretches := ⟨_, _, F23, (FunD.bindsN F23 fun _ _ _ _ _ _ us hl => match us, hl with | [_, _], _ => rfl), He.glo_ok X G (c.fact 23 rfl)⟩,
    lacking_in := ⟨_, _, F24, (FunD.bindsN F24 fun _ _ _ _ _ _ us hl => match us, hl with | [_, _, _], _ => rfl), He.glo_ok X G (c.fact 24 rfl)⟩,
    begins := ⟨_, _, F25, (FunD.bindsN F25 fun _ _ _ _ _ _ us hl => match us, hl with | [_, _], _ => rfl), He.glo_ok X G (c.fact 25 rfl)⟩,
    worst := ⟨_, _, F26, (FunD.bindsN F26 fun _ _ _ _ _ _ us hl => match us, hl with | [_, _, _, _], _ => rfl), He.glo_ok X G (c.fact 26 rfl)⟩,
    check_size := ⟨_, _, F27, (FunD.bindsN F27 fun _ _ _ _ _ _ us hl => match us, hl with | [_, _], _ => rfl), He.glo_ok X G (c.fact 27 rfl)⟩,
    are_too_many := ⟨_, _, F28, (FunD.bindsN F28 fun _ _ _ _ _ _ us hl => match us, hl with | [_, _], _ => rfl), He.glo_ok X G (c.fact 28 rfl)⟩,
    all_rows := ⟨_, _, F29, (FunD.bindsN F29 fun _ _ _ _ _ _ us hl => match us, hl with | [_, _], _ => rfl), He.glo_ok X G (c.fact 29 rfl)⟩,
    more_lacks := ⟨_, _, F30, (FunD.bindsN F30 fun _ _ _ _ _ _ us hl => match us, hl with | [_, _, _], _ => rfl), He.glo_ok X G (c.fact 30 rfl)⟩,
    law_begun := ⟨_, _, F31, (FunD.bindsN F31 fun _ _ _ _ _ _ us hl => match us, hl with | [_], _ => rfl), He.glo_ok X G (c.fact 31 rfl)⟩,
    law_take := ⟨_, _, F32, (FunD.bindsN F32 fun _ _ _ _ _ _ us hl => match us, hl with | [_, _], _ => rfl), He.glo_ok X G (c.fact 32 rfl)⟩,
    law_row := ⟨_, _, F33, (FunD.bindsN F33 fun _ _ _ _ _ _ us hl => match us, hl with | [_, _], _ => rfl), He.glo_ok X G (c.fact 33 rfl)⟩,
    law_told := ⟨_, _, F34, (FunD.bindsN F34 fun _ _ _ _ _ _ us hl => match us, hl with | [_], _ => rfl), He.glo_ok X G (c.fact 34 rfl)⟩,
    law_kept := ⟨_, _, F35, (FunD.bindsN F35 fun _ _ _ _ _ _ us hl => match us, hl with | [_], _ => rfl), He.glo_ok X G (c.fact 35 rfl)⟩,
    law_spoil := ⟨_, _, F36, (FunD.bindsN F36 fun _ _ _ _ _ _ us hl => match us, hl with | [_], _ => rfl), He.glo_ok X G (c.fact 36 rfl)⟩,
    Dial := { C := _, cl := He.cls_ok (c.fact 38 rfl), g := He.glo_ok X G (c.fact 39 rfl), n_hand := He.noat_ok (c.fact 40 rfl), n_held := He.noat_ok (c.fact 41 rfl), n_lacks := He.noat_ok (c.fact 42 rfl), n_marks := He.noat_ok (c.fact 43 rfl), init := ⟨_, _, F38, (FunD.bindsN F38 fun _ _ _ _ _ _ us hl => match us, hl with | [_, _], _ => rfl), He.meth_ok (c.fact 44 rfl)⟩, ask := ⟨_, _, F39, (FunD.bindsN F39 fun _ _ _ _ _ _ us hl => match us, hl with | [_, _], _ => rfl), He.meth_ok (c.fact 45 rfl)⟩, pages := ⟨_, _, F40, (FunD.bindsN F40 fun _ _ _ _ _ _ us hl => match us, hl with | [_], _ => rfl), He.meth_ok (c.fact 46 rfl)⟩, looked := ⟨_, _, F41, (FunD.bindsN F41 fun _ _ _ _ _ _ us hl => match us, hl with | [_], _ => rfl), He.meth_ok (c.fact 47 rfl)⟩, points := ⟨_, _, F42, (FunD.bindsN F42 fun _ _ _ _ _ _ us hl => match us, hl with | [_], _ => rfl), He.meth_ok (c.fact 48 rfl)⟩, lacked := ⟨_, _, F43, (FunD.bindsN F43 fun _ _ _ _ _ _ us hl => match us, hl with | [_], _ => rfl), He.meth_ok (c.fact 49 rfl)⟩, pass_marked := ⟨_, _, F44, (FunD.bindsN F44 fun _ _ _ _ _ _ us hl => match us, hl with | [_], _ => rfl), He.meth_ok (c.fact 50 rfl)⟩, exchange := ⟨_, _, F45, (FunD.bindsN F45 fun _ _ _ _ _ _ us hl => match us, hl with | [_, _], _ => rfl), He.meth_ok (c.fact 51 rfl)⟩, go_on := ⟨_, _, F46, (FunD.bindsN F46 fun _ _ _ _ _ _ us hl => match us, hl with | [_], _ => rfl), He.meth_ok (c.fact 52 rfl)⟩, mkr := He.mkr_ok (c.fact 53 rfl), bI := (FunD.bindsN F38 fun _ _ _ _ _ _ us hl => match us, hl with | [_, _], _ => rfl) },
    t_MOST_ROOMS := t_MOST_ROOMS, g_MOST_ROOMS := i_MOST_ROOMS,
    t_PAGES := t_PAGES, g_PAGES := i_PAGES,
    t_MOST_ASKS := t_MOST_ASKS, g_MOST_ASKS := i_MOST_ASKS,
    t_MOST_ROWS := t_MOST_ROWS, g_MOST_ROWS := i_MOST_ROWS,
    t_LONGEST := t_LONGEST, g_LONGEST := i_LONGEST,
    any := He.free_ok X G (c.fact 59 rfl),
    dict_ := He.free_ok X G (c.fact 60 rfl),
    enumerate := He.free_ok X G (c.fact 61 rfl),
    int_ := He.free_ok X G (c.fact 62 rfl),
    isinstance := He.free_ok X G (c.fact 63 rfl),
    len := He.free_ok X G (c.fact 64 rfl),
    list_ := He.free_ok X G (c.fact 65 rfl),
    max := He.free_ok X G (c.fact 66 rfl),
    min := He.free_ok X G (c.fact 67 rfl),
    range := He.free_ok X G (c.fact 68 rfl),
    reversed := He.free_ok X G (c.fact 69 rfl),
    tuple_ := He.free_ok X G (c.fact 70 rfl),
    zip := He.free_ok X G (c.fact 71 rfl),
    a_RULES := _, g_RULES := He.glo_ok X G (c.fact 72 rfl),
    r_RULES_hand := He.valsB_ok (q := ("hand", .glo "_by_hand")) x_RULES (by simp [tb_RULES]),
    r_RULES_unseen := He.valsB_ok (q := ("unseen", .glo "_by_unseen")) x_RULES (by simp [tb_RULES]),
    r_RULES_first := He.valsB_ok (q := ("first", .glo "_by_first")) x_RULES (by simp [tb_RULES]) }⟩

def ts : List He.Tab := [(fun K => He.ga K "RULES", ["hand", "unseen", "first"])]
abbrev R : PySem.W.OpenRow := PySem.W.OpenLaw.row PySem.Challenge.rw_clockhand_k12_asked_again
abbrev hk : PySem.W.Hook := hookX 5 fa fn ts xt
def ob (s : PySem.W.SharedT) : He.AlT × Bool := obsX 5 fa fn ts xt (HandSHeadRun.getT s)
theorem ob_eq (s : PySem.W.SharedT) : ob s = hk.obs s.abs := obsX_eq (HandSHeadRun.getT_eq s)
theorem run (w : World) : HandSHeadRun.RunEq R (PySem.W.view R.prog [58]) hk ob 4000 ((["__name__", "PageError", "BadRooms", "BadRow", "BadRule", "TooMany", "MOST_ROOMS", "PAGES", "MOST_ASKS", "check_rooms", "is_page", "check_page", "check_row", "spells", "shown", "paper", "find_spells", "_check_paper", "_has_within", "_cheapest_step", "_way_back", "best", "find_best", "_farthest", "Dial"] : List PySem.Str) ++ (["told", "_by_hand", "_by_unseen", "_by_first", "_by_line", "RULES", "check_rule", "lacking", "find_lacks", "stretches", "lacking_in", "_begins", "MOST_ROWS", "LONGEST", "worst", "_check_size", "_are_too_many", "_all_rows", "_more_lacks", "_law_begun", "_law_take", "_law_row", "_law_told", "_law_kept", "_law_spoil"] : List PySem.Str)) w := by
  refine PySem.W.byRow2 "special-get-raises" (P := fun w => HandSHeadRun.RunEq R (PySem.W.view R.prog [58]) hk ob 4000 ((["__name__", "PageError", "BadRooms", "BadRow", "BadRule", "TooMany", "MOST_ROOMS", "PAGES", "MOST_ASKS", "check_rooms", "is_page", "check_page", "check_row", "spells", "shown", "paper", "find_spells", "_check_paper", "_has_within", "_cheapest_step", "_way_back", "best", "find_best", "_farthest", "Dial"] : List PySem.Str) ++ (["told", "_by_hand", "_by_unseen", "_by_first", "_by_line", "RULES", "check_rule", "lacking", "find_lacks", "stretches", "lacking_in", "_begins", "MOST_ROWS", "LONGEST", "worst", "_check_size", "_are_too_many", "_all_rows", "_more_lacks", "_law_begun", "_law_take", "_law_row", "_law_told", "_law_kept", "_law_spoil"] : List PySem.Str)) w) (fun w => ?_) (fun w => ?_) w
  all_goals
    intro os
    kernel_rfl
end CK

namespace CK
open PySem PySem.Spec PyProof.Rows L2
theorem facts {P : Program} {w : World} {K : PySem.W.Frag} {h : Heap} {mg : Str → Option Value} {f : Addr} (X : K.In h) (G : h.Ns mainGlobals mg) (hfa : mg ("law" : Str) = some (.ref f)) (c : He.SaysT fa fn ts w K) (cx : xt K = true) :
    ∃ fd : FuncData, (∀ (s : Shared) (v : Value), BindsTo s fd ⟨[v], []⟩ [("_law_script", v)]) ∧ ∀ base : Heap, K.In base → base.Ns mainGlobals mg → FnOk P w K mg base CX0 9 f fd ["_law_script"] (spLaw K) := by
  obtain ⟨T⟩ := mkProg X G c.d cx
  obtain ⟨es0, nd0, TB0⟩ := c.tab 0 rfl
  have ea0 : T.a_RULES = He.ga K "RULES" := by
    have q := T.g_RULES.symm.trans (He.glo_ok (x := "RULES") X G (c.d.fact 72 rfl))
    injection q with q
    injection q
  have TB0 : KDict K w T.a_RULES es0 nd0 := by rw [ea0]; exact TB0
  obtain ⟨fd, F⟩ := c.d.def_ 37 rfl
  have e := hfa.symm.trans (He.glo_ok X G (c.d.fact 37 rfl))
  cases e
  have b := FunD.bindsA (ps := ["_law_script"]) F fun _ _ _ _ _ _ us hl => match us, hl with | [_], _ => rfl
  exact ⟨fd, fun s v => b s [v] rfl, fun base _ _ => ok_law T TB0 F⟩
end CK
open PySem PySem.W PySem.Calls PyProof.Rows
set_option maxRecDepth 100000 in
set_option maxHeartbeats 0 in
theorem PySem.Challenge.cw_clockhand_k12_asked_again_holds : PySem.Challenge.rw_clockhand_k12_asked_again.Holds := by
  w_on; o_law
  refine HandSHeadRun.head_any (r := OpenLaw.row PySem.Challenge.rw_clockhand_k12_asked_again) (q := view (OpenLaw.row PySem.Challenge.rw_clockhand_k12_asked_again).prog [58]) (H := CK.hk) (ob := CK.ob) (M := 4000) (loose := ((["__name__", "PageError", "BadRooms", "BadRow", "BadRule", "TooMany", "MOST_ROOMS", "PAGES", "MOST_ASKS", "check_rooms", "is_page", "check_page", "check_row", "spells", "shown", "paper", "find_spells", "_check_paper", "_has_within", "_cheapest_step", "_way_back", "best", "find_best", "_farthest", "Dial"] : List PySem.Str) ++ (["told", "_by_hand", "_by_unseen", "_by_first", "_by_line", "RULES", "check_rule", "lacking", "find_lacks", "stretches", "lacking_in", "_begins", "MOST_ROWS", "LONGEST", "worst", "_check_size", "_are_too_many", "_all_rows", "_more_lacks", "_law_begun", "_law_take", "_law_row", "_law_told", "_law_kept", "_law_spoil"] : List PySem.Str))) (d := HandSHeadRun.topDef (OpenLaw.row PySem.Challenge.rw_clockhand_k12_asked_again).prog 58) (kwd := []) CK.ob_eq
    (by kernel_rfl) (fun s => by kernel_rfl) CK.run (by kernel_rfl) (by kernel_rfl) (by kernel_rfl) (by rfl) (by first | assumption | decide +kernel) (by decide +kernel) ⟨rfl, rfl, rfl, rfl, rfl, by decide +kernel⟩ ?hw ?hc
  case hw => w_witness2
  case hc =>
    refine L2.walk_ofE (l := PySem.Challenge.rw_clockhand_k12_asked_again) (n := 63) (k := 9) (x := "_law_script") (CX := L2.CX0) rfl (by decide) (by kernel_rfl) ⟨rfl, by decide, by decide⟩ ?F (fun _ _ _ _ z => z)
    intro w mg fa h Y G hmg0
    obtain ⟨K, KX, c, cx⟩ := Y
    have hmg : mg ("law" : PySem.Str) = some (.ref fa) := by
      have e : (HandSHeadRun.topDef (OpenLaw.row PySem.Challenge.rw_clockhand_k12_asked_again).prog 58).name = ("law" : PySem.Str) := by kernel_rfl
      rw [← e]
      exact hmg0
    obtain ⟨fd, hb, hF⟩ := CK.facts (P := (PySem.Challenge.rw_clockhand_k12_asked_again).prog) (w := w) KX G hmg c cx
    exact ⟨K, fd, CK.spLaw K, KX, hb, fun H a ns hl _ hS => ⟨a, ns, rfl, hS, hl, fun _ => rfl⟩, hF⟩
